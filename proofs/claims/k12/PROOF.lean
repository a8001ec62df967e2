import PyProof.Rows.All
import Wide.All
import OpenK.AllK
import Wide.FinOn
import PyProof.EqAt
import PyProof.EqKinds
import PyProof.TupleCall
import PyProof.DictTable
import HandS.Base
import HandS.Call
import HandS.List
import HandS.Ends
import HandS.Dict
import HandS.More
import HandS.Exc
import HandS.ExcOwn
import HandS.ExcValue
import HandS.ExcIs
import HandS.ExcField
import HandS.ExcInit
import HandS.IsInst
import HandS.ForMost
import HandS.ForExc
import HandS.Style
import HandS.Flow
import HandS.Evl
import HandS.RaiseMore
import HandS.StrMore
import HandS.Replace
import HandS.WideBits
import HandS.TupAny
import PyProof.ListStr
import PyProof.StrBlock2
import KE.GoesZip
import KE.GoesMore
import HandS.Zip
import PyProof.ReprRoads
import HandS.EndBits
import HandS.WordsExc
import HandS.TryOnly
import PyProof.NeKinds
import HandS.OwnEq
import HandS.TryMany
import HandS.Defaults
import PyProof.Rows.SortShellAny
import HandS.Walk
import HandS.Conv
import KE.GoesEnum
import HandS.ListItems
import HandS.MakeKwOnly
import HandS.DictComp
import KE.KExcInit
import HandS.SetBool
import HandS.Deep
import HandS.TupMul
import PyProof.ReprLen
import PyProof.InstNe
import KE.KLam
import KE.KNestM
import HandS.Lambda
import HandS.EndTab
import HandS.ClsMeth
import HandS.Text
import PyProof.Rows.Range3
import PyProof.SliceStr2
import PyProof.SliceStr
import HandS.SortInts
import PySem.Challenge.RW_undername_k12_sets_of_names_built
set_option Elab.async false
set_option linter.all false
set_option maxRecDepth 100000
set_option maxHeartbeats 4000000
/-! UnX: own exceptions as values (over any base), made with and without an own __init__, their fields read, isinstance of them. -/
namespace PySem
namespace OXX
open PySem.W PySem.Calls PyProof.Rows PySem.HandSPX
open Builtin Builtin.ObjectAttr
section
variable {M : Model} {A : Around} {E : Value → Shared → Prop} {h : Heap} {g : Array GenState} {d : Drawn} {t : Nat} {os : OsState}
variable {nm q : Str} {C N : Addr} {bs bm bmB : List Value} {hdct : Bool} {sn : List Str} {sub : List Value} {ab : Bool} {col : Option Bool} {dd : Option Addr} {k0 k1 k2 k3 k5 : Option Value} {B newId initId : String}
/-- what the classes behind an own class must hold -/
structure Beh (B : String) (bm : List Value) : Prop where
  b : bm.contains (.type B) = true
  na : bm.contains (.type "AttributeError") = false
  nn : bm.contains (.type "NameError") = false
  ob : bm.contains (.type "object") = true
theorem check_new_x (F : ExcBaseFacts B newId initId bmB) (hT : Beh B bm) {rest : List Value} {Q : Unit → Shared → Prop}
    (hC : h.get? C = some (excClassObj nm q C N bs bm hdct sn sub ab col dd k0 k1 k2 k3 k5 newId)) (hq : Q () ⟨h, g, d, t, os⟩) : wpAny M A (checkBuiltinCall newId ⟨.ref C :: rest, []⟩) Q E ⟨h, g, d, t, os⟩ := by
  have hcont : (Value.ref C :: bm).contains (.type B) = true := by rw [List.contains_cons, hT.b, Bool.or_true]
  have hstar := F.noStar
  simp only [checkBuiltinCall, F.newKind, F.newSplit, F.newRow]
  repeat (first | refine wpAny_loadPart_at hC ?_ | (refine wpAny_isSubtype_exc hC ?_; rw [hcont]) | refine wpAny_staticBase_exc hC ?_ | refine wpAny_madeBy_exc hC ?_ | simp only [bne_self_eq_false, Bool.false_eq_true, if_false] | wp_step)
  exact hq
end
section
variable {prog : Program} {w : World} {A : Around} {E : Value → Shared → Prop} {R : Result → Shared → Prop} {h : Heap} {g : Array GenState} {d : Drawn} {t : Nat} {os : OsState}
variable {nm q : Str} {C N : Addr} {bs bm bmB : List Value} {hdct : Bool} {sn : List Str} {sub : List Value} {ab : Bool} {col : Option Bool} {dd : Option Addr} {k0 k1 k2 k3 k5 : Option Value} {B newId initId : String}
theorem new_x (F : ExcBaseFacts B newId initId bmB) (hT : Beh B bm) {rest : List Value}
    (hC : h.get? C = some (excClassObj nm q C N bs bm hdct sn sub ab col dd k0 k1 k2 k3 k5 newId))
    (hq : R (.ok (.ret (.ref (h.objs.size + 1)))) ⟨(h.push { cls := .type "tuple", data := .seq rest.toArray }).push
      { cls := .ref C, data := .fields #[.ref h.objs.size, .none, .none, .none, .bool false, .none] }, g, d, t, os⟩) (hrest : rest.length ≤ sizeLine) :
    codeAny (model prog w) A (.builtin newId ⟨.ref C :: rest, []⟩) R ⟨h, g, d, t, os⟩ := by
  have hends := F.ends
  have hcB : (Value.ref C :: bm).contains (.type B) = true := by rw [List.contains_cons, hT.b, Bool.or_true]
  have hcA : (Value.ref C :: bm).contains (.type "AttributeError") = false := by rw [List.contains_cons, hT.na]; rfl
  have hcN : (Value.ref C :: bm).contains (.type "NameError") = false := by rw [List.contains_cons, hT.nn]; rfl
  refine codeAny_builtinAt F.entry ?_
  unfold Builtin.«BaseException.__new__»
  refine wpAt_bind ?_
  show wpAt _ _ _ (stack >>= _) _ _ _
  refine wpAt_bind (wpAt_stack fun p below => wpAt_of_wpAny ?_)
  wp_walk
  refine wpAt_of_wpAny ?_
  rw [F.owner]
  repeat (first | with_reducible refine wpAny_madeHere_exc F.canon hC ?_ | with_reducible refine wpAny_loadPart_at hC ?_ | (with_reducible refine wpAny_isSubtype_exc hC ?_; first | rw [hcB] | rw [hcA] | rw [hcN]) | wp_step)
  show R _ _
  rw [Heap.size_push]
  exact hq
theorem type_call_x (F : ExcBaseFacts B newId initId bmB) (hT : Beh B bm) {rest : List Value} {fI : Addr} {Q : Fin → Shared → Prop}
    (hC : h.get? C = some (excClassObj nm q C N bs bm hdct sn sub ab col dd k0 k1 k2 k3 k5 newId))
    (hi : W.Looks (model prog w) h (typeLookup (.ref C) "__init__") (some (.ref fI))) (hb : ∀ self, W.Looks (model prog w) h (bindSpecial (.ref fI) self) (.ref fI, [self])) (hrest : rest.length ≤ sizeLine)
    (hq : codeAny (model prog w) A (.call (.ref fI) ⟨.ref (h.objs.size + 1) :: rest, []⟩)
      (fun r s' => match r with | .ok (.ret v) => v = .none ∧ Q (.done (.ret (.ref (h.objs.size + 1)))) s' | .ok _ => False | .error e => E e s')
      ⟨(h.push (W.kdv_tup rest)).push (excO C h.objs.size), g, d, t, os⟩) :
    wpAny (model prog w) A (Builtin.«type.__call__» ⟨.ref C :: rest, []⟩) Q E ⟨h, g, d, t, os⟩ := by
  repeat (first | with_reducible refine wpAny_loadPart_at hC ?_ | with_reducible refine wpAny_madeBy_exc hC ?_ | wp_step)
  refine codeAny_call_builtin_code (Code.quiet_builtin _ F.quiet) (check_new_x F hT hC ?_)
  refine new_x F hT hC ?_ hrest
  show wpAny _ _ _ _ _ _
  have k : ∀ b o, h.get? b = some o → ((h.push (W.kdv_tup rest)).push (excO C h.objs.size)).get? b = some o := fun b o e => Heap.get?_push_of_some _ (Heap.get?_push_of_some _ e)
  have hC₁ := k _ _ hC
  have hget : ((h.push (W.kdv_tup rest)).push (excO C h.objs.size)).get? (h.objs.size + 1) = some (excO C h.objs.size) := by heap_get
  have hcC : (Value.ref C :: bm).contains (.ref C) = true := by simp
  have i1 := hi.keeps k
  have b1 := (hb (.ref (h.objs.size + 1))).keeps k
  unfold isInstance
  repeat (first | with_reducible refine wpAny_loadPart_at hget ?_ | (with_reducible refine wpAny_isSubtype_exc hC₁ ?_; rw [hcC]) | wp_step)
  show wpAny _ _ (typeLookup (.ref C) _) _ _ _
  refine i1.at ?_
  refine wpAny_holding (wpAny_bind (b1.at ?_))
  refine wpAny_bind (wpAny_call (codeAny_mono hq fun r s' z => ?_))
  rcases r with e | (v | _ | _ | _) <;> first | exact z | exact z.elim | skip
  obtain ⟨rfl, z⟩ := z
  first
    | exact wpAny_pure (wpAny_pure z)
    | (wp_walk; exact z)
theorem call_x (F : ExcBaseFacts B newId initId bmB) (hT : Beh B bm) {rest : List Value} {fI : Addr}
    (hC : h.get? C = some (excClassObj nm q C N bs bm hdct sn sub ab col dd k0 k1 k2 k3 k5 newId))
    (hi : W.Looks (model prog w) h (typeLookup (.ref C) "__init__") (some (.ref fI))) (hb : ∀ self, W.Looks (model prog w) h (bindSpecial (.ref fI) self) (.ref fI, [self])) (hrest : rest.length ≤ sizeLine)
    (hq : codeAny (model prog w) (A.under (.builtin "type.__call__" ⟨.ref C :: rest, []⟩)) (.call (.ref fI) ⟨.ref (h.objs.size + 1) :: rest, []⟩) (W.InitBack (h.objs.size + 1) R)
      ⟨(h.push (W.kdv_tup rest)).push (excO C h.objs.size), g, d, t, os⟩) :
    codeAny (model prog w) A (.call (.ref C) ⟨rest, []⟩) R ⟨h, g, d, t, os⟩ := by
  have f1 := tc_lookup
  have f2 := tc_bind (.ref C)
  have hTy : (⟨h, g, d, t, os⟩ : Shared).TypeIs (.ref C) "type" := ⟨_, hC, rfl⟩
  refine codeAny_of_tree ?_
  show wpAny _ _ (callAny (.ref C) _) _ _ _
  repeat (any_goals (first | assumption | with_reducible refine wpAny_loadPart_at hC ?_ | wp_step))
  refine ⟨rfl, ?_⟩
  refine codeAny_call_builtin_at (Code.quiet_builtin _ (by decide +kernel)) entry_typeCall (wpAny_check_type_call_sub hC (type_call_x F hT hC hi hb hrest ?_))
  refine codeAny_mono hq fun r s' z => ?_
  rcases r with e | (v | _ | _ | _) <;> exact z
end
section
variable {prog : Program} {w : World} {A : Around} {R : Result → Shared → Prop} {hp : Heap} {g : Array GenState} {d : Drawn} {t : Nat} {os : OsState}
theorem osa_x {K : W.Frag} {name : Str} {tk : Tok} {v : Value} {x C : Addr} {fv : Array Value} {cd : ClassData}
    (X : K.In hp) (hx : hp.get? x = some { cls := .ref C, data := .fields fv }) (hcd : W.clsIn K C = some cd) (hne : cd.mro.isEmpty = false) (hob : cd.mro.contains (.type "object") = true) (hps : refuseLoop (.ref x) "__setattr__" cd.mro = pure ()) (hh : cd.hasDict = true) (ha : W.findIn K (.ref C) name = some none)
    (hq : ∀ h' tk' dx, (∀ b o, b ≠ x → hp.get? b = some o → h'.get? b = some o) → hp.objs.size ≤ dx → dx ≠ x → h'.get? x = some { cls := .ref C, dict := some dx, data := .fields fv } →
      h'.Ns1 dx (fun y => if y = name then some v else none) → R (.ok (.ret .none)) ⟨h', g, d, tk', os⟩) :
    codeAny (model prog w) A (.call (.builtin "object.__setattr__") ⟨[.ref x, .str name tk, v], []⟩) R ⟨hp, g, d, t, os⟩ := by
  have I : W.InstAt hp x { cls := .ref C, data := .fields fv } C none := ⟨hx, rfl, rfl, trivial⟩
  have SF := F.store_object
  have hxs : x ≠ hp.objs.size := Nat.ne_of_lt (Heap.lt_size hx)
  have sub : W.Looks (model prog w) hp (isInstance (.ref x) (.type "object")) true := I.type.andThen (W.looks_mroIn X (by unfold W.mroIn; rw [hcd, Option.bind_some, if_neg (by rw [hne]; decide), hob]))
  refine codeAny_call_builtin SF.slot.plain SF.entry (@W.check_slot (model prog w) _ _ ⟨hp, g, d, t, os⟩ "object.__setattr__" "object" "__setattr__" (.ref x) [.str name tk, v] [] _ SF.kind SF.split sub (SF.args (.ref x) (.str name tk) v) ?_)
  have hmr : W.Looks (model prog w) hp (mroOf (.ref C)) cd.mro := (W.looks_clsIn X hcd).andThen .now
  have L3 : W.Looks (model prog w) hp (storeTaker? none) none := .now
  have hcls : W.Looks (model prog w) hp (classData C) cd := W.looks_clsIn X hcd
  rw [W.osa_eq, refuse_eq]
  refine wpAny_bind (wpAny_bind (I.type.at (wpAny_bind (hmr.at ?_))))
  rw [hps]
  refine wpAny_pure (wpAny_bind (I.type.at (wpAny_bind ((W.looks_findIn X ha).at (wpAny_bind (L3.at ?_))))))
  show wpAny _ _ (storeInOwnDict (.ref x) (.ref C) (.str name tk) name v false) _ _ _
  obtain ⟨nm, bs, mro, ns, qn, hd, sn, sb, ab, col, del⟩ := cd
  dsimp only at hh
  subst hh
  unfold storeInOwnDict ownDictForStores
  repeat (first | with_reducible refine store_in_new ?_ ?_ | with_reducible refine wpAny_loadPart_at hx ?_ | with_reducible refine hcls.at ?_ | wp_step)
  · exact ⟨_, #[], _, (Heap.get?_update_ne _ _ _ _ hxs.symm).trans (Heap.get?_push_at rfl rfl), rfl, fun e he => absurd he (by simp), fun _ => rfl⟩
  · intro h' tk' hn' hs
    have hx₁ : (hp.push { cls := .type "dict", data := .dict #[] }).get? x = some { cls := .ref C, data := .fields fv } := Heap.get?_push_of_some _ hx
    refine hq h' tk' hp.objs.size (fun b o hb ho => ?_) (Nat.le_refl _) hxs.symm ?_ hn'
    · exact (hs.2 b (Nat.ne_of_lt (Heap.lt_size ho))).trans ((Heap.get?_update_ne _ _ _ _ hb).trans (Heap.get?_push_of_some _ ho))
    · exact (hs.2 x hxs).trans (Heap.get?_update_self _ hx₁ rfl)
end
end OXX
end PySem
namespace PySem.W
open PySem PySem.Spec PySem.Calls PyProof.Rows
section
variable {prog : Program} {w : World} {A : Around} {E : Value → Shared → Prop} {s : Shared} {K : Frag} {x D : Addr} {ox : Obj} {od : Option Obj}
theorem findObj_dataD {C : Addr} {name : Str} {a g : Value} (hc : (clsIn K C).isSome = true) (ha : findIn K (.ref C) name = some (some a)) (hg : specialIn K a "__get__" = some (some g)) (ht : takesIn K a = some true) : findObj K C od name = some (.bind g a) := by
  obtain ⟨cd, hc⟩ := Option.isSome_iff_exists.mp hc
  unfold findObj
  rw [hc, Option.bind_some, ha, Option.bind_some]
  simp [hg, ht]
theorem kin_classD {Q : Option Value → Shared → Prop} (hga : findIn K (.ref D) "__getattribute__" = some (some (.builtin "BaseException.__getattribute__"))) (hgt : findIn K (.ref D) "__getattr__" = some none) (hsub : subIn K (.ref D) (.type "BaseException") = some true)
    (hdct : hasDictIn K D = true) (ha : findIn K (.ref D) "__class__" = some (some (.builtin "object.__class__")))
    (hn : specialIn K (.builtin "object.__class__") "__get__" = some (some (.builtin "getset_descriptor.__get__"))) (htk : takesIn K (.builtin "object.__class__") = some true) (hm : mroIn K D (.type "object") = some true)
    (X : K.In s.heap) (I : InstAt s.heap x ox D od) (h : Q (some (.ref D)) { s with toks := s.toks + 1 }) : wpAny (model prog w) A (getAttr? (.ref x) "__class__") Q E s := by
  have hf : findObj K D od "__class__" = some (.bind (.builtin "getset_descriptor.__get__") (.builtin "object.__class__")) := findObj_dataD (by obtain ⟨cd, hc, _⟩ := any_some hdct; rw [hc]; rfl) ha hn htk
  obtain ⟨hp, g, d, t, os⟩ := s
  have L0 := I.type (M := model prog w)
  have L1 := looks_findIn (M := model prog w) X hga
  have L2 := looks_findIn (M := model prog w) X hgt
  have L3 := looks_find (M := model prog w) X I hf
  have sub : Looks (model prog w) hp (isInstance (.ref x) (.type "BaseException")) true := L0.andThen (looks_subIn X hsub)
  have hx0 : (false && onTheHeap (Value.builtin "BaseException.__getattribute__")) = false := rfl
  have hx2 : (Value.builtin "BaseException.__getattribute__" == Value.builtin "object.__getattribute__") = false := by decide +kernel
  have hx1 : (onTheHeap (Value.ref D) && Value.builtin "BaseException.__getattribute__" == Value.builtin "object.__getattribute__") = false := by rw [hx2]; rfl
  unfold getAttr? getAttrBy? getAttrBy
  refine wpAny_bind (wpAny_mkText (wpAny_bind (wpAny_attempt (wpAny_holding (wpAny_bind (L0.at (wpAny_bind (L1.at ?_))))))))
  show wpAny _ _ (if (onTheHeap (Value.ref D) && Value.builtin "BaseException.__getattribute__" == Value.builtin "object.__getattribute__") = true then _ else _) _ _ _
  rw [hx1, if_neg Bool.false_ne_true]
  unfold getAttrByItsOwn hookBefore
  refine wpAny_bind ?_
  rw [if_pos (show onTheHeap (Value.ref D) = true from rfl)]
  refine L2.at ?_
  refine wpAny_bind (wpAny_attempt (wpAny_holding ?_))
  unfold callGetattribute
  rw [hx0, if_neg Bool.false_ne_true]
  unfold boundAndCalled
  rw [PySem.F.excAttr_ValueError.ga.bind (.ref x)]
  refine wpAny_bind (wpAny_pure ?_)
  show wpAny _ _ (call (.builtin "BaseException.__getattribute__") [.ref x, .str "__class__" t]) _ _ _
  refine wpAny_call (codeAny_call_builtin PySem.F.excAttr_ValueError.ga.plain PySem.F.entry_bexc_ga ?_)
  refine @check_slot (model prog w) _ _ ⟨hp, g, d, t + 1, os⟩ "BaseException.__getattribute__" "BaseException" "__getattribute__" (.ref x) [.str "__class__" t] [] _ (by decide +kernel) (by decide +kernel) sub (PySem.F.args_bexc_ga (.ref x) (.str "__class__" t)) ?_
  unfold Builtin.«object.__getattribute__»
  refine wpAny_bind (wpAny_of_eq (a := ((Value.ref x : Value), [Value.str "__class__" t])) (by first | rfl | (simp only [slotArgs]; rfl)) ?_)
  refine wpAny_bind (wpAny_pure (wpAny_bind (L0.at (wpAny_bind (L3.at ?_)))))
  show wpAny _ _ (holding [Value.builtin "object.__class__"] (call (.builtin "getset_descriptor.__get__") [.builtin "object.__class__", .ref x, .ref D]) >>= ret) _ _ _
  refine wpAny_bind (wpAny_holding (wpAny_call (class_get (s := ⟨hp, g, d, t + 1, os⟩) (ox := ox) (od := od) X I hm ?_)))
  refine wpAny_pure ?_
  show wpAny _ _ (handedOut (.ref D)) _ _ _
  rw [handedOut_of (v := .ref D) rfl]
  first
    | exact wpAny_pure (wpAny_pure h)
    | exact wpAny_pure h
    | exact wpAny_pure (wpAny_bind (wpAny_pure (wpAny_pure h)))
theorem kitx_excD (hga : findIn K (.ref D) "__getattribute__" = some (some (.builtin "BaseException.__getattribute__"))) (hgt : findIn K (.ref D) "__getattr__" = some none) (hsub : subIn K (.ref D) (.type "BaseException") = some true) (hdct : hasDictIn K D = true) (ha : findIn K (.ref D) "__class__" = some (some (.builtin "object.__class__")))
    (hn : specialIn K (.builtin "object.__class__") "__get__" = some (some (.builtin "getset_descriptor.__get__"))) (htk : takesIn K (.builtin "object.__class__") = some true) (hm : mroIn K D (.type "object") = some true) :
    KitX K (.ref x) (.ref D) (fun h => InstAt h x ox D od) where
  ty := fun _ _ _ I => I.type
  it := fun _ _ X _ => by
    obtain ⟨cdD, hcD, _⟩ := any_some hdct
    unfold clsIn at hcD
    split at hcD
    · rename_i c' d' cd' sl' ho
      intro A' Q' E' s' k q
      unfold isType loadHead
      exact wpAny_bind (wpAny_loadPart (k _ _ (X _ _ ho)) (wpAny_pure q))
    · cases hcD
  ne := fun h tp dd its n sl X htp => by
    obtain ⟨cdD, hcD, _⟩ := any_some hdct
    refine Bool.eq_false_iff.mpr fun q => ?_
    have e : D = tp := Value.ref.inj (beq_iff_eq.mp q)
    subst e
    unfold clsIn at hcD
    split at hcD
    · rename_i c' d' cd' sl' ho
      have z := (X _ _ ho).symm.trans htp
      cases z
    · cases hcD
  ca := fun X I k => kin_classD hga hgt hsub hdct ha hn htk hm X I k
end
end PySem.W
namespace L2
open PySem PySem.Spec PyProof.Rows
/-- an own exception class, over whatever base -/
structure OxC (K : PySem.W.Frag) (C : Addr) : Prop where
  cls : ∃ nm q N bs bm sn sub ab col dd k0 k1 k2 k3 k5 B newId initId bmB, K.lookup C = some (excClassObj nm q C N bs bm true sn sub ab col dd k0 k1 k2 k3 k5 newId) ∧ ExcBaseFacts B newId initId bmB ∧ PySem.OXX.Beh B bm ∧ ∀ self, refuseLoop self "__setattr__" (.ref C :: bm) = pure ()
  sa : PySem.W.findIn K (.ref C) "__setattr__" = some (some (.builtin "object.__setattr__"))
  kC : PySem.W.keepIn K (.ref C) = true
  xf : XfC K C
  is : ExcC K C
  ty : PySem.W.typeIn K (.ref C) = some (.type "type")
  ex : PySem.W.exmOne K (.ref C) (.ref C) = some true
section
variable {X : Cx} {pins : List (Addr × Obj)} {σ : St} {H : Hp} {s : Shared} {a C dx : Addr} {f : Str} {y : V} {u : Value} {fs : List (Str × V)} {Q : Unit → Shared → Prop} {E : Value → Shared → Prop} {A : Around}
/-- self.f = y, the first one -/
theorem oxt_new (T : OxC X.K C) (I : Inv X pins σ H s) (e : H a = some (exo a C none)) (hno : PySem.W.findIn X.K (.ref C) f = some none) (ry : RelV y u)
    (h : ∀ dx s', H dx = none → dx ≠ a → Inv X pins σ (upd (upd H dx (exd dx [(f, y)])) a (exo a C (some dx))) s' → Q () s') : wpAny (model X.prog X.w) A (setAttr (.ref a) f u) Q E s := by
  obtain ⟨nm, q, N, bs, bm, sn, sub, ab, col, dd, k0, k1, k2, k3, k5, B, newId, initId, bmB, hC, FB, BB, hps⟩ := T.cls
  have hcl : PySem.W.clsIn X.K C = some { name := nm, bases := bs, mro := .ref C :: bm, ns := N, qualname := q, hasDict := true, slotNames := sn, subclasses := sub, abstract := ab, collection := col, hasDel := false } := by unfold PySem.W.clsIn; rw [hC] <;> rfl
  obtain ⟨t1, ho⟩ := exo_at I.hok e
  obtain ⟨hp, g, d, t, os⟩ := s
  refine PySem.W.set_plain I.kIn (ox := { cls := .ref C, dict := none, data := .fields #[.ref t1, .none, .none, .none, .bool false, .none] }) (od := none) ⟨ho, rfl, rfl, trivial⟩ T.sa ?_
  refine PySem.OXX.osa_x I.kIn ho hcl rfl (show (Value.ref C :: bm).contains (.type "object") = true by rw [List.contains_cons, BB.ob, Bool.or_true]) (hps _) rfl hno (fun h' tk' dx k dn dne hx hn => ?_)
  have hnd : H dx = none := I.hok.fresh dn
  have nd : ∀ {b : Addr} {o : Obj}, hp.get? b = some o → b ≠ dx := fun {b o} q => Nat.ne_of_lt (Nat.lt_of_lt_of_le (Heap.lt_size q) dn)
  have na : ∀ {b : Addr}, H b = none → b ≠ a := fun {b} n z => by
    rw [z, e] at n
    cases n
  have Un1 : Un X.fs [] H (upd (upd H dx (exd dx [(f, y)])) a (exo a C (some dx))) hp h' := {
    keep := fun b o q n _ _ => k b o (na n) q
    slot := fun b o q n _ _ => ⟨o.slots, k b o (na n) q⟩
    free := fun b o q n _ => by rw [upd_ne (na n), upd_ne (nd q)]; exact n
    there := fun b o q _ => by
      by_cases hb : b = a
      · exact ⟨_, by rw [hb]; exact hx⟩
      · exact ⟨o, k b o hb q⟩
    tups := fun b xs q => by rw [upd_ne (at_ne e q exo_tup), upd_ne (ne_of_none q hnd)]; exact q
    frzs := fun b o v q => by rw [upd_ne (at_ne e q exo_frz), upd_ne (ne_of_none q hnd)]; exact q
    tbls := fun b ps q => ⟨#[], by rw [upd_ne (at_ne e q exo_tbl), upd_ne (ne_of_none q hnd), q]; simp⟩ }
  refine h dx _ hnd dne (I.un (t' := tk') Un1 fun b o q => ?_)
  by_cases hb : b = a
  · subst hb
    rw [upd_same] at q
    cases q
    exact exo_ok hx
  · rw [upd_ne hb] at q
    by_cases hd : b = dx
    · subst hd
      rw [upd_same] at q
      cases q
      exact exd_ok hn (relO_put (fs := []) ry fun g => True.intro)
    · rw [upd_ne hd] at q
      exact (I.hok b o q).stay (fun c v hc z => k c v (by
          rcases hc with hc | hc
          · rw [hc]
            exact hb
          · exact at_ne e hc exo_own) z)
        (fun c hc => by rw [upd_ne (at_ne e hc exo_own), upd_ne (ne_of_none hc hnd)]; exact hc) (fun c xs hc => by rw [upd_ne (at_ne e hc exo_tup), upd_ne (ne_of_none hc hnd)]; exact hc)
end
/-- self.f = e, the first one -/
def tOxt (K : PySem.W.Frag) (f : Str) (to te : TE) : TS := fun D σ H => te σ H fun y H1 => to σ H1 fun x H2 => ∃ a C : Addr, x = .ref a ∧ OxC K C ∧ PySem.W.findIn K (.ref C) f = some none ∧
  (H2 a = some (exo a C none) ∧ ∀ dx, H2 dx = none → dx ≠ a → D.nx σ (upd (upd H2 dx (exd dx [(f, y)])) a (exo a C (some dx))))
/-- the promise of such an __init__: one field -/
def SpXI (K : PySem.W.Frag) (f : Str) : Sp := fun vs H Q _ => ∃ a v C, vs = [.ref a, v] ∧ OxC K C ∧ PySem.W.findIn K (.ref C) f = some none ∧ H a = some (exo a C none) ∧
  ∀ dx, H dx = none → dx ≠ a → Q .non (upd (upd H dx (exd dx [(f, v)])) a (exo a C (some dx)))
/-- C(e), C with such an __init__ -/
def tMkX (C : Addr) (f : Str) (te : TE) : TE := fun σ H Q => te σ H fun v H1 => ∀ a dx, H1 a = none → H1 dx = none → dx ≠ a → Q (.ref a) (upd (upd (upd H1 a (exo a C none)) dx (exd dx [(f, v)])) a (exo a C (some dx)))
/-- C() -/
def tMkN (C : Addr) : TE := fun _ H Q => ∀ a, H a = none → Q (.ref a) (upd H a (exo a C none))
section
variable {X : Cx} {o e : Expr} {es : List Expr} {to te : TE} {f x n : Str} {p p' pos : Pos} {C fI : Addr} {k : Nat} {fd : FuncData} {ps : List Str} {CX : CXT}
theorem ps_oxt (ho : PE X o to) (he : PE X e te) (hs : swapsWith e (some (.Attribute o f p')) pos.line X.env = pure false := by rfl) : PS X (.Assign [.Attribute o f p'] e pos) (tOxt X.K f to te) := by
  refine ⟨fun pins s σ H D I h => ?_⟩
  refine plainObj_wpAny_Assign_Attribute (thn (he.run pins s σ H _ I h) fun v s1 ⟨y, H1, I1, r1, q1⟩ => thn (ho.run pins s1 σ H1 _ I1 q1) fun u s2 ⟨x, H2, I2, r2, a, C, ex, T, hno, ea, q⟩ => ?_) hs
  subst ex
  obtain rfl : u = Value.ref a := r2
  exact oxt_new T I2 ea hno r1 fun dx s' n ne J => ⟨σ, _, J, q dx n ne⟩
theorem pe_mkN {bmB : List Value} {B newId initId : String} (F : ExcBaseFacts B newId initId bmB) (q : PySem.W.excIn X.K C bmB newId = true) (gC : X.mg x = some (.ref C)) (kC : PySem.W.keepIn X.K (.ref C) = true) (hg : Gl X x)
    (hdb : (x == ("__debug__" : Str)) = false := by decide) : PE X (.Call (.Name x p) [] [] pos) (tMkN C) := by
  refine ⟨fun pins s σ H Q I h => ?_⟩
  refine wpAny_Call_Name_kw (ld_glob I hg gC ?_ hdb)
  refine PySem.W.callWith_K0 (K := X.K) (I.tok _).kIn kC ?_
  show wpAny _ _ (call (.ref C) []) _ _ _
  obtain ⟨bm, N, nm, qn, bs, hdct, sn, sub, ab, col, dd, k0, k1, k2, k3, k5, mN, hC, hN, hni, T⟩ := exc_obj (I.tok _).kIn q
  refine wpAny_call_exc_subT F T hC hN hni (fun h' a hm => ?_) (by show 0 ≤ sizeLine; omega)
  have hn : H a = none := I.hok.gone hm.new
  obtain ⟨t, ht, _, _⟩ := hm.there
  exact ⟨.ref a, upd H a (exo a C none), I.laidN hm.keeps hm.new hn (exo_ok ht), rfl, h a hn⟩
theorem pe_mkX (T : OxC X.K C) (iC : PySem.W.findIn X.K (.ref C) "__init__" = some (some (.ref fI))) (tI : PySem.W.typeIn X.K (.ref fI) = some (.type "function")) (hno : PySem.W.findIn X.K (.ref C) f = some none)
    (F1 : FnOk X.prog X.w X.K X.mg X.base CX k fI fd ps (SpXI X.K f)) (hr : Room (k + 1) X.A) (hb : Binds X.K fd ps []) (hx : Passes CX X (fun _ _ _ => False)) (hg : Gl X x) (hm : X.mg x = some (.ref C)) (ha : PE X e te)
    (hdb : (x == ("__debug__" : Str)) = false := by decide) (he : starEach (e :: []) X.env = (false, eval e X.env) :: starEach [] X.env := by rfl) (hpl : (backTo pos (starEach [] X.env)).any (·.1) = false := by rfl) :
    PE X (.Call (.Name x p) [e] [] pos) (tMkX C f te) := by
  refine ⟨fun pins s σ H Q I h => ?_⟩
  obtain ⟨nm, q, N, bs, bm, sn, sub, ab, col, dd, k0, k1, k2, k3, k5, B, newId, initId, bmB, hC, FB, BB, hps⟩ := T.cls
  refine wpAny_Call_Name_kw (ld_glob I hg hm ?_ hdb)
  have hA : PA X [e] (tCons te tNil) := pa_cons ha pa_nil he
  refine PySem.W.callWith_K (h₀ := X.base) I.ok.mod.kin T.kC (thn (hA.run pos pins s σ H (fun vs H1 => match vs with | [v] => (∀ a dx, H1 a = none → H1 dx = none → dx ≠ a → Q (.ref a) (upd (upd (upd H1 a (exo a C none)) dx (exd dx [(f, v)])) a (exo a C (some dx)))) | _ => False) I h) fun us s1 ⟨vs, H1, I1, r1, q1⟩ => ⟨I1.kIn, ?_⟩) he hpl
  show wpAny _ _ (call (.ref C) us) _ _ _
  obtain ⟨v, rfl⟩ : ∃ v, vs = [v] := by
    rcases vs with _ | ⟨v, _ | ⟨v2, vs⟩⟩
    · exact q1.elim
    · exact ⟨v, rfl⟩
    · exact q1.elim
  replace q1 : ∀ a dx, H1 a = none → H1 dx = none → dx ≠ a → Q (.ref a) (upd (upd (upd H1 a (exo a C none)) dx (exd dx [(f, v)])) a (exo a C (some dx))) := q1
  obtain ⟨hp, g, dr, tk, os⟩ := s1
  have hsz : hp.objs.size ≤ hp.objs.size + 1 := Nat.le_succ _
  have hn : H1 (hp.objs.size + 1) = none := I1.hok.fresh hsz
  have hq : SpXI X.K f [.ref (hp.objs.size + 1), v] (upd H1 (hp.objs.size + 1) (exo (hp.objs.size + 1) C none)) (fun r H2 => r = .non ∧ Q (.ref (hp.objs.size + 1)) H2) (fun _ _ _ => False) :=
    ⟨_, v, C, rfl, T, hno, upd_same, fun dx hd hda => ⟨rfl, q1 _ dx hn (by rw [upd_ne hda] at hd; exact hd) hda⟩⟩
  have kk : ∀ b o, hp.get? b = some o → ((hp.push (PySem.W.kdv_tup us)).push (PySem.HandSPX.excO C hp.objs.size)).get? b = some o := fun b o e => Heap.get?_push_of_some _ (Heap.get?_push_of_some _ e)
  have hget : ((hp.push (PySem.W.kdv_tup us)).push (PySem.HandSPX.excO C hp.objs.size)).get? (hp.objs.size + 1) = some (PySem.HandSPX.excO C hp.objs.size) := by heap_get
  have I2 : Inv X pins σ (upd H1 (hp.objs.size + 1) (exo (hp.objs.size + 1) C none)) ⟨(hp.push (PySem.W.kdv_tup us)).push (PySem.HandSPX.excO C hp.objs.size), g, dr, tk, os⟩ :=
    I1.laid (t' := tk) (a := hp.objs.size + 1) (o := exo (hp.objs.size + 1) C none) (h' := (hp.push (PySem.W.kdv_tup us)).push (PySem.HandSPX.excO C hp.objs.size)) kk hsz (exo_ok hget)
  have r2 : Vals (V.ref (hp.objs.size + 1) :: ([v] ++ [])) (Value.ref (hp.objs.size + 1) :: (us ++ [])) := .cons rfl (r1.append .nil)
  have hl : (Value.ref (hp.objs.size + 1) :: us ++ []).length = ps.length := by
    have e := r2.length
    have e3 := F1.len _ _ _ _ hq
    simp only [List.length_cons, List.length_append, List.length_nil] at e e3 ⊢
    omega
  have hus : us.length ≤ sizeLine := by
    rw [← Paired.length r1, sizeLine_eq]
    simp
  refine wpAny_call (PySem.OXX.call_x FB BB (I1.kIn _ _ hC) (PySem.W.looks_findIn I1.kIn iC) (fun self => PySem.W.bind_fn I1.kIn self tI) hus
    (codeAny_mono (F1.run _ X.stack _ _ ⟨Value.ref (hp.objs.size + 1) :: us, []⟩ (Value.ref (hp.objs.size + 1) :: us ++ []) _ _ (fun _ _ _ => False) (hr.make C us []) (I2.env0.make C us []) (hb _ (Value.ref (hp.objs.size + 1) :: us) I2.kIn hl) r2 hq) fun r s' hq' => ?_))
  cases r with
  | error er => exact hx pins σ _ _ er s' I2 hq'
  | ok fl =>
    cases fl with
    | ret u =>
      obtain ⟨w, H2, os2, bare2, un2, hok2, rv, ev, q2⟩ := hq'
      subst ev
      exact ⟨rv, .ref (hp.objs.size + 1), H2, I2.call' (ch := []) os2 un2 hok2 bare2 (fun b z => absurd z (by simp)), rfl, q2⟩
    | next => exact False.elim hq'
    | brk => exact False.elim hq'
    | cont => exact False.elim hq'
/-- err.f -/
def tXfl (K : PySem.W.Frag) (n : Str) (te : TE) : TE := fun σ H Q => te σ H fun x H1 => ∃ (a C d : Addr) (fs : List (Str × V)) (v : V), x = .ref a ∧ XfC K C ∧ PySem.W.findIn K (.ref C) n = some none ∧ H1 a = some (exo a C (some d)) ∧ H1 d = some (exd d fs) ∧ fs.lookup n = some v ∧ Q v H1
theorem pe_xfl (he : PE X e te) (hb : attributeBase e n X.env (eval e X.env) = eval e X.env := by rfl) : PE X (.Attribute e n pos) (tXfl X.K n te) := by
  refine ⟨fun pins s σ H Q I h => ?_⟩
  refine attr_of hb (thn (he.run pins s σ H _ I h) fun u s1 hh => ?_)
  obtain ⟨x, H1, I1, rx, a, C, d, fs, v, ex, T, hno, ea, ed, l, q⟩ := hh
  subst ex
  obtain rfl : u = Value.ref a := rx
  obtain ⟨t1, ho⟩ := exo_at I1.hok ea
  obtain ⟨mA, hns, hr⟩ := exd_at I1.hok ed
  obtain ⟨od, ho2, hl⟩ := lookIn_ns hns
  obtain ⟨u, hu, ru⟩ := RelO.some_of (v := v) (o := mA n) (by rw [← l]; exact hr n)
  have J : PySem.W.InstAt s1.heap a { cls := .ref C, dict := some d, data := .fields #[.ref t1, .none, .none, .none, .bool false, .none] } C (some od) := ⟨ho, rfl, rfl, ho2⟩
  exact HandSPX.exc_get I1.kIn J T.ga T.gg T.exC (PySem.W.findObj_own T.hdC hno rfl (by rw [hl, hu])) (handed_of ru) ⟨v, H1, I1.tok _, ru, q⟩
/-- isinstance(err, c) -/
def rIsX (K : PySem.W.Frag) : List V → Hp → VK → Prop := fun xs H Q => ∃ (a C : Addr) (d : Option Addr) (c : V) (u : Value) (b : Bool), xs = [.ref a, c] ∧ H a = some (exo a C d) ∧ (∀ dx, d = some dx → ∃ fs, H dx = some (exd dx fs)) ∧ ExcC K C ∧ ClsV c u ∧ PySem.W.kitOne K (.ref C) u = some b ∧ Q (.bl b) H
theorem call_isX : CallR X (.builtin "isinstance") (rIsX X.K) := by
  intro pins s σ H xs us Q I r h
  obtain ⟨a, C, d, c, cv, b, rfl, ea, hd, T, k, e, q⟩ := h
  obtain ⟨u1, u2, rfl, r1, r2⟩ := vals2 r
  have e2 := k.eq r2
  subst e2
  cases (show u1 = Value.ref a from r1)
  obtain ⟨t1, ho⟩ := exo_at I.hok ea
  have hod : ∃ od : Option Obj, PySem.W.InstAt s.heap a { cls := .ref C, dict := d, data := .fields #[.ref t1, .none, .none, .none, .bool false, .none] } C od := by
    cases d with
    | none => exact ⟨none, ho, rfl, rfl, trivial⟩
    | some dx =>
      obtain ⟨fs, ed⟩ := hd dx rfl
      obtain ⟨mA, hns, hr⟩ := exd_at I.hok ed
      obtain ⟨od, ho2, hl⟩ := lookIn_ns hns
      exact ⟨some od, ho, rfl, rfl, ho2⟩
  obtain ⟨od, J⟩ := hod
  exact PySem.W.kia_one (PySem.W.kitx_excD T.hg T.hk T.hs T.hd T.ha T.hn T.ht T.hm) I.kIn J e (fun z => nomatch z) fun tk => ⟨.bl b, H, I.tok tk, rfl, q⟩
end
end L2

namespace Un
open PySem PySem.Spec PyProof.Rows L2

/-! ### defs as they stand, and as they keep a promise -/
def At (K : PySem.W.Frag) (mg : Str → Option Value) (nm : Str) (st : Stmt) (ps : List Str) : Prop :=
  ∃ (f : Addr) (fd : FuncData), Fun K nm nm st f fd ∧ mg nm = some (.ref f) ∧ Binds K fd ps []
def Cl (P : Program) (w : World) (K : PySem.W.Frag) (mg : Str → Option Value) (base : Heap) (nm : Str) (ps : List Str) (k : Nat) (sp : Sp) : Prop :=
  ∃ (f : Addr) (fd : FuncData), mg nm = some (.ref f) ∧ FnOk P w K mg base CX0 k f fd ps sp ∧ PySem.W.keepIn K (.ref f) = true ∧ Binds K fd ps []
theorem cl_of {P : Program} {w : World} {K : PySem.W.Frag} {mg : Str → Option Value} {base : Heap} {nm : Str} {st : Stmt} {ps : List Str} {k : Nat} {sp : Sp}
    (a : At K mg nm st ps) (h : ∀ f fd, Fun K nm nm st f fd → FnOk P w K mg base CX0 k f fd ps sp) : Cl P w K mg base nm ps k sp := by
  obtain ⟨f, fd, F, m, b⟩ := a
  exact ⟨f, fd, m, h f fd F, F.kp, b⟩
section
variable {X : Cx} {nm : Str} {ps : List Str} {j k : Nat} {sp : Sp} {e : Expr} {es : List Expr} {t : TA} {p pos : Pos}
theorem pe_cl (c : Cl X.prog X.w X.K X.mg X.base nm ps k sp) (hr : Room k X.A) (hg : Gl X nm) (ha : PA X (e :: es) t)
    (hdb : (nm == ("__debug__" : Str)) = false := by decide) (he : starEach (e :: es) X.env = (false, eval e X.env) :: starEach es X.env := by rfl) (hpl : (backTo pos (starEach es X.env)).any (·.1) = false := by rfl) :
    PE X (.Call (.Name nm p) (e :: es) [] pos) (tCall sp [] E0 t) := by
  obtain ⟨f, fd, m, F, kp, b⟩ := c
  exact pe_call F hr hg m kp b .nil pass0 ha hdb he hpl
theorem pe_cl0 (c : Cl X.prog X.w X.K X.mg X.base nm ps k sp) (hr : Room k X.A) (hg : Gl X nm)
    (hdb : (nm == ("__debug__" : Str)) = false := by decide) : PE X (.Call (.Name nm p) [] [] pos) (tCall sp [] E0 tNil) := by
  obtain ⟨f, fd, m, F, kp, b⟩ := c
  exact pe_call0 F hr hg m kp b .nil pass0 hdb
end

/-! ### texts as lists of sgs -/
def tx (l : List Nat) : Str := ⟨l.toArray⟩
theorem tx_cps (l : List Nat) : (tx l).cps.toList = l := by simp [tx]
theorem tx_len (l : List Nat) : (tx l).length = l.length := by simp [tx, Str.length]
theorem tx_inj {a b : List Nat} (h : tx a = tx b) : a = b := by
  have := congrArg (fun s : Str => s.cps.toList) h
  simpa [tx] using this
theorem tx_eq {a b : List Nat} : tx a = tx b ↔ a = b := ⟨tx_inj, fun h => by rw [h]⟩
theorem tx_of (s : Str) : tx s.cps.toList = s := by
  cases s with
  | mk c => simp [tx]
theorem tx_app (a b : List Nat) : tx a ++ tx b = tx (a ++ b) := by
  have e : (tx a ++ tx b) = (⟨(tx a).cps ++ (tx b).cps⟩ : Str) := rfl
  rw [e]
  simp [tx]
theorem tx_one (c : Nat) : (⟨#[c]⟩ : Str) = tx [c] := rfl

/-! ### rules for built-ins -/
def scalR : V → Prop
  | .non => True
  | .bl _ => True
  | .int i => i.natAbs.log2 < 1920
  | .str x => (reprText x).length ≤ sizeLine
  | _ => False
def reprS : V → Str
  | .non => "None"
  | .bl b => if b then "True" else "False"
  | .int i => toString i
  | .str x => reprText x
  | _ => ""
def rRepr : List V → Hp → VK → Prop := fun xs H Q => ∃ x, xs = [x] ∧ scalR x ∧ Q (.str (reprS x)) H
section
variable {X : Cx}
theorem call_reprS : CallR X (.builtin "repr") rRepr := by
  intro pins s σ H xs us Q I r h
  obtain ⟨x, rfl, hx, q⟩ := h
  obtain ⟨u, rfl, rx⟩ := vals1 r
  cases x with
  | non => cases rx; exact PySem.P.repr_of_none ⟨.str _, H, I.tok _, ⟨_, rfl⟩, q⟩
  | bl b => cases rx; exact PySem.P.repr_of_bool ⟨.str _, H, I.tok _, ⟨_, rfl⟩, q⟩
  | int i => obtain ⟨t, rfl⟩ := rx; exact PySem.P.repr_of_int hx ⟨.str _, H, I.tok _, ⟨_, rfl⟩, q⟩
  | str y => obtain ⟨t, rfl⟩ := rx; exact PySem.P.repr_of_str ⟨.str _, H, I.tok _, ⟨_, rfl⟩, q⟩ (hsz := hx)
  | _ => exact hx.elim
def sgs (l : List Nat) : List V := l.map fun c => V.str (tx [c])
theorem vals_of_get : ∀ {xs : List V} {us : List Value}, xs.length = us.length → (∀ (i : Nat) (x : V) (u : Value), xs[i]? = some x → us[i]? = some u → RelV x u) → Vals xs us
  | [], [], _, _ => .nil
  | [], _ :: _, h, _ => by simp at h
  | _ :: _, [], h, _ => by simp at h
  | x :: xs, u :: us, h, f => .cons (f 0 x u rfl rfl) (vals_of_get (by simpa using h) fun i a b ha hb => f (i + 1) a b (by simpa using ha) (by simpa using hb))
theorem call_list_strR (hc : X.calm = true) : CallR X (.type "list") (fun xs H Q => ∃ l : List Nat, xs = [.str (tx l)] ∧ l.length ≤ sizeLine ∧ ∀ p, H p = none → Q (.ref p) (upd H p (.lst (sgs l)))) := by
  intro pins s σ H xs us Q I r h
  obtain ⟨l, rfl, hl, q⟩ := h
  obtain ⟨u, rfl, t, rfl⟩ := vals1 r
  have hs : (tx l).cps.size = l.length := by simp [tx]
  refine PySem.call_list_str (I.ok.hd hc) (tx l) t (fun h' tk acc' c' hk hS hacc => ?_) (hn := by rw [hs]; exact hl)
  obtain ⟨hsz, hget⟩ := hacc
  have hv : Vals (sgs l) acc'.toList := vals_of_get (show (sgs l).length = acc'.toList.length by rw [Array.length_toList (xs := acc'), hsz, hs]; simp [sgs]) fun i x u hx hu => by
    have hu' : acc'[i]? = some u := by rw [← Array.getElem?_toList]; exact hu
    obtain ⟨c, tk', hc', rfl⟩ := hget i u hu'
    have hc2 : l[i]? = some c := by
      have : (tx l).cps[i]? = l[i]? := by simp [tx]
      rw [← this]; exact hc'
    have : x = V.str (tx [c]) := by
      unfold sgs at hx
      rw [List.getElem?_map, hc2] at hx
      exact (Option.some.inj hx).symm
    subst this
    exact ⟨tk', rfl⟩
  exact ⟨.ref s.heap.objs.size, _, I.laid (t' := tk) hk (Nat.le_refl _) (show ObjOk X.prog X.w _ h' _ (.lst (sgs l)) from ⟨by simpa [sgs] using hl, acc'.toList, c', hv, by simpa using hS⟩), rfl, q _ (I.hok.fresh (Nat.le_refl _))⟩
def reps (n : Nat) (l : List Nat) : List Nat := (List.replicate n l).flatten
theorem reps_len (n : Nat) (l : List Nat) : (reps n l).length = n * l.length := by
  unfold reps
  induction n with
  | zero => simp
  | succ n ih =>
    rw [List.replicate_succ, List.flatten_cons, List.length_append, ih, Nat.add_mul, Nat.one_mul, Nat.add_comm]
theorem foldl_app (l : List Nat) : ∀ (n : Nat) (a : Array Nat), ((List.replicate n l.toArray).foldl (· ++ ·) a).toList = a.toList ++ (List.replicate n l).flatten
  | 0, a => by simp
  | n + 1, a => by
    rw [List.replicate_succ, List.foldl_cons, foldl_app l n, List.replicate_succ, List.flatten_cons]
    simp
theorem txt_mul (l : List Nat) (n : Int) : Txt.mul (tx l) n = tx (reps n.toNat l) := by
  unfold Txt.mul
  by_cases h : n < 1
  · rw [if_pos h]
    have : n.toNat = 0 := by omega
    rw [this]
    rfl
  · rw [if_neg h]
    by_cases h1 : (n == 1 || (tx l).length == 0) = true
    · rw [if_pos h1]
      rw [Bool.or_eq_true] at h1
      rcases h1 with h1 | h1
      · have : n = 1 := by simpa using h1
        subst this
        simp [reps]
      · have : l = [] := by simpa [tx, Str.length] using h1
        subst this
        simp [reps]
    · rw [if_neg h1]
      have e := foldl_app l n.toNat #[]
      have e2 : (List.replicate n.toNat (tx l).cps) = List.replicate n.toNat l.toArray := rfl
      rw [e2]
      generalize hg : List.foldl (fun x1 x2 => x1 ++ x2) #[] (List.replicate n.toNat l.toArray) = z at *
      unfold tx reps
      congr 1
      apply Array.ext'
      rw [e]
      simp
theorem op_mul_str : OpR X (binaryOp .Mult) (fun x y H Q => ∃ (l : List Nat) (n : Int), x = .str (tx l) ∧ y = .int n ∧ -100000 ≤ n ∧ n ≤ 100000 ∧ l.length * n.toNat ≤ 100000 ∧ Q (.str (tx (reps n.toNat l))) H) := by
  intro pins s σ H x y v u Q I rx ry h
  obtain ⟨l, n, rfl, rfl, hn0, hn, hl, q⟩ := h
  obtain ⟨t, rfl⟩ := rx
  obtain ⟨t', rfl⟩ := ry
  have hk : (tx l).length = l.length := tx_len l
  refine SB.mul (n := n) ⟨?_, fun h1 _ => ?_, fun h1 _ => ?_⟩ (fun t2 k => ⟨.str (tx (reps n.toNat l)), H, I.tok _, ⟨t2, by rw [txt_mul]⟩, q⟩)
  · simp only [Bool.or_eq_false_iff, decide_eq_false_iff_not]
    constructor <;> omega
  · rw [hk]
    have h2 : (l.length : Int) ≤ 100000 := by
      have : l.length * 1 ≤ l.length * n.toNat := Nat.mul_le_mul_left _ (by omega)
      omega
    have h3 : (100000 : Int) ≤ (2 ^ 63 - 1) / n := by
      refine (Int.le_ediv_iff_mul_le (by omega)).mpr ?_
      omega
    omega
  · rw [hk]
    unfold Builtin.Str.tooLong
    have : (100000 : Nat) ≤ sizeLine := by decide
    simp only [decide_eq_false_iff_not]
    omega

/-! ### rules for texts as lists of sgs -/
theorem pe_strX {x : Str} {j : Nat} {pos : Pos} (l : List Nat) (h : x = tx l) : PE X (.Constant (.str x) j pos) (tC (.str (tx l))) := by
  subst h
  exact pe_str
def rAddX : R2 := fun x y H Q => ∃ a b, x = .str (tx a) ∧ y = .str (tx b) ∧ a.length + b.length ≤ sizeLine ∧ Q (.str (tx (a ++ b))) H
theorem op_addX : OpR X (binaryOp .Add) rAddX := by
  intro pins s σ H x y v u Q I rx ry h
  obtain ⟨a, b, rfl, rfl, hz, q⟩ := h
  exact op_add_str pins s σ H _ _ v u Q I rx ry ⟨_, _, rfl, rfl, by rw [tx_len, tx_len]; exact hz, by rw [tx_app]; exact q⟩
def rMulX : R2 := fun x y H Q => ∃ (l : List Nat) (n : Int), x = .str (tx l) ∧ y = .int n ∧ -100000 ≤ n ∧ n ≤ 100000 ∧ l.length * n.toNat ≤ 100000 ∧ Q (.str (tx (reps n.toNat l))) H
theorem op_mulT : OpR X (binaryOp .Mult) rMulX := op_mul_str
def rInX (neg : Bool) : R2 := fun x y H Q => ∃ (c : Nat) (z : List Nat), x = .str (tx [c]) ∧ y = .str (tx z) ∧ Q (.bl (if neg then !decide (c ∈ z) else decide (c ∈ z))) H
theorem op_inX : OpR X (compareOp .In) (rInX false) := by
  intro pins s σ H x y v u Q I rx ry h
  obtain ⟨c, z, rfl, rfl, q⟩ := h
  exact op_in_sign pins s σ H _ _ v u Q I rx ry ⟨c, tx z, rfl, rfl, by rw [tx_cps]; exact q⟩
theorem op_notInX : OpR X (compareOp .NotIn) (rInX true) := by
  intro pins s σ H x y v u Q I rx ry h
  obtain ⟨c, z, rfl, rfl, q⟩ := h
  exact op_notIn_sign pins s σ H _ _ v u Q I rx ry ⟨c, tx z, rfl, rfl, by rw [tx_cps]; exact q⟩
def rLtX : R2 := fun x y H Q => ∃ a b, x = .str (tx a) ∧ y = .str (tx b) ∧ Q (.bl (decide (a < b))) H
theorem op_ltX : OpR X (compareOp .Lt) rLtX := by
  intro pins s σ H x y v u Q I rx ry h
  obtain ⟨a, b, rfl, rfl, q⟩ := h
  exact op_lt_str pins s σ H _ _ v u Q I rx ry ⟨_, _, rfl, rfl, by rw [tx_cps, tx_cps]; exact q⟩
def rLeX : R2 := fun x y H Q => ∃ a b, x = .str (tx a) ∧ y = .str (tx b) ∧ Q (.bl (!decide (b < a))) H
theorem rLenX_aux (l : List Nat) : ((tx l).length : Int) = (l.length : Int) := by rw [tx_len]
def rLenX : List V → Hp → VK → Prop := fun xs H Q => ∃ l, xs = [.str (tx l)] ∧ l.length ≤ sizeLine ∧ Q (.int (l.length : Nat)) H
theorem call_lenX : CallR X (.builtin "len") rLenX := by
  intro pins s σ H xs us Q I r h
  obtain ⟨l, rfl, hz, q⟩ := h
  exact call_len_str pins s σ H _ us Q I r ⟨tx l, rfl, by rw [tx_len]; exact hz, by rw [tx_len]; exact q⟩
def rIxX : R2 := fun x y H Q => ∃ (l : List Nat) (i : Int) (c : Nat), x = .str (tx l) ∧ y = .int i ∧ l.length ≤ sizeLine ∧ atI l i = some c ∧ Q (.str (tx [c])) H
theorem ix_strX : IxR X rIxX := by
  intro value slice pins s σ H x y v u Q I rx ry h hs
  obtain ⟨l, i, c, rfl, rfl, hz, ha, q⟩ := h
  exact ix_str value slice pins s σ H _ _ v u Q I rx ry ⟨tx l, i, c, rfl, rfl, by rw [tx_len]; exact hz, by rw [tx_cps]; exact ha, q⟩ hs
def cutL (l : List Nat) (lo hi : Option Int) : List Nat := (l.drop (HT.sIx l.length 0 lo)).take (HT.sIx l.length l.length hi - HT.sIx l.length 0 lo)
theorem cutS_tx (l : List Nat) (lo hi : Option Int) : cutS (tx l) lo hi = tx (cutL l lo hi) := by
  unfold cutS cutL
  rw [tx_len, tx_cps]
  rfl
def rSlX : V → Option Int → Option Int → Hp → VK → Prop := fun x lo hi H Q => ∃ l, x = .str (tx l) ∧ l.length ≤ sizeLine ∧ Q (.str (tx (cutL l lo hi))) H
theorem sl_strX : SlR X rSlX := by
  intro pins s σ H x v vl vu l u a Q I rx hsl pl pu h
  obtain ⟨z, rfl, hz, q⟩ := h
  exact sl_str pins s σ H _ v vl vu l u a Q I rx hsl pl pu ⟨tx z, rfl, by rw [tx_len]; exact hz, by rw [cutS_tx]; exact q⟩
/-- letters.index(c), each letter once -/
theorem occ_nodup {z : List Nat} (nd : z.Nodup) {i : Nat} {c : Nat} (h : z[i]? = some c) : ∃ rest, Builtin.Str.occurrences (tx z) (tx [c]) 0 (tx z).length 1 = i :: rest := by
  have hc : c ∈ z := List.mem_of_getElem? h
  have hf := PySem.StrLaws.found_one (tx z) c
  rw [tx_cps, decide_eq_true hc] at hf
  have hsp := PySem.StrLaws.occ_spec (tx z) (tx [c]) 0 (tx z).length 1
  have e1 : (⟨#[c]⟩ : Str) = tx [c] := rfl
  rw [e1] at hf
  cases ho : Builtin.Str.occurrences (tx z) (tx [c]) 0 (tx z).length 1 with
  | nil => rw [ho] at hf; simp at hf
  | cons j rest =>
    obtain ⟨hj, hs⟩ := hsp j (by rw [ho]; exact List.mem_cons_self)
    rw [tx_len, tx_len] at hj
    have hj2 : z[j]? = some c := by
      unfold Builtin.Str.subAt at hs
      have h3 : (tx z).cps.extract j (j + (tx [c]).length) = (tx [c]).cps := by simpa using hs
      have h4 := congrArg Array.toList h3
      rw [tx_len] at h4
      simp only [tx, List.length_cons, List.length_nil, Nat.zero_add, Array.toList_extract, List.extract_eq_take_drop] at h4
      have h5 : (List.take 1 (List.drop j z))[0]? = some c := by
        have : j + 1 - j = 1 := by omega
        rw [this] at h4
        rw [h4]; rfl
      simpa using h5
    have : j = i := by
      have l1 : j < z.length := (List.getElem?_eq_some_iff.mp hj2).1
      have l2 : i < z.length := (List.getElem?_eq_some_iff.mp h).1
      exact (List.getElem_inj (h₀ := l1) (h₁ := l2) nd).mp (by
        rw [List.getElem?_eq_getElem l1] at hj2
        rw [List.getElem?_eq_getElem l2] at h
        exact (Option.some.inj hj2).trans (Option.some.inj h).symm)
    subst this
    exact ⟨rest, rfl⟩
def rIndexX : V → List V → Hp → VK → Prop := fun x xs H Q => ∃ (z : List Nat) (c i : Nat), x = .str (tx z) ∧ xs = [.str (tx [c])] ∧ z.Nodup ∧ z[i]? = some c ∧ Q (.int (i : Nat)) H
theorem mt_indexT : MtR X "str.index" rIndexX := by
  intro pins s σ H x xs v us Q I rx rs h
  obtain ⟨z, c, i, rfl, rfl, nd, hi, q⟩ := h
  obtain ⟨rest, ho⟩ := occ_nodup nd hi
  exact mt_sindex pins s σ H _ _ v us Q I rx rs ⟨_, _, i, rest, rfl, rfl, ho, q⟩
theorem join_tx : ∀ ls : List (List Nat), Str.join ("" : Str) (ls.map tx) = tx ls.flatten
  | [] => rfl
  | [a] => by simp [Str.join]
  | a :: b :: r => by
    have h := join_tx (b :: r)
    rw [List.map_cons] at h
    have e : Str.join ("" : Str) (tx a :: tx b :: r.map tx) = tx a ++ "" ++ Str.join ("" : Str) (tx b :: r.map tx) := rfl
    rw [List.map_cons, List.map_cons, e, h, List.flatten_cons (l := a)]
    have e0 : ("" : Str) = tx [] := rfl
    rw [e0, tx_app, tx_app, List.append_nil]
def rJoinX (K : PySem.W.Frag) : V → List V → Hp → VK → Prop := fun x xs H Q => ∃ (p : Addr) (ls : List (List Nat)), x = .str (tx []) ∧ xs = [.ref p] ∧ SqL K H p (ls.map fun l => V.str (tx l)) ∧ (ls.map List.length).sum ≤ 16777216 ∧ Q (.str (tx ls.flatten)) H
theorem mt_joinX : MtR X "str.join" (rJoinX X.K) := by
  intro pins s σ H x xs v us Q I rx rs h
  obtain ⟨p, ls, rfl, rfl, hp, hz, q⟩ := h
  refine mt_join pins s σ H _ _ v us Q I rx rs ⟨tx [], p, ls.map tx, rfl, rfl, .inl ?_, ?_, ?_⟩
  · rw [List.map_map]; exact hp
  · have : (List.map (fun x => x.length) (List.map tx ls)) = ls.map List.length := by
      rw [List.map_map]; exact List.map_congr_left fun l _ => tx_len l
    rw [this]
    have e0 : (tx []).length = 0 := rfl
    rw [e0]; omega
  · have : Txt.join (tx []) (ls.map tx) = tx ls.flatten := (PySem.StrLaws.glued_eq_join _ _).trans (join_tx ls)
    rw [this]; exact q
end
end Un

namespace Un
open PySem PySem.Spec PyProof.Rows L2
section
variable {K : PySem.W.Frag} {σ : L2.St} {H : Hp} {Q : VK} {D : Ends} {i j : Nat} {v x y : V} {ta tb te : TE} {tr : TA} {t u c : TT} {r : R2} {g : TG} {tu tw : TS} {A B R : Prop}
theorem rd_var (h : σ[i]? = some (some v)) (q : Q v H) : tVar i σ H Q := ⟨v, h, q⟩
theorem rd_c (q : Q v H) : tC v σ H Q := q
theorem rd_op (h : ta σ H fun x H1 => tb σ H1 fun y H2 => r x y H2 Q) : tOp r ta tb σ H Q := h
theorem rd_un {r : V → Hp → VK → Prop} (h : ta σ H fun x H1 => r x H1 Q) : tUn r ta σ H Q := h
theorem rd_I0 {g : Int → Int → V} {a b : Int} (q : Q (g a b) H) : rI0 g (.int a) (.int b) H Q := ⟨a, b, rfl, rfl, q⟩
theorem rd_I {C : Int → Int → Prop} {g : Int → Int → V} {a b : Int} (hc : C a b) (q : Q (g a b) H) : rI C g (.int a) (.int b) H Q := ⟨a, b, rfl, rfl, hc, q⟩
theorem rd_U {g : Int → V} {a : Int} (q : Q (g a) H) : rU g (.int a) H Q := ⟨a, rfl, q⟩
theorem rd_eq (hs : scal x y = true) (q : Q (.bl (decide (x = y))) H) : rEq x y H Q := ⟨hs, q⟩
theorem rd_ne (hs : scal x y = true) (q : Q (.bl (!decide (x = y))) H) : rNe x y H Q := ⟨hs, q⟩
theorem rd_isN (q : Q (.bl (decide (x = .non))) H) : (fun x y H Q => y = V.non ∧ Q (.bl (decide (x = .non))) H : R2) x .non H Q := ⟨rfl, q⟩
theorem rd_test {Q : Bool → Hp → Prop} (h : te σ H fun x H' => ∃ k, x = .bl k ∧ Q k H') : tTest te σ H Q := h
theorem rd_B {Q : Bool → Hp → Prop} (h : te σ H fun x H' => ∃ k, x = .bl k ∧ Q k H') : tB te σ H Q := h
theorem rd_bl {b : Bool} {P : Bool → Prop} (q : P b) : ∃ k, V.bl b = V.bl k ∧ P k := ⟨b, rfl, q⟩
theorem rd_and {Q : Bool → Hp → Prop} (h : t σ H fun c H1 => if c = true then u σ H1 Q else Q false H1) : tAnd t u σ H Q := h
theorem rd_or {Q : Bool → Hp → Prop} (h : t σ H fun c H1 => if c = true then Q true H1 else u σ H1 Q) : tOr t u σ H Q := h
theorem rd_not {Q : Bool → Hp → Prop} (h : t σ H fun c H1 => Q (!c) H1) : tNot t σ H Q := h
theorem rd_andV (h : ta σ H fun x H1 => ∃ c, x = .bl c ∧ if c = true then tb σ H1 Q else Q (.bl false) H1) : tAndV ta tb σ H Q := h
theorem rd_orV (h : ta σ H fun x H1 => ∃ c, x = .bl c ∧ if c = true then Q (.bl true) H1 else tb σ H1 Q) : tOrV ta tb σ H Q := h
theorem rd_notV (h : ta σ H fun x H1 => ∃ c, x = .bl c ∧ Q (.bl (!c)) H1) : tNotV ta σ H Q := h
theorem rd_if (h : t σ H fun c H1 => if c = true then ta σ H1 Q else tb σ H1 Q) : tIf t ta tb σ H Q := h
theorem rd_ite {b : Bool} (h1 : b = true → A) (h2 : b = false → B) : if b = true then A else B := by
  cases b with
  | true => exact h1 rfl
  | false => exact h2 rfl
theorem rd_seq (h : tu { D with nx := tw D } σ H) : tSeq tu tw D σ H := h
theorem rd_asg (h : te σ H fun x H1 => g x σ H1 D.nx) : tAsg te g D σ H := h
theorem rd_gname {Q : L2.St → Hp → Prop} (h : Q (σ.set i (some v)) H) : gName i v σ H Q := h
theorem rd_gsub {to ti : TE} {t : TSet} {Q : L2.St → Hp → Prop} (h : to σ H fun o H1 => ti σ H1 fun i H2 => t o i v H2 fun H3 => Q σ H3) : gSub to ti t v σ H Q := h
theorem rd_gtup {n : Nat} {tt : TGs} {a : Addr} {xs : List V} {Q : L2.St → Hp → Prop} (h : SqT K H a xs) (hn : xs.length = n) (q : tt xs σ H Q) : gTup K n tt (.ref a) σ H Q := ⟨a, xs, rfl, h, hn, q⟩
theorem rd_gcons {t : TG} {u : TGs} {v : V} {vs : List V} {Q : L2.St → Hp → Prop} (h : t v σ H fun σ' H' => u vs σ' H' Q) : gCons t u (v :: vs) σ H Q := ⟨v, vs, rfl, h⟩
theorem rd_gnil {Q : L2.St → Hp → Prop} (h : Q σ H) : gNil [] σ H Q := ⟨rfl, h⟩
theorem rd_ifS (h : c σ H fun b H1 => if b = true then tu D σ H1 else tw D σ H1) : tIfS c tu tw D σ H := h
theorem rd_ret (h : te σ H D.rt) : tRet te D σ H := h
theorem rd_retN (h : D.rt .non H) : tRetN D σ H := h
theorem rd_drop (h : te σ H fun _ H1 => D.nx σ H1) : tDrop te D σ H := h
theorem rd_next (h : D.nx σ H) : tNext D σ H := h
theorem rd_break (h : D.bk σ H) : tBreak D σ H := h
theorem rd_cont (h : D.ct σ H) : tCont D σ H := h
theorem rd_call {sp : Sp} {dvs : List V} {E : XK} (h : tr σ H fun vs H1 => sp (vs ++ dvs) H1 Q E) : tCall sp dvs E tr σ H Q := h
theorem rd_cons {Q : List V → Hp → Prop} (h : te σ H fun x H1 => tr σ H1 fun xs H2 => Q (x :: xs) H2) : tCons te tr σ H Q := h
theorem rd_nil {Q : List V → Hp → Prop} (h : Q [] H) : tNil σ H Q := h
theorem rd_cb {r : List V → Hp → VK → Prop} (h : tr σ H fun vs H1 => r vs H1 Q) : tCB r tr σ H Q := h
theorem rd_bm {T : String} {r : V → List V → Hp → VK → Prop} (h : te σ H fun x H1 => tyV K T x H1 ∧ tr σ H1 fun xs H2 => r x xs H2 Q) : tBM K T r te tr σ H Q := h
theorem rd_bm0 {T : String} {r : V → List V → Hp → VK → Prop} (h : te σ H fun x H1 => tyV K T x H1 ∧ r x [] H1 Q) : tBM0 K T r te σ H Q := h
theorem rd_tyS {z : Str} (q : R) : tyV K "str" (.str z) H ∧ R := ⟨rfl, q⟩
theorem rd_tyL {p : Addr} {xs : List V} (h : SqL K H p xs) (q : R) : tyV K "list" (.ref p) H ∧ R := ⟨.inl ⟨rfl, _, h⟩, q⟩
theorem rd_lst (h : tr σ H fun xs H1 => xs.length ≤ sizeLine ∧ ∀ p, H1 p = none → Q (.ref p) (upd H1 p (.lst xs))) : tLst tr σ H Q := h
theorem rd_tup (h : tr σ H fun xs H1 => xs.length ≤ sizeLine ∧ ∀ p, H1 p = none → Q (.ref p) (upd H1 p (.tup xs))) : tTup tr σ H Q := h
theorem rd_sl {r : V → Option Int → Option Int → Hp → VK → Prop} {tl th : TO} (h : te σ H fun x H1 => tl σ H1 fun l H2 => th σ H2 fun u H3 => r x l u H3 Q) : tSl r te tl th σ H Q := h
theorem rd_part {Q : Option Int → Hp → Prop} (h : te σ H fun x H1 => ∃ i, x = .int i ∧ Q (some i) H1) : tPart te σ H Q := h
theorem rd_some {a : Int} {P : Int → Prop} (q : P a) : ∃ i, V.int a = .int i ∧ P i := ⟨a, rfl, q⟩
theorem rd_strE {z : Str} {P : Str → Prop} (q : P z) : ∃ y, V.str z = .str y ∧ P y := ⟨z, rfl, q⟩
theorem rd_one {a : V} {P : V → Prop} (q : P a) : ∃ x, [a] = [x] ∧ P x := ⟨a, rfl, q⟩
theorem rd_nopart {Q : Option Int → Hp → Prop} (h : Q none H) : tNoPart σ H Q := h
theorem rd_par {ta : TA} (h : ta σ H fun vs H1 => ∃ v w, vs = [v, w] ∧ D.nx ((σ.set i (some v)).set j (some w)) H1) : tPar i j ta D σ H := h
theorem rd_two {P : V → V → Prop} {a b : V} (q : P a b) : ∃ v w, [a, b] = [v, w] ∧ P v w := ⟨a, b, rfl, q⟩
/-- named rules -/
theorem rd_addX {a b : List Nat} (hz : a.length + b.length ≤ sizeLine) (q : Q (.str (tx (a ++ b))) H) : rAddX (.str (tx a)) (.str (tx b)) H Q := ⟨a, b, rfl, rfl, hz, q⟩
theorem rd_mulX {l : List Nat} {n : Int} (h1 : -100000 ≤ n) (h2 : n ≤ 100000) (h3 : l.length * n.toNat ≤ 100000) (q : Q (.str (tx (reps n.toNat l))) H) : rMulX (.str (tx l)) (.int n) H Q := ⟨l, n, rfl, rfl, h1, h2, h3, q⟩
theorem rd_inX {neg : Bool} {n : Nat} {z : List Nat} (q : Q (.bl (if neg then !decide (n ∈ z) else decide (n ∈ z))) H) : rInX neg (.str (tx [n])) (.str (tx z)) H Q := ⟨n, z, rfl, rfl, q⟩
theorem rd_ltX {a b : List Nat} (q : Q (.bl (decide (a < b))) H) : rLtX (.str (tx a)) (.str (tx b)) H Q := ⟨a, b, rfl, rfl, q⟩
theorem rd_lenX {l : List Nat} (hz : l.length ≤ sizeLine) (q : Q (.int (l.length : Nat)) H) : rLenX [.str (tx l)] H Q := ⟨l, rfl, hz, q⟩
theorem rd_ixX {l : List Nat} {a : Int} {n : Nat} (hz : l.length ≤ sizeLine) (h : atI l a = some n) (q : Q (.str (tx [n])) H) : rIxX (.str (tx l)) (.int a) H Q := ⟨l, a, n, rfl, rfl, hz, h, q⟩
theorem rd_slX {l : List Nat} {lo hi : Option Int} (hz : l.length ≤ sizeLine) (q : Q (.str (tx (cutL l lo hi))) H) : rSlX (.str (tx l)) lo hi H Q := ⟨l, rfl, hz, q⟩
theorem rd_indexX {z : List Nat} {n k : Nat} (nd : z.Nodup) (h : z[k]? = some n) (q : Q (.int (k : Nat)) H) : rIndexX (.str (tx z)) [.str (tx [n])] H Q := ⟨z, n, k, rfl, rfl, nd, h, q⟩
theorem rd_repr (hx : scalR x) (q : Q (.str (reprS x)) H) : rRepr [x] H Q := ⟨x, rfl, hx, q⟩
theorem rd_ixL {p : Addr} {xs : List V} {a : Int} (h : SqL K H p xs) (ha : atI xs a = some v) (q : Q v H) : rIxL K (.ref p) (.int a) H Q := ⟨p, xs, a, v, rfl, rfl, h, ha, q⟩
theorem rd_ixT {p : Addr} {xs : List V} {a : Int} (h : SqT K H p xs) (ha : atI xs a = some v) (q : Q v H) : rIxT K (.ref p) (.int a) H Q := ⟨p, xs, a, v, rfl, rfl, h, ha, q⟩
theorem rd_setL {p : Addr} {xs : List V} {a : Int} {n : Nat} {Q : Hp → Prop} (h : H p = some (.lst xs)) (ha : ixN xs.length a = some n) (q : Q (upd H p (.lst (xs.set n v)))) : rSetL (.ref p) (.int a) v H Q := ⟨p, xs, a, n, rfl, rfl, h, ha, q⟩
theorem rd_app {p : Addr} {xs : List V} (h : H p = some (.lst xs)) (hz : xs.length < sizeLine) (q : Q .non (upd H p (.lst (xs ++ [v])))) : rAppend (.ref p) [v] H Q := ⟨p, xs, v, rfl, rfl, h, hz, q⟩
theorem rd_pop {p : Addr} {xs : List V} (h : H p = some (.lst (xs ++ [v]))) (q : Q v (upd H p (.lst xs))) : rPop (.ref p) [] H Q := ⟨p, xs ++ [v], v, rfl, rfl, h, by simp, by rw [List.dropLast_concat]; exact q⟩
end
/-! ### heaps: what stays when two objects D and L change -/
def Keep (D L : Addr) (H H' : Hp) : Prop := ∀ a o, H a = some o → a ≠ D → a ≠ L → H' a = some o
theorem Keep.refl {D L : Addr} (H : Hp) : Keep D L H H := fun _ _ h _ _ => h
theorem Keep.trans {D L : Addr} {H H1 H2 : Hp} (a : Keep D L H H1) (b : Keep D L H1 H2) : Keep D L H H2 := fun c o h h1 h2 => b c o (a c o h h1 h2) h1 h2
theorem Keep.new {D L p : Addr} {H : Hp} {o : HO} (h : H p = none) : Keep D L H (upd H p o) := fun a u e _ _ => by
  rw [upd_ne (ne_of_none e h)]
  exact e
theorem Keep.own {D L p : Addr} {H : Hp} {o : HO} (h : p = D ∨ p = L) : Keep D L H (upd H p o) := fun a u e h1 h2 => by
  rw [upd_ne (by rcases h with h | h <;> (rw [h]; assumption))]
  exact e
theorem Keep.of_same {D L : Addr} {H H' : Hp} (h : Same H H') : Keep D L H H' := fun a o e _ _ => h a o e
theorem same_upd {H : Hp} {p : Addr} {o : HO} (h : H p = none) : Same H (upd H p o) := fun b x e => by
  rw [upd_ne (ne_of_none e h)]
  exact e
theorem mulW_of {i j : Int} (h1 : i.natAbs < 2 ^ 250) (h2 : j.natAbs < 2 ^ 250) : CMulW i j := wide_mul h1 h2 (by decide) (by decide) (by decide)

/-! ### flat lists as data -/
theorem dpAll_ints {K : PySem.W.Frag} {H : Hp} : ∀ ns : List Int, DpAll K H (ns.map V.int) (ns.map PyData.int)
  | [] => .nil
  | n :: r => .cons (.int n) (dpAll_ints r)
theorem canLay_ints : ∀ ns : List Int, PyData.canLayAll0 (ns.map PyData.int) = true
  | [] => by simp [PyData.canLayAll0]
  | n :: r => by
    have h := canLay_ints r
    simp [PyData.canLayAll0, PyData.canLay0, h]
theorem depth_ints : ∀ ns : List Int, PyData.depthAll (ns.map PyData.int) = 0
  | [] => by simp [PyData.depthAll]
  | n :: r => by
    have h := depth_ints r
    simp [PyData.depthAll, PyData.depth, h]
theorem shaped_ints (ns : List Int) : SeqAt.shaped (.list (ns.map PyData.int)) = true := by
  unfold SeqAt.shaped
  simp [PyData.canLay0, canLay_ints, PyData.depth, depth_ints]
theorem eqv_nil_list (ds : List PyData) : PyData.eqv (.list ds) (.list []) = ds.isEmpty := by
  cases ds <;> simp [PyData.eqv, PyData.eqvAll]
section
variable {K : PySem.W.Frag} {H : Hp} {Q : VK}
theorem rd_neNil {p e : Addr} {ns : List Int} (h1 : SqL K H p (ns.map V.int)) (h2 : SqL K H e []) (q : Q (.bl (!ns.isEmpty)) H) : rNeD K (.ref p) (.ref e) H Q :=
  ⟨.list (ns.map PyData.int), .list [], .lst h1 (dpAll_ints ns), .lst h2 .nil, shaped_ints ns, shaped_ints [], by
    rw [eqv_nil_list]
    cases ns <;> exact q⟩
theorem rd_int1 {i : Int} {x : List Int} (q : Q (.int i) H) : (∃ j, [V.int i] = [V.int j] ∧ Q (.int j) H) ∨ ∃ k, [V.int i] = [V.bl k] ∧ Q (.int (if k = true then 1 else 0)) H := .inl ⟨i, rfl, q⟩
end
theorem atI_last1 {xs : List V} {v : V} (h : xs.getLast? = some v) : atI xs (-1) = some v := by
  obtain ⟨ys, rfl⟩ : ∃ ys, xs = ys ++ [v] := by
    cases hx : xs with
    | nil => rw [hx] at h; simp at h
    | cons a r =>
      have := List.dropLast_concat_getLast (l := xs) (by rw [hx]; simp)
      rw [List.getLast?_eq_getLast (by rw [hx]; simp)] at h
      exact ⟨xs.dropLast, by rw [← hx, ← Option.some.inj h, this]⟩
  exact atI_last _ _

/-! ### built-ins under names -/
def rIntI : List V → Hp → VK → Prop := fun xs H Q => ∃ i, xs = [.int i] ∧ Q (.int i) H
def rIntB : List V → Hp → VK → Prop := fun xs H Q => ∃ b : Bool, xs = [.bl b] ∧ Q (.int (if b then 1 else 0)) H
def rStrS : List V → Hp → VK → Prop := fun xs H Q => ∃ a, xs = [.str a] ∧ Q (.str a) H
def rListX : List V → Hp → VK → Prop := fun xs H Q => ∃ l : List Nat, xs = [.str (tx l)] ∧ l.length ≤ sizeLine ∧ ∀ p, H p = none → Q (.ref p) (upd H p (.lst (sgs l)))
def rDivmod : List V → Hp → VK → Prop := fun xs H Q => ∃ i j, xs = [.int i, .int j] ∧ 0 < j ∧ j.natAbs.log2 < 9000 ∧ ∀ p, H p = none → Q (.ref p) (upd H p (.tup [.int (i / j), .int (i % j)]))
def rLenQ (K : PySem.W.Frag) : List V → Hp → VK → Prop := fun xs H Q => ∃ p ys, xs = [.ref p] ∧ (SqL K H p ys ∨ SqT K H p ys) ∧ Q (.int (ys.length : Nat)) H
def rSplitW (K : PySem.W.Frag) : List V → Hp → VK → Prop := fun xs H Q => ∃ p ys, xs = [.ref p] ∧ (SqL K H p ys ∨ SqT K H p ys) ∧ ∀ l, H l = none → Q (.ref l) (upd H l (.lst ys))
section
variable {X : Cx}
theorem call_intI : CallR X (.type "int") rIntI := fun pins s σ H xs us Q I r h => call_int1 pins s σ H xs us Q I r (.inl h)
theorem call_intB : CallR X (.type "int") rIntB := fun pins s σ H xs us Q I r h => call_int1 pins s σ H xs us Q I r (.inr h)
theorem call_strS : CallR X (.type "str") rStrS := SkE.call_str_str
theorem call_listX (hc : X.calm = true) : CallR X (.type "list") rListX := call_list_strR hc
theorem call_lenQ : CallR X (.builtin "len") (rLenQ X.K) := call_len_seq
theorem call_listQ : CallR X (.type "list") (rSplitW X.K) := call_list_of
end
section
variable {K : PySem.W.Frag} {H : Hp} {Q : VK}
theorem rd_intI {i : Int} (q : Q (.int i) H) : rIntI [.int i] H Q := ⟨i, rfl, q⟩
theorem rd_intB {b : Bool} (q : Q (.int (if b then 1 else 0)) H) : rIntB [.bl b] H Q := ⟨b, rfl, q⟩
theorem rd_strS {a : Str} (q : Q (.str a) H) : rStrS [.str a] H Q := ⟨a, rfl, q⟩
theorem rd_listX {l : List Nat} (hl : l.length ≤ sizeLine) (q : ∀ p, H p = none → Q (.ref p) (upd H p (.lst (sgs l)))) : rListX [.str (tx l)] H Q := ⟨l, rfl, hl, q⟩
theorem rd_lenL {p : Addr} {ys : List V} (h : SqL K H p ys) (q : Q (.int (ys.length : Nat)) H) : rLenQ K [.ref p] H Q := ⟨p, ys, rfl, .inl h, q⟩
theorem rd_lenT {p : Addr} {ys : List V} (h : SqT K H p ys) (q : Q (.int (ys.length : Nat)) H) : rLenQ K [.ref p] H Q := ⟨p, ys, rfl, .inr h, q⟩
theorem rd_all {p : Addr} {bs : List Bool} (h : SqL K H p (bs.map V.bl)) (q : Q (.bl (bs.all id)) H) : rAll K [.ref p] H Q := ⟨p, bs, rfl, h, q⟩
theorem rd_sortS {p : Addr} {zs : List Str} (h : SqL K H p (zs.map V.str)) (hl : zs.length < 64) (q : ∀ (ys : List Str) (p : Addr), ys.Perm zs → sortedS ys = true → H p = none → Q (.ref p) (upd H p (.lst (ys.map V.str)))) : rSortedS K [.ref p] H Q := ⟨p, zs, rfl, h, hl, q⟩
theorem rd_popAt {p : Addr} {xs : List V} {i : Nat} {y : V} (h : H p = some (.lst xs)) (hi : i < 2 ^ 62) (hy : xs[i]? = some y) (q : Q y (upd H p (.lst (xs.eraseIdx i)))) : rPopAt (.ref p) [.int (i : Nat)] H Q := by
  have hl : i < xs.length := (List.getElem?_eq_some_iff.mp hy).1
  refine ⟨p, xs, (i : Int), i, y, rfl, rfl, h, by omega, by omega, ?_, hy, q⟩
  unfold seqIndex?
  simp
  omega
theorem rd_joinX {p : Addr} {ls : List (List Nat)} (h : SqL K H p (ls.map fun l => V.str (tx l))) (hz : (ls.map List.length).sum ≤ 16777216) (q : Q (.str (tx ls.flatten)) H) : rJoinX K (.str (tx [])) [.ref p] H Q := ⟨p, ls, rfl, rfl, h, hz, q⟩
theorem rd_slL {p : Addr} {xs : List V} {lo hi : Option Int} (h : SqL K H p xs) (q : ∀ n, H n = none → Q (.ref n) (upd H n (.lst (cutV xs lo hi)))) : rSlL K (.ref p) lo hi H Q := ⟨p, xs, rfl, h, q⟩
theorem rd_revL {σ : L2.St} {te : TE} (h : te σ H fun x H1 => ∃ a xs, x = .ref a ∧ SqL K H1 a xs ∧ ∀ p, H1 p = none → Q (.ref p) (upd H1 p (.lst xs.reverse))) : tRevL K te σ H Q := h
end

/-! ### comprehensions and loops -/
theorem same_mut {H H' : Hp} {p : Addr} {o : HO} (e : Same H H') (h : H p = none) : Same H (upd H' p o) := fun a u ha => by
  rw [upd_ne (ne_of_none ha h)]
  exact e a u ha
theorem Keep.mut {D L p : Addr} {H H' : Hp} {o : HO} (e : Keep D L H H') (h : H p = none) : Keep D L H (upd H' p o) := fun a u ha h1 h2 => by
  rw [upd_ne (ne_of_none ha h)]
  exact e a u ha h1 h2
section
variable {K : PySem.W.Frag} {σ : L2.St} {H : Hp} {Q : VK} {D : Ends} {tl te : TE} {tt : TT} {g : TG} {tb : TS} {wi : TI} {vs : List Nat} {R : It → Hp → Prop}
theorem rd_lc (h : wi σ H fun J H1 => ∀ D, H1 D = none → ∃ W : Nat → Nat → Hp → Prop, (∃ m, W 0 m (upd H1 D (.lst []))) ∧ ∀ i m H, W i m H →
  (J.stop i H ∧ Q (.ref D) H) ∨ (J.go i H ∧ ∃ Nx : Hp → Prop, (∀ H', Nx H' → ∃ m', m' < m ∧ W (i + 1) m' H') ∧ ∀ x H', J.yld i H x H' → g x (wipe σ vs) H' fun σ2 H2 => wipe σ2 vs = wipe σ vs ∧ tt σ2 H2 fun b H3 =>
    if b = true then te σ2 H3 fun y H4 => ∃ acc, H4 D = some (.lst acc) ∧ acc.length < sizeLine ∧ Nx (upd H4 D (.lst (acc ++ [y]))) else Nx H3)) : tLc wi g tt te vs σ H Q := h
theorem rd_iList (h : tl σ H fun x H1 => ∃ a, x = .ref a ∧ (∃ xs, SqL K H1 a xs) ∧ R (Itl K a) H1) : iList K tl σ H R := h
theorem rd_iStr (h : tl σ H fun v H1 => ∃ x, v = .str x ∧ R (Its x) H1) : iStr tl σ H R := h
theorem rd_iTup (h : tl σ H fun x H1 => ∃ a, x = .ref a ∧ (∃ xs, SqT K H1 a xs) ∧ R (Itt K a) H1) : iTup K tl σ H R := h
theorem rd_for (h : wi σ H fun J H1 => ∃ W : Nat → Nat → L2.St → Hp → Prop, (∃ m, W 0 m σ H1) ∧ ∀ i m σ H, W i m σ H →
  (J.stop i H ∧ D.nx σ H) ∨ (J.go i H ∧ ∃ N : L2.St → Hp → Prop, (∀ σ' H', N σ' H' → ∃ m', m' < m ∧ W (i + 1) m' σ' H') ∧ ∀ x H', J.yld i H x H' → g x σ H' fun σ2 H2 => tb { D with nx := N, ct := N, bk := D.nx } σ2 H2)) : tFor wi g tb D σ H := h
theorem rd_rng1 {ta : TA} (h : ta σ H fun vs H1 => ∃ j : Int, vs = [.int j] ∧ -(2 ^ 62) ≤ j ∧ j < 2 ^ 62 ∧ R (Itr 0 j.toNat) H1) : iRng1 ta σ H R := h
theorem rd_rng2 {ta : TA} (h : ta σ H fun vs H1 => ∃ i j : Int, vs = [.int i, .int j] ∧ (-(2 ^ 62) ≤ i ∧ i < 2 ^ 62 ∧ -(2 ^ 62) ≤ j ∧ j < 2 ^ 62) ∧ R (Itr i (j - i).toNat) H1) : iRng2 ta σ H R := h
theorem rd_yes {Q : Bool → Hp → Prop} (h : Q true H) : tYes σ H Q := h
theorem rd_cut {t u : TS} (Mid : L2.St → Hp → Prop) (h : t { D with nx := Mid } σ H) (k : ∀ σ' H', Mid σ' H' → u D σ' H') : Evl.tCut t u D σ H := ⟨Mid, h, k⟩
end
theorem cutV_ints (ns : List Int) (lo hi : Option Int) : ∃ zs : List Int, cutV (ns.map V.int) lo hi = zs.map V.int ∧ zs.length ≤ ns.length := by
  refine ⟨(ns.drop (HT.sIx (ns.map V.int).length 0 lo)).take (HT.sIx (ns.map V.int).length (ns.map V.int).length hi - HT.sIx (ns.map V.int).length 0 lo), ?_, ?_⟩
  · unfold cutV
    rw [List.map_take, List.map_drop]
  · rw [List.length_take, List.length_drop]
    omega
theorem take_snoc {α β : Type} {xs : List α} {i : Nat} {x : α} (f : α → β) (h : xs[i]? = some x) : (xs.take (i + 1)).map f = (xs.take i).map f ++ [f x] := by
  rw [List.take_add_one, h, List.map_append]
  rfl
theorem get_map {α : Type} {xs : List α} {f : α → V} {i : Nat} {v : V} (h : (xs.map f)[i]? = some v) : ∃ x, xs[i]? = some x ∧ v = f x := by
  rw [List.getElem?_map] at h
  cases e : xs[i]? with
  | none => rw [e] at h; cases h
  | some x => rw [e] at h; exact ⟨x, rfl, (Option.some.inj h).symm⟩

/-! ### a sequence that is a list or a text -/
def rLenA (K : PySem.W.Frag) : List V → Hp → VK → Prop := fun xs H Q => rLenQ K xs H Q ∨ rLenX xs H Q
def rIxA (K : PySem.W.Frag) : R2 := fun x y H Q => rIxL K x y H Q ∨ rIxX x y H Q
theorem sgs_len (l : List Nat) : (sgs l).length = l.length := by simp [sgs]
section
variable {X : Cx}
theorem call_lenA : CallR X (.builtin "len") (rLenA X.K) := fun pins s σ H xs us Q I r h => h.elim (call_lenQ pins s σ H xs us Q I r) (call_lenX pins s σ H xs us Q I r)
theorem ix_any : IxR X (rIxA X.K) := ix_list.or ix_strX
end
section
variable {K : PySem.W.Frag} {H : Hp} {Q : VK} {v x : V} {ys : List V} {j : Nat}
theorem rd_lenA (h : (∃ a, v = .ref a ∧ SqL K H a ys) ∨ ∃ l, v = .str (tx l) ∧ ys = sgs l ∧ l.length ≤ sizeLine) (q : Q (.int (ys.length : Nat)) H) : rLenA K [v] H Q := by
  rcases h with ⟨a, rfl, h⟩ | ⟨l, rfl, rfl, h⟩
  · exact .inl ⟨a, ys, rfl, .inl h, q⟩
  · exact .inr ⟨l, rfl, h, by rw [sgs_len] at q; exact q⟩
theorem rd_ixA (h : (∃ a, v = .ref a ∧ SqL K H a ys) ∨ ∃ l, v = .str (tx l) ∧ ys = sgs l ∧ l.length ≤ sizeLine) (hj : ys[j]? = some x) (q : Q x H) : rIxA K v (.int (j : Nat)) H Q := by
  rcases h with ⟨a, rfl, h⟩ | ⟨l, rfl, rfl, h⟩
  · exact .inl ⟨a, ys, _, x, rfl, rfl, h, atI_nat hj, q⟩
  · obtain ⟨c, hc, rfl⟩ := get_map hj
    exact .inr ⟨l, _, c, rfl, rfl, h, atI_nat hc, q⟩
end

/-! ### sorted sgs -/
theorem perm_map {α β : Type} {f : α → β} : ∀ {ys : List β} {xs : List α}, ys.Perm (xs.map f) → ∃ zs : List α, zs.Perm xs ∧ ys = zs.map f := by
  intro ys xs h
  generalize hz : xs.map f = zs at h
  induction h generalizing xs with
  | nil => exact ⟨xs, List.Perm.refl _, hz.symm⟩
  | cons x h ih =>
    cases xs with
    | nil => simp at hz
    | cons a r =>
      rw [List.map_cons] at hz
      injection hz with h1 h2
      obtain ⟨zs, p, e⟩ := ih h2
      exact ⟨a :: zs, p.cons a, by rw [List.map_cons, h1, e]⟩
  | swap x y l =>
    cases xs with
    | nil => simp at hz
    | cons a r =>
      cases r with
      | nil => simp at hz
      | cons b t =>
        rw [List.map_cons, List.map_cons] at hz
        injection hz with h1 h2
        injection h2 with h2 h3
        exact ⟨b :: a :: t, List.Perm.swap _ _ _, by rw [List.map_cons, List.map_cons, h1, h2, h3]⟩
  | trans h1 h2 ih1 ih2 =>
    obtain ⟨zs, p, e⟩ := ih2 hz
    obtain ⟨ws, p2, e2⟩ := ih1 e.symm
    exact ⟨ws, p2.trans p, e2⟩
theorem ltCps_one (a b : Nat) : ltCps [a] [b] = decide (a < b) := by
  first | rfl | simp [ltCps]
theorem rising_signs : ∀ (ks : List Nat) (p : Nat), risingS (tx [p]) (ks.map fun c => tx [c]) = true → (p :: ks).Pairwise (· ≤ ·)
  | [], p, _ => by simp
  | k :: r, p, h => by
    rw [List.map_cons] at h
    unfold risingS at h
    rw [Bool.and_eq_true, tx_cps, tx_cps, ltCps_one] at h
    have h1 : p ≤ k := by simpa using h.1
    have h2 := rising_signs r k h.2
    refine List.Pairwise.cons (fun x hx => ?_) h2
    rcases List.mem_cons.mp hx with e | hx
    · omega
    · have := (List.pairwise_cons.mp h2).1 x hx
      omega
theorem sorted_signs {fs : List Nat} {ys : List Str} (hp : ys.Perm (fs.map fun c => tx [c])) (hs : sortedS ys = true) (nd : fs.Nodup) : ∃ ks : List Nat, ys = (ks.map fun c => tx [c]) ∧ ks.Perm fs ∧ ks.Pairwise (· < ·) := by
  obtain ⟨ks, p, rfl⟩ := perm_map hp
  refine ⟨ks, rfl, p, ?_⟩
  have hle : ks.Pairwise (· ≤ ·) := by
    cases ks with
    | nil => exact List.Pairwise.nil
    | cons a r => exact rising_signs r a hs
  have hne : ks.Nodup := p.nodup_iff.mpr nd
  exact (hle.and hne).imp fun h => by omega
theorem flat_ones : ∀ ks : List Nat, (ks.map fun c => [c]).flatten = ks
  | [] => rfl
  | k :: r => by rw [List.map_cons, List.flatten_cons, flat_ones r]; rfl
theorem eraseIdx_perm {α : Type} : ∀ {xs : List α} {i : Nat} {x : α}, xs[i]? = some x → (x :: xs.eraseIdx i).Perm xs
  | [], _, _, h => by simp at h
  | a :: r, 0, x, h => by
    have : a = x := by simpa using h
    subst this
    exact List.Perm.refl _
  | a :: r, i + 1, x, h => by
    have ih := eraseIdx_perm (xs := r) (i := i) (x := x) (by simpa using h)
    rw [List.eraseIdx_cons_succ]
    exact (List.Perm.swap _ _ _).trans (ih.cons a)
theorem sgs_erase (l : List Nat) (i : Nat) : (sgs l).eraseIdx i = sgs (l.eraseIdx i) := by
  unfold sgs
  induction l generalizing i with
  | nil => simp
  | cons a r ih =>
    cases i with
    | zero => simp
    | succ i => simp [ih]

/-! ### walks over a text -/
theorem lc_text {l : List Nat} {g : TG} {tt : TT} {te : TE} {vs : List Nat} {σ : L2.St} {H1 : Hp} {D : Addr} {Qd : Hp → Prop} (Pv : Nat → Hp → Prop) (h0 : Pv 0 (upd H1 D (.lst [])))
    (hs : ∀ (i c : Nat) H, l[i]? = some c → Pv i H → g (.str (tx [c])) (wipe σ vs) H fun σ2 H2 => wipe σ2 vs = wipe σ vs ∧ tt σ2 H2 fun b H3 =>
      if b = true then te σ2 H3 fun y H4 => ∃ acc, H4 D = some (.lst acc) ∧ acc.length < sizeLine ∧ Pv (i + 1) (upd H4 D (.lst (acc ++ [y]))) else Pv (i + 1) H3) (hd : ∀ H, Pv l.length H → Qd H) :
    ∃ W : Nat → Nat → Hp → Prop, (∃ m, W 0 m (upd H1 D (.lst []))) ∧ ∀ i m H, W i m H →
      ((Its (tx l)).stop i H ∧ Qd H) ∨ ((Its (tx l)).go i H ∧ ∃ Nx : Hp → Prop, (∀ H', Nx H' → ∃ m', m' < m ∧ W (i + 1) m' H') ∧ ∀ x H', (Its (tx l)).yld i H x H' → g x (wipe σ vs) H' fun σ2 H2 => wipe σ2 vs = wipe σ vs ∧ tt σ2 H2 fun b H3 =>
        if b = true then te σ2 H3 fun y H4 => ∃ acc, H4 D = some (.lst acc) ∧ acc.length < sizeLine ∧ Nx (upd H4 D (.lst (acc ++ [y]))) else Nx H3) := by
  have hsz : (tx l).cps.size = l.length := by simp [tx]
  refine ⟨fun i m H => m + i = l.length ∧ Pv i H, ⟨l.length, rfl, h0⟩, fun i m H h => ?_⟩
  obtain ⟨hm, p⟩ := h
  by_cases hi : i < l.length
  · refine .inr ⟨show i < (tx l).cps.size by rw [hsz]; exact hi, Pv (i + 1), fun H' p' => ⟨m - 1, by omega, by omega, p'⟩, fun x H' hy => ?_⟩
    obtain ⟨rfl, c, hc, rfl⟩ := hy
    have hc2 : l[i]? = some c := by simpa [tx] using hc
    exact hs i c _ hc2 p
  · have e : i = l.length := by omega
    subst e
    exact .inl ⟨show (tx l).cps.size ≤ l.length by rw [hsz]; exact Nat.le_refl _, hd H p⟩
theorem for_text {l : List Nat} {g : TG} {tb : TS} {D : Ends} {σ : L2.St} {H : Hp} (Pv : Nat → L2.St → Hp → Prop) (h0 : Pv 0 σ H)
    (hs : ∀ (i c : Nat) σ H, l[i]? = some c → Pv i σ H → g (.str (tx [c])) σ H fun σ2 H2 => tb { D with nx := Pv (i + 1), ct := Pv (i + 1), bk := D.nx } σ2 H2) (hd : ∀ σ H, Pv l.length σ H → D.nx σ H) :
    ∃ W : Nat → Nat → L2.St → Hp → Prop, (∃ m, W 0 m σ H) ∧ ∀ i m σ H, W i m σ H →
      ((Its (tx l)).stop i H ∧ D.nx σ H) ∨ ((Its (tx l)).go i H ∧ ∃ N : L2.St → Hp → Prop, (∀ σ' H', N σ' H' → ∃ m', m' < m ∧ W (i + 1) m' σ' H') ∧ ∀ x H', (Its (tx l)).yld i H x H' → g x σ H' fun σ2 H2 => tb { D with nx := N, ct := N, bk := D.nx } σ2 H2) := by
  have hsz : (tx l).cps.size = l.length := by simp [tx]
  refine ⟨fun i m σ H => m + i = l.length ∧ Pv i σ H, ⟨l.length, rfl, h0⟩, fun i m σ H h => ?_⟩
  obtain ⟨hm, p⟩ := h
  by_cases hi : i < l.length
  · refine .inr ⟨show i < (tx l).cps.size by rw [hsz]; exact hi, Pv (i + 1), fun σ' H' p' => ⟨m - 1, by omega, by omega, p'⟩, fun x H' hy => ?_⟩
    obtain ⟨rfl, c, hc, rfl⟩ := hy
    have hc2 : l[i]? = some c := by simpa [tx] using hc
    exact hs i c _ _ hc2 p
  · have e : i = l.length := by omega
    subst e
    exact .inl ⟨show (tx l).cps.size ≤ l.length by rw [hsz]; exact Nat.le_refl _, hd σ H p⟩
def rDivm : List V → Hp → VK → Prop := fun xs H Q => ∃ i j, xs = [.int i, .int j] ∧ 0 < j ∧ j < 1000000000 ∧ ∀ p, H p = none → Q (.ref p) (upd H p (.tup [.int (i / j), .int (i % j)]))
theorem call_divm {X : Cx} : CallR X (.builtin "divmod") rDivm := fun pins s σ H xs us Q I r h => by
  obtain ⟨i, j, e, h1, h2, q⟩ := h
  exact call_divmod pins s σ H xs us Q I r ⟨i, j, e, ⟨h1, by omega⟩, q⟩
theorem rd_divm {H : Hp} {Q : VK} {i j : Int} (h1 : 0 < j) (h2 : j < 1000000000) (q : ∀ p, H p = none → Q (.ref p) (upd H p (.tup [.int (i / j), .int (i % j)]))) : rDivm [.int i, .int j] H Q := ⟨i, j, rfl, h1, h2, q⟩
theorem rd_isiS {K : PySem.W.Frag} {H : Hp} {Q : VK} {z : Str} (q : Q (.bl true) H) : rIsi K [.str z, .ty "str"] H Q := ⟨_, _, _, _, true, rfl, .ty "str", .base (.str z), kit_ty (by decide +kernel), q⟩

theorem scal_int {i : Int} (h : i.natAbs < 2 ^ 250) : scalR (.int i) := Nat.lt_trans (PySem.Flt.log2_lt_of (by decide) h) (by decide)
theorem cut_zero (l : List Nat) (k : Nat) : cutL l none (some (k : Int)) = l.take k := by
  unfold cutL
  rw [HT.sIx_none, HT.sIx_nat, List.drop_zero, Nat.sub_zero]
  rcases Nat.le_total k l.length with h | h
  · rw [Nat.min_eq_left h]
  · rw [Nat.min_eq_right h, List.take_length, List.take_of_length_le h]
theorem mem_reps {n : Nat} {l : List Nat} {c : Nat} (h : c ∈ reps n l) : c ∈ l := by
  unfold reps at h
  rw [List.mem_flatten] at h
  obtain ⟨m, hm, hc⟩ := h
  rw [(List.mem_replicate.mp hm).2] at hc
  exact hc
end Un

namespace Un
open PySem PySem.Spec PyProof.Rows L2
/-! ### rstrip of one sign, startswith, order of texts -/
theorem tail_cut (g : Nat) : ∀ t : List Nat, ∃ p m, t = p ++ List.replicate m g ∧ ∀ c, p.getLast? = some c → c ≠ g := by
  intro t
  induction ht : t.length generalizing t with
  | zero =>
    have : t = [] := List.length_eq_zero_iff.mp ht
    subst this
    exact ⟨[], 0, rfl, fun c h => by cases h⟩
  | succ n ih =>
    have hne : t ≠ [] := by
      rintro rfl
      cases ht
    obtain ⟨q, d, rfl⟩ : ∃ q d, t = q ++ [d] := ⟨t.dropLast, t.getLast hne, (List.dropLast_concat_getLast hne).symm⟩
    by_cases hd : d = g
    · subst hd
      obtain ⟨p, m, e, h⟩ := ih q (by simpa using ht)
      exact ⟨p, m + 1, by rw [e, List.append_assoc, ← List.replicate_succ'], h⟩
    · exact ⟨q ++ [d], 0, by simp, fun c hc => by
        rw [List.getLast?_concat] at hc
        rw [← Option.some.inj hc]
        exact hd⟩
theorem takeWhile_rep (g : Nat) (f : Nat → Bool) (hf : ∀ c, f c = (c == g)) : ∀ (m : Nat) (r : List Nat), (∀ c, r.head? = some c → c ≠ g) → (List.replicate m g ++ r).takeWhile f = List.replicate m g
  | 0, [], _ => rfl
  | 0, c :: r, h => by
    have h1 := h c rfl
    show (c :: r).takeWhile f = []
    rw [List.takeWhile_cons, hf, if_neg (by simpa using h1)]
  | m + 1, r, h => by
    rw [List.replicate_succ, List.cons_append, List.takeWhile_cons, hf, if_pos (by simp), takeWhile_rep g f hf m r h]
theorem rstrip_tx {p : List Nat} {m g : Nat} (h : ∀ c, p.getLast? = some c → c ≠ g) : Txt.rstripChars (tx (p ++ List.replicate m g)) (tx [g]) = tx p := by
  have hlo : stripLo (tx [g]).cps.contains false (tx (p ++ List.replicate m g)) = 0 := rfl
  have hw : ((tx (p ++ List.replicate m g)).cps.toList.drop 0).reverse.takeWhile (tx [g]).cps.contains = List.replicate m g := by
    rw [tx_cps, List.drop_zero, List.reverse_append, List.reverse_replicate]
    refine takeWhile_rep g _ (fun c => ?_) m p.reverse (fun c hc => h c ?_)
    · show (#[g] : Array Nat).contains c = (c == g)
      simp [Array.contains]
    · rw [List.head?_reverse] at hc
      exact hc
  have hhi : stripHi (tx [g]).cps.contains true (tx (p ++ List.replicate m g)) 0 = p.length := by
    unfold stripHi
    rw [if_pos rfl, hw, tx_len, List.length_append, List.length_replicate]
    omega
  unfold Txt.rstripChars Txt.stripBy stripSame
  rw [hlo, hhi, tx_len, List.length_append, List.length_replicate]
  by_cases hm : m = 0
  · subst hm
    simp
  · rw [if_neg (by simp; omega)]
    unfold stripped
    rw [hlo, hhi]
    unfold Builtin.Str.strSub tx
    simp
def rRstX : V → List V → Hp → VK → Prop := fun x xs H Q => ∃ (p : List Nat) (m g : Nat), x = .str (tx (p ++ List.replicate m g)) ∧ xs = [.str (tx [g])] ∧ (∀ c, p.getLast? = some c → c ≠ g) ∧ p.length + m ≤ sizeLine ∧ Q (.str (tx p)) H
section
variable {X : Cx}
theorem mt_rstX : MtR X "str.rstrip" rRstX := by
  intro pins s σ H x xs v us Q I rx rs h
  obtain ⟨p, m, g, rfl, rfl, hp, hz, q⟩ := h
  exact mt_rstripChars pins s σ H _ _ v us Q I rx rs ⟨_, _, rfl, rfl, by rw [tx_len, List.length_append, List.length_replicate]; exact hz, by rw [rstrip_tx hp]; exact q⟩
theorem starts_tx (a b : List Nat) : Txt.startswith (tx a) (tx b) = b.isPrefixOf a := by
  unfold Txt.startswith Builtin.Str.subAt
  rw [tx_len, tx_len, Nat.zero_add, Bool.eq_iff_iff, List.isPrefixOf_iff_prefix, Bool.and_eq_true, decide_eq_true_eq, beq_iff_eq]
  have e : (tx a).cps.extract 0 b.length = (tx b).cps ↔ a.take b.length = b := by
    rw [← Array.toList_inj]
    simp [tx]
  rw [e]
  constructor
  · rintro ⟨h1, h2⟩
    rw [← h2]
    exact List.take_prefix _ _
  · rintro ⟨r, rfl⟩
    simp
def rStartX : V → List V → Hp → VK → Prop := fun x xs H Q => ∃ a b : List Nat, x = .str (tx a) ∧ xs = [.str (tx b)] ∧ Q (.bl (b.isPrefixOf a)) H
theorem mt_startX : MtR X "str.startswith" rStartX := by
  intro pins s σ H x xs v us Q I rx rs h
  obtain ⟨a, b, rfl, rfl, q⟩ := h
  exact mt_startswith pins s σ H _ _ v us Q I rx rs ⟨_, _, rfl, rfl, by rw [starts_tx]; exact q⟩
theorem op_leX : OpR X (compareOp .LtE) rLeX := by
  intro pins s σ H x y v u Q I rx ry h
  obtain ⟨a, b, rfl, rfl, q⟩ := h
  exact op_le_str pins s σ H _ _ v u Q I rx ry ⟨_, _, rfl, rfl, by rw [tx_cps, tx_cps]; exact q⟩
def rIsN1 : R2 := fun x y H Q => y = .non ∧ Q (.bl (decide (x = .non))) H
def rNotN1 : R2 := fun x y H Q => y = .non ∧ Q (.bl (!decide (x = .non))) H
theorem op_isN' : OpR X (compareOp .Is) rIsN1 := op_isN
theorem op_notN' : OpR X (compareOp .IsNot) rNotN1 := op_notN
end
section
variable {K : PySem.W.Frag} {H : Hp} {Q : VK} {x : V}
theorem rd_rstX {p : List Nat} {m g : Nat} (h : ∀ c, p.getLast? = some c → c ≠ g) (hz : p.length + m ≤ sizeLine) (q : Q (.str (tx p)) H) : rRstX (.str (tx (p ++ List.replicate m g))) [.str (tx [g])] H Q := ⟨p, m, g, rfl, rfl, h, hz, q⟩
theorem rd_startX {a b : List Nat} (q : Q (.bl (b.isPrefixOf a)) H) : rStartX (.str (tx a)) [.str (tx b)] H Q := ⟨a, b, rfl, rfl, q⟩
theorem rd_leX {a b : List Nat} (q : Q (.bl (!decide (b < a))) H) : rLeX (.str (tx a)) (.str (tx b)) H Q := ⟨a, b, rfl, rfl, q⟩
theorem rd_isN1 (q : Q (.bl (decide (x = .non))) H) : rIsN1 x .non H Q := ⟨rfl, q⟩
theorem rd_notN1 (q : Q (.bl (!decide (x = .non))) H) : rNotN1 x .non H Q := ⟨rfl, q⟩
theorem rd_eqNilNil {p e : Addr} (h1 : SqL K H p []) (h2 : SqL K H e []) (q : Q (.bl true) H) : rEqD K (.ref p) (.ref e) H Q := ⟨.list [], .list [], .lst h1 .nil, .lst h2 .nil, shaped_ints [], shaped_ints [], by rw [eqv_nil_list]; exact q⟩
theorem rd_neNilNil {p e : Addr} (h1 : SqL K H p []) (h2 : SqL K H e []) (q : Q (.bl false) H) : rNeD K (.ref p) (.ref e) H Q := ⟨.list [], .list [], .lst h1 .nil, .lst h2 .nil, shaped_ints [], shaped_ints [], by rw [eqv_nil_list]; exact q⟩
theorem rd_cat {p q : Addr} {xs ys : List V} (h1 : H p = some (.lst xs)) (h2 : H q = some (.lst ys)) (hz : xs.length + ys.length ≤ sizeLine) (k : ∀ n, H n = none → Q (.ref n) (upd H n (.lst (xs ++ ys)))) : rCat (.ref p) (.ref q) H Q := ⟨p, q, xs, ys, rfl, rfl, h1, h2, hz, k⟩
end
theorem reps_one (n g : Nat) : reps n [g] = List.replicate n g := by
  unfold reps
  induction n with
  | zero => rfl
  | succ n ih => rw [List.replicate_succ, List.flatten_cons, ih]; rfl
theorem atI_m1 {l : List Nat} {c : Nat} (h : l.getLast? = some c) : atI l (-1) = some c := by
  have hne : l ≠ [] := by
    rintro rfl
    cases h
  rw [List.getLast?_eq_getLast hne] at h
  rw [← Option.some.inj h]
  conv => lhs; rw [← List.dropLast_concat_getLast hne]
  exact atI_last _ _
theorem cut_m1 (l : List Nat) (c : Nat) : cutL (l ++ [c]) none (some (-1)) = l := by
  unfold cutL
  have h : HT.sIx (l ++ [c]).length (l ++ [c]).length (some (-1)) = l.length := by
    unfold HT.sIx
    rw [List.length_append]
    simp
    try omega
  rw [HT.sIx_none, h]
  simp
end Un

set_option maxHeartbeats 2000000
/-! UnZip: zip of two texts, the signs in new pairs. -/
namespace Un
open PySem PySem.Spec PyProof.Rows L2
def ItzS (x y : Str) : It :=
  ⟨fun i _ => i < x.cps.size ∧ i < y.cps.size,
    fun i H v H' => ∃ T c d, v = .ref T ∧ H T = none ∧ H' = upd H T (.tup [.str ⟨#[c]⟩, .str ⟨#[d]⟩]) ∧ x.cps[i]? = some c ∧ y.cps[i]? = some d,
    fun i _ => i ≤ x.cps.size ∧ i ≤ y.cps.size ∧ (i = x.cps.size ∨ i = y.cps.size)⟩
theorem turn_zipS {P : Program} {w : World} {K : PySem.W.Frag} {elts : List Expr} {kk : Nat} {tpos : Pos} {z TI TO i1 i2 : Addr} {x y : Str} {t u : Tok} (D : ZipSep2 z TI TO i1 i2 [i1] [i2]) :
    Turn P w K (.Tuple elts kk tpos) (ItzS x y) [z, TI, TO, i1, i2] z (fun i h => IsZip h z TI TO .none ∧ IsTupOf2 h TI (.ref i1) (.ref i2) ∧ (∃ a b, IsTupOf2 h TO a b) ∧ h.IsStrIter i1 (strIterType x) x t i ∧ h.IsStrIter i2 (strIterType y) y u i) where
  mem := by simp
  obj := fun i h st c hc => by
    obtain ⟨hz, hTI, ⟨a, b, hTO⟩, ⟨o1, e1, _, d1⟩, ⟨o2, e2, _, d2⟩⟩ := st
    have e' : c = z ∨ c = TI ∨ c = TO ∨ c = i1 ∨ c = i2 := by simpa using hc
    rcases e' with q | q | q | q | q
    · rw [q]; exact ⟨_, hz, fun v q => nomatch q⟩
    · rw [q]; exact ⟨_, hTI, fun v q => nomatch q⟩
    · rw [q]; exact ⟨_, hTO, fun v q => nomatch q⟩
    · rw [q]; exact ⟨o1, e1, fun v q => by rw [d1] at q; cases q⟩
    · rw [q]; exact ⟨o2, e2, fun v q => by rw [d2] at q; cases q⟩
  keep := fun i h h' st k => by
    obtain ⟨hz, hTI, ⟨a, b, hTO⟩, ⟨o1, e1, r1⟩, ⟨o2, e2, r2⟩⟩ := st
    exact ⟨k z (by simp) _ hz, k TI (by simp) _ hTI, ⟨a, b, k TO (by simp) _ hTO⟩, ⟨o1, k i1 (by simp) o1 e1, r1⟩, ⟨o2, k i2 (by simp) o2 e2, r2⟩⟩
  item := by
    intro X hP hw hK hc i pins s σ H E I hf st hg
    subst hP hw hK
    obtain ⟨hz, hTI, ⟨a, b, hTO⟩, h1, h2⟩ := st
    have hzl : z < s.heap.objs.size := Heap.lt_size hz
    have hd : X.A.in1.handled = none := I.ok.hd hc
    refine wpAny_pyNext_zipD2_item D (Draws.text hd i1 x t) (Draws.text hd i2 y u) hz hTI hTO h1 h2 hg.1 hg.2 fun x1 x2 h' tk p1 p2 z' TO' h1' h2' hT hsz hk => ?_
    obtain ⟨c, tc, hcx, rfl⟩ := p1
    obtain ⟨d, td, hdy, rfl⟩ := p2
    refine ⟨_, rfl, wpAny_letOwnedTupleGo_zip (s := { s with heap := h', toks := tk }) z' fun h'' z'' sb => ?_⟩
    have hT2 : h''.get? s.heap.objs.size = some { cls := .type "tuple", data := .seq #[.str ⟨#[c]⟩ tc, .str ⟨#[d]⟩ td] } := (sb.2 _ (Nat.ne_of_gt hzl)).trans hT
    have new : ObjOk X.prog X.w (upd H s.heap.objs.size (.tup [.str ⟨#[c]⟩, .str ⟨#[d]⟩])) h'' s.heap.objs.size (.tup [.str ⟨#[c]⟩, .str ⟨#[d]⟩]) :=
      ⟨by show 2 ≤ sizeLine; decide, [.str ⟨#[c]⟩ tc, .str ⟨#[d]⟩ td], .cons ⟨tc, rfl⟩ (.cons ⟨td, rfl⟩ .nil), ⟨_, hT2, rfl, _, rfl⟩⟩
    have I1 : Inv X pins σ (upd H s.heap.objs.size (.tup [.str ⟨#[c]⟩, .str ⟨#[d]⟩])) { s with heap := h'', toks := tk } :=
      I.turnedNew (t' := tk) (ch := [z, TI, TO, i1, i2]) (fun c o hb q => (sb.2 c (fun q' => hb (by simp [q']))).trans (hk c o (fun q' => hb (by simp [q'])) (fun q' => hb (by simp [q'])) (fun q' => hb (by simp [q'])) (fun q' => hb (by simp [q'])) q)) hf (Nat.le_refl _) new
    have l1 : i1 < s.heap.objs.size := by obtain ⟨_, e1, _⟩ := h1; exact Heap.lt_size e1
    have l2 : i2 < s.heap.objs.size := by obtain ⟨_, e1, _⟩ := h2; exact Heap.lt_size e1
    refine ⟨.ref s.heap.objs.size, _, I1, rfl, ⟨_, c, d, rfl, I.hok.fresh (Nat.le_refl _), rfl, hcx, hdy⟩, ⟨z'', ?_, ⟨.str ⟨#[c]⟩ tc, .str ⟨#[d]⟩ td, ?_⟩, ?_, ?_⟩, fun c hcm => ?_⟩
    · exact (sb.2 _ D.TIz).trans (hk _ _ D.TIz D.TITO D.TIi1 D.TIi2 hTI)
    · exact (sb.2 _ D.TOz).trans TO'
    · obtain ⟨o, e, r⟩ := h1'
      exact ⟨o, (sb.2 _ D.zi1.symm).trans e, r⟩
    · obtain ⟨o, e, r⟩ := h2'
      exact ⟨o, (sb.2 _ D.zi2.symm).trans e, r⟩
    · have hlt : c < s.heap.objs.size := by
        have e' : c = z ∨ c = TI ∨ c = TO ∨ c = i1 ∨ c = i2 := by simpa using hcm
        rcases e' with q | q | q | q | q
        · rw [q]; exact hzl
        · rw [q]; exact Heap.lt_size hTI
        · rw [q]; exact Heap.lt_size hTO
        · rw [q]; exact l1
        · rw [q]; exact l2
      rw [upd_ne (Nat.ne_of_lt hlt)]
      exact (hf c hcm).1
  done := by
    intro X hP hw hK hc i pins s σ H E I hf st hg
    subst hP hw hK
    obtain ⟨hz, hTI, ⟨a, b, hTO⟩, h1, h2⟩ := st
    have hd : X.A.in1.handled = none := I.ok.hd hc
    exact wpAny_pyNext_zipD2_end D (Draws.text hd i1 x t) (Draws.text hd i2 y u) hz hTI hTO h1 h2 hg.1 hg.2.1 hg.2.2 fun h' tk hk => ⟨rfl, I.turnedL (t' := tk) (ch := [z, TI, TO, i1, i2]) (fun c o hb q =>
      hk c o (fun q' => hb (by simp [q'])) (fun q' => hb (by simp [q'])) (fun q' => hb (by simp [q'])) (fun q' => hb (by simp [q'])) q) hf⟩
  self := fun A i s Q E st h => wpAny_pyIter_zip st.1 h
def iZipS (ta : TA) : TI := fun σ H R => ta σ H fun vs H1 => ∃ x y, vs = [.str x, .str y] ∧ R (ItzS x y) H1
theorem sep5 (n : Addr) : ZipSep2 (n + 4) (n + 2) (n + 3) n (n + 1) [n] [n + 1] where
  TIz := Nat.ne_of_lt (Nat.add_lt_add_left (by decide) n)
  TOz := Nat.ne_of_lt (Nat.add_lt_add_left (by decide) n)
  TITO := Nat.ne_of_lt (Nat.add_lt_add_left (by decide) n)
  TIi1 := Nat.ne_of_gt (Nat.lt_add_of_pos_right (by decide))
  mem1 := List.mem_singleton.mpr rfl
  zf1 := fun h => absurd (List.mem_singleton.mp h) (Nat.ne_of_gt (Nat.lt_add_of_pos_right (by decide)))
  Tf1 := fun h => absurd (List.mem_singleton.mp h) (Nat.ne_of_gt (Nat.lt_add_of_pos_right (by decide)))
  TIi2 := Nat.ne_of_gt (Nat.add_lt_add_left (by decide) n)
  mem2 := List.mem_singleton.mpr rfl
  zf2 := fun h => absurd (List.mem_singleton.mp h) (Nat.ne_of_gt (Nat.add_lt_add_left (by decide) n))
  Tf2 := fun h => absurd (List.mem_singleton.mp h) (Nat.ne_of_gt (Nat.add_lt_add_left (by decide) n))
  sep1_2 := fun h => absurd (List.mem_singleton.mp h) (Nat.ne_of_lt (Nat.lt_add_of_pos_right (by decide)))
  sep2_1 := fun h => absurd (List.mem_singleton.mp h) (Nat.ne_of_gt (Nat.lt_add_of_pos_right (by decide)))
theorem pi_zipS {X : Cx} {e e2 : Expr} {ta : TA} {p pos tpos : Pos} {elts : List Expr} {kk : Nat} (hg : Gl X "zip") (hm : X.mg "zip" = none) (ha : PA X [e, e2] ta)
    (hs : starEach [e, e2] X.env = (false, eval e X.env) :: starEach [e2] X.env := by rfl) (hpl : (backTo pos (starEach [e2] X.env)).any (·.1) = false := by rfl) :
    PI X (.Tuple elts kk tpos) (.Call (.Name "zip" p) [e, e2] [] pos) (iZipS ta) := by
  refine ⟨fun pins s σ H R I h => ?_⟩
  refine Call_ (ld_blt I hg hm PyProof.Rows.boot_zip (PyProof.Rows.callWith_type1 (thn (ha.run pos pins s σ H _ I h) fun us s1 ⟨vs, H1, I1, r1, q1⟩ => ?_) hs hpl))
  obtain ⟨x, y, ex, q⟩ := q1
  subst ex
  cases r1 with
  | cons r rr =>
    cases rr with
    | cons r' rr =>
      cases rr
      obtain ⟨t, rfl⟩ := r
      obtain ⟨u, rfl⟩ := r'
      have fresh5 : ∀ c, c ∈ [s1.heap.objs.size + 4, s1.heap.objs.size + 2, s1.heap.objs.size + 3, s1.heap.objs.size, s1.heap.objs.size + 1] → FpOk X pins H1 c := fun c hcm => by
        have e' : c = s1.heap.objs.size + 4 ∨ c = s1.heap.objs.size + 2 ∨ c = s1.heap.objs.size + 3 ∨ c = s1.heap.objs.size ∨ c = s1.heap.objs.size + 1 := by simpa using hcm
        have hle : s1.heap.objs.size ≤ c := by
          rcases e' with z | z | z | z | z
          · rw [z]; exact Nat.le_add_right _ _
          · rw [z]; exact Nat.le_add_right _ _
          · rw [z]; exact Nat.le_add_right _ _
          · rw [z]; exact Nat.le_refl _
          · rw [z]; exact Nat.le_add_right _ _
        exact I1.fpOk hle (I1.hok.fresh hle)
      refine zip_begins2 (begins_text x t) (begins_text y u) trivial trivial fun h' hz hTI hTO h1 h2 hsz hk => wpAny_pyIter_zip hz ?_
      have I2 : Inv X pins σ H1 { s1 with heap := h' } := I1.kept (t' := s1.toks) hk
      exact ⟨s1.heap.objs.size + 4, [s1.heap.objs.size + 4, s1.heap.objs.size + 2, s1.heap.objs.size + 3, s1.heap.objs.size, s1.heap.objs.size + 1], _, _, H1, rfl, I2,
        turn_zipS (sep5 _), ⟨hz, hTI, ⟨_, _, hTO⟩, ⟨_, h1, rfl, rfl⟩, ⟨_, h2, rfl, rfl⟩⟩, fresh5, q⟩
theorem rd_zipS {x y : Str} {H : Hp} {R : It → Hp → Prop} (q : R (ItzS x y) H) : ∃ x' y', [V.str x, V.str y] = [.str x', .str y'] ∧ R (ItzS x' y') H := ⟨x, y, rfl, q⟩
end Un

/-! Defs whose promise is kept where no guard of a repr stands around the call: the same three steps as for a plain def (entry, body, call), each with one premise more. -/
namespace Un
open PySem PySem.Spec PyProof.Rows L2
structure FnG (P : Program) (w : World) (K : PySem.W.Frag) (mg : Str → Option Value) (base : Heap) (k : Nat) (f : Addr) (fd : FuncData) (ps : List Str) (sp : Sp) : Prop where
  len : ∀ vs H Q E, sp vs H Q E → vs.length = ps.length
  run : ∀ (A : Around) (outer : List Env) (s : Shared) (H : Hp) (args : Args) (us : List Value) (vs : List V) (Q : VK) (E : XK), A.guards = some [] → Room k A → Env0 P w K mg base A outer s H → BindsTo s fd args (ps.zip us) →
    Vals vs us → sp vs H Q E → codeAny (model P w) A (.call (.ref f) args) (CR CX0 outer P w H s Q E) s
section
variable {P : Program} {w : World} {K : PySem.W.Frag} {mg : Str → Option Value} {base : Heap}
theorem okG {nm qual : Str} {st : Stmt} {f : Addr} {fd : FuncData} {N ps : List Str} {k : Nat} {sp : Sp} (F : Fun K nm qual st f fd) (S : FnScope N ps (defScope st)) (hlen : ∀ vs H Q E, sp vs H Q E → vs.length = ps.length)
    (hb : ∀ (cdv : Value) (A : Around) (outer : List Env) (s : Shared) (H : Hp) (vs : List V) (Q : VK) (E : XK), A.guards = some [] → Room k (A.deeper (envOfC qual (defScope st) s.heap.objs.size f cdv)) → sp vs H Q E →
      ∃ t, PSs (cxOf CX0 P w K mg base N qual (defScope st) f cdv A outer s H E).nox (defBody st) t ∧ t { nx := fun _ H' => Q .non H', rt := Q } (start N vs) H) : FnG P w K mg base (k + 1) f fd ps sp := by
  obtain ⟨c1, c2, c3, c4, c5, c6, cdv, c7, c8, rfl, look, code⟩ := F.ex
  constructor
  · exact hlen
  · intro A outer s H args us vs Q E gA room e0 bd rel asked
    have same := hlen _ _ _ _ asked
    have inHeap : K.In s.heap := e0.mod.kin.keeps fun b o hbo => (e0.bs b o hbo).1
    have free := e0.mod.nolimit.keeps (h' := s.heap) fun b o hbo => (e0.bs b o hbo).1
    have kinds : ∀ y ∈ ps.zip us, (defScope st).names.lookup y.1 = some .local ∨ ((defScope st).names.lookup y.1 = some .cell ∧ ((cellsFrom (s.heap.objs.size + 1) (defScope st).names []).lookup y.1).isSome = true) := by
      rintro ⟨n, v⟩ hy
      exact (S.par n (List.of_mem_zip hy).1).imp id fun hc => ⟨hc, PySem.W.cellsFrom_some _ _ _ (.inl hc)⟩
    refine codeAny_call_function room.depth (inHeap _ _ look) rfl S.co S.gen rfl (PySem.W.codeRec_of inHeap code) (bd _ _ _ _ ?_)
    refine wpAny_newFunctionEnv_cells S.kind kinds fun env henv s1 entry => ?_
    subst henv
    obtain ⟨t, ht, hq⟩ := hb cdv A outer s H vs Q E gA (room.deeper _) asked
    have I0 : Inv (cxOf CX0 P w K mg base N qual (defScope st) f cdv A outer s H E) [] (start N vs) H s1 := inv_start S room.hd e0 same rel entry
    refine ⟨free.keeps entry.toInCall.keep, codeAny_func (wpAny_mono (ht.nox.run [] s1 (start N vs) H _ I0 hq) (fun flow s' hs => ?_) fun e s' hs => hs)⟩
    cases flow with
    | ret u => exact match hs with | ⟨v, σ', H', J, rv, q⟩ => ⟨v, H', J.os, J.bare, J.base, J.hok, rv, q⟩
    | next => exact match hs with | ⟨σ', H', J, q⟩ => ⟨V.non, H', J.os, J.bare, J.base, J.hok, rfl, q⟩
    | brk => exact match hs with | ⟨_, _, _, q⟩ => False.elim q
    | cont => exact match hs with | ⟨_, _, _, q⟩ => False.elim q
/-- a def under its name, of that kind -/
def ClG (P : Program) (w : World) (K : PySem.W.Frag) (mg : Str → Option Value) (base : Heap) (nm : Str) (ps : List Str) (k : Nat) (sp : Sp) : Prop :=
  ∃ (f : Addr) (fd : FuncData), mg nm = some (.ref f) ∧ FnG P w K mg base k f fd ps sp ∧ PySem.W.keepIn K (.ref f) = true ∧ Binds K fd ps []
theorem clG_of {nm : Str} {st : Stmt} {ps : List Str} {k : Nat} {sp : Sp} (a : At K mg nm st ps) (h : ∀ f fd, Fun K nm nm st f fd → FnG P w K mg base k f fd ps sp) : ClG P w K mg base nm ps k sp := by
  obtain ⟨f, fd, F, m, b⟩ := a
  exact ⟨f, fd, m, h f fd F, F.kp, b⟩
end
section
variable {X : Cx} {nm : Str} {ps : List Str} {k : Nat} {sp : Sp} {e : Expr} {es : List Expr} {t : TA} {p pos : Pos}
theorem pe_clG (c : ClG X.prog X.w X.K X.mg X.base nm ps k sp) (hgd : X.A.guards = some []) (hr : Room k X.A) (hg : Gl X nm) (ha : PA X (e :: es) t)
    (hdb : (nm == ("__debug__" : Str)) = false := by decide) (he : starEach (e :: es) X.env = (false, eval e X.env) :: starEach es X.env := by rfl) (hpl : (backTo pos (starEach es X.env)).any (·.1) = false := by rfl) :
    PE X (.Call (.Name nm p) (e :: es) [] pos) (tCall sp [] E0 t) := by
  obtain ⟨f, fd, m, F, kp, b⟩ := c
  constructor
  intro pins s σ H Q I h
  refine wpAny_Call_Name_kw (ld_glob I hg m (PySem.W.callWith_K (h₀ := X.base) I.ok.mod.kin kp (thn (ha.run pos pins s σ H _ I h) fun us s1 hx => ?_) he hpl) hdb)
  obtain ⟨vs, H1, I1, r, q⟩ := hx
  refine ⟨I1.kIn, ?_⟩
  rw [List.append_nil] at q
  have n1 : us.length = ps.length := by
    rw [← r.length]
    exact F.len _ _ _ _ q
  have bd := b s1 us I1.kIn (by rw [List.append_nil]; exact n1)
  rw [List.append_nil] at bd
  refine wpAny_call (codeAny_mono (F.run X.A X.stack s1 H1 ⟨us, []⟩ us vs Q E0 hgd hr I1.env0 bd r q) fun res s' hres => ?_)
  match res, hres with
  | .error e, hres => exact (show False from hres).elim
  | .ok (.ret u), hres => exact I1.after hres
  | .ok .next, hres => exact (show False from hres).elim
  | .ok .brk, hres => exact (show False from hres).elim
  | .ok .cont, hres => exact (show False from hres).elim
end
/-! ### repr of data -/
def rReprD (K : PySem.W.Frag) : List V → Hp → VK → Prop := fun xs H Q => ∃ (a : Addr) (d : PyData), xs = [.ref a] ∧ Dp K H (.ref a) d ∧ d.showable = true ∧ d.hasDict = false ∧ d.depth ≤ 60 ∧ d.shown.length ≤ sizeLine ∧ Q (.str d.shown) H
theorem call_reprD {X : Cx} {k : Nat} (hgd : X.A.guards = some []) (hr : Room k X.A) : CallR X (.builtin "repr") (rReprD X.K) := by
  intro pins s σ H xs us Q I r h
  obtain ⟨a, d, rfl, hd, hs, hn, hz, hl, q⟩ := h
  obtain ⟨u, rfl, rx⟩ := vals1 r
  obtain ⟨as, rd⟩ := Dp.reads I d _ u hd rx
  cases rx
  have hu := hr.units
  refine repr_of_reads' rd hs (PyData.noDict_hsm hn) hgd (by omega) (fun _ _ e => e) (fun h' u tk hk => ?_) hl
  exact ⟨.str d.shown, H, I.kept (t' := tk) hk, ⟨u, rfl⟩, q⟩

/-! ### the end of a law whose def is of that kind -/
theorem runG {P : Program} {w : World} {K : PySem.W.Frag} {mg mb : Str → Option Value} {k : Nat} {fa a : Addr} {fd : FuncData} {x : Str} {sp : Sp} {s₁ : Shared} {vs : List Value} {ns : List Int}
    (KX : K.In s₁.heap) (hns : s₁.heap.Ns mainGlobals mg) (hb : s₁.heap.Ns builtinsNs mb) (hbb : ∀ x : Str, x ≠ "__name__" → mb x = bootBuiltins x) (hlim : s₁.heap.NoLimit) (hg : s₁.gens = #[])
    (ha : s₁.heap.get? a = some { cls := .type "list", data := .seq vs.toArray }) (hi : IntsAre vs ns) (hl : ns.length ≤ sizeLine) (room : Room k callerA)
    (F : ∀ base : Heap, K.In base → base.Ns mainGlobals mg → FnG P w K mg base k fa fd [x] sp) (bind1 : ∀ (s : Shared) (u : Value), BindsTo s fd ⟨[u], []⟩ [(x, u)])
    (told : ∀ H : Hp, Only H → SqL K H a (ns.map V.int) → sp [.ref a] H (fun v _ => v = .bl true) fun _ _ _ => False) :
    codeAny (model P w) callerA (.call (.ref fa) ⟨[.ref a], []⟩) (fun r s' => r = .ok (.ret (.bool true)) ∧ OldK s₁.heap s'.heap ∧ s'.os = s₁.os ∧ AllBare s'.gens) s₁ := by
  have relV := vals_ints hi
  have sizes := hi.length
  suffices from_ : ∀ H : Hp, (∀ b u, H b = some u → b = a ∧ K.lookup a = none ∧ u = .frz { cls := .type "list", data := .seq vs.toArray } (.lst (ns.map V.int))) → SqL K H a (ns.map V.int) →
      codeAny (model P w) callerA (.call (.ref fa) ⟨[.ref a], []⟩) (fun r s' => r = .ok (.ret (.bool true)) ∧ OldK s₁.heap s'.heap ∧ s'.os = s₁.os ∧ AllBare s'.gens) s₁ by
    cases look : K.lookup a with
    | some o =>
      have there := KX a o look
      rw [ha] at there
      obtain rfl := Option.some.inj there
      exact from_ (fun _ => none) (fun b u z => by cases z) (.inr ⟨_, vs.toArray, _, look, rfl, rfl, rfl, by rw [List.size_toArray, sizes]; exact hl, by simpa using relV⟩)
    | none =>
      refine from_ (fun b => if b = a then some (.frz { cls := .type "list", data := .seq vs.toArray } (.lst (ns.map V.int))) else none) (fun b u z => ?_) (.inl (.inr ⟨_, if_pos rfl⟩))
      by_cases e : b = a
      · rw [if_pos e] at z
        exact ⟨e, look, (Option.some.inj z).symm⟩
      · rw [if_neg e] at z
        cases z
  intro H hH hS
  have only1 : Only H := fun b => by
    cases z : H b with
    | none => exact .inl rfl
    | some u => exact .inr ⟨_, _, by rw [(hH b u z).2.2]⟩
  have held : HOk P w H s₁.heap := fun b u z => by
    obtain ⟨rfl, _, rfl⟩ := hH b u z
    exact ⟨ha, by rw [List.length_map]; exact hl, vs, _, relV, ha⟩
  have not_dict : ∀ {b : Addr} {o : Obj} {es : Array DictEntry} {ep : Nat}, s₁.heap.get? b = some o → o.data = .dict es ep → H b = none := fun {b o es ep} e d => by
    cases z : H b with
    | none => rfl
    | some u =>
      obtain ⟨rfl, _, _⟩ := hH b u z
      rw [ha] at e
      obtain rfl := Option.some.inj e
      cases (show Data.seq vs.toArray _ = Data.dict es ep from d)
  have hidden : ∀ {b : Addr} {m : Str → Option Value}, s₁.heap.Ns b m → (hidT s₁.heap H).Ns b m := by
    rintro b m ⟨o, es, ep, e, d, r⟩
    exact ⟨o, es, ep, hidT_get e (not_dict e d), d, r⟩
  have kIn : K.In (hidT s₁.heap H) := fun b o e => hidT_get (KX b o e) (by
    cases z : H b with
    | none => rfl
    | some u =>
      obtain ⟨rfl, n, _⟩ := hH b u z
      rw [n] at e
      cases e)
  have md : Mod K mg (hidT s₁.heap H) := ⟨kIn, hidden hns, ⟨mb, hidden hb, hbb⟩, match hlim with | ⟨mc, h1, h2⟩ => ⟨mc, hidden h1, h2⟩⟩
  have none_in : ∀ b : Addr, b ∈ ([] : List Addr) → False := fun b hb => by cases hb
  have env0 : Env0 P w K mg (hidT s₁.heap H) callerA [] s₁ H := ⟨rfl, md, fun b o e => of_hidT e, Nat.le_of_eq (hidT_size _ _), trivial, fun b hb => (none_in b hb).elim, held, .of_eq hg⟩
  refine codeAny_mono ((F _ kIn (hidden hns)).run callerA [] s₁ H ⟨[.ref a], []⟩ [.ref a] [.ref a] _ _ rfl room env0 (bind1 s₁ (.ref a)) (.cons rfl .nil) (told H only1 hS)) fun r s' h => ?_
  match r, h with
  | .error e, h => exact (show False from h).elim
  | .ok .next, h => exact (show False from h).elim
  | .ok .brk, h => exact (show False from h).elim
  | .ok .cont, h => exact (show False from h).elim
  | .ok (.ret u), h =>
    obtain ⟨v, H', hos, hbare, un, held', rv, rfl⟩ := h
    obtain rfl : u = Value.bool true := rv
    refine ⟨rfl, OldK.of_keep fun b o e => ?_, hos, hbare⟩
    cases z : H b with
    | none => exact un.keep b o e z (none_in b) (none_in b)
    | some y =>
      obtain ⟨rfl, _, rfl⟩ := hH b y z
      have e1 := (held _ _ z).1
      rw [e] at e1
      rw [Option.some.inj e1]
      exact (held' _ _ (un.frzs _ _ _ z)).1
theorem walk_ofG {l : PySem.W.OpenLaw} {n k : Nat} {q : Program} {loose : List Str} {XP : (Str → Option Value) → Heap → Prop} {YP : World → Heap → Prop} {d : DefRec} {K : Params → PySem.W.Frag} {sp : World → Sp} {x : Str}
    (hn : l.most = some n) (hn2 : n ≤ sizeLine) (hdf : d.params.defaults = []) (room : Room k callerA) (hY : ∀ (w : World) (h : Heap), YP w h → (K w.params).In h)
    (F : ∀ (w : World) (mg : Str → Option Value) (fa : Addr) (h : Heap), (K w.params).In h → h.Ns mainGlobals mg → mg d.name = some (.ref fa) →
      ∃ fd : FuncData, (∀ (s : Shared) (u : Value), BindsTo s fd ⟨[u], []⟩ [(x, u)]) ∧ ∀ base : Heap, (K w.params).In base → base.Ns mainGlobals mg → FnG l.prog w (K w.params) mg base k fa fd [x] (sp w))
    (told : ∀ (w : World) (H : Hp) (a : Addr) (ns : List Int), ns.length ≤ n → Only H → SqL (K w.params) H a (ns.map V.int) → sp w [.ref a] H (fun v _ => v = .bl true) fun _ _ _ => False) :
    PySem.W.WalkO q loose XP YP l.row.toRowW d [] (fun f vs => PySem.call f vs) := by
  refine Att.attach_callB hn hdf fun w s₀ s₁ mg mb fa o pm cd doc a vs ns G Y ho hd hcd hmg hobj hints hlen _ hg => ?_
  obtain ⟨fd, bnd, hF⟩ := F w mg fa _ (hY w _ Y) G.T.g hmg
  exact runG (hY w _ Y) G.T.g G.T.b G.T.builtins G.T.nolimit hg hobj hints (Nat.le_trans hlen hn2) room hF bnd fun H => told w H a ns hlen
end Un

namespace Un
open PySem PySem.Spec PyProof.Rows L2
/-! ### for i, c in enumerate(text) -/
def ItEX (x : Str) : It := ⟨fun i _ => i < x.cps.size, fun i H v H' => ∃ (T : Addr) (c : Nat), v = .ref T ∧ H T = none ∧ x.cps[i]? = some c ∧ H' = upd H T (.tup [.int (i : Nat), .str ⟨#[c]⟩]), fun i _ => i = x.cps.size⟩
theorem turn_enumX {P : Program} {w : World} {K : PySem.W.Frag} {elts : List Expr} {kk : Nat} {tpos : Pos} (x : Str) (t : Tok) (e it : Addr) :
    Turn P w K (.Tuple elts kk tpos) (ItEX x) [e, it] e (fun i h => (∃ old, IsEnum h e it ((i : Nat) : Int) old) ∧ h.IsStrIter it (strIterType x) x t i ∧ e ≠ it) where
  mem := List.mem_cons_self
  obj := by
    rintro i h ⟨⟨old, he⟩, ⟨o, ho, hc, hd⟩, _⟩ b hb
    rcases List.mem_cons.mp hb with rfl | hb
    · exact ⟨_, he, fun v q => nomatch q⟩
    · obtain rfl := List.mem_singleton.mp hb
      exact ⟨o, ho, fun v q => by rw [hd] at q; cases q⟩
  keep := by
    rintro i h h' ⟨⟨old, he⟩, ⟨o, ho, r⟩, hne⟩ k
    exact ⟨⟨old, k e (by simp) _ he⟩, ⟨o, k it (by simp) o ho, r⟩, hne⟩
  item := by
    rintro X rfl rfl rfl hc i pins s σ H E I hf ⟨⟨old, he⟩, hit, hne⟩ hlt
    have he0 : e < s.heap.objs.size := Heap.lt_size he
    have hi0 : it < s.heap.objs.size := by
      obtain ⟨_, q, _⟩ := hit
      exact Heap.lt_size q
    refine wpAny_pyNext_enum_itemD (Draws.text (A := X.A.in1) (I.ok.hd hc) it x t) he hit hlt hne (by simp [hne]) fun v h' tk hv ho hit' hT hsz hk => ?_
    obtain ⟨c, u, hcx, rfl⟩ := hv
    refine ⟨_, rfl, wpAny_letOwnedTupleGo_enum (s := { s with heap := h', toks := tk + 1 }) ho fun h'' he' sb => ?_⟩
    have made : h''.get? s.heap.objs.size = some { cls := .type "tuple", data := .seq #[.int i tk, .str ⟨#[c]⟩ u] } := (sb.2 _ (Nat.ne_of_gt he0)).trans hT
    have new : ObjOk X.prog X.w (upd H s.heap.objs.size (.tup [.int (i : Nat), .str ⟨#[c]⟩])) h'' s.heap.objs.size (.tup [.int (i : Nat), .str ⟨#[c]⟩]) :=
      ⟨by show 2 ≤ sizeLine; decide, [.int i tk, .str ⟨#[c]⟩ u], .cons ⟨_, rfl⟩ (.cons ⟨_, rfl⟩ .nil), ⟨_, made, rfl, _, rfl⟩⟩
    have kept : ∀ b o, b ∉ [e, it] → s.heap.get? b = some o → h''.get? b = some o := fun b o hb q => by
      have h1 : b ≠ e := fun z => hb (by simp [z])
      have h2 : b ≠ it := fun z => hb (by simp [z])
      exact (sb.2 b h1).trans (hk b o h1 h2 q)
    refine ⟨.ref s.heap.objs.size, _, I.turnedNew (ch := [e, it]) kept hf (Nat.le_refl _) new, rfl, ⟨_, c, rfl, I.hok.fresh (Nat.le_refl _), hcx, rfl⟩, ⟨⟨.str ⟨#[c]⟩ u, ?_⟩, ?_, hne⟩, fun b hb => ?_⟩
    · have e1 : ((i + 1 : Nat) : Int) = (i : Int) + 1 := by omega
      rw [e1]
      exact he'
    · obtain ⟨o, q, r⟩ := hit'
      exact ⟨o, (sb.2 it (Ne.symm hne)).trans q, r⟩
    · have hb' : b < s.heap.objs.size := by
        rcases List.mem_cons.mp hb with rfl | hb
        · exact he0
        · rw [List.mem_singleton.mp hb]
          exact hi0
      rw [upd_ne (Nat.ne_of_lt hb')]
      exact (hf b hb).1
  done := by
    rintro X rfl rfl rfl hc i pins s σ H E I hf ⟨⟨old, he⟩, hit, hne⟩ hge
    obtain ⟨f0, f1, f2, f3, f4, f5⟩ := hf it (by simp)
    obtain rfl : i = x.cps.size := hge
    exact wpAny_pyNext_enum_endD (Draws.text (A := X.A.in1) (I.ok.hd hc) it x t) he hit fun h' eb => ⟨rfl, I.turned (t' := s.toks) (fun b o hb q => eb b o hb q) f0 f1 f3 f4 f5⟩
  self := fun A i s Q E st h => by
    obtain ⟨⟨_, he⟩, _⟩ := st
    exact wpAny_pyIter_enum he h

def iEnumX (ta : TA) : TI := fun σ H R => ta σ H fun vs H1 => ∃ l : List Nat, vs = [.str (tx l)] ∧ R (ItEX (tx l)) H1
theorem pi_enumX {X : Cx} {e : Expr} {ta : TA} {p pos tpos : Pos} {elts : List Expr} {kk : Nat} (hg : Gl X "enumerate") (hm : X.mg "enumerate" = none) (ha : PA X [e] ta) (hs : starEach [e] X.env = [(false, eval e X.env)] := by rfl) :
    PI X (.Tuple elts kk tpos) (.Call (.Name "enumerate" p) [e] [] pos) (iEnumX ta) := by
  constructor
  intro pins s σ H R I h
  refine Call_ (ld_blt I hg hm boot_enumerate (PyProof.Rows.callWith_type1 (thn (ha.run pos pins s σ H _ I h) fun us s1 hx => ?_) hs rfl))
  obtain ⟨vs, H1, I1, r1, l, rfl, q⟩ := hx
  obtain ⟨u, rfl, t, rfl⟩ := vals1 r1
  refine call_enumerate_str fun h' he hit hsz hk => wpAny_pyIter_enum he ?_
  have I2 : Inv X pins σ H1 { s1 with heap := h' } := I1.kept (t' := s1.toks) hk
  refine ⟨s1.heap.objs.size + 1, [s1.heap.objs.size + 1, s1.heap.objs.size], _, _, H1, rfl, I2, turn_enumX (tx l) t (s1.heap.objs.size + 1) s1.heap.objs.size, ⟨⟨.none, he⟩, hit, Nat.succ_ne_self _⟩, fun b hb => ?_, q⟩
  have hle : s1.heap.objs.size ≤ b := by
    rcases List.mem_cons.mp hb with rfl | hb
    · exact Nat.le_add_right _ _
    · exact Nat.le_of_eq (List.mem_singleton.mp hb).symm
  exact I1.fpOk hle (I1.hok.fresh hle)
theorem rd_iEnumX {ta : TA} {σ : L2.St} {H : Hp} {R : It → Hp → Prop} {l : List Nat} (h : ta σ H fun vs H1 => ∃ l : List Nat, vs = [.str (tx l)] ∧ R (ItEX (tx l)) H1) : iEnumX ta σ H R := h
theorem for_enumX {l : List Nat} {g : TG} {tb : TS} {D : Ends} {σ : L2.St} {H : Hp} (Pv : Nat → L2.St → Hp → Prop) (h0 : Pv 0 σ H)
    (hs : ∀ (i c : Nat) (σ : L2.St) (H : Hp) (T : Addr), l[i]? = some c → Pv i σ H → H T = none → g (.ref T) σ (upd H T (.tup [.int (i : Nat), .str (tx [c])])) fun σ2 H2 => tb { D with nx := Pv (i + 1), ct := Pv (i + 1), bk := D.nx } σ2 H2) (hd : ∀ σ H, Pv l.length σ H → D.nx σ H) :
    ∃ W : Nat → Nat → L2.St → Hp → Prop, (∃ m, W 0 m σ H) ∧ ∀ i m σ H, W i m σ H →
      ((ItEX (tx l)).stop i H ∧ D.nx σ H) ∨ ((ItEX (tx l)).go i H ∧ ∃ N : L2.St → Hp → Prop, (∀ σ' H', N σ' H' → ∃ m', m' < m ∧ W (i + 1) m' σ' H') ∧ ∀ x H', (ItEX (tx l)).yld i H x H' → g x σ H' fun σ2 H2 => tb { D with nx := N, ct := N, bk := D.nx } σ2 H2) := by
  have hsz : (tx l).cps.size = l.length := by simp [tx]
  refine ⟨fun i m σ H => m + i = l.length ∧ Pv i σ H, ⟨l.length, rfl, h0⟩, fun i m σ H h => ?_⟩
  obtain ⟨hm, p⟩ := h
  by_cases hi : i < l.length
  · refine .inr ⟨show i < (tx l).cps.size by rw [hsz]; exact hi, Pv (i + 1), fun σ' H' p' => ⟨m - 1, by omega, by omega, p'⟩, fun x H' hy => ?_⟩
    obtain ⟨T, c, rfl, hT, hc, rfl⟩ := hy
    exact hs i c σ H T (by simpa [tx] using hc) p hT
  · have e : i = l.length := by omega
    subst e
    exact .inl ⟨show l.length = (tx l).cps.size from hsz.symm, hd σ H p⟩
/-! ### x.find(y, 1): the first place -/
theorem occ_stay (s sub : Str) (hi : Nat) : ∀ (l : List Nat) (k f : Nat), (forIn l ((#[k] : Array Nat), f) (PySem.StrLaws.occBody s sub hi 1)).run.fst = #[k]
  | [], k, f => rfl
  | a :: l, k, f => by
    rw [List.forIn_cons]
    unfold PySem.StrLaws.occBody
    rw [if_neg (by simp)]
    exact occ_stay s sub hi l k f
theorem occ_find (s sub : Str) (hi : Nat) : ∀ (l : List Nat) (f : Nat), (∀ i ∈ l, f ≤ i) →
    (forIn l ((#[] : Array Nat), f) (PySem.StrLaws.occBody s sub hi 1)).run.fst.toList = (l.find? fun i => decide (i + sub.length ≤ hi) && Builtin.Str.subAt s sub i).toList
  | [], f, _ => rfl
  | a :: l, f, hf => by
    rw [List.forIn_cons, List.find?_cons]
    have ha : f ≤ a := hf a List.mem_cons_self
    have hl : ∀ i ∈ l, f ≤ i := fun i h => hf i (List.mem_cons_of_mem _ h)
    unfold PySem.StrLaws.occBody
    cases hc : (decide (a + sub.length ≤ hi) && Builtin.Str.subAt s sub a) with
    | true =>
      rw [Bool.and_eq_true, decide_eq_true_eq] at hc
      rw [if_pos ⟨⟨⟨by simp, ha⟩, hc.1⟩, hc.2⟩]
      have := occ_stay s sub hi l a (a + sub.length)
      show (forIn l ((#[] : Array Nat).push a, a + sub.length) (PySem.StrLaws.occBody s sub hi 1)).run.fst.toList = _
      have e : (#[] : Array Nat).push a = #[a] := rfl
      rw [e, this]
      rfl
    | false =>
      have hn : ¬ (((((#[] : Array Nat), f).fst.size < 1 ∧ ((#[] : Array Nat), f).snd ≤ a) ∧ a + sub.length ≤ hi) ∧ Builtin.Str.subAt s sub a = true) := fun h => by
        rw [decide_eq_true h.1.2, h.2] at hc
        cases hc
      rw [if_neg hn]
      exact occ_find s sub hi l f hl
theorem subAt_tx (x y : List Nat) (i : Nat) : Builtin.Str.subAt (tx x) (tx y) i = decide ((x.drop i).take y.length = y) := by
  unfold Builtin.Str.subAt
  rw [Bool.eq_iff_iff, beq_iff_eq, decide_eq_true_eq, ← Array.toList_inj, tx_len]
  simp [tx, List.extract_eq_take_drop]
def rFind1 : V → List V → Hp → VK → Prop := fun v xs H Q => ∃ (x y : List Nat) (k : Nat), v = .str (tx x) ∧ xs = [.str (tx y), .int 1] ∧ 1 ≤ k ∧ k + y.length ≤ x.length ∧ k ≤ x.length ∧ (x.drop k).take y.length = y ∧
  (∀ j, 1 ≤ j → j < k → (x.drop j).take y.length ≠ y) ∧ Q (.int (k : Nat)) H
theorem mt_find1 {X : Cx} : MtR X "str.find" rFind1 := by
  intro pins s σ H v xs u us Q I rx rs h
  obtain ⟨x, y, k, rfl, rfl, h1, h2, h3, h4, h5, q⟩ := h
  refine mt_find3 pins s σ H _ _ u us Q I rx rs ⟨tx x, tx y, 1, rfl, rfl, ?_⟩
  have e : Txt.find3 (tx x) (tx y) 1 = ((k : Nat) : Int) := by
    unfold Txt.find3
    have hlo : fromIndex (tx x).length 1 = 1 := rfl
    rw [hlo, PySem.StrLaws.occ_eq, occ_find _ _ _ _ _ (fun i hi => (List.mem_range'_1.mp hi).1)]
    have hf : (List.range' 1 ((tx x).length + 1 - 1)).find? (fun i => decide (i + (tx y).length ≤ (tx x).length) && Builtin.Str.subAt (tx x) (tx y) i) = some k := by
      rw [List.find?_range'_eq_some]
      rw [tx_len, tx_len]
      refine ⟨?_, ?_, ?_⟩
      · rw [subAt_tx, decide_eq_true h2, decide_eq_true h4]
        rfl
      · rw [List.mem_range'_1]
        omega
      · intro j hj1 hj2
        rw [subAt_tx, decide_eq_false (h5 j hj1 hj2), Bool.and_false]
        rfl
    rw [hf]
    rfl
  rw [e]
  exact q

def rMaxX : List V → Hp → VK → Prop := fun xs H Q => ∃ i j, xs = [.int i, .int j] ∧ Q (.int (if j > i then j else i)) H
theorem call_max2X {X : Cx} (hc : X.calm = true) : CallR X (.builtin "max") rMaxX := call_max2 hc
theorem rd_maxX {H : Hp} {Q : VK} {i j : Int} (q : Q (.int (if j > i then j else i)) H) : rMaxX [.int i, .int j] H Q := ⟨i, j, rfl, q⟩
theorem rd_find1 {H : Hp} {Q : VK} {x y : List Nat} {k : Nat} (h1 : 1 ≤ k) (h2 : k + y.length ≤ x.length) (h3 : (x.drop k).take y.length = y) (h4 : ∀ j, 1 ≤ j → j < k → (x.drop j).take y.length ≠ y) (q : Q (.int (k : Nat)) H) : rFind1 (.str (tx x)) [.str (tx y), .int 1] H Q :=
  ⟨x, y, k, rfl, rfl, h1, h2, by omega, h3, h4, q⟩
theorem rd_reprD {K : PySem.W.Frag} {H : Hp} {Q : VK} {a : Addr} {d : PyData} (h : Dp K H (.ref a) d) (hs : d.showable = true) (hn : d.hasDict = false) (hz : d.depth ≤ 60) (hl : d.shown.length ≤ sizeLine) (q : Q (.str d.shown) H) : rReprD K [.ref a] H Q := ⟨a, d, rfl, h, hs, hn, hz, hl, q⟩
/-! ### how long a shown pair is -/
theorem str_app_len (a b : Str) : (a ++ b).length = a.length + b.length := by
  show (a.cps ++ b.cps).size = _
  rw [Array.size_append]
  rfl
theorem tup2_len (a b : PyData) : (PyData.tuple [a, b]).shown.length ≤ a.shown.length + b.shown.length + 8 := by
  have e : (PyData.tuple [a, b]).shown = ("(" : Str) ++ (a.shown ++ (", " : Str) ++ b.shown) ++ (")" : Str) := by
    simp only [PyData.shown, PyData.shownAll]
    rfl
  have e1 : ("(" : Str).length = 1 := by decide
  have e2 : (", " : Str).length = 2 := by decide
  have e3 : (")" : Str).length = 1 := by decide
  rw [e, str_app_len, str_app_len, str_app_len, str_app_len, e1, e2, e3]
  omega
theorem shown_int_len {i : Int} (h : i.natAbs < 2 ^ 250) : (PyData.int i).shown.length ≤ 1000 := by
  have h1 : i.natAbs.log2 < 250 := PySem.Flt.log2_lt_of (by decide) h
  have h2 := PySem.int_text_length_le (a := i) (k := 250) (by decide) h1
  simp only [PyData.shown]
  show (Str.ofString (toString i)).length ≤ 1000
  rw [PySem.ofString_length]
  omega
theorem shown_str_len {l : List Nat} (h : ∀ c ∈ l, c < 1000) : (PyData.str (tx l)).shown.length ≤ 10 * l.length + 2 := by
  simp only [PyData.shown]
  have := PySem.StrLaws.reprText_len (tx l) (fun c hc => by
    rw [tx_cps] at hc
    have := h c hc
    have e : (1000 : Nat) < 16 ^ 8 := by decide
    omega)
  rw [tx_len] at this
  exact this
end Un

set_option maxHeartbeats 2000000
/-! UnY: own errors as the law uses them: by name, made, read, told apart; zip in a comprehension; repr of any value. -/
namespace Un
open PySem PySem.Spec PyProof.Rows L2
/-- the address of the class of a name -/
def ca (mg : Str → Option Value) (x : Str) : Addr := match mg x with
  | some (.ref C) => C
  | _ => 0
theorem ca_of {mg : Str → Option Value} {x : Str} {C : Addr} (h : mg x = some (.ref C)) : ca mg x = C := by
  unfold ca
  rw [h]
/-- an own error without an __init__, its class at C -/
def Err0 (K : PySem.W.Frag) (mg : Str → Option Value) (x : Str) (C : Addr) : Prop := mg x = some (.ref C) ∧ OxC K C ∧ PySem.W.excIn K C PySem.HandSPX.veTail "ValueError.__new__" = true
/-- one with an __init__ of one field -/
def ErrI (K : PySem.W.Frag) (mg : Str → Option Value) (x q f : Str) (st : Stmt) (C : Addr) : Prop := mg x = some (.ref C) ∧ OxC K C ∧ PySem.W.findIn K (.ref C) f = some none ∧
  ∃ (fI : Addr) (fd : FuncData), PySem.W.findIn K (.ref C) "__init__" = some (some (.ref fI)) ∧ PySem.W.typeIn K (.ref fI) = some (.type "function") ∧ Fun K "__init__" q st fI fd ∧ Binds K fd ["self", f] []
def Mk (P : Program) (w : World) (K : PySem.W.Frag) (mg : Str → Option Value) (base : Heap) (x f : Str) (C : Addr) : Prop := mg x = some (.ref C) ∧ OxC K C ∧ PySem.W.findIn K (.ref C) f = some none ∧
  ∃ (fI : Addr) (fd : FuncData), PySem.W.findIn K (.ref C) "__init__" = some (some (.ref fI)) ∧ PySem.W.typeIn K (.ref fI) = some (.type "function") ∧ FnOk P w K mg base CX0 1 fI fd ["self", f] (SpXI K f) ∧ Binds K fd ["self", f] []
theorem mk_of {P : Program} {w : World} {K : PySem.W.Frag} {mg : Str → Option Value} {base : Heap} {x q f : Str} {st : Stmt} {C : Addr} (e : ErrI K mg x q f st C)
    (h : ∀ fI fd, Fun K "__init__" q st fI fd → FnOk P w K mg base CX0 1 fI fd ["self", f] (SpXI K f)) : Mk P w K mg base x f C := by
  obtain ⟨g, o, n, fI, fd, i, t, F, b⟩ := e
  exact ⟨g, o, n, fI, fd, i, t, h fI fd F, b⟩
section
variable {X : Cx} {x f : Str} {C : Addr} {e : Expr} {te : TE} {p pos : Pos}
theorem pe_cls (hm : X.mg x = some (.ref C)) (hg : Gl X x) (hdb : (x == ("__debug__" : Str)) = false := by decide) : PE X (.Name x pos) (tC (.ref C)) := pe_glob hg hm rfl hdb
theorem pe_gstr {z : Str} (c : ∃ t, X.mg x = some (.str z t)) (l : List Nat) (h : z = tx l) (hg : Gl X x) (hdb : (x == ("__debug__" : Str)) = false := by decide) : PE X (.Name x pos) (tC (.str (tx l))) := by
  obtain ⟨t, c⟩ := c
  exact pe_glob hg c ⟨t, by rw [h]⟩ hdb
theorem pe_gint {i : Int} (c : ∃ t, X.mg x = some (.int i t)) (hg : Gl X x) (hdb : (x == ("__debug__" : Str)) = false := by decide) : PE X (.Name x pos) (tC (.int i)) := by
  obtain ⟨t, c⟩ := c
  exact pe_glob hg c ⟨t, rfl⟩ hdb
theorem pe_err0 (m : Err0 X.K X.mg x C) (hg : Gl X x) (hdb : (x == ("__debug__" : Str)) = false := by decide) : PE X (.Call (.Name x p) [] [] pos) (tMkN C) := pe_mkN F.excBase_ValueError m.2.2 m.1 m.2.1.kC hg hdb
theorem pe_errI (m : Mk X.prog X.w X.K X.mg X.base x f C) (hr : Room 2 X.A) (hg : Gl X x) (ha : PE X e te) (hdb : (x == ("__debug__" : Str)) = false := by decide)
    (he : starEach (e :: []) X.env = (false, eval e X.env) :: starEach [] X.env := by rfl) (hpl : (backTo pos (starEach [] X.env)).any (·.1) = false := by rfl) : PE X (.Call (.Name x p) [e] [] pos) (tMkX C f te) := by
  obtain ⟨g, o, n, fI, fd, i, t, F, b⟩ := m
  exact pe_mkX o i t n F hr b pass0 hg g ha hdb he hpl
end
theorem pmk_err0 {X : Cx} {x : Str} {C : Addr} {p pos : Pos} (m : Err0 X.K X.mg x C) (hg : Gl X x) (hdb : (x == ("__debug__" : Str)) = false := by decide) : PMk X (.Call (.Name x p) [] [] pos) (fun _ H Q => Q (.ref C) none H) := by
  intro pins s σ H Q I h
  refine wpAny_Call_Name_kw (ld_glob I hg m.1 ?_ hdb)
  refine PySem.W.callWith_K0 (K := X.K) (I.tok _).kIn m.2.1.kC ?_
  show wpAny _ _ (call (.ref C) []) _ _ _
  obtain ⟨bm, N, nm, qn, bs, hdct, sn, sub, ab, col, dd, k0, k1, k2, k3, k5, mN, hC, hN, hni, T⟩ := exc_obj (I.tok _).kIn m.2.2
  refine wpAny_call_exc_subT F.excBase_ValueError T hC hN hni (fun h' e hm => ?_) (by show 0 ≤ sizeLine; omega)
  exact L2.mk_of I hm (raises_own m.2.1.xf.exC m.2.1.ty) h (I.hok.gone hm.new)
/-- a def that may raise, under its name -/
def ClX (P : Program) (w : World) (K : PySem.W.Frag) (mg : Str → Option Value) (base : Heap) (nm : Str) (ps : List Str) (k : Nat) (sp : Sp) : Prop :=
  ∃ (f : Addr) (fd : FuncData), mg nm = some (.ref f) ∧ FnOk P w K mg base (L2.CX P w) k f fd ps sp ∧ PySem.W.keepIn K (.ref f) = true ∧ Binds K fd ps []
theorem clX_of {P : Program} {w : World} {K : PySem.W.Frag} {mg : Str → Option Value} {base : Heap} {nm : Str} {st : Stmt} {ps : List Str} {k : Nat} {sp : Sp}
    (a : At K mg nm st ps) (h : ∀ f fd, Fun K nm nm st f fd → FnOk P w K mg base (L2.CX P w) k f fd ps sp) : ClX P w K mg base nm ps k sp := by
  obtain ⟨f, fd, F, m, b⟩ := a
  exact ⟨f, fd, m, h f fd F, F.kp, b⟩
theorem pe_clX {X : Cx} {nm : Str} {ps : List Str} {k : Nat} {sp : Sp} {e : Expr} {es : List Expr} {t : TA} {p pos : Pos} {W : WX} (c : ClX X.prog X.w X.K X.mg X.base nm ps k sp) (hr : Room k X.A) (hg : Gl X nm) (tk : Takes X W) (ha : PA X (e :: es) t)
    (hdb : (nm == ("__debug__" : Str)) = false := by decide) (he : starEach (e :: es) X.env = (false, eval e X.env) :: starEach es X.env := by rfl) (hpl : (backTo pos (starEach es X.env)).any (·.1) = false := by rfl) :
    PE X (.Call (.Name nm p) (e :: es) [] pos) (tCallS sp (WE W) t) := by
  obtain ⟨f, fd, m, F, kp, b⟩ := c
  exact pe_callS F hr hg m kp b (fun σ => passAt tk σ) ha hdb he hpl
/-- an error stands at a: its class, its one field -/
def ErrAt (H : Hp) (a C : Addr) (f : Str) (v : V) : Prop := ∃ dx, H a = some (exo a C (some dx)) ∧ H dx = some (exd dx [(f, v)])
def IsErr (H : Hp) (a C : Addr) : Prop := ∃ d, H a = some (exo a C d) ∧ ∀ dx, d = some dx → ∃ fs, H dx = some (exd dx fs)
theorem ErrAt.is {H : Hp} {a C : Addr} {f : Str} {v : V} (h : ErrAt H a C f v) : IsErr H a C := by
  obtain ⟨dx, h1, h2⟩ := h
  refine ⟨some dx, h1, fun d e => ?_⟩
  cases e
  exact ⟨_, h2⟩
theorem IsErr.same {H H' : Hp} {a C : Addr} (h : IsErr H a C) (s : Same H H') : IsErr H' a C := by
  obtain ⟨d, h1, h2⟩ := h
  refine ⟨d, s _ _ h1, fun dx e => ?_⟩
  obtain ⟨fs, h3⟩ := h2 dx e
  exact ⟨fs, s _ _ h3⟩
theorem ErrAt.same {H H' : Hp} {a C : Addr} {f : Str} {v : V} (h : ErrAt H a C f v) (s : Same H H') : ErrAt H' a C f v := by
  obtain ⟨dx, h1, h2⟩ := h
  exact ⟨dx, s _ _ h1, s _ _ h2⟩
section
variable {K : PySem.W.Frag} {σ : L2.St} {H : Hp} {Q : VK} {te : TE} {ta : TA} {C : Addr} {f n : Str} {R : It → Hp → Prop}
theorem rd_mkN (q : ∀ a H', H a = none → Same H H' → IsErr H' a C → Q (.ref a) H') : tMkN C σ H Q := fun a ha => q a _ ha (same_upd ha) ⟨none, upd_same, fun _ e => by cases e⟩
theorem rd_mkX (h : te σ H fun v H1 => ∀ a dx, H1 a = none → H1 dx = none → dx ≠ a → Q (.ref a) (upd (upd (upd H1 a (exo a C none)) dx (exd dx [(f, v)])) a (exo a C (some dx)))) : tMkX C f te σ H Q := h
theorem mkX_end {v : V} (q : ∀ a H', H a = none → Same H H' → ErrAt H' a C f v → Q (.ref a) H') : ∀ a dx, H a = none → H dx = none → dx ≠ a → Q (.ref a) (upd (upd (upd H a (exo a C none)) dx (exd dx [(f, v)])) a (exo a C (some dx))) :=
  fun a dx ha hd hne => q a _ ha (same_mut (same_mut (same_upd ha) hd) ha) ⟨dx, upd_same, by rw [upd_ne hne, upd_same]⟩
theorem rd_xfl (h : te σ H fun x H1 => ∃ (a C d : Addr) (fs : List (Str × V)) (v : V), x = .ref a ∧ XfC K C ∧ PySem.W.findIn K (.ref C) n = some none ∧ H1 a = some (exo a C (some d)) ∧ H1 d = some (exd d fs) ∧ fs.lookup n = some v ∧ Q v H1) : tXfl K n te σ H Q := h
theorem xfl_end {a : Addr} {v : V} (T : OxC K C) (hno : PySem.W.findIn K (.ref C) n = some none) (e : ErrAt H a C n v) (q : Q v H) :
    ∃ (b C' d : Addr) (fs : List (Str × V)) (v' : V), V.ref a = .ref b ∧ XfC K C' ∧ PySem.W.findIn K (.ref C') n = some none ∧ H b = some (exo b C' (some d)) ∧ H d = some (exd d fs) ∧ fs.lookup n = some v' ∧ Q v' H := by
  obtain ⟨dx, h1, h2⟩ := e
  exact ⟨a, C, dx, _, v, rfl, T.xf, hno, h1, h2, by simp [List.lookup], q⟩
theorem rd_isX {a D : Addr} {b : Bool} (e : IsErr H a C) (T : OxC K C) (k : PySem.W.kitOne K (.ref C) (.ref D) = some b) (q : Q (.bl b) H) : rIsX K [.ref a, .ref D] H Q := by
  obtain ⟨d, h1, h2⟩ := e
  exact ⟨a, C, d, .ref D, .ref D, b, rfl, h1, h2, T.is, .own D, k, q⟩
theorem rd_isXT {a : Addr} {T' : String} {b : Bool} (e : IsErr H a C) (T : OxC K C) (k : PySem.W.kitOne K (.ref C) (.type T') = some b) (q : Q (.bl b) H) : rIsX K [.ref a, .ty T'] H Q := by
  obtain ⟨d, h1, h2⟩ := e
  exact ⟨a, C, d, .ty T', .type T', b, rfl, h1, h2, T.is, .ty T', k, q⟩
theorem rd_isi {x : V} {t : Value} {b : Bool} (ty : TyX K H x t) (k : PySem.W.kitOne K t (.type "str") = some b) (q : Q (.bl b) H) : rIsi K [x, .ty "str"] H Q := ⟨x, .ty "str", t, .type "str", b, rfl, .ty _, ty, k, q⟩
theorem rd_clX {sp : Sp} {E : L2.St → XK} {t : TA} (h : t σ H fun vs H1 => sp vs H1 Q (E σ)) : tCallS sp E t σ H Q := h
theorem rd_notB {a b : Bool} (q : Q (.bl (!decide (a = b))) H) : rNotB (.bl a) (.bl b) H Q := ⟨a, b, rfl, rfl, q⟩
theorem rd_chain {r r' : R2} {ta tb tc : TE} (h : ta σ H fun x H1 => tb σ H1 fun y H2 => r x y H2 fun z H3 => ∃ k, z = .bl k ∧ (if k = true then tc σ H3 fun w' H4 => r' y w' H4 Q else Q (.bl false) H3)) : tChain r r' ta tb tc σ H Q := h
theorem rd_mkN0 (h : ∀ a, H a = none → Q (.ref a) (upd H a (exo a C none))) : tMkN C σ H Q := h
theorem rd_iEnum (h : ta σ H fun vs H1 => ∃ a xs, vs = [.ref a] ∧ SqL K H1 a xs ∧ R (Ite K a) H1) : iEnum K ta σ H R := h
theorem rd_par3 {i j l : Nat} {D : Ends} (h : ta σ H fun vs H1 => ∃ v w u, vs = [v, w, u] ∧ D.nx (((σ.set i (some v)).set j (some w)).set l (some u)) H1) : tPar3 i j l ta D σ H := h
theorem rd_three {P : V → V → V → Prop} {a b c : V} (q : P a b c) : ∃ v w u, [a, b, c] = [v, w, u] ∧ P v w u := ⟨a, b, c, rfl, q⟩
theorem rd_iZipS (h : ta σ H fun vs H1 => ∃ x y, vs = [.str x, .str y] ∧ R (ItzS x y) H1) : iZipS ta σ H R := h
theorem rd_zipS2 {x y : Str} {P : Str → Str → Prop} (q : P x y) : ∃ x' y', [V.str x, V.str y] = [.str x', .str y'] ∧ P x' y' := ⟨x, y, rfl, q⟩
end
/-- a comprehension over zip of two texts -/
theorem lc_zip {l m : List Nat} {g : TG} {tt : TT} {te : TE} {vs : List Nat} {σ : L2.St} {H1 : Hp} {D : Addr} {Qd : Hp → Prop} (Pv : Nat → Hp → Prop) (h0 : Pv 0 (upd H1 D (.lst [])))
    (hs : ∀ (i c d : Nat) (T : Addr) (H : Hp), l[i]? = some c → m[i]? = some d → Pv i H → H T = none → g (.ref T) (wipe σ vs) (upd H T (.tup [.str (tx [c]), .str (tx [d])])) fun σ2 H2 => wipe σ2 vs = wipe σ vs ∧ tt σ2 H2 fun b H3 =>
      if b = true then te σ2 H3 fun y H4 => ∃ acc, H4 D = some (.lst acc) ∧ acc.length < sizeLine ∧ Pv (i + 1) (upd H4 D (.lst (acc ++ [y]))) else Pv (i + 1) H3) (hd : ∀ H, Pv (min l.length m.length) H → Qd H) :
    ∃ W : Nat → Nat → Hp → Prop, (∃ n, W 0 n (upd H1 D (.lst []))) ∧ ∀ i n H, W i n H →
      ((ItzS (tx l) (tx m)).stop i H ∧ Qd H) ∨ ((ItzS (tx l) (tx m)).go i H ∧ ∃ Nx : Hp → Prop, (∀ H', Nx H' → ∃ m', m' < n ∧ W (i + 1) m' H') ∧ ∀ x H', (ItzS (tx l) (tx m)).yld i H x H' → g x (wipe σ vs) H' fun σ2 H2 => wipe σ2 vs = wipe σ vs ∧ tt σ2 H2 fun b H3 =>
        if b = true then te σ2 H3 fun y H4 => ∃ acc, H4 D = some (.lst acc) ∧ acc.length < sizeLine ∧ Nx (upd H4 D (.lst (acc ++ [y]))) else Nx H3) := by
  have e1 : (tx l).cps.size = l.length := by simp [tx]
  have e2 : (tx m).cps.size = m.length := by simp [tx]
  refine ⟨fun i n H => n = min l.length m.length - i ∧ i ≤ min l.length m.length ∧ Pv i H, ⟨_, rfl, Nat.zero_le _, h0⟩, ?_⟩
  rintro i n H ⟨rfl, hi, p⟩
  by_cases hlt : i < min l.length m.length
  · refine .inr ⟨⟨by omega, by omega⟩, Pv (i + 1), fun H' p' => ⟨min l.length m.length - (i + 1), by omega, rfl, hlt, p'⟩, ?_⟩
    rintro x H' ⟨T, c, d, rfl, hT, rfl, hc, hd'⟩
    exact hs i c d T H (by simpa [tx] using hc) (by simpa [tx] using hd') p hT
  · have e : i = min l.length m.length := by omega
    subst e
    exact .inl ⟨⟨by omega, by omega, by omega⟩, hd H p⟩

/-! ### repr of any value -/
/-- how a value is shown, and that it can be -/
structure Good (d : PyData) : Prop where
  s : d.showable = true
  n : d.hasDict = false
  z : d.depth ≤ 20
  l : d.shown.length ≤ 100000
def rReprA (K : PySem.W.Frag) : List V → Hp → VK → Prop := fun xs H Q => ∃ (x : V) (d : PyData), xs = [x] ∧ Dp K H x d ∧ Good d ∧ Q (.str d.shown) H
theorem call_reprA {X : Cx} {k : Nat} (hgd : X.A.guards = some []) (hr : Room k X.A) : CallR X (.builtin "repr") (rReprA X.K) := by
  intro pins s σ H xs us Q I r h
  obtain ⟨x, d, rfl, hd, g, q⟩ := h
  have hsz : d.shown.length ≤ sizeLine := Nat.le_trans g.l (by decide)
  have base : scalR x → reprS x = d.shown → wpAny (model X.prog X.w) X.A (call (.builtin "repr") us) (EP X pins σ Q) X.xe s := fun h1 h2 => call_reprS pins s σ H [x] us Q I r ⟨x, rfl, h1, by rw [h2]; exact q⟩
  cases hd with
  | non => exact base trivial (by simp only [PyData.shown]; rfl)
  | bl b => exact base trivial (by simp only [PyData.shown]; rfl)
  | int i => exact base (by have h0 := g.s; simp only [PyData.showable, decide_eq_true_eq] at h0; exact h0) (by simp only [PyData.shown]; rfl)
  | str z => exact base (by have := hsz; simp only [PyData.shown] at this; exact this) (by simp only [PyData.shown]; rfl)
  | lst h1 h2 => exact call_reprD hgd hr pins s σ H _ us Q I r ⟨_, _, rfl, .lst h1 h2, g.s, g.n, by have := g.z; omega, hsz, q⟩
  | tup h1 h2 => exact call_reprD hgd hr pins s σ H _ us Q I r ⟨_, _, rfl, .tup h1 h2, g.s, g.n, by have := g.z; omega, hsz, q⟩
theorem rd_reprA {K : PySem.W.Frag} {H : Hp} {Q : VK} {x : V} {d : PyData} (h : Dp K H x d) (g : Good d) (q : Q (.str d.shown) H) : rReprA K [x] H Q := ⟨x, d, rfl, h, g, q⟩
theorem sqL_same {K : PySem.W.Frag} {H H' : Hp} {a : Addr} {ys : List V} (h : SqL K H a ys) (s : Same H H') : SqL K H' a ys := by
  rcases h with (h | ⟨o, h⟩) | h
  · exact .inl (.inl (s _ _ h))
  · exact .inl (.inr ⟨o, s _ _ h⟩)
  · exact .inr h
theorem sqT_same {K : PySem.W.Frag} {H H' : Hp} {a : Addr} {ys : List V} (h : SqT K H a ys) (s : Same H H') : SqT K H' a ys := by
  rcases h with (h | ⟨o, h⟩) | h
  · exact .inl (.inl (s _ _ h))
  · exact .inl (.inr ⟨o, s _ _ h⟩)
  · exact .inr h
mutual
theorem Dp.same {K : PySem.W.Frag} {H H' : Hp} (s : Same H H') : ∀ {v : V} {d : PyData}, Dp K H v d → Dp K H' v d
  | _, _, .non => .non
  | _, _, .bl b => .bl b
  | _, _, .int i => .int i
  | _, _, .str x => .str x
  | _, _, .lst h1 h2 => .lst (sqL_same h1 s) (DpAll.same s h2)
  | _, _, .tup h1 h2 => .tup (sqT_same h1 s) (DpAll.same s h2)
theorem DpAll.same {K : PySem.W.Frag} {H H' : Hp} (s : Same H H') : ∀ {vs : List V} {ds : List PyData}, DpAll K H vs ds → DpAll K H' vs ds
  | _, _, .nil => .nil
  | _, _, .cons h1 h2 => .cons (Dp.same s h1) (DpAll.same s h2)
end
end Un

/-! UnNil: xs == [] and xs != [], whatever stands in xs. -/
namespace Un
open PySem PySem.Spec PyProof.Rows L2
def rEqE (K : PySem.W.Frag) : R2 := fun x y H Q => ∃ a b xs, x = .ref a ∧ y = .ref b ∧ SqL K H a xs ∧ SqL K H b [] ∧ Q (.bl xs.isEmpty) H
def rNeE (K : PySem.W.Frag) : R2 := fun x y H Q => ∃ a b xs, x = .ref a ∧ y = .ref b ∧ SqL K H a xs ∧ SqL K H b [] ∧ Q (.bl (!xs.isEmpty)) H
section
variable {X : Cx}
theorem op_eqE (hu : X.A.units + 64 < cLine) : OpR X (compareOp .Eq) (rEqE X.K) := by
  intro pins s σ H x y v u Q I rx ry h
  obtain ⟨a, b, xs, rfl, rfl, ha, hb, q⟩ := h
  cases (show v = Value.ref a from rx)
  cases (show u = Value.ref b from ry)
  obtain ⟨us, r1, p1, _⟩ := I.list ha
  obtain ⟨ws, r2, p2, _⟩ := I.list hb
  cases r2
  cases r1 with
  | nil => exact (SeqAt.RcAt.lists (e := fun _ => true) p1.isList p2.isList rfl (by omega) (fun j h1 => absurd h1 (Nat.not_lt_zero j))) _ _ _ _ ⟨.bl true, H, I, rfl, q⟩
  | cons r rr => exact (SeqAt.RcAt.lists_lengths p1.isList p2.isList (by simp) (by omega)) _ _ _ _ ⟨.bl false, H, I, rfl, q⟩
theorem op_neE (hu : X.A.units + 64 < cLine) : OpR X (compareOp .NotEq) (rNeE X.K) := by
  intro pins s σ H x y v u Q I rx ry h
  obtain ⟨a, b, xs, rfl, rfl, ha, hb, q⟩ := h
  cases (show v = Value.ref a from rx)
  cases (show u = Value.ref b from ry)
  obtain ⟨us, r1, p1, _⟩ := I.list ha
  obtain ⟨ws, r2, p2, _⟩ := I.list hb
  cases r2
  cases r1 with
  | nil => exact (SeqAt.RcNeAt.lists (e := fun _ => true) p1.isList p2.isList rfl (by omega) (fun j h1 => absurd h1 (Nat.not_lt_zero j))) _ _ _ _ ⟨.bl false, H, I, rfl, q⟩
  | cons r rr => exact (SeqAt.RcNeAt.lists_lengths p1.isList p2.isList (by simp) (by omega)) _ _ _ _ ⟨.bl true, H, I, rfl, q⟩
end
section
variable {K : PySem.W.Frag} {H : Hp} {Q : VK} {p e : Addr} {xs : List V}
theorem rd_eqE (h1 : SqL K H p xs) (h2 : SqL K H e []) (q : Q (.bl xs.isEmpty) H) : rEqE K (.ref p) (.ref e) H Q := ⟨p, e, xs, rfl, rfl, h1, h2, q⟩
theorem rd_neE (h1 : SqL K H p xs) (h2 : SqL K H e []) (q : Q (.bl (!xs.isEmpty)) H) : rNeE K (.ref p) (.ref e) H Q := ⟨p, e, xs, rfl, rfl, h1, h2, q⟩
end
end Un

/-! UnOp: instances of own classes under [ ], in, len, == and !=, by their own methods. -/
namespace Un
open PySem PySem.Spec PyProof.Rows L2
section
variable {X : Cx} {CX : CXT} {k : Nat} {C f : Addr} {fd : FuncData} {ps : List Str} {sp : Sp} {E : XK}
/-- an own method called one level in -/
theorem run_in1 {pins : List (Addr × Obj)} {σ : L2.St} {H : Hp} {s : Shared} {Q : VK} {us : List Value} {vs : List V} (F : FnOk X.prog X.w X.K X.mg X.base CX k f fd ps sp) (hr : Room (k + 1) X.A) (hb : Binds X.K fd ps []) (hx : Passes CX X E)
    (I : Inv X pins σ H s) (r : Vals vs us) (h : sp vs H Q E) : wpAny (model X.prog X.w) X.A.in1 (call (.ref f) us) (EP X pins σ Q) X.xe s := by
  have hl : us.length = ps.length := by
    rw [← r.length]
    exact F.len _ _ _ _ h
  have hbd := hb s us I.kIn (by simpa using hl)
  rw [List.append_nil] at hbd
  refine wpAny_call (codeAny_mono (F.run X.A.in1 X.stack s H ⟨us, []⟩ us vs Q E hr.in1 I.env0.in1 hbd r h) fun q s' hq => ?_)
  match q, hq with
  | .error e, hq => exact hx pins σ H s e s' I hq
  | .ok (.ret u), hq => exact I.after hq
  | .ok .next, hq => exact hq.elim
  | .ok .brk, hq => exact hq.elim
  | .ok .cont, hq => exact hq.elim
theorem run_own {pins : List (Addr × Obj)} {σ : L2.St} {H : Hp} {s : Shared} {Q : VK} {us : List Value} {vs : List V} (F : FnOk X.prog X.w X.K X.mg X.base CX k f fd ps sp) (hr : Room k X.A) (hb : Binds X.K fd ps []) (hx : Passes CX X E)
    (I : Inv X pins σ H s) (r : Vals vs us) (h : sp vs H Q E) : wpAny (model X.prog X.w) X.A (call (.ref f) us) (EP X pins σ Q) X.xe s :=
  run_fn F hr hb .nil hx I r (by rw [List.append_nil]; exact h)
/-- o[i] = v -/
def rSetO (C : Addr) (sp : Sp) (E : XK) : TSet := fun o i v H Q => ∃ a dx fs, o = .ref a ∧ H a = some (.ins C dx fs) ∧ sp [.ref a, i, v] H (fun _ H' => Q H') E
theorem set_own (hm : Meth X.K C "__setitem__" f) (hq : PySem.W.noSeq X.K C = true) (F : FnOk X.prog X.w X.K X.mg X.base CX k f fd ps sp) (hr : Room k X.A) (hb : Binds X.K fd ps []) (hx : Passes CX X E) : PSet X (rSetO C sp E) := by
  intro pins s σ H o i v ov iv u Q I ro ri rv h
  obtain ⟨a, dx, fs, rfl, ha, h⟩ := h
  cases (show ov = Value.ref a from ro)
  obtain ⟨mA, O, _⟩ := ins_get I.hok ha
  obtain ⟨od, J, _⟩ := O.look
  obtain ⟨m, hF⟩ := I.fr
  refine PySem.W.ksp_setItem hF I.ok.mod.kin J hq hm.at_ hm.fn (wpAny_mono (run_own F hr hb hx I (show Vals [V.ref a, i, v] [Value.ref a, iv, u] from .cons rfl (.cons ri (.cons rv .nil))) h) (fun r s' hs => ?_) fun _ _ e => e)
  obtain ⟨z, H', I', rz, q⟩ := hs
  exact ⟨H', I', q⟩
/-- x in o, x not in o -/
def rInO (neg : Bool) (C : Addr) (sp : Sp) (E : XK) : R2 := fun x y H Q => ∃ a dx fs, y = .ref a ∧ H a = some (.ins C dx fs) ∧ sp [.ref a, x] H (fun r H' => ∃ b, r = .bl b ∧ Q (.bl (if neg then !b else b)) H') E
theorem op_inO (hm : Meth X.K C "__contains__" f) (F : FnOk X.prog X.w X.K X.mg X.base CX k f fd ps sp) (hr : Room k X.A) (hb : Binds X.K fd ps []) (hx : Passes CX X E) : OpR X (compareOp .In) (rInO false C sp E) := by
  intro pins s σ H x y v u Q I rx ry h
  obtain ⟨a, dx, fs, rfl, ha, h⟩ := h
  cases (show u = Value.ref a from ry)
  obtain ⟨mA, O, _⟩ := ins_get I.hok ha
  obtain ⟨od, J, _⟩ := O.look
  obtain ⟨m, hF⟩ := I.fr
  refine PySem.W.in_K hF I.ok.mod.kin J hm.at_ hm.fn (wpAny_mono (run_own F hr hb hx I (show Vals [V.ref a, x] [Value.ref a, v] from .cons rfl (.cons rx .nil)) h) (fun r s' hs => ?_) fun _ _ e => e)
  obtain ⟨z, H', I', rz, b, rfl, q⟩ := hs
  cases (show r = Value.bool b from rz)
  exact wpAny_truthy_bool ⟨.bl b, H', I', rfl, q⟩
theorem op_notInO (hm : Meth X.K C "__contains__" f) (F : FnOk X.prog X.w X.K X.mg X.base CX k f fd ps sp) (hr : Room k X.A) (hb : Binds X.K fd ps []) (hx : Passes CX X E) : OpR X (compareOp .NotIn) (rInO true C sp E) := by
  intro pins s σ H x y v u Q I rx ry h
  obtain ⟨a, dx, fs, rfl, ha, h⟩ := h
  cases (show u = Value.ref a from ry)
  obtain ⟨mA, O, _⟩ := ins_get I.hok ha
  obtain ⟨od, J, _⟩ := O.look
  obtain ⟨m, hF⟩ := I.fr
  refine PySem.W.notIn_K hF I.ok.mod.kin J hm.at_ hm.fn (wpAny_mono (run_own F hr hb hx I (show Vals [V.ref a, x] [Value.ref a, v] from .cons rfl (.cons rx .nil)) h) (fun r s' hs => ?_) fun _ _ e => e)
  obtain ⟨z, H', I', rz, b, rfl, q⟩ := hs
  cases (show r = Value.bool b from rz)
  exact wpAny_truthy_bool ⟨.bl (!b), H', I', rfl, q⟩
/-- len(o) -/
def rLenO (C : Addr) (sp : Sp) (E : XK) : List V → Hp → VK → Prop := fun xs H Q => ∃ a dx fs, xs = [.ref a] ∧ H a = some (.ins C dx fs) ∧ sp [.ref a] H (fun r H' => ∃ n : Nat, r = .int (n : Int) ∧ n ≤ 1000000 ∧ Q (.int (n : Int)) H') E
theorem call_lenO (hm : Meth X.K C "__len__" f) (F : FnOk X.prog X.w X.K X.mg X.base CX k f fd ps sp) (hr : Room (k + 1) X.A) (hb : Binds X.K fd ps []) (hx : Passes CX X E) : CallR X (.builtin "len") (rLenO C sp E) := by
  intro pins s σ H xs us Q I r h
  obtain ⟨a, dx, fs, rfl, ha, h⟩ := h
  obtain ⟨u, rfl, ru⟩ := vals1 r
  cases (show u = Value.ref a from ru)
  obtain ⟨mA, O, _⟩ := ins_get I.hok ha
  obtain ⟨od, J, _⟩ := O.look
  obtain ⟨m, hF⟩ := I.fr
  refine PySem.W.len_K hF I.ok.mod.kin J hm.at_ hm.fn (wpAny_mono (run_in1 F hr hb hx I (show Vals [V.ref a] [Value.ref a] from .cons rfl .nil) h) (fun r s' hs => ?_) fun _ _ e => e)
  obtain ⟨z, H', I', rz, n, rfl, hn, q⟩ := hs
  obtain ⟨t, rfl⟩ := rz
  exact ⟨⟨by omega, by omega⟩, .int n, H', I'.tok _, ⟨_, rfl⟩, q⟩
/-- o == y where the own method gives a truth value -/
def rEqO (C : Addr) (sp : Sp) (E : XK) (T : V → Hp → Prop) : R2 := fun x y H Q => ∃ a dx fs, x = .ref a ∧ H a = some (.ins C dx fs) ∧ T y H ∧ sp [.ref a, y] H (fun r H' => ∃ b, r = .bl b ∧ Q (.bl b) H') E
/-- what a right operand's class may be -/
def Right (X : Cx) (C : Addr) (T : V → Hp → Prop) : Prop := ∀ (pins : List (Addr × Obj)) (σ : L2.St) (H : Hp) (s : Shared) (y : V) (u : Value), Inv X pins σ H s → RelV y u → T y H → ∃ t, PySem.W.Looks (model X.prog X.w) s.heap (typeOf u) t ∧ PySem.W.notFirst X.K C t = true
theorem op_eqO {T : V → Hp → Prop} (hT : Right X C T) (hm : Meth X.K C "__eq__" f) (F : FnOk X.prog X.w X.K X.mg X.base CX k f fd ps sp) (hr : Room k X.A) (hb : Binds X.K fd ps []) (hx : Passes CX X E) : OpR X (compareOp .Eq) (rEqO C sp E T) := by
  intro pins s σ H x y v u Q I rx ry h
  obtain ⟨a, dx, fs, rfl, ha, ht, h⟩ := h
  cases (show v = Value.ref a from rx)
  obtain ⟨mA, O, _⟩ := ins_get I.hok ha
  obtain ⟨od, J, _⟩ := O.look
  obtain ⟨m, hF⟩ := I.fr
  obtain ⟨t, hL, hn⟩ := hT pins σ H s y u I ry ht
  refine PySem.W.cmp_K (op := .Eq) hr.units0 hF I.ok.mod.kin J hL hn hm.at_ hm.fn (wpAny_mono (run_own F hr hb hx I (show Vals [V.ref a, y] [Value.ref a, u] from .cons rfl (.cons ry .nil)) h) (fun r s' hs => ?_) fun _ _ e => e)
  obtain ⟨z, H', I', rz, b, rfl, q⟩ := hs
  cases (show r = Value.bool b from rz)
  exact ⟨.bl b, H', I', rfl, q⟩
/-- o[i] -/
def rGetO (C : Addr) (sp : Sp) (E : XK) : R2 := fun x y H Q => ∃ a dx fs, x = .ref a ∧ H a = some (.ins C dx fs) ∧ sp [.ref a, y] H Q E
theorem pe_getO {a b : Expr} {ta tb : TE} {pos : Pos} (hm : Meth X.K C "__getitem__" f) (hfn : PySem.W.fnIn X.K f = true) (F : FnOk X.prog X.w X.K X.mg X.base CX k f fd ps sp) (hr : Room (k + 1) X.A) (hb : Binds X.K fd ps []) (hx : Passes CX X E)
    (pa : PE X a ta) (pb : PE X b tb) (hs : ∀ (x : Addr) (i : Value), subscripted b true (.ref x) i = runValue (.builtin "lifetime.subscript" ⟨[.ref x, i], []⟩) := by exact fun _ _ => by with_unfolding_all rfl) : PE X (.Subscript a b pos) (tOp (rGetO C sp E) ta tb) := by
  refine ⟨fun pins s σ H Q I h => Subscript_ (binT pa pb I h fun v u s2 x y H2 I2 rx ry q => ?_)⟩
  obtain ⟨p, dx, fs, rfl, hp, q⟩ := q
  cases (show v = Value.ref p from rx)
  obtain ⟨mA, O, _⟩ := ins_get I2.hok hp
  obtain ⟨od, J, _⟩ := O.look
  obtain ⟨m, hF⟩ := I2.fr
  exact PySem.W.sub_K hF I2.ok.mod.kin J hm.at_ hfn hm.fn (run_in1 F hr hb hx I2 (show Vals [V.ref p, y] [Value.ref p, u] from .cons rfl (.cons ry .nil)) q) (hs p u)
end
end Un

set_option maxHeartbeats 4000000
/-! UnExc: own errors of one field raised, over any base; dead code; methods called with keywords; sorted texts of any number; a walk over a list or a tuple. -/
namespace Un
open PySem PySem.Spec PyProof.Rows L2
/-- code that is never come to -/
theorem ps_dead {X : Cx} {st : Stmt} : PS X st (fun _ _ _ => False) := ⟨fun _ _ _ _ _ _ h => h.elim⟩
theorem pss_dead {X : Cx} {sts : List Stmt} : PSs X sts (fun _ _ _ => False) := ⟨fun _ _ _ _ _ _ h => h.elim⟩
/-- raise C(e) -/
def tMkR (C : Addr) (f : Str) (te : TE) : L2.St → Hp → XK → Prop := fun σ H Q => te σ H fun v H1 => ∀ d, H1 d = none → Q (.ref C) (some d) (upd H1 d (.xd [(f, v)]))
section
variable {X : Cx} {o e : Expr} {te : TE} {f x : Str} {p pos : Pos} {C fI : Addr} {k : Nat} {fd : FuncData} {ps : List Str} {CX : CXT}
theorem pmk_X (T : OxC X.K C) (iC : PySem.W.findIn X.K (.ref C) "__init__" = some (some (.ref fI))) (tI : PySem.W.typeIn X.K (.ref fI) = some (.type "function")) (hno : PySem.W.findIn X.K (.ref C) f = some none)
    (F1 : FnOk X.prog X.w X.K X.mg X.base CX k fI fd ps (SpXI X.K f)) (hr : Room (k + 1) X.A) (hb : Binds X.K fd ps []) (hx : Passes CX X (fun _ _ _ => False)) (hg : Gl X x) (hm : X.mg x = some (.ref C)) (ha : PE X e te)
    (hdb : (x == ("__debug__" : Str)) = false := by decide) (he : starEach (e :: []) X.env = (false, eval e X.env) :: starEach [] X.env := by rfl) (hpl : (backTo pos (starEach [] X.env)).any (·.1) = false := by rfl) :
    PMk X (.Call (.Name x p) [e] [] pos) (tMkR C f te) := by
  intro pins s σ H Q I h
  obtain ⟨nm, q, N, bs, bm, sn, sub, ab, col, dd, k0, k1, k2, k3, k5, B, newId, initId, bmB, hC, FB, BB, hps⟩ := T.cls
  refine wpAny_Call_Name_kw (ld_glob I hg hm ?_ hdb)
  have hA : PA X [e] (tCons te tNil) := pa_cons ha pa_nil he
  refine PySem.W.callWith_K (h₀ := X.base) I.ok.mod.kin T.kC (thn (hA.run pos pins s σ H (fun vs H1 => match vs with | [v] => (∀ d, H1 d = none → Q (.ref C) (some d) (upd H1 d (.xd [(f, v)]))) | _ => False) I h) fun us s1 ⟨vs, H1, I1, r1, q1⟩ => ⟨I1.kIn, ?_⟩) he hpl
  show wpAny _ _ (call (.ref C) us) _ _ _
  obtain ⟨v, rfl⟩ : ∃ v, vs = [v] := by
    rcases vs with _ | ⟨v, _ | ⟨v2, vs⟩⟩
    · exact q1.elim
    · exact ⟨v, rfl⟩
    · exact q1.elim
  replace q1 : ∀ d, H1 d = none → Q (.ref C) (some d) (upd H1 d (.xd [(f, v)])) := q1
  obtain ⟨hp, g, dr, tk, os⟩ := s1
  have hsz : hp.objs.size ≤ hp.objs.size + 1 := Nat.le_succ _
  have hn : H1 (hp.objs.size + 1) = none := I1.hok.fresh hsz
  have hq : SpXI X.K f [.ref (hp.objs.size + 1), v] (upd H1 (hp.objs.size + 1) (exo (hp.objs.size + 1) C none))
      (fun r H2 => r = .non ∧ ∃ d, H1 d = none ∧ d ≠ hp.objs.size + 1 ∧ H2 = upd (upd (upd H1 (hp.objs.size + 1) (exo (hp.objs.size + 1) C none)) d (exd d [(f, v)])) (hp.objs.size + 1) (exo (hp.objs.size + 1) C (some d))) (fun _ _ _ => False) :=
    ⟨_, v, C, rfl, T, hno, upd_same, fun dx hd hda => ⟨rfl, dx, by rw [upd_ne hda] at hd; exact hd, hda, rfl⟩⟩
  have kk : ∀ b o, hp.get? b = some o → ((hp.push (PySem.W.kdv_tup us)).push (PySem.HandSPX.excO C hp.objs.size)).get? b = some o := fun b o z => Heap.get?_push_of_some _ (Heap.get?_push_of_some _ z)
  have hget : ((hp.push (PySem.W.kdv_tup us)).push (PySem.HandSPX.excO C hp.objs.size)).get? (hp.objs.size + 1) = some (PySem.HandSPX.excO C hp.objs.size) := by heap_get
  have I2 : Inv X pins σ (upd H1 (hp.objs.size + 1) (exo (hp.objs.size + 1) C none)) ⟨(hp.push (PySem.W.kdv_tup us)).push (PySem.HandSPX.excO C hp.objs.size), g, dr, tk, os⟩ :=
    I1.laid (t' := tk) (a := hp.objs.size + 1) (o := exo (hp.objs.size + 1) C none) (h' := (hp.push (PySem.W.kdv_tup us)).push (PySem.HandSPX.excO C hp.objs.size)) kk hsz (exo_ok hget)
  have r2 : Vals (V.ref (hp.objs.size + 1) :: ([v] ++ [])) (Value.ref (hp.objs.size + 1) :: (us ++ [])) := .cons rfl (r1.append .nil)
  have hl : (Value.ref (hp.objs.size + 1) :: us ++ []).length = ps.length := by
    have e1 := r2.length
    have e3 := F1.len _ _ _ _ hq
    simp only [List.length_cons, List.length_append, List.length_nil] at e1 e3 ⊢
    omega
  have hus : us.length ≤ sizeLine := by
    rw [← Paired.length r1, sizeLine_eq]
    simp
  refine wpAny_call (PySem.OXX.call_x FB BB (I1.kIn _ _ hC) (PySem.W.looks_findIn I1.kIn iC) (fun self => PySem.W.bind_fn I1.kIn self tI) hus
    (codeAny_mono (F1.run _ X.stack _ _ ⟨Value.ref (hp.objs.size + 1) :: us, []⟩ (Value.ref (hp.objs.size + 1) :: us ++ []) _ _ (fun _ _ _ => False) (hr.make C us []) (I2.env0.make C us []) (hb _ (Value.ref (hp.objs.size + 1) :: us) I2.kIn hl) r2 hq) fun r s' hq' => ?_))
  match r, hq' with
  | .error er, hq' => exact hx pins σ _ _ er s' I2 hq'
  | .ok .next, hq' => exact hq'.elim
  | .ok .brk, hq' => exact hq'.elim
  | .ok .cont, hq' => exact hq'.elim
  | .ok (.ret u), hq' =>
    obtain ⟨w', H2, os2, bare2, un2, hok2, rv, ev, d, hd1, hda, eH⟩ := hq'
    subst ev
    obtain ⟨h2, g2, d2, t2, os'⟩ := s'
    refine ⟨rv, mk_end (raises_own T.xf.exC T.ty) I1 hsz kk un2 hok2 os2 bare2 (by rw [eH, upd_same]) (by rw [eH, upd_ne hda, upd_same]) hd1 ?_⟩
    have e4 : upd (del H2 (hp.objs.size + 1)) d (.xd [(f, v)]) = upd H1 d (.xd [(f, v)]) := by
      funext b
      by_cases hb1 : b = d
      · subst hb1
        rw [upd_same, upd_same]
      · rw [upd_ne hb1, upd_ne hb1]
        by_cases hb2 : b = hp.objs.size + 1
        · subst hb2
          rw [del_same, hn]
        · rw [del_ne hb2, eH, upd_ne hb2, upd_ne hb1, upd_ne hb2]
    rw [e4]
    exact q1 d hd1
end
/-- sorted(texts), any number of them -/
def rSortedT (K : PySem.W.Frag) : List V → Hp → VK → Prop := fun vs H Q => ∃ (a : Addr) (xs : List Str), vs = [V.ref a] ∧ SqL K H a (xs.map V.str) ∧
  ∀ (ys : List Str) (p : Addr), ys.Perm xs → sortedS ys = true → H p = none → Q (.ref p) (upd H p (.lst (ys.map V.str)))
theorem cr_sortedT {X : Cx} : CallR X (.builtin "sorted") (rSortedT X.K) := by
  intro pins s σ H vs us Q I r h
  obtain ⟨a, xs, rfl, hs, q⟩ := h
  obtain ⟨its, rv, hl, hz⟩ := I.list hs
  rw [Vals.ref1 r]
  have hlen0 := rv.length
  refine PyProof.Rows.sorted_strsAny hl.isList rv.strs (by rw [← hlen0]; exact hz) fun out ys h1 h2 h3 => ?_
  obtain ⟨ep, he'⟩ := PyProof.Rows.sortedAll_at s.heap its out
  have hlen : (ys.map V.str).length ≤ sizeLine := by
    rw [List.length_map, h2.length_eq]
    rw [List.length_map] at hz
    exact hz
  exact ⟨.ref _, upd H (s.heap.objs.size + 1) (.lst (ys.map V.str)), I.laid (t' := s.toks) (fun _ _ => PyProof.Rows.sortedAll_old) (Nat.le_succ _) ⟨hlen, out.toList, ep, vals_of_strs h1, he'⟩, rfl, q ys _ h2 h3 (I.hok.fresh (Nat.le_succ _))⟩
/-- for x in xs, a list or a tuple -/
def iSeq (K : PySem.W.Frag) (tl : TE) : TI := fun σ H R => iList K tl σ H R ∨ iTup K tl σ H R
theorem pi_seq {X : Cx} {tg l : Expr} {tl : TE} (hl : PE X l tl) : PI X tg l (iSeq X.K tl) := ⟨fun pins s σ H R I h => h.elim ((pi_list hl).run pins s σ H R I) ((pi_tup hl).run pins s σ H R I)⟩
/-- o.m(e, .., k = v, ..) -/
def tMethN (C : Addr) (m : Str) (n l : Nat) (sp : Sp) (gV : List V → List V → List V) (E : XK) (ta : TE) (t tk : TA) : TE := fun σ H Q => ta σ H fun x H1 => ∃ a dx fs, x = .ref a ∧ H1 a = some (.ins C dx fs) ∧ fs.lookup m = none ∧
  t σ H1 fun vs H2 => tk σ H2 fun zs H3 => vs.length + 1 = n ∧ zs.length = l ∧ sp (gV (x :: vs) zs) H3 Q E
section
variable {X : Cx} {CX : CXT} {k n : Nat} {C f : Addr} {fd : FuncData} {ps ks : List Str} {sp : Sp} {E : XK} {m : Str} {apos pos : Pos} {o e : Expr} {es : List Expr} {kws : List Keyword} {ta : TE} {t tk : TA} {g : List Value → List Value → List Value} {gV : List V → List V → List V}
theorem pe_methN {pl : Sem Bool} (he : PE X o ta) (c : Cls X.K C) (hm : Meth X.K C m f) (F : FnOk X.prog X.w X.K X.mg X.base CX k f fd ps sp) (hr : Room k X.A) (hb : KBn X.K fd ps n ks g gV) (hx : Passes CX X E) (ha : PA X (e :: es) t) (hkw : PK X kws tk)
    (hall : (backToKw pos (keywordEach kws X.env)).all (·.1.isSome) = true := by rfl) (hks : (backToKw pos (keywordEach kws X.env)).filterMap (·.1) = ks := by rfl)
    (hst : starEach (e :: es) X.env = (false, eval e X.env) :: starEach es X.env := by rfl)
    (hpl : ((backTo pos (starEach (e :: es) X.env)).any (·.1) || (backToKw pos (keywordEach kws X.env)).any (·.1.isNone)) = false := by rfl)
    (ht : eval (.Call (.Attribute o m apos) (e :: es) kws pos) X.env = (do let ov ← eval o X.env; standAt apos.atName; let (f, first) ← holding [ov] (getMethod ov m pl); callWith pos f first (backTo pos (starEach (e :: es) X.env)) (backToKw pos (keywordEach kws X.env))) := by rfl) :
    PE X (.Call (.Attribute o m apos) (e :: es) kws pos) (tMethN C m n ks.length sp gV E ta t tk) := by
  refine ⟨fun pins s σ H Q I h => ?_⟩
  refine PySem.W.methodCall_KW (pl := pl) (thn (he.run pins s σ H _ I h) fun u s1 ⟨x, H1, I1, rx, a, dx, fs, ex, ea, l, q⟩ => ?_) ht
  subst ex
  obtain rfl : u = Value.ref a := rx
  refine getmeth_ok I1 ea c hm l ?_
  refine PySem.W.callWith_KW (first := [.ref a]) (h₀ := X.base) I.ok.mod.kin hm.kp hall (thn (ha.run pos pins s1 σ H1 _ I1 q) fun us s2 ⟨vs, H2, I2, r, q2⟩ => ?_) hpl hst
  refine thn (hkw.run pos pins s2 σ H2 _ I2 q2) fun ws s3 ⟨zs, H3, I3, rz, l1, l2, q3⟩ => ⟨I3.kIn, ?_⟩
  rw [hks]
  exact run_fnN (us := .ref a :: us) (vs := .ref a :: vs) F hr hb hx I3 (.cons rfl r) rz (by rw [List.length_cons]; exact l1) l2 q3
end
end Un

namespace Un
/-! ### words and their periods -/
def per (w : List Nat) (i : Nat) : Nat := w.getD (i % w.length) 0
def Per (w : List Nat) (k : Nat) : Prop := ∀ i, per w (i + k) = per w i
def repW (n : Nat) (l : List Nat) : List Nat := (List.replicate n l).flatten
theorem per_get {w : List Nat} {i : Nat} (h : i < w.length) : w[i]? = some (per w i) := by
  unfold per
  rw [Nat.mod_eq_of_lt h, List.getElem?_eq_getElem h, List.getD_eq_getElem?_getD, List.getElem?_eq_getElem h]
  rfl
theorem per_mod (w : List Nat) (i : Nat) : per w (i % w.length) = per w i := by
  unfold per
  rw [Nat.mod_mod]
theorem per_add_len (w : List Nat) (i : Nat) : per w (i + w.length) = per w i := by
  unfold per
  rw [Nat.add_mod_right]
theorem per_add_mul (w : List Nat) (i m : Nat) : per w (i + w.length * m) = per w i := by
  unfold per
  rw [Nat.add_mul_mod_self_left]
theorem per_two {w : List Nat} {j : Nat} (h : j < 2 * w.length) : (w ++ w)[j]? = some (per w j) := by
  by_cases hj : j < w.length
  · rw [List.getElem?_append_left hj, per_get hj]
  · have e : j - w.length + w.length = j := by omega
    rw [List.getElem?_append_right (by omega), per_get (by omega), ← per_add_len, e]
theorem rot_iff {w : List Nat} {k : Nat} (hw : w ≠ []) (hk : k ≤ w.length) : ((w ++ w).drop k).take w.length = w ↔ Per w k := by
  have hpos : 0 < w.length := List.length_pos_iff.mpr hw
  constructor
  · intro h i
    have hi : i % w.length < w.length := Nat.mod_lt _ hpos
    have h1 := congrArg (fun l => l[i % w.length]?) h
    simp only [List.getElem?_take, if_pos hi, List.getElem?_drop] at h1
    rw [per_two (by omega), per_get hi] at h1
    have h2 := Option.some.inj h1
    rw [per_mod, ← per_mod w (k + i % w.length), Nat.add_mod_mod, per_mod, Nat.add_comm] at h2
    exact h2
  · intro h
    apply List.ext_getElem?
    intro i
    by_cases hi : i < w.length
    · rw [List.getElem?_take, if_pos hi, List.getElem?_drop, per_two (by omega), per_get hi, Nat.add_comm, h i]
    · rw [List.getElem?_eq_none (by rw [List.length_take]; omega), List.getElem?_eq_none (by omega)]
theorem per_len (w : List Nat) : Per w w.length := per_add_len w
theorem Per.mul {w : List Nat} {k : Nat} (h : Per w k) : ∀ (m i : Nat), per w (i + k * m) = per w i
  | 0, i => by simp
  | m + 1, i => by
    rw [Nat.mul_succ, ← Nat.add_assoc, h, h.mul m]
theorem repW_len (n : Nat) (l : List Nat) : (repW n l).length = n * l.length := by
  unfold repW
  induction n with
  | zero => simp
  | succ n ih => rw [List.replicate_succ, List.flatten_cons, List.length_append, ih, Nat.add_mul, Nat.one_mul, Nat.add_comm]
theorem repW_get : ∀ (n : Nat) (u : List Nat) (i : Nat), i < n * u.length → (repW n u)[i]? = some (per u i)
  | 0, u, i, h => by simp at h
  | n + 1, u, i, h => by
    have e : repW (n + 1) u = u ++ repW n u := by
      unfold repW
      rw [List.replicate_succ, List.flatten_cons]
    rw [e]
    by_cases hi : i < u.length
    · rw [List.getElem?_append_left hi, per_get hi]
    · have e2 : i - u.length + u.length = i := by omega
      rw [List.getElem?_append_right (by omega), repW_get n u _ (by rw [Nat.add_mul, Nat.one_mul] at h; omega), ← per_add_len, e2]
/-- the length of the root -/
def RootLen (w : List Nat) (k : Nat) : Prop := 1 ≤ k ∧ k ≤ w.length ∧ Per w k ∧ ∀ j, 1 ≤ j → j < k → ¬ Per w j
theorem least_of {P : Nat → Prop} : ∀ n : Nat, P n → 1 ≤ n → ∃ k, 1 ≤ k ∧ k ≤ n ∧ P k ∧ ∀ j, 1 ≤ j → j < k → ¬ P j := by
  intro n
  induction n using Nat.strongRecOn with
  | ind n ih =>
    intro hp h1
    rcases Classical.em (∃ j, 1 ≤ j ∧ j < n ∧ P j) with ⟨j, hj1, hj2, hj3⟩ | h
    · obtain ⟨k, a, b, c, d⟩ := ih j hj2 hj3 hj1
      exact ⟨k, a, by omega, c, d⟩
    · exact ⟨n, h1, Nat.le_refl _, hp, fun j a b c => h ⟨j, a, b, c⟩⟩
theorem root_ex {w : List Nat} (hw : w ≠ []) : ∃ k, RootLen w k := least_of w.length (per_len w) (List.length_pos_iff.mpr hw)
theorem Per.sub {w : List Nat} {a b : Nat} (ha : Per w a) (hb : Per w (a + b)) : Per w b := fun i => by
  have h1 := hb i
  have h2 := ha (i + b)
  rw [show i + (a + b) = i + b + a by omega] at h1
  rw [← h2, h1]
theorem per_dvd {w : List Nat} {k n : Nat} (hk : 1 ≤ k) (hp : Per w k) (hmin : ∀ j, 1 ≤ j → j < k → ¬ Per w j) (hn : Per w n) : n % k = 0 := by
  rcases Nat.eq_zero_or_pos (n % k) with h | h
  · exact h
  · exfalso
    have e := Nat.div_add_mod n k
    have h1 : Per w (k * (n / k)) := fun i => hp.mul (n / k) i
    have h2 : Per w (n % k) := h1.sub (by rw [e]; exact hn)
    exact hmin _ h (Nat.mod_lt _ hk) h2
theorem take_per {w : List Nat} {k : Nat} (hk : 1 ≤ k) (hl : k ≤ w.length) (hp : Per w k) (i : Nat) : per (w.take k) i = per w i := by
  have hlen : (w.take k).length = k := by rw [List.length_take]; omega
  have hm : i % k < k := Nat.mod_lt _ hk
  have h1 : per (w.take k) i = per w (i % k) := by
    have a := per_get (w := w.take k) (i := i % k) (by rw [hlen]; exact hm)
    rw [List.getElem?_take, if_pos hm, per_get (by omega)] at a
    have a' := Option.some.inj a
    rw [a']
    have b := per_mod (w.take k) i
    rw [hlen] at b
    exact b.symm
  have h2 := hp.mul (i / k) (i % k)
  rw [Nat.mod_add_div] at h2
  rw [h1, h2]
theorem root_rep {w : List Nat} {k : Nat} (h : RootLen w k) : repW (w.length / k) (w.take k) = w := by
  obtain ⟨h1, h2, h3, h4⟩ := h
  have hd := per_dvd h1 h3 h4 (per_len w)
  have hlen : (w.take k).length = k := by rw [List.length_take]; omega
  have e : w.length / k * k = w.length := by
    have := Nat.div_add_mod w.length k
    rw [hd, Nat.mul_comm] at this
    omega
  apply List.ext_getElem?
  intro i
  by_cases hi : i < w.length
  · rw [repW_get _ _ _ (by rw [hlen, e]; exact hi), per_get hi, take_per h1 h2 h3]
  · rw [List.getElem?_eq_none (by rw [repW_len, hlen, e]; omega), List.getElem?_eq_none (by omega)]
/-- a word that is a repetition of its first s letters has the period s -/
theorem per_of_rep {w : List Nat} {s o : Nat} (hs : 1 ≤ s) (hl : s ≤ w.length) (h : repW o (w.take s) = w) : Per w s ∧ o * s = w.length := by
  have hlen : (w.take s).length = s := by rw [List.length_take]; omega
  have e : o * s = w.length := by
    have := congrArg List.length h
    rw [repW_len, hlen] at this
    exact this
  refine ⟨fun i => ?_, e⟩
  have key : ∀ j, per w j = per (w.take s) j := fun j => by
    have hj : j % w.length < w.length := Nat.mod_lt _ (by omega)
    have a := per_get hj
    rw [per_mod] at a
    have b := repW_get o (w.take s) (j % w.length) (by rw [hlen, e]; exact hj)
    rw [h, a] at b
    rw [Option.some.inj b]
    unfold per
    rw [hlen, ← e, Nat.mod_mul_left_mod]
  rw [key, key]
  have := per_add_len (w.take s) i
  rw [hlen] at this
  exact this
/-- two words with one endless word -/
theorem rep_eq_iff {w v : List Nat} (hw : w ≠ []) (hv : v ≠ []) : repW v.length w = repW w.length v ↔ ∀ i, per w i = per v i := by
  have h1 : 0 < w.length := List.length_pos_iff.mpr hw
  have h2 : 0 < v.length := List.length_pos_iff.mpr hv
  constructor
  · intro h i
    have hN : 0 < v.length * w.length := Nat.mul_pos h2 h1
    have hi : i % (v.length * w.length) < v.length * w.length := Nat.mod_lt _ hN
    have a := repW_get v.length w _ hi
    have b := repW_get w.length v (i % (v.length * w.length)) (Nat.lt_of_lt_of_eq hi (Nat.mul_comm _ _))
    rw [h, b] at a
    have c := Option.some.inj a
    unfold per at c ⊢
    rw [Nat.mod_mul_left_mod, Nat.mul_comm v.length, Nat.mod_mul_left_mod] at c
    exact c.symm
  · intro h
    apply List.ext_getElem?
    intro i
    by_cases hi : i < v.length * w.length
    · rw [repW_get _ _ _ hi, repW_get _ _ _ (by rw [Nat.mul_comm]; exact hi), h]
    · rw [List.getElem?_eq_none (by rw [repW_len]; omega), List.getElem?_eq_none (by rw [repW_len, Nat.mul_comm]; omega)]
theorem roots_iff {w v : List Nat} {k m : Nat} (hw : RootLen w k) (hv : RootLen v m) : w.take k = v.take m ↔ ∀ i, per w i = per v i := by
  obtain ⟨a1, a2, a3, a4⟩ := hw
  obtain ⟨b1, b2, b3, b4⟩ := hv
  constructor
  · intro h i
    rw [← take_per a1 a2 a3, ← take_per b1 b2 b3, h]
  · intro h
    have hPer : ∀ j, Per w j ↔ Per v j := fun j => ⟨fun p i => by rw [← h, ← h]; exact p i, fun p i => by rw [h, h]; exact p i⟩
    have e : k = m := by
      rcases Nat.lt_trichotomy k m with g | g | g
      · exact (b4 k a1 g ((hPer k).mp a3)).elim
      · exact g
      · exact (a4 m b1 g ((hPer m).mpr b3)).elim
    subst e
    apply List.ext_getElem?
    intro i
    by_cases hi : i < k
    · rw [List.getElem?_take, if_pos hi, List.getElem?_take, if_pos hi, per_get (by omega), per_get (by omega), h]
    · rw [List.getElem?_eq_none (by rw [List.length_take]; omega), List.getElem?_eq_none (by rw [List.length_take]; omega)]
/-- how many first letters follow f -/
def follows (f : Nat → Nat) : List Nat → Nat → Nat
  | [], _ => 0
  | c :: r, i => if c = f i then follows f r (i + 1) + 1 else 0
theorem follows_le (f : Nat → Nat) : ∀ (t : List Nat) (i : Nat), follows f t i ≤ t.length
  | [], _ => Nat.le_refl _
  | c :: r, i => by
    unfold follows
    split
    · have := follows_le f r (i + 1)
      simp
      exact this
    · exact Nat.zero_le _
theorem follows_stop (f : Nat → Nat) : ∀ (t : List Nat) (i j c : Nat), (∀ m d, m < j → t[m]? = some d → d = f (i + m)) → t[j]? = some c → c ≠ f (i + j) → follows f t i = j
  | [], _, _, _, _, h, _ => by simp at h
  | a :: r, i, 0, c, _, h, hn => by
    have : a = c := by simpa using h
    subst this
    unfold follows
    rw [if_neg (by simpa using hn)]
  | a :: r, i, j + 1, c, hb, h, hn => by
    have h0 : a = f i := by
      have := hb 0 a (by omega) rfl
      simpa using this
    unfold follows
    rw [if_pos h0, follows_stop f r (i + 1) j c (fun m d hm hd => by
      have := hb (m + 1) d (by omega) (by simpa using hd)
      rw [this]
      congr 1
      omega) (by simpa using h) (by rw [show i + 1 + j = i + (j + 1) by omega]; exact hn)]
theorem follows_all (f : Nat → Nat) : ∀ (t : List Nat) (i : Nat), (∀ m d, m < t.length → t[m]? = some d → d = f (i + m)) → follows f t i = t.length
  | [], _, _ => rfl
  | a :: r, i, hb => by
    have h0 : a = f i := by
      have := hb 0 a (by simp) rfl
      simpa using this
    unfold follows
    rw [if_pos h0, follows_all f r (i + 1) (fun m d hm hd => by
      have := hb (m + 1) d (by simp; omega) (by simpa using hd)
      rw [this]
      congr 1
      omega)]
    rfl
end Un

set_option maxHeartbeats 2000000
/-! UnZp: zip and enumerate of lists and tuples, in any mixture. -/
namespace Un
open PySem PySem.Spec PyProof.Rows L2
inductive SK where | l | t
def SqA : SK → PySem.W.Frag → Hp → Addr → List V → Prop
  | .l => SqL
  | .t => SqT
def IterA : SK → Heap → Addr → Addr → Nat → Prop
  | .l => fun h it a i => h.IsListIter it a i
  | .t => fun h it a i => h.IsTupleIter it a i
def ObA : SK → Heap → Addr → Array Value → Prop
  | .l => fun h a its => h.IsList a its
  | .t => fun h a its => h.IsTuple a its
theorem seqA {X : Cx} {pins : List (Addr × Obj)} {σ : L2.St} {H : Hp} {s : Shared} {a : Addr} {xs : List V} (k : SK) (I : Inv X pins σ H s) (h : SqA k X.K H a xs) : ∃ its : List Value, Vals xs its ∧ ObA k s.heap a its.toArray ∧ a < s.heap.objs.size := by
  cases k with
  | l =>
    obtain ⟨its, rv, p, _⟩ := I.list h
    exact ⟨its, rv, p.isList, p.lt⟩
  | t =>
    obtain ⟨its, rv, p, _⟩ := I.tuple h
    exact ⟨its, rv, p, p.lt⟩
theorem seqA_inj {X : Cx} {pins : List (Addr × Obj)} {σ : L2.St} {H : Hp} {s : Shared} {a : Addr} {xs ys : List V} (k : SK) (I : Inv X pins σ H s) (h : SqA k X.K H a xs) (h' : SqA k X.K H a ys) : xs = ys := by
  cases k with
  | l => exact I.list_inj h h'
  | t => exact I.tuple_inj h h'
theorem drawsA {prog : Program} {w : World} {A : Around} (k : SK) (hh : A.handled = none) (it a : Addr) (hne : a ≠ it) (its : Array Value) :
    Draws prog w A it [it, a] its.size (fun i v => its[i]? = some v) (fun i h => IterA k h it a i ∧ ObA k h a its) := by
  cases k with
  | l => exact Draws.list hh it a hne its
  | t => exact Draws.tuple hh it a hne its
theorem iterA_at {k : SK} {h h' : Heap} {it a : Addr} {i : Nat} (x : IterA k h it a i) (q : ∀ o, h.get? it = some o → h'.get? it = some o) : IterA k h' it a i := by
  cases k with
  | l => exact Heap.IsListIter.at x q
  | t => exact Heap.IsTupleIter.at x q
theorem iterA_obj {k : SK} {h : Heap} {it a : Addr} {i : Nat} (x : IterA k h it a i) : ∃ o, h.get? it = some o ∧ ∀ v, o.data ≠ .cell v := by
  cases k with
  | l =>
    obtain ⟨o, e, _, d⟩ := x
    exact ⟨o, e, fun v q => by rw [d] at q; cases q⟩
  | t =>
    obtain ⟨o, e, _, d⟩ := x
    exact ⟨o, e, fun v q => by rw [d] at q; cases q⟩
/-! ### zip -/
def ItzA (k1 k2 : SK) (K : PySem.W.Frag) (a b : Addr) : It :=
  ⟨fun i H => ∃ (xs ys : List V) (x y : V), SqA k1 K H a xs ∧ SqA k2 K H b ys ∧ xs[i]? = some x ∧ ys[i]? = some y,
    fun i H v H' => ∃ T x y, v = .ref T ∧ H T = none ∧ H' = upd H T (.tup [x, y]) ∧ (∀ xs, SqA k1 K H a xs → xs[i]? = some x) ∧ ∀ ys, SqA k2 K H b ys → ys[i]? = some y,
    fun i H => ∃ xs ys : List V, SqA k1 K H a xs ∧ SqA k2 K H b ys ∧ i ≤ xs.length ∧ i ≤ ys.length ∧ (i = xs.length ∨ i = ys.length)⟩
theorem turn_zipA (k1 k2 : SK) {P : Program} {w : World} {K : PySem.W.Frag} {elts : List Expr} {kk : Nat} {tpos : Pos} {a b z TI TO i1 i2 : Addr} (D : ZipSep2 z TI TO i1 i2 [i1, a] [i2, b]) (n1 : a ≠ i1) (n2 : b ≠ i2) :
    Turn P w K (.Tuple elts kk tpos) (ItzA k1 k2 K a b) [z, TI, TO, i1, i2] z (fun i h => IsZip h z TI TO .none ∧ IsTupOf2 h TI (.ref i1) (.ref i2) ∧ (∃ x y, IsTupOf2 h TO x y) ∧ IterA k1 h i1 a i ∧ IterA k2 h i2 b i) where
  mem := by simp
  obj := fun i h st c hc => by
    obtain ⟨hz, hTI, ⟨x, y, hTO⟩, j1, j2⟩ := st
    have e' : c = z ∨ c = TI ∨ c = TO ∨ c = i1 ∨ c = i2 := by simpa using hc
    rcases e' with rfl | rfl | rfl | rfl | rfl
    · exact ⟨_, hz, fun v q => nomatch q⟩
    · exact ⟨_, hTI, fun v q => nomatch q⟩
    · exact ⟨_, hTO, fun v q => nomatch q⟩
    · exact iterA_obj j1
    · exact iterA_obj j2
  keep := fun i h h' st k => by
    obtain ⟨hz, hTI, ⟨x, y, hTO⟩, j1, j2⟩ := st
    exact ⟨k z (by simp) _ hz, k TI (by simp) _ hTI, ⟨x, y, k TO (by simp) _ hTO⟩, iterA_at j1 fun o q => k i1 (by simp) o q, iterA_at j2 fun o q => k i2 (by simp) o q⟩
  item := by
    intro X hP hw hK hc i pins s σ H E I hf st hg
    subst hP hw hK
    obtain ⟨hz, hTI, ⟨x0, y0, hTO⟩, j1, j2⟩ := st
    obtain ⟨xs, ys, x, y, hqx, hqy, hx, hy⟩ := hg
    obtain ⟨its, rv, p1, _⟩ := seqA k1 I hqx
    obtain ⟨its2, rv2, p2, _⟩ := seqA k2 I hqy
    obtain ⟨u, hu, ru⟩ := rv.get hx
    obtain ⟨u2, hu2, ru2⟩ := rv2.get hy
    have hzl : z < s.heap.objs.size := Heap.lt_size hz
    have hd : X.A.in1.handled = none := I.ok.hd hc
    refine wpAny_pyNext_zipD2_item D (drawsA k1 hd i1 a n1 its.toArray) (drawsA k2 hd i2 b n2 its2.toArray) hz hTI hTO ⟨j1, p1⟩ ⟨j2, p2⟩ (by simpa using (List.getElem?_eq_some_iff.mp hu).1) (by simpa using (List.getElem?_eq_some_iff.mp hu2).1) fun v1 v2 h' tk q1 q2 z' TO' h1' h2' hT hsz hk => ?_
    have ev1 : v1 = u := by
      rw [List.getElem?_toArray, hu] at q1
      exact (Option.some.inj q1).symm
    have ev2 : v2 = u2 := by
      rw [List.getElem?_toArray, hu2] at q2
      exact (Option.some.inj q2).symm
    subst ev1 ev2
    refine ⟨_, rfl, wpAny_letOwnedTupleGo_zip (s := { s with heap := h', toks := tk }) z' fun h'' z'' sb => ?_⟩
    have hT2 : h''.get? s.heap.objs.size = some { cls := .type "tuple", data := .seq #[v1, v2] } := (sb.2 _ (Nat.ne_of_gt hzl)).trans hT
    have new : ObjOk X.prog X.w (upd H s.heap.objs.size (.tup [x, y])) h'' s.heap.objs.size (.tup [x, y]) := ⟨by show 2 ≤ sizeLine; decide, [v1, v2], .cons ru (.cons ru2 .nil), ⟨_, hT2, rfl, _, rfl⟩⟩
    have kept : ∀ c o, c ∉ [z, TI, TO, i1, i2] → s.heap.get? c = some o → h''.get? c = some o := fun c o hb q => by
      have nz : c ≠ z := fun q' => hb (by simp [q'])
      have nO : c ≠ TO := fun q' => hb (by simp [q'])
      have m1 : c ≠ i1 := fun q' => hb (by simp [q'])
      have m2 : c ≠ i2 := fun q' => hb (by simp [q'])
      exact (sb.2 c nz).trans (hk c o nz nO m1 m2 q)
    have I1 : Inv X pins σ (upd H s.heap.objs.size (.tup [x, y])) { s with heap := h'', toks := tk } := I.turnedNew (t' := tk) (ch := [z, TI, TO, i1, i2]) kept hf (Nat.le_refl _) new
    refine ⟨.ref s.heap.objs.size, _, I1, rfl, ⟨_, x, y, rfl, I.hok.fresh (Nat.le_refl _), rfl, fun l hl => by rw [seqA_inj k1 I hl hqx]; exact hx, fun l hl => by rw [seqA_inj k2 I hl hqy]; exact hy⟩, ⟨z'', ?_, ⟨v1, v2, ?_⟩, ?_, ?_⟩, fun c hcm => ?_⟩
    · exact (sb.2 _ D.TIz).trans (hk _ _ D.TIz D.TITO D.TIi1 D.TIi2 hTI)
    · exact (sb.2 _ D.TOz).trans TO'
    · exact iterA_at h1'.1 fun o q => (sb.2 _ D.zi1.symm).trans q
    · exact iterA_at h2'.1 fun o q => (sb.2 _ D.zi2.symm).trans q
    · have hlt : c < s.heap.objs.size := by
        have e' : c = z ∨ c = TI ∨ c = TO ∨ c = i1 ∨ c = i2 := by simpa using hcm
        rcases e' with rfl | rfl | rfl | rfl | rfl
        · exact hzl
        · exact Heap.lt_size hTI
        · exact Heap.lt_size hTO
        · obtain ⟨_, e1, _⟩ := iterA_obj j1
          exact Heap.lt_size e1
        · obtain ⟨_, e1, _⟩ := iterA_obj j2
          exact Heap.lt_size e1
      rw [upd_ne (Nat.ne_of_lt hlt)]
      exact (hf c hcm).1
  done := by
    intro X hP hw hK hc i pins s σ H E I hf st hg
    subst hP hw hK
    obtain ⟨hz, hTI, ⟨x0, y0, hTO⟩, j1, j2⟩ := st
    obtain ⟨xs, ys, hqx, hqy, l1, l2, he⟩ := hg
    obtain ⟨its, rv, p1, _⟩ := seqA k1 I hqx
    obtain ⟨its2, rv2, p2, _⟩ := seqA k2 I hqy
    have hd : X.A.in1.handled = none := I.ok.hd hc
    have e1 := rv.length
    have e2 := rv2.length
    exact wpAny_pyNext_zipD2_end D (drawsA k1 hd i1 a n1 its.toArray) (drawsA k2 hd i2 b n2 its2.toArray) hz hTI hTO ⟨j1, p1⟩ ⟨j2, p2⟩ (by simp; omega) (by simp; omega) (by simp; omega) fun h' tk hk => ⟨rfl, I.turnedL (t' := tk) (ch := [z, TI, TO, i1, i2]) (fun c o hb q =>
      hk c o (fun q' => hb (by simp [q'])) (fun q' => hb (by simp [q'])) (fun q' => hb (by simp [q'])) (fun q' => hb (by simp [q'])) q) hf⟩
  self := fun A i s Q E st h => wpAny_pyIter_zip st.1 h
def iZipK (k1 k2 : SK) (K : PySem.W.Frag) (ta : TA) : TI := fun σ H R => ta σ H fun vs H1 => ∃ a b xs ys, vs = [.ref a, .ref b] ∧ SqA k1 K H1 a xs ∧ SqA k2 K H1 b ys ∧ R (ItzA k1 k2 K a b) H1
theorem beginsA (k : SK) (a : Addr) (its : Array Value) : ∃ o : Obj, Begins (.ref a) o (fun h => ObA k h a its) ∧ ∀ (h : Heap) (it : Addr), h.get? it = some o → IterA k h it a 0 := by
  cases k with
  | l => exact ⟨_, begins_list a its, fun h it e => ⟨_, e, rfl, rfl⟩⟩
  | t => exact ⟨_, begins_tuple a its, fun h it e => ⟨_, e, rfl, rfl⟩⟩
theorem nin2 {x y z : Nat} (h1 : x ≠ y) (h2 : x ≠ z) : x ∉ [y, z] := fun h => by
  rcases List.mem_cons.mp h with h | h
  · exact h1 h
  · exact h2 (List.mem_singleton.mp h)
theorem sep7 (n a b : Nat) (ha : a < n) (hb : b < n) : ZipSep2 (n + 4) (n + 2) (n + 3) n (n + 1) [n, a] [n + 1, b] where
  TIz := (show (n + 2 : Nat) ≠ n + 4 by omega)
  TOz := (show (n + 3 : Nat) ≠ n + 4 by omega)
  TITO := (show (n + 2 : Nat) ≠ n + 3 by omega)
  TIi1 := (show (n + 2 : Nat) ≠ n by omega)
  mem1 := List.mem_cons_self
  zf1 := nin2 (by omega) (by omega)
  Tf1 := nin2 (by omega) (by omega)
  TIi2 := (show (n + 2 : Nat) ≠ n + 1 by omega)
  mem2 := List.mem_cons_self
  zf2 := nin2 (by omega) (by omega)
  Tf2 := nin2 (by omega) (by omega)
  sep1_2 := nin2 (by omega) (by omega)
  sep2_1 := nin2 (by omega) (by omega)
theorem pi_zipK (k1 k2 : SK) {X : Cx} {K : PySem.W.Frag} (hK : X.K = K) {e e2 : Expr} {ta : TA} {p pos tpos : Pos} {elts : List Expr} {kk : Nat} (hg : Gl X "zip") (hm : X.mg "zip" = none) (ha : PA X [e, e2] ta)
    (hs : starEach [e, e2] X.env = (false, eval e X.env) :: starEach [e2] X.env := by rfl) (hpl : (backTo pos (starEach [e2] X.env)).any (·.1) = false := by rfl) :
    PI X (.Tuple elts kk tpos) (.Call (.Name "zip" p) [e, e2] [] pos) (iZipK k1 k2 K ta) := by
  subst hK
  refine ⟨fun pins s σ H R I h => ?_⟩
  refine Call_ (ld_blt I hg hm PyProof.Rows.boot_zip (PyProof.Rows.callWith_type1 (thn (ha.run pos pins s σ H _ I h) fun us s1 ⟨vs, H1, I1, r1, q1⟩ => ?_) hs hpl))
  obtain ⟨a, b, xs, ys, rfl, hx, hy, q⟩ := q1
  obtain ⟨v1, v2, rfl, r, r'⟩ := vals2 r1
  cases (show v1 = Value.ref a from r)
  cases (show v2 = Value.ref b from r')
  obtain ⟨its, _, p1, la⟩ := seqA k1 I1 hx
  obtain ⟨its2, _, p2, lb⟩ := seqA k2 I1 hy
  obtain ⟨o1, B1, g1⟩ := beginsA k1 a its.toArray
  obtain ⟨o2, B2, g2⟩ := beginsA k2 b its2.toArray
  have fresh5 : ∀ c, c ∈ [s1.heap.objs.size + 4, s1.heap.objs.size + 2, s1.heap.objs.size + 3, s1.heap.objs.size, s1.heap.objs.size + 1] → FpOk X pins H1 c := fun c hcm => by
    have hle : s1.heap.objs.size ≤ c := by
      simp only [List.mem_cons, List.not_mem_nil, or_false] at hcm
      omega
    exact I1.fpOk hle (I1.hok.fresh hle)
  refine zip_begins2 B1 B2 p1 p2 fun h' hz hTI hTO h1 h2 hsz hk => wpAny_pyIter_zip hz ?_
  have I2 : Inv X pins σ H1 { s1 with heap := h' } := I1.kept (t' := s1.toks) hk
  exact ⟨s1.heap.objs.size + 4, [s1.heap.objs.size + 4, s1.heap.objs.size + 2, s1.heap.objs.size + 3, s1.heap.objs.size, s1.heap.objs.size + 1], _, _, H1, rfl, I2,
    turn_zipA k1 k2 (sep7 _ a b la lb) (Nat.ne_of_lt la) (Nat.ne_of_lt (Nat.lt_succ_of_lt lb)), ⟨hz, hTI, ⟨_, _, hTO⟩, g1 _ _ h1, g2 _ _ h2⟩, fresh5, q⟩
theorem rd_zipK {k1 k2 : SK} {K : PySem.W.Frag} {ta : TA} {σ : L2.St} {H : Hp} {R : It → Hp → Prop} (h : ta σ H fun vs H1 => ∃ a b xs ys, vs = [.ref a, .ref b] ∧ SqA k1 K H1 a xs ∧ SqA k2 K H1 b ys ∧ R (ItzA k1 k2 K a b) H1) : iZipK k1 k2 K ta σ H R := h
/-- pairs of the i-th items, new ones -/
theorem walk_zipA {k1 k2 : SK} {K : PySem.W.Frag} {a b : Addr} {xs ys : List V} : Walk (ItzA k1 k2 K a b) (min xs.length ys.length) (fun H => SqA k1 K H a xs ∧ SqA k2 K H b ys) (YPair (fun i => xs[i]?) fun i => ys[i]?) :=
  ⟨fun i H hi q => ⟨xs, ys, xs[i]'(by omega), ys[i]'(by omega), q.1, q.2, by simp, by simp⟩,
   fun H q => ⟨xs, ys, q.1, q.2, by omega, by omega, by omega⟩,
   fun i H x H' hi q y => by
    obtain ⟨T, x, y, e, n, e2, h1, h2⟩ := y
    exact ⟨T, x, y, e, n, e2, h1 xs q.1, h2 ys q.2⟩⟩
/-! ### enumerate -/
def ItenA (k : SK) (K : PySem.W.Frag) (a : Addr) : It :=
  ⟨fun i H => ∃ (xs : List V) (x : V), SqA k K H a xs ∧ xs[i]? = some x, fun i H v H' => ∃ T x, v = .ref T ∧ H T = none ∧ H' = upd H T (.tup [.int (i : Nat), x]) ∧ ∀ xs, SqA k K H a xs → xs[i]? = some x,
    fun i H => ∃ xs : List V, SqA k K H a xs ∧ i = xs.length⟩
theorem turn_enumA (k : SK) {P : Program} {w : World} {K : PySem.W.Frag} {elts : List Expr} {kk : Nat} {tpos : Pos} {a e it : Addr} (hae : a ≠ e) (hai : a ≠ it) (hne : e ≠ it) :
    Turn P w K (.Tuple elts kk tpos) (ItenA k K a) [e, it] e (fun i h => (∃ old, IsEnum h e it ((i : Nat) : Int) old) ∧ IterA k h it a i) where
  mem := List.mem_cons_self
  obj := by
    rintro i h ⟨⟨old, he⟩, j⟩ b hb
    rcases List.mem_cons.mp hb with rfl | hb
    · exact ⟨_, he, fun v q => nomatch q⟩
    · obtain rfl := List.mem_singleton.mp hb
      exact iterA_obj j
  keep := by
    rintro i h h' ⟨⟨old, he⟩, j⟩ q
    exact ⟨⟨old, q e (by simp) _ he⟩, iterA_at j fun o h => q it (by simp) o h⟩
  item := by
    rintro X rfl rfl rfl hc i pins s σ H E I hf ⟨⟨old, he⟩, j⟩ ⟨xs, x, hq, hx⟩
    obtain ⟨its, rv, p, _⟩ := seqA k I hq
    obtain ⟨u, hu, ru⟩ := rv.get hx
    have he0 : e < s.heap.objs.size := Heap.lt_size he
    have hi0 : it < s.heap.objs.size := by
      obtain ⟨_, q, _⟩ := iterA_obj j
      exact Heap.lt_size q
    refine wpAny_pyNext_enum_itemD (drawsA k (A := X.A.in1) (I.ok.hd hc) it a hai its.toArray) he ⟨j, p⟩ (by simpa using (List.getElem?_eq_some_iff.mp hu).1) hne (by simp [hne, hae.symm]) fun v h' tk hv ho hit' hT hsz hk => ?_
    have ev : v = u := by
      rw [List.getElem?_toArray, hu] at hv
      exact (Option.some.inj hv).symm
    subst ev
    refine ⟨_, rfl, wpAny_letOwnedTupleGo_enum (s := { s with heap := h', toks := tk + 1 }) ho fun h'' he' sb => ?_⟩
    have made : h''.get? s.heap.objs.size = some { cls := .type "tuple", data := .seq #[.int i tk, v] } := (sb.2 _ (Nat.ne_of_gt he0)).trans hT
    have new : ObjOk X.prog X.w (upd H s.heap.objs.size (.tup [.int (i : Nat), x])) h'' s.heap.objs.size (.tup [.int (i : Nat), x]) := ⟨by show 2 ≤ sizeLine; decide, [.int i tk, v], .cons ⟨_, rfl⟩ (.cons ru .nil), ⟨_, made, rfl, _, rfl⟩⟩
    have kept : ∀ b o, b ∉ [e, it] → s.heap.get? b = some o → h''.get? b = some o := fun b o hb q => by
      have h1 : b ≠ e := fun z => hb (by simp [z])
      have h2 : b ≠ it := fun z => hb (by simp [z])
      exact (sb.2 b h1).trans (hk b o h1 h2 q)
    refine ⟨.ref s.heap.objs.size, _, I.turnedNew (ch := [e, it]) kept hf (Nat.le_refl _) new, rfl, ⟨_, x, rfl, I.hok.fresh (Nat.le_refl _), rfl, fun l hl => by rw [seqA_inj k I hl hq]; exact hx⟩, ⟨⟨v, ?_⟩, ?_⟩, fun b hb => ?_⟩
    · have e1 : ((i + 1 : Nat) : Int) = (i : Int) + 1 := by omega
      rw [e1]
      exact he'
    · exact iterA_at hit'.1 fun o q => (sb.2 it (Ne.symm hne)).trans q
    · have hb' : b < s.heap.objs.size := by
        rcases List.mem_cons.mp hb with rfl | hb
        · exact he0
        · rw [List.mem_singleton.mp hb]
          exact hi0
      rw [upd_ne (Nat.ne_of_lt hb')]
      exact (hf b hb).1
  done := by
    rintro X rfl rfl rfl hc i pins s σ H E I hf ⟨⟨old, he⟩, j⟩ ⟨xs, hq, rfl⟩
    obtain ⟨its, rv, p, _⟩ := seqA k I hq
    obtain ⟨f0, f1, f2, f3, f4, f5⟩ := hf it (by simp)
    have hl : xs.length = its.toArray.size := by
      rw [List.size_toArray]
      exact rv.length
    rw [hl] at he j
    exact wpAny_pyNext_enum_endD (drawsA k (A := X.A.in1) (I.ok.hd hc) it a hai its.toArray) he ⟨j, p⟩ fun h' eb => ⟨rfl, I.turned (t' := s.toks) (fun b o hb q => eb b o hb q) f0 f1 f3 f4 f5⟩
  self := fun A i s Q E st h => by
    obtain ⟨⟨_, he⟩, _⟩ := st
    exact wpAny_pyIter_enum he h
theorem en_new {v : Value} {o : Obj} {H : Heap → Prop} (B : Begins v o H) : Meets (Builtin.«enumerate.__new__» ⟨[.type "enumerate", v], []⟩) (fun _ R s => H s.heap ∧
    R (.ok (.ret (.ref (s.heap.push o).objs.size))) { s with heap := (s.heap.push o).push { cls := .type "enumerate", data := .fields #[.none, .bool false, .ref s.heap.objs.size, rawInt 0, .none, .none] } }) :=
  .of_wp fun prog w A R s h => by
    obtain ⟨hp, g, d, tk, os⟩ := s
    obtain ⟨h1, h⟩ := h
    have hsub := sub_enumerate
    have q1 : ∀ {A' : Around} {E : Value → Shared → Prop} {Q : Value → Shared → Prop}, Q (.ref hp.objs.size) ⟨hp.push o, g, d, tk, os⟩ → wpAny (model prog w) A' (pyIter v) Q E ⟨hp, g, d, tk, os⟩ := fun q => B.iter prog w _ _ ⟨hp, g, d, tk, os⟩ _ h1 q
    wp_walk using q1
    refine wpAny_stack_any fun st => wpAny_pure ?_
    split
    · rename_i c _ _ _ _ _
      cases (c == Value.type "enumerate")
      · wp_walk using q1
        exact ⟨_, rfl, h⟩
      · wp_walk using q1
        exact ⟨_, rfl, h⟩
    · wp_walk using q1
      exact ⟨_, rfl, h⟩
theorem call_enumB {prog : Program} {w : World} {A : Around} {E : Value → Shared → Prop} {s : Shared} {v : Value} {o : Obj} {H : Heap → Prop} {Q : Value → Shared → Prop} (B : Begins v o H) (h1 : H s.heap)
    (h : ∀ h', IsEnum h' (s.heap.objs.size + 1) s.heap.objs.size 0 .none → h'.get? s.heap.objs.size = some o → (∀ b o, s.heap.get? b = some o → h'.get? b = some o) → Q (.ref (s.heap.objs.size + 1)) { s with heap := h' }) :
    wpAny (model prog w) A (call (.type "enumerate") [v]) Q E s := by
  refine callType_new F.called_enumerate (by decide) (F.typeCall_enumerate_1 _) (F.newCall_enumerate_1 _) (fun obj => F.args_object_init_2 obj _) F.entry_enumerate_new (en_new B) ⟨h1, ?_⟩
  have one : (s.heap.push o).objs.size = s.heap.objs.size + 1 := Heap.size_push ..
  rw [one]
  have at2 := Heap.get?_push_size (s.heap.push o) (o := { cls := .type "enumerate", data := .fields #[.none, .bool false, .ref s.heap.objs.size, rawInt 0, .none, .none] }) rfl
  rw [one] at at2
  exact ⟨⟨_, at2, rfl⟩, h _ at2 (Heap.get?_push_of_some _ (Heap.get?_push_size _ B.free)) fun b o x => Heap.get?_push_of_some _ (Heap.get?_push_of_some _ x)⟩
def iEnumK (k : SK) (K : PySem.W.Frag) (ta : TA) : TI := fun σ H R => ta σ H fun vs H1 => ∃ a xs, vs = [.ref a] ∧ SqA k K H1 a xs ∧ R (ItenA k K a) H1
theorem rd_enumK {k : SK} {K : PySem.W.Frag} {ta : TA} {σ : L2.St} {H : Hp} {R : It → Hp → Prop} (h : ta σ H fun vs H1 => ∃ a xs, vs = [.ref a] ∧ SqA k K H1 a xs ∧ R (ItenA k K a) H1) : iEnumK k K ta σ H R := h
/-- new pairs of a number and the item -/
theorem walk_enumA {k : SK} {K : PySem.W.Frag} {a : Addr} {xs : List V} : Walk (ItenA k K a) xs.length (fun H => SqA k K H a xs) (YPair (fun i => some (.int (i : Nat))) fun i => xs[i]?) :=
  ⟨fun i H hi q => ⟨xs, xs[i]'hi, q, by simp⟩, fun H q => ⟨xs, q, rfl⟩, fun i H x H' hi q y => by
    obtain ⟨T, x, e, n, e2, h1⟩ := y
    exact ⟨T, _, x, e, n, e2, rfl, h1 xs q⟩⟩
theorem pi_enumK (k : SK) {X : Cx} {K : PySem.W.Frag} (hK : X.K = K) {e : Expr} {ta : TA} {p pos tpos : Pos} {elts : List Expr} {kk : Nat} (hg : Gl X "enumerate") (hm : X.mg "enumerate" = none) (ha : PA X [e] ta) (hs : starEach [e] X.env = [(false, eval e X.env)] := by rfl) :
    PI X (.Tuple elts kk tpos) (.Call (.Name "enumerate" p) [e] [] pos) (iEnumK k K ta) := by
  subst hK
  refine ⟨fun pins s σ H R I h => ?_⟩
  refine Call_ (ld_blt I hg hm boot_enumerate (PyProof.Rows.callWith_type1 (thn (ha.run pos pins s σ H _ I h) fun us s1 ⟨vs, H1, I1, r1, q1⟩ => ?_) hs rfl))
  obtain ⟨a, xs, rfl, hx, q⟩ := q1
  cases r1 with
  | cons r rr =>
    cases rr
    cases (show _ = Value.ref a from r)
    obtain ⟨its, _, p1, la⟩ := seqA k I1 hx
    obtain ⟨o1, B1, g1⟩ := beginsA k a its.toArray
    refine call_enumB B1 p1 fun h' he hit hk => wpAny_pyIter_enum he ?_
    have I2 : Inv X pins σ H1 { s1 with heap := h' } := I1.kept (t' := s1.toks) hk
    refine ⟨s1.heap.objs.size + 1, [s1.heap.objs.size + 1, s1.heap.objs.size], _, _, H1, rfl, I2, turn_enumA k (Nat.ne_of_lt (Nat.lt_succ_of_lt la)) (Nat.ne_of_lt la) (Nat.succ_ne_self _), ⟨⟨.none, he⟩, g1 _ _ hit⟩, fun b hb => ?_, q⟩
    have hle : s1.heap.objs.size ≤ b := by
      rcases List.mem_cons.mp hb with rfl | hb
      · exact Nat.le_add_right _ _
      · exact Nat.le_of_eq (List.mem_singleton.mp hb).symm
    exact I1.fpOk hle (I1.hok.fresh hle)
section
variable {X : Cx} {K : PySem.W.Frag}
theorem ix_tupK (h : X.K = K) : IxR X (rIxT K) := by
  subst h
  exact ix_tup
theorem ix_listK (h : X.K = K) : IxR X (rIxL K) := by
  subst h
  exact ix_list
theorem call_lenK (h : X.K = K) : CallR X (.builtin "len") (rLenQ K) := by
  subst h
  exact call_lenQ
end
section
variable {σ : L2.St} {H : Hp} {D : Ends} {i : Nat} {x : V} {te : TE} {ti : TIp}
theorem rd_aug (h : σ[i]? = some (some x)) (q : te σ H fun y H1 => ti x y H1 fun z H2 => D.nx (σ.set i (some z)) H2) : tAug i te ti D σ H := ⟨x, h, q⟩
theorem rd_ipI {f : Int → Int → Int} {a b : Int} {Q : VK} (q : Q (.int (f a b)) H) : ipI f (.int a) (.int b) H Q := ⟨a, b, rfl, rfl, q⟩
theorem rd_while {c : TT} {tb : TS} (Pv : Nat → L2.St → Hp → Prop) (n : Nat) (h0 : Pv n σ H)
    (hs : ∀ m σ H, Pv m σ H → c σ H fun b H1 => if b = true then ∃ N : L2.St → Hp → Prop, (∀ σ' H', N σ' H' → ∃ m', m' < m ∧ Pv m' σ' H') ∧ tb { D with nx := N, ct := N, bk := D.nx } σ H1 else D.nx σ H1) : tWhile c tb D σ H := ⟨Pv, ⟨n, h0⟩, hs⟩
end
theorem pi_listK {X : Cx} {K : PySem.W.Frag} {tg l : Expr} {tl : TE} (h : X.K = K) (hl : PE X l tl) : PI X tg l (iList K tl) := by
  subst h
  exact pi_list hl
theorem pi_tupK {X : Cx} {K : PySem.W.Frag} {tg l : Expr} {tl : TE} (h : X.K = K) (hl : PE X l tl) : PI X tg l (iTup K tl) := by
  subst h
  exact pi_tup hl
theorem pe_tupleOfK {X : Cx} {K : PySem.W.Frag} {l : Expr} {ta : TE} {p pos : Pos} (h : X.K = K) (hg : Gl X "tuple") (hm : X.mg "tuple" = none) (ha : PE X l ta) (na : starEach [l] X.env = (false, eval l X.env) :: starEach [] X.env := by rfl) : PE X (.Call (.Name "tuple" p) [l] [] pos) (tThen ta (kTup K)) := by
  subst h
  exact pe_tupleOf hg hm ha na
theorem rd_then {ta : TE} {k : V → Hp → VK → Prop} {σ : L2.St} {H : Hp} {Q : VK} (h : ta σ H fun x H1 => k x H1 Q) : tThen ta k σ H Q := h
theorem rd_kTup {K : PySem.W.Frag} {p : Addr} {xs : List V} {H : Hp} {Q : VK} (h : H p = some (.lst xs)) (q : ∀ r, H r = none → Q (.ref r) (upd H r (.tup xs))) : kTup K (.ref p) H Q := .inl ⟨p, xs, rfl, SqL.of h, q⟩
/-! ### a comprehension of two fors -/
/-- the inner walk, of which Nx is wanted at its end -/
def InW (J1 : It) (g1 : TG) (tt1 : TT) (te : TE) (vs1 : List Nat) (D : Addr) (τ : L2.St) (G4 : Hp) (Nx : Hp → Prop) : Prop :=
  ∃ U : Nat → Nat → Hp → Prop, (∃ m, U 0 m G4) ∧ ∀ j k G, U j k G → (J1.stop j G ∧ Nx G) ∨ (J1.go j G ∧ ∃ Mx : Hp → Prop, (∀ G', Mx G' → ∃ k', k' < k ∧ U (j + 1) k' G') ∧
    ∀ z G', J1.yld j G z G' → g1 z (wipe τ vs1) G' fun τ3 G5 => wipe τ3 vs1 = wipe τ vs1 ∧ tt1 τ3 G5 fun b G6 => if b = true then te τ3 G6 fun z G7 => ∃ ac, G7 D = some (.lst ac) ∧ ac.length < sizeLine ∧ Mx (upd G7 D (.lst (ac ++ [z]))) else Mx G6)
def OutW (J : It) (g : TG) (tt : TT) (wi1 : TI) (g1 : TG) (tt1 : TT) (te : TE) (vs vs1 : List Nat) (D : Addr) (σ : L2.St) (G1 : Hp) (Qd : Hp → Prop) : Prop :=
  ∃ U : Nat → Nat → Hp → Prop, (∃ m, U 0 m (upd G1 D (.lst []))) ∧ ∀ i m G, U i m G → (J.stop i G ∧ Qd G) ∨ (J.go i G ∧ ∃ Nx : Hp → Prop, (∀ G', Nx G' → ∃ m', m' < m ∧ U (i + 1) m' G') ∧
    ∀ z G', J.yld i G z G' → g z (wipe σ vs) G' fun τ G2 => wipe τ vs = wipe σ vs ∧ tt τ G2 fun b G3 => if b = true then wi1 τ G3 fun J1 G4 => InW J1 g1 tt1 te vs1 D τ G4 Nx else Nx G3)
theorem in_it {J1 : It} {n : Nat} {G : Hp → Prop} {Y : Nat → Hp → V → Hp → Prop} (w : Walk J1 n G Y) {g1 : TG} {tt1 : TT} {te : TE} {vs1 : List Nat} {D : Addr} {τ : L2.St} {G4 : Hp} {Nx : Hp → Prop} (Pv : Nat → Hp → Prop) (h0 : Pv 0 G4) (hG : ∀ i H, i ≤ n → Pv i H → G H)
    (hs : ∀ i x H H', i < n → Pv i H → Y i H x H' → g1 x (wipe τ vs1) H' fun τ3 G5 => wipe τ3 vs1 = wipe τ vs1 ∧ tt1 τ3 G5 fun b G6 => if b = true then te τ3 G6 fun z G7 => ∃ ac, G7 D = some (.lst ac) ∧ ac.length < sizeLine ∧ Pv (i + 1) (upd G7 D (.lst (ac ++ [z]))) else Pv (i + 1) G6)
    (hd : ∀ H, Pv n H → Nx H) : InW J1 g1 tt1 te vs1 D τ G4 Nx := by
  refine ⟨fun j k H => k = n - j ∧ j ≤ n ∧ Pv j H, ⟨n, rfl, Nat.zero_le _, h0⟩, ?_⟩
  rintro j k H ⟨rfl, hj, p⟩
  rcases Nat.lt_or_ge j n with h | h
  · exact .inr ⟨w.goes j H h (hG j H hj p), Pv (j + 1), fun H' p' => ⟨n - (j + 1), by omega, rfl, h, p'⟩, fun x H' y => hs j x H H' h p (w.yields j H x H' h (hG j H hj p) y)⟩
  · obtain rfl : j = n := by omega
    exact .inl ⟨w.stops H (hG _ H hj p), hd H p⟩
theorem lc2_it {J : It} {n : Nat} {G : Hp → Prop} {Y : Nat → Hp → V → Hp → Prop} (w : Walk J n G Y) {g g1 : TG} {tt tt1 : TT} {te : TE} {wi1 : TI} {vs vs1 : List Nat} {σ : L2.St} {H1 : Hp} {D : Addr} {Qd : Hp → Prop} (Pv : Nat → Hp → Prop) (h0 : Pv 0 (upd H1 D (.lst []))) (hG : ∀ i H, i ≤ n → Pv i H → G H)
    (hs : ∀ i x H H', i < n → Pv i H → Y i H x H' → g x (wipe σ vs) H' fun τ G2 => wipe τ vs = wipe σ vs ∧ tt τ G2 fun b G3 => if b = true then wi1 τ G3 fun J1 G4 => InW J1 g1 tt1 te vs1 D τ G4 (Pv (i + 1)) else Pv (i + 1) G3) (hd : ∀ H, Pv n H → Qd H) : OutW J g tt wi1 g1 tt1 te vs vs1 D σ H1 Qd := by
  refine ⟨fun i m H => m = n - i ∧ i ≤ n ∧ Pv i H, ⟨n, rfl, Nat.zero_le _, h0⟩, ?_⟩
  rintro i m H ⟨rfl, hi, p⟩
  rcases Nat.lt_or_ge i n with h | h
  · exact .inr ⟨w.goes i H h (hG i H hi p), Pv (i + 1), fun H' p' => ⟨n - (i + 1), by omega, rfl, h, p'⟩, fun x H' y => hs i x H H' h p (w.yields i H x H' h (hG i H hi p) y)⟩
  · obtain rfl : i = n := by omega
    exact .inl ⟨w.stops H (hG _ H hi p), hd H p⟩
theorem rd_lc2 {wi wi1 : TI} {g g1 : TG} {tt tt1 : TT} {te : TE} {vs vs1 : List Nat} {σ : L2.St} {H : Hp} {Q : VK} (h : wi σ H fun J H1 => ∀ D, H1 D = none → OutW J g tt wi1 g1 tt1 te vs vs1 D σ H1 (Q (.ref D))) : tLc2 wi g tt wi1 g1 tt1 te vs vs1 σ H Q := h
end Un

/-! UnM: methods in bundles; texts as keys of dicts. -/
namespace Un
open PySem PySem.Spec PyProof.Rows L2
/-- a method as it stands, no default -/
def AtM (K : PySem.W.Frag) (C : Addr) (m qual : Str) (st : Stmt) (ps : List Str) : Prop := ∃ (f : Addr) (fd : FuncData), Fun K m qual st f fd ∧ Meth K C m f ∧ PySem.W.fnIn K f = true ∧ Binds K fd ps []
/-- the same as a promise -/
def MetG (P : Program) (w : World) (K : PySem.W.Frag) (mg : Str → Option Value) (base : Heap) (CX : CXT) (C : Addr) (m : Str) (ps : List Str) (k : Nat) (sp : Sp) : Prop :=
  ∃ (f : Addr) (fd : FuncData), Cls K C ∧ Meth K C m f ∧ FnOk P w K mg base CX k f fd ps sp ∧ PySem.W.fnIn K f = true ∧ Binds K fd ps []
section
variable {P : Program} {w : World} {K : PySem.W.Frag} {mg : Str → Option Value} {base : Heap} {C : Addr} {m qual : Str} {st : Stmt} {ps : List Str} {k : Nat} {sp : Sp} {CX : CXT}
theorem metG_of (c : Cls K C) (a : AtM K C m qual st ps) (h : ∀ f fd, Fun K m qual st f fd → FnOk P w K mg base CX k f fd ps sp) : MetG P w K mg base CX C m ps k sp := by
  obtain ⟨f, fd, F, M, i, b⟩ := a
  exact ⟨f, fd, c, M, h f fd F, i, b⟩
end
section
variable {X : Cx} {C : Addr} {m : Str} {ps : List Str} {k j : Nat} {sp : Sp} {a b : Expr} {ta tb : TE} {pos : Pos} {CX : CXT} {E : XK}
theorem set_G (g : MetG X.prog X.w X.K X.mg X.base CX0 C "__setitem__" ps k sp) (hq : PySem.W.noSeq X.K C = true) (hr : Room j X.A) (hk : k ≤ j) : PSet X (rSetO C sp E0) := by
  obtain ⟨f, fd, c, M, F, i, b⟩ := g
  exact set_own M hq F (hr.mono hk) b pass0
theorem in_G (g : MetG X.prog X.w X.K X.mg X.base CX0 C "__contains__" ps k sp) (hr : Room j X.A) (hk : k ≤ j) : OpR X (compareOp .In) (rInO false C sp E0) := by
  obtain ⟨f, fd, c, M, F, i, b⟩ := g
  exact op_inO M F (hr.mono hk) b pass0
theorem notIn_G (g : MetG X.prog X.w X.K X.mg X.base CX0 C "__contains__" ps k sp) (hr : Room j X.A) (hk : k ≤ j) : OpR X (compareOp .NotIn) (rInO true C sp E0) := by
  obtain ⟨f, fd, c, M, F, i, b⟩ := g
  exact op_notInO M F (hr.mono hk) b pass0
theorem len_G (g : MetG X.prog X.w X.K X.mg X.base CX0 C "__len__" ps k sp) (hr : Room j X.A) (hk : k + 1 ≤ j) : CallR X (.builtin "len") (rLenO C sp E0) := by
  obtain ⟨f, fd, c, M, F, i, b⟩ := g
  exact call_lenO M F (hr.mono hk) b pass0
theorem eq_G {T : V → Hp → Prop} (hT : Right X C T) (g : MetG X.prog X.w X.K X.mg X.base CX0 C "__eq__" ps k sp) (hr : Room j X.A) (hk : k ≤ j) : OpR X (compareOp .Eq) (rEqO C sp E0 T) := by
  obtain ⟨f, fd, c, M, F, i, b⟩ := g
  exact op_eqO hT M F (hr.mono hk) b pass0
theorem pe_getG (g : MetG X.prog X.w X.K X.mg X.base CX C "__getitem__" ps k sp) (hr : Room j X.A) (hk : k + 1 ≤ j) (hx : Passes CX X E) (pa : PE X a ta) (pb : PE X b tb)
    (hs : ∀ (x : Addr) (i : Value), subscripted b true (.ref x) i = runValue (.builtin "lifetime.subscript" ⟨[.ref x, i], []⟩) := by exact fun _ _ => by with_unfolding_all rfl) : PE X (.Subscript a b pos) (tOp (rGetO C sp E) ta tb) := by
  obtain ⟨f, fd, c, M, F, i, b⟩ := g
  exact pe_getO M i F (hr.mono hk) b hx pa pb hs
end
section
variable {X : Cx} {C : Addr} {m x : Str} {ps : List Str} {k j : Nat} {sp : Sp} {e o : Expr} {es : List Expr} {ta : TE} {t : TA} {p pos apos : Pos} {dvs : List V}
/-- o.m(e, ..) and o.m() -/
theorem pe_mtG {pl : Sem Bool} (g : MetG X.prog X.w X.K X.mg X.base CX0 C m ps k sp) (hr : Room j X.A) (hk : k ≤ j) (he : PE X o ta) (ha : PA X (e :: es) t)
    (hst : starEach (e :: es) X.env = (false, eval e X.env) :: starEach es X.env := by rfl) (hpl : (backTo pos (starEach es X.env)).any (·.1) = false := by rfl)
    (ht : eval (.Call (.Attribute o m apos) (e :: es) [] pos) X.env = (do let ov ← eval o X.env; standAt apos.atName; let (f, first) ← holding [ov] (getMethod ov m pl); callWith pos f first (backTo pos (starEach (e :: es) X.env)) (backToKw pos (keywordEach [] X.env))) := by rfl) :
    PE X (.Call (.Attribute o m apos) (e :: es) [] pos) (tMeth C m sp [] E0 ta t) := by
  obtain ⟨f, fd, c, M, F, i, b⟩ := g
  exact pe_meth (pl := pl) he c M F (hr.mono hk) b .nil pass0 ha hst hpl ht
theorem pe_mtG0 {pl : Sem Bool} (g : MetG X.prog X.w X.K X.mg X.base CX0 C m ps k sp) (hr : Room j X.A) (hk : k ≤ j) (he : PE X o ta)
    (ht : eval (.Call (.Attribute o m apos) [] [] pos) X.env = (do let ov ← eval o X.env; standAt apos.atName; let (f, first) ← holding [ov] (getMethod ov m pl); callWith pos f first (backTo pos (starEach [] X.env)) (backToKw pos (keywordEach [] X.env))) := by rfl) :
    PE X (.Call (.Attribute o m apos) [] [] pos) (tMeth C m sp [] E0 ta tNil) := by
  obtain ⟨f, fd, c, M, F, i, b⟩ := g
  exact pe_meth0 (pl := pl) he c M F (hr.mono hk) b .nil pass0 ht
/-- the same with defaults -/
def MetD (P : Program) (w : World) (K : PySem.W.Frag) (mg : Str → Option Value) (base : Heap) (C : Addr) (m : Str) (k : Nat) (sp : Sp) (dvs : List V) : Prop :=
  ∃ (f : Addr) (fd : FuncData) (ps : List Str) (ds : List Value), Cls K C ∧ Meth K C m f ∧ FnOk P w K mg base CX0 k f fd ps sp ∧ Binds K fd ps ds ∧ Vals dvs ds
theorem pe_mtD {pl : Sem Bool} (g : MetD X.prog X.w X.K X.mg X.base C m k sp dvs) (hr : Room j X.A) (hk : k ≤ j) (he : PE X o ta) (ha : PA X (e :: es) t)
    (hst : starEach (e :: es) X.env = (false, eval e X.env) :: starEach es X.env := by rfl) (hpl : (backTo pos (starEach es X.env)).any (·.1) = false := by rfl)
    (ht : eval (.Call (.Attribute o m apos) (e :: es) [] pos) X.env = (do let ov ← eval o X.env; standAt apos.atName; let (f, first) ← holding [ov] (getMethod ov m pl); callWith pos f first (backTo pos (starEach (e :: es) X.env)) (backToKw pos (keywordEach [] X.env))) := by rfl) :
    PE X (.Call (.Attribute o m apos) (e :: es) [] pos) (tMeth C m sp dvs E0 ta t) := by
  obtain ⟨f, fd, ps, ds, c, M, F, b, d⟩ := g
  exact pe_meth (pl := pl) he c M F (hr.mono hk) b d pass0 ha hst hpl ht
theorem pe_mtD0 {pl : Sem Bool} (g : MetD X.prog X.w X.K X.mg X.base C m k sp dvs) (hr : Room j X.A) (hk : k ≤ j) (he : PE X o ta)
    (ht : eval (.Call (.Attribute o m apos) [] [] pos) X.env = (do let ov ← eval o X.env; standAt apos.atName; let (f, first) ← holding [ov] (getMethod ov m pl); callWith pos f first (backTo pos (starEach [] X.env)) (backToKw pos (keywordEach [] X.env))) := by rfl) :
    PE X (.Call (.Attribute o m apos) [] [] pos) (tMeth C m sp dvs E0 ta tNil) := by
  obtain ⟨f, fd, ps, ds, c, M, F, b, d⟩ := g
  exact pe_meth0 (pl := pl) he c M F (hr.mono hk) b d pass0 ht
/-- C(e, ..) -/
def MakD (P : Program) (w : World) (K : PySem.W.Frag) (mg : Str → Option Value) (base : Heap) (x : Str) (C : Addr) (k : Nat) (sp : Sp) (dvs : List V) : Prop :=
  ∃ (f : Addr) (fd : FuncData) (ps : List Str) (ds : List Value), L2.Mk K C f ∧ FnOk P w K mg base CX0 k f fd ps sp ∧ mg x = some (.ref C) ∧ Binds K fd ps ds ∧ Vals dvs ds
theorem pe_mkD (g : MakD X.prog X.w X.K X.mg X.base x C k sp dvs) (hr : Room j X.A) (hk : k + 1 ≤ j) (hg : Gl X x) (ha : PA X (e :: es) t)
    (hdb : (x == ("__debug__" : Str)) = false := by decide) (he : starEach (e :: es) X.env = (false, eval e X.env) :: starEach es X.env := by rfl) (hpl : (backTo pos (starEach es X.env)).any (·.1) = false := by rfl) :
    PE X (.Call (.Name x p) (e :: es) [] pos) (tMake C sp dvs E0 t) := by
  obtain ⟨f, fd, ps, ds, M, F, hm, b, d⟩ := g
  exact pe_make M F (hr.mono hk) hg hm b d pass0 ha hdb he hpl
end
def rGtX : R2 := fun x y H Q => ∃ a b, x = .str (tx a) ∧ y = .str (tx b) ∧ Q (.bl (decide (b < a))) H
theorem op_gtX {X : Cx} : OpR X (compareOp .Gt) rGtX := by
  intro pins s σ H x y v u Q I rx ry h
  obtain ⟨a, b, rfl, rfl, q⟩ := h
  exact op_gt_str pins s σ H _ _ v u Q I rx ry ⟨_, _, rfl, rfl, by rw [tx_cps, tx_cps]; exact q⟩
/-! ### tables from texts to ints -/
abbrev Tab := List (List Nat × Int)
def encT (m : Tab) : List (Key × V) := m.map fun p => (Sum.inr (tx p.1), V.int p.2)
def getT (m : Tab) (k : List Nat) : Option Int := (m.find? fun p => decide (p.1 = k)).map (·.2)
def putT (m : Tab) (k : List Nat) (v : Int) : Tab := if (m.any fun p => decide (p.1 = k)) = true then m.map (fun p => if p.1 = k then (p.1, v) else p) else m ++ [(k, v)]
def dropT (m : Tab) (k : List Nat) : Tab := m.filter fun p => decide (p.1 ≠ k)
theorem key_eq {a b : List Nat} : ((Sum.inr (tx a) : Key) = Sum.inr (tx b)) ↔ a = b := ⟨fun h => tx_inj (Sum.inr.inj h), fun h => by rw [h]⟩
theorem valV_enc (k : List Nat) : ∀ m : Tab, valV (encT m) (Sum.inr (tx k)) = (getT m k).map V.int
  | [] => rfl
  | (a, v) :: r => by
    by_cases h : a = k
    · subst h
      show valV ((Sum.inr (tx a), V.int v) :: encT r) (Sum.inr (tx a)) = _
      rw [valV_pos rfl]
      simp [getT]
    · show valV ((Sum.inr (tx a), V.int v) :: encT r) (Sum.inr (tx k)) = _
      rw [valV_neg (fun e => h (key_eq.mp e)), valV_enc k r]
      simp [getT, h]
theorem putK_enc (m : Tab) (k : List Nat) (v : Int) : putK (encT m) (Sum.inr (tx k)) (V.int v) = encT (putT m k v) := by
  unfold putK putT
  have e1 : ((encT m).any fun kv => decide (kv.1 = Sum.inr (tx k))) = (m.any fun p => decide (p.1 = k)) := by
    unfold encT
    rw [List.any_map]
    congr 1
    funext p
    show decide ((Sum.inr (tx p.1) : Key) = Sum.inr (tx k)) = decide (p.1 = k)
    rw [decide_eq_decide]
    exact key_eq
  rw [e1]
  split
  · unfold encT
    rw [List.map_map, List.map_map]
    congr 1
    funext p
    show (if (Sum.inr (tx p.1) : Key) = Sum.inr (tx k) then _ else _) = (Sum.inr (tx (if p.1 = k then (p.1, v) else p).1), V.int (if p.1 = k then (p.1, v) else p).2)
    by_cases h : p.1 = k
    · rw [if_pos (key_eq.mpr h), if_pos h]
    · rw [if_neg (fun e => h (key_eq.mp e)), if_neg h]
  · unfold encT
    rw [List.map_append]
    rfl
theorem dropK_enc (m : Tab) (k : List Nat) : dropK (encT m) (Sum.inr (tx k)) = encT (dropT m k) := by
  unfold dropK dropT encT
  rw [List.filter_map]
  congr 1
  congr 1
  funext p
  show decide ((Sum.inr (tx p.1) : Key) ≠ Sum.inr (tx k)) = decide (p.1 ≠ k)
  rw [decide_eq_decide]
  exact not_congr key_eq
theorem encT_len (m : Tab) : (encT m).length = m.length := List.length_map _
def keysT (m : Tab) : List (List Nat) := m.map (·.1)
theorem putT_keys (m : Tab) (k : List Nat) (v : Int) : keysT (putT m k v) = if k ∈ keysT m then keysT m else keysT m ++ [k] := by
  unfold putT
  have e : (m.any fun p => decide (p.1 = k)) = decide (k ∈ keysT m) := by
    rw [Bool.eq_iff_iff, List.any_eq_true, decide_eq_true_eq]
    unfold keysT
    rw [List.mem_map]
    constructor
    · rintro ⟨p, h1, h2⟩
      exact ⟨p, h1, by simpa using h2⟩
    · rintro ⟨p, h1, h2⟩
      exact ⟨p, h1, by simpa using h2⟩
  rw [e]
  by_cases h : k ∈ keysT m
  · rw [if_pos (decide_eq_true h), if_pos h]
    unfold keysT
    rw [List.map_map]
    congr 1
    funext p
    show (if p.1 = k then (p.1, v) else p).1 = p.1
    split <;> rfl
  · rw [if_neg (by simpa using h), if_neg h]
    unfold keysT
    rw [List.map_append]
    rfl
theorem putT_nodup {m : Tab} {k : List Nat} {v : Int} (h : (keysT m).Nodup) : (keysT (putT m k v)).Nodup := by
  rw [putT_keys]
  split
  · exact h
  · rename_i hk
    exact List.nodup_append.mpr ⟨h, by simp, fun a ha b hb => by
      have : b = k := by simpa using hb
      subst this
      rintro rfl
      exact hk ha⟩
theorem dropT_nodup {m : Tab} {k : List Nat} (h : (keysT m).Nodup) : (keysT (dropT m k)).Nodup := by
  unfold keysT dropT at *
  exact h.sublist (List.filter_sublist.map _)
theorem getT_some {m : Tab} {k : List Nat} (h : k ∈ keysT m) : ∃ v, getT m k = some v := by
  unfold getT keysT at *
  obtain ⟨p, hp, rfl⟩ := List.mem_map.mp h
  cases e : m.find? fun q => decide (q.1 = p.1) with
  | none =>
    have := List.find?_eq_none.mp e p hp
    simp at this
  | some q => exact ⟨q.2, rfl⟩
theorem getT_none {m : Tab} {k : List Nat} (h : k ∉ keysT m) : getT m k = none := by
  unfold getT keysT at *
  rw [Option.map_eq_none_iff, List.find?_eq_none]
  intro p hp
  simp only [decide_eq_true_eq]
  intro e
  exact h (List.mem_map.mpr ⟨p, hp, e⟩)
/-! ### sorted texts -/
theorem sortedS_le : ∀ {ys : List (List Nat)}, sortedS (ys.map tx) = true → ys.Pairwise (fun a b => ¬ b < a) := by
  have aux : ∀ (r : List (List Nat)) (p : List Nat), risingS (tx p) (r.map tx) = true → (p :: r).Pairwise (fun a b => ¬ b < a) := by
    intro r
    induction r with
    | nil => intro p _; simp
    | cons k r ih =>
      intro p h
      rw [List.map_cons] at h
      unfold risingS at h
      rw [Bool.and_eq_true, tx_cps, tx_cps, PyProof.Rows.ltCps_eq] at h
      have h1 : ¬ k < p := by simpa using h.1
      have h2 := ih k h.2
      refine List.Pairwise.cons (fun x hx => ?_) h2
      rcases List.mem_cons.mp hx with e | hx
      · rw [e]
        exact h1
      · have h3 := (List.pairwise_cons.mp h2).1 x hx
        intro h4
        rcases Classical.em (p < k) with h5 | h5
        · exact h3 (List.lt_trans h4 h5)
        · exact h3 (by
            have : p = k := List.le_antisymm (List.not_lt.mp h1) (List.not_lt.mp h5)
            rw [← this]
            exact h4)
  intro ys h
  cases ys with
  | nil => exact .nil
  | cons a r => exact aux r a h
theorem sort_unique : ∀ {xs ys : List (List Nat)}, xs.Perm ys → xs.Pairwise (fun a b => ¬ b < a) → ys.Pairwise (fun a b => ¬ b < a) → xs = ys
  | [], ys, h, _, _ => (List.nil_perm.mp h).symm
  | a :: r, ys, h, hx, hy => by
    cases ys with
    | nil => exact absurd h (by simp)
    | cons b t =>
      have hab : a = b := by
        have ha : a ∈ b :: t := h.mem_iff.mp List.mem_cons_self
        have hb : b ∈ a :: r := h.mem_iff.mpr List.mem_cons_self
        rcases List.mem_cons.mp ha with e | ha
        · exact e
        · rcases List.mem_cons.mp hb with e | hb
          · exact e.symm
          · exact List.le_antisymm (List.not_lt.mp ((List.pairwise_cons.mp hx).1 b hb)) (List.not_lt.mp ((List.pairwise_cons.mp hy).1 a ha))
      subst hab
      rw [sort_unique (List.Perm.cons_inv h) (List.pairwise_cons.mp hx).2 (List.pairwise_cons.mp hy).2]
/-! ### two tables compared -/
def eqTab (m n : Tab) : Bool := decide (m.length = n.length) && m.all fun p => decide (getT n p.1 = some p.2)
theorem relO_none {o : Option Value} (h : RelO none o) : o = none := by
  cases o with
  | none => rfl
  | some v => exact h.elim
theorem hits_tab {A : Around} {s : Shared} {n : Tab} {vb : List (Key × Value)} (rb : KV (encT n) vb) : ∀ {m : Tab} {va : List (Key × Value)}, KV (encT m) va → PySem.W.KeqHits A s vb va (m.all fun p => decide (getT n p.1 = some p.2))
  | [], va, ra => by
    cases ra
    exact .nil
  | (k, x) :: r, va, ra => by
    cases ra with
    | @cons _ q _ qs h t =>
      obtain ⟨key, v⟩ := q
      obtain ⟨h1, h2⟩ := h
      have h1' : (Sum.inr (tx k) : Key) = key := h1
      subst h1'
      obtain ⟨tk, rfl⟩ := h2
      have ih := hits_tab (A := A) (s := s) rb (m := r) t
      have rr : RelO ((getT n k).map V.int) (valueAt vb (Sum.inr (tx k))) := by
        rw [← valV_enc]
        exact rb.val _
      rw [List.all_cons]
      cases e : getT n k with
      | none =>
        rw [e] at rr
        have : decide ((none : Option Int) = some x) = false := by simp
        simp only [e, this, Bool.false_and]
        exact .miss (relO_none rr)
      | some y =>
        rw [e] at rr
        obtain ⟨u, hu, ru⟩ := RelO.some_of (v := V.int y) (o := valueAt vb (Sum.inr (tx k))) rr
        obtain ⟨tk2, rfl⟩ := ru
        have e2 : decide (some y = some x) = (x == y) := by
          rw [Bool.eq_iff_iff, decide_eq_true_eq, beq_iff_eq]
          exact ⟨fun h => (Option.some.inj h).symm, fun h => by rw [h]⟩
        simp only [e, e2]
        exact .hit hu (SeqAt.EqAt.int_int x tk y tk2) ih
def rEqT : R2 := fun x y H Q => ∃ a b m n, x = .ref a ∧ y = .ref b ∧ H a = some (.dK (encT m)) ∧ H b = some (.dK (encT n)) ∧ Q (.bl (eqTab m n)) H
theorem op_eqT {X : Cx} (hu : X.A.units + 1 < cLine) : OpR X (compareOp .Eq) rEqT := by
  intro pins s σ H x y v u Q I rx ry h
  obtain ⟨a, b, m, n, rfl, rfl, ea, eb, q⟩ := h
  cases (show v = Value.ref a from rx)
  cases (show u = Value.ref b from ry)
  obtain ⟨_, ya, va, ra, da⟩ := (show ObjOk X.prog X.w H s.heap a (.dK (encT m)) from I.hok a _ ea)
  obtain ⟨_, yb, vb, rb, db⟩ := (show ObjOk X.prog X.w H s.heap b (.dK (encT n)) from I.hok b _ eb)
  have e1 : va.length = m.length := by rw [← Paired.length ra, encT_len]
  have e2 : vb.length = n.length := by rw [← Paired.length rb, encT_len]
  refine PySem.W.keq_eq (knd := mixKind X.prog X.w) ya yb da db (by omega) (fun _ => hits_tab rb ra) (fin_bl I q ?_)
  unfold eqTab
  congr 1
  rw [Bool.eq_iff_iff, decide_eq_true_eq, beq_iff_eq, e1, e2]
theorem rd_eqT {H : Hp} {Q : VK} {a b : Addr} {m n : Tab} (h1 : H a = some (.dK (encT m))) (h2 : H b = some (.dK (encT n))) (q : Q (.bl (eqTab m n)) H) : rEqT (.ref a) (.ref b) H Q := ⟨a, b, m, n, rfl, rfl, h1, h2, q⟩
end Un

/-! UnK: what the end of a proof asks of own exception classes, one Bool a class. -/
namespace Un
open PySem PySem.Spec PyProof.Rows L2
def clB (K : PySem.W.Frag) (C : Addr) : Bool :=
  decide (PySem.W.findIn K (.ref C) "__setattr__" = some (some (.builtin "object.__setattr__"))) && (PySem.W.keepIn K (.ref C) && (xfB K C &&
  (decide (PySem.W.findIn K (.ref C) "__class__" = some (some (.builtin "object.__class__"))) && (decide (PySem.W.specialIn K (.builtin "object.__class__") "__get__" = some (some (.builtin "getset_descriptor.__get__"))) &&
  (decide (PySem.W.takesIn K (.builtin "object.__class__") = some true) && (decide (PySem.W.mroIn K C (.type "object") = some true) && (decide (PySem.W.typeIn K (.ref C) = some (.type "type")) && decide (PySem.W.exmOne K (.ref C) (.ref C) = some true))))))))
section
variable {K : PySem.W.Frag} {C N : Addr} {nm q : Str} {bs bm : List Value} {sn : List Str} {sub : List Value} {ab : Bool} {col : Option Bool} {dd : Option Addr} {k0 k1 k2 k3 k5 : Option Value} {newId : String}
theorem oxc_of (cls : ∃ nm q N bs bm sn sub ab col dd k0 k1 k2 k3 k5 B newId initId bmB, K.lookup C = some (excClassObj nm q C N bs bm true sn sub ab col dd k0 k1 k2 k3 k5 newId) ∧ ExcBaseFacts B newId initId bmB ∧ PySem.OXX.Beh B bm ∧ ∀ self, refuseLoop self "__setattr__" (.ref C :: bm) = pure ())
    (b : clB K C = true) : OxC K C := by
  obtain ⟨h1, b⟩ := Bool.and_eq_true_iff.mp b
  obtain ⟨h2, b⟩ := Bool.and_eq_true_iff.mp b
  obtain ⟨h3, b⟩ := Bool.and_eq_true_iff.mp b
  obtain ⟨h4, b⟩ := Bool.and_eq_true_iff.mp b
  obtain ⟨h5, b⟩ := Bool.and_eq_true_iff.mp b
  obtain ⟨h6, b⟩ := Bool.and_eq_true_iff.mp b
  obtain ⟨h7, b⟩ := Bool.and_eq_true_iff.mp b
  obtain ⟨h8, h9⟩ := Bool.and_eq_true_iff.mp b
  have x := xfB_ok h3
  exact ⟨cls, of_decide_eq_true h1, h2, x, ⟨x.ga, x.gg, x.exC, x.hdC, of_decide_eq_true h4, of_decide_eq_true h5, of_decide_eq_true h6, of_decide_eq_true h7⟩, of_decide_eq_true h8, of_decide_eq_true h9⟩
theorem oxc_ve (xL : K.lookup C = some (excClassObj nm q C N bs [.type "ValueError", .type "Exception", .type "BaseException", .type "object"] true sn sub ab col dd k0 k1 k2 k3 k5 "ValueError.__new__")) (b : clB K C = true) : OxC K C :=
  oxc_of ⟨nm, q, N, bs, _, sn, sub, ab, col, dd, k0, k1, k2, k3, k5, _, _, _, _, xL, PySem.F.excBase_ValueError, ⟨by decide +kernel, by decide +kernel, by decide +kernel, by decide +kernel⟩, fun self => by rw [refuseLoop_ref]; exact F.store_ValueError.passes self⟩ b
theorem oxc_vs {U : Addr} (xL : K.lookup C = some (excClassObj nm q C N bs [.ref U, .type "ValueError", .type "Exception", .type "BaseException", .type "object"] true sn sub ab col dd k0 k1 k2 k3 k5 "ValueError.__new__")) (b : clB K C = true) : OxC K C :=
  oxc_of ⟨nm, q, N, bs, _, sn, sub, ab, col, dd, k0, k1, k2, k3, k5, _, _, _, _, xL, PySem.F.excBase_ValueError, ⟨by rfl, by rfl, by rfl, by rfl⟩, fun self => by rw [refuseLoop_ref, refuseLoop_ref]; exact F.store_ValueError.passes self⟩ b
theorem oxc_ke (xL : K.lookup C = some (excClassObj nm q C N bs [.type "KeyError", .type "LookupError", .type "Exception", .type "BaseException", .type "object"] true sn sub ab col dd k0 k1 k2 k3 k5 "LookupError.__new__")) (b : clB K C = true) : OxC K C :=
  oxc_of ⟨nm, q, N, bs, _, sn, sub, ab, col, dd, k0, k1, k2, k3, k5, _, _, _, _, xL, PySem.F.excBase_LookupError, ⟨by decide +kernel, by decide +kernel, by decide +kernel, by decide +kernel⟩, fun self => by rw [refuseLoop_ref]; kernel_rfl⟩ b
end
end Un

/-! UnSt: defs with defaults as they stand; isinstance of own classes; an own error raised. -/
namespace Un
open PySem PySem.Spec PyProof.Rows L2
def AtD (K : PySem.W.Frag) (C : Addr) (m qual : Str) (st : Stmt) (dvs : List V) (kws : List (Str × V)) : Prop :=
  ∃ (f : Addr) (fd : FuncData), FunD K m qual (defArgs st) (defBody st) (defScope st) dvs kws f fd ∧ Meth K C m f ∧ PySem.W.fnIn K f = true
/-- an __init__ whose one default is the empty tuple of the text -/
def AtI (K : PySem.W.Frag) (C : Addr) (m qual : Str) (st : Stmt) : Prop :=
  ∃ (f T : Addr) (fd : FuncData), FunD K m qual (defArgs st) (defBody st) (defScope st) [.ref T] [] f fd ∧ L2.Mk K C f ∧ ∃ o : Obj, K.lookup T = some o ∧ o.cls = .type "tuple" ∧ o.data = .seq #[] 0 ∧ o.dict = none
/-- isinstance of instances of the class at C, and of other things -/
structure InsK (K : PySem.W.Frag) (C : Addr) : Prop where
  ha : PySem.W.findIn K (.ref C) "__class__" = some (some (.builtin "object.__class__"))
  hn : PySem.W.specialIn K (.builtin "object.__class__") "__get__" = some (some (.builtin "getset_descriptor.__get__"))
  htk : PySem.W.takesIn K (.builtin "object.__class__") = some true
  hm : PySem.W.mroIn K C (.type "object") = some true
  me : PySem.W.kitOne K (.ref C) (.ref C) = some true
  no : ∀ T, T ∈ ["list", "dict", "tuple", "str", "int", "bool", "NoneType"] → PySem.W.kitOne K (.type T) (.ref C) = some false ∧ PySem.W.notFirst K C (.type T) = true
  nf : PySem.W.notFirst K C (.ref C) = true
def insB (K : PySem.W.Frag) (C : Addr) : Bool :=
  decide (PySem.W.findIn K (.ref C) "__class__" = some (some (.builtin "object.__class__"))) && (decide (PySem.W.specialIn K (.builtin "object.__class__") "__get__" = some (some (.builtin "getset_descriptor.__get__"))) && (decide (PySem.W.takesIn K (.builtin "object.__class__") = some true) &&
  (decide (PySem.W.mroIn K C (.type "object") = some true) && (decide (PySem.W.kitOne K (.ref C) (.ref C) = some true) && ((["list", "dict", "tuple", "str", "int", "bool", "NoneType"].all fun T => decide (PySem.W.kitOne K (.type T) (.ref C) = some false) && PySem.W.notFirst K C (.type T)) && PySem.W.notFirst K C (.ref C))))))
theorem insB_ok {K : PySem.W.Frag} {C : Addr} (b : insB K C = true) : InsK K C := by
  obtain ⟨h1, b⟩ := Bool.and_eq_true_iff.mp b
  obtain ⟨h2, b⟩ := Bool.and_eq_true_iff.mp b
  obtain ⟨h3, b⟩ := Bool.and_eq_true_iff.mp b
  obtain ⟨h4, b⟩ := Bool.and_eq_true_iff.mp b
  obtain ⟨h5, b⟩ := Bool.and_eq_true_iff.mp b
  obtain ⟨h6, h7⟩ := Bool.and_eq_true_iff.mp b
  refine ⟨of_decide_eq_true h1, of_decide_eq_true h2, of_decide_eq_true h3, of_decide_eq_true h4, of_decide_eq_true h5, fun T hT => ?_, h7⟩
  have := List.all_eq_true.mp h6 T hT
  obtain ⟨a, c⟩ := Bool.and_eq_true_iff.mp this
  exact ⟨of_decide_eq_true a, c⟩
section
variable {K : PySem.W.Frag} {H : Hp} {Q : VK} {a C dx : Addr} {fs : List (Str × V)}
theorem rd_isO (h : H a = some (.ins C dx fs)) (c : Cls K C) (i : InsK K C) (q : Q (.bl true) H) : rIsi K [.ref a, .ref C] H Q := ⟨.ref a, .ref C, .ref C, .ref C, true, rfl, .own C, .base (.ins h c i.ha i.hn i.htk i.hm), i.me, q⟩
theorem rd_isNo {x : V} {T : String} (h : TyX K H x (.type T)) (i : InsK K C) (hT : T ∈ ["list", "dict", "tuple", "str", "int", "bool", "NoneType"]) (q : Q (.bl false) H) : rIsi K [x, .ref C] H Q := ⟨x, .ref C, .type T, .ref C, false, rfl, .own C, h, (i.no T hT).1, q⟩
end
section
variable {X : Cx} {x f : Str} {C : Addr} {k j : Nat} {e : Expr} {te : TE} {p pos : Pos}
/-- raise C(e), the class under its name -/
theorem pmk_G (g : Un.Mk X.prog X.w X.K X.mg X.base x f C) (hr : Room j X.A) (hk : 2 ≤ j) (hg : Gl X x) (ha : PE X e te)
    (hdb : (x == ("__debug__" : Str)) = false := by decide) (he : starEach (e :: []) X.env = (false, eval e X.env) :: starEach [] X.env := by rfl) (hpl : (backTo pos (starEach [] X.env)).any (·.1) = false := by rfl) :
    PMk X (.Call (.Name x p) [e] [] pos) (tMkR C f te) := by
  obtain ⟨m, o, n, fI, fd, i, t, F, b⟩ := g
  exact pmk_X o i t n F (hr.mono hk) b pass0 hg m ha hdb he hpl
end
section
variable {X : Cx} {CX : CXT} {k j n : Nat} {C : Addr} {ks : List Str} {sp : Sp} {m : Str} {apos pos : Pos} {o e : Expr} {es : List Expr} {kws : List Keyword} {ta : TE} {t tk : TA} {gV : List V → List V → List V}
/-- a method called with keywords, bundled -/
def MetK (P : Program) (w : World) (K : PySem.W.Frag) (mg : Str → Option Value) (base : Heap) (C : Addr) (m : Str) (n : Nat) (ks : List Str) (k : Nat) (sp : Sp) (gV : List V → List V → List V) : Prop :=
  ∃ (f : Addr) (fd : FuncData) (ps : List Str) (g : List Value → List Value → List Value), Cls K C ∧ Meth K C m f ∧ FnOk P w K mg base CX0 k f fd ps sp ∧ KBn K fd ps n ks g gV
theorem methN_G {pl : Sem Bool} (q : MetK X.prog X.w X.K X.mg X.base C m n ks k sp gV) (hr : Room j X.A) (hk : k ≤ j) (he : PE X o ta) (ha : PA X (e :: es) t) (hkw : PK X kws tk)
    (hall : (backToKw pos (keywordEach kws X.env)).all (·.1.isSome) = true := by rfl) (hks : (backToKw pos (keywordEach kws X.env)).filterMap (·.1) = ks := by rfl)
    (hst : starEach (e :: es) X.env = (false, eval e X.env) :: starEach es X.env := by rfl)
    (hpl : ((backTo pos (starEach (e :: es) X.env)).any (·.1) || (backToKw pos (keywordEach kws X.env)).any (·.1.isNone)) = false := by rfl)
    (ht : eval (.Call (.Attribute o m apos) (e :: es) kws pos) X.env = (do let ov ← eval o X.env; standAt apos.atName; let (f, first) ← holding [ov] (getMethod ov m pl); callWith pos f first (backTo pos (starEach (e :: es) X.env)) (backToKw pos (keywordEach kws X.env))) := by rfl) :
    PE X (.Call (.Attribute o m apos) (e :: es) kws pos) (tMethN C m n ks.length sp gV E0 ta t tk) := by
  obtain ⟨f, fd, ps, g, c, M, F, b⟩ := q
  exact pe_methN (pl := pl) he c M F (hr.mono hk) b pass0 ha hkw hall hks hst hpl ht
end
end Un

/-! UnRdM: readings of instances and dicts, step by step. -/
namespace Un
open PySem PySem.Spec PyProof.Rows L2
section
variable {K : PySem.W.Frag} {σ : L2.St} {H : Hp} {Q : VK} {D : Ends} {ta tb te td ty tv tz : TE} {t tk : TA} {f m : Str} {C : Addr} {sp : Sp} {dvs : List V} {E : XK} {n l : Nat} {gV : List V → List V → List V}
theorem rd_fld (h : ta σ H fun x H1 => ∃ a C dx fs v, x = .ref a ∧ H1 a = some (.ins C dx fs) ∧ Cls K C ∧ NoAttr K C f ∧ fs.lookup f = some v ∧ Q v H1) : tFld K ta f σ H Q := h
theorem rd_sfld (h : tv σ H fun y H1 => ta σ H1 fun x H2 => ∃ a C dx fs, x = .ref a ∧ H2 a = some (.ins C dx fs) ∧ Cls K C ∧ NoAttr K C f ∧ fs.length < 1000 ∧ D.nx σ (upd H2 a (.ins C dx (putF f y fs)))) : sFld K ta tv f D σ H := h
theorem rd_dput (h : tv σ H fun v H1 => td σ H1 fun x H2 => ty σ H2 fun y H3 => ∃ a H4, x = .ref a ∧ DPut H3 a y v H4 ∧ D.nx σ H4) : sDPut td ty tv D σ H := h
theorem rd_dget (h : td σ H fun x H1 => ty σ H1 fun y H2 => ∃ a v, x = .ref a ∧ DGet H2 a y (some v) ∧ Q v H2) : tDGet td ty σ H Q := h
theorem rd_din (h : ty σ H fun y H1 => td σ H1 fun x H2 => ∃ a o, x = .ref a ∧ DGet H2 a y o ∧ Q (.bl o.isSome) H2) : tDIn ty td σ H Q := h
theorem rd_dnotin (h : ty σ H fun y H1 => td σ H1 fun x H2 => ∃ a o, x = .ref a ∧ DGet H2 a y o ∧ Q (.bl (!o.isSome)) H2) : tDNotIn ty td σ H Q := h
theorem rd_ddel (h : td σ H fun x H1 => ty σ H1 fun y H2 => ∃ a kvs k, x = .ref a ∧ H2 a = some (.dK kvs) ∧ y = kV k ∧ (valV kvs k).isSome = true ∧ D.nx σ (upd H2 a (.dK (dropK kvs k)))) : sDDel td ty D σ H := h
theorem rd_dnew (h : ∀ p, H p = none → Q (.ref p) (upd H p (.dK []))) : tDNewK σ H Q := h
theorem rd_make (h : t σ H fun vs H1 => ∀ x dx, H1 x = none → H1 dx = none → dx ≠ x → sp (.ref x :: (vs ++ dvs)) (upd (upd H1 dx (.own x)) x (.ins C dx [])) (fun v H2 => v = .non ∧ Q (.ref x) H2) E) : tMake C sp dvs E t σ H Q := h
theorem rd_meth (h : ta σ H fun x H1 => ∃ a dx fs, x = .ref a ∧ H1 a = some (.ins C dx fs) ∧ fs.lookup m = none ∧ t σ H1 fun vs H2 => sp (x :: (vs ++ dvs)) H2 Q E) : tMeth C m sp dvs E ta t σ H Q := h
theorem rd_methN (h : ta σ H fun x H1 => ∃ a dx fs, x = .ref a ∧ H1 a = some (.ins C dx fs) ∧ fs.lookup m = none ∧ t σ H1 fun vs H2 => tk σ H2 fun zs H3 => vs.length + 1 = n ∧ zs.length = l ∧ sp (gV (x :: vs) zs) H3 Q E) : tMethN C m n l sp gV E ta t tk σ H Q := h
theorem rd_iKeys {R : It → Hp → Prop} (h : td σ H fun x H1 => ∃ d o, x = .ref d ∧ ((∃ kvs, H1 d = some (.frz o (.dK kvs)) ∧ R (Itk d o kvs) H1) ∨ ∃ kvs, H1 d = some (.frz o (.dT kvs)) ∧ R (Itkt d o kvs) H1)) : iKeys td σ H R := h
theorem rd_items (h : te σ H fun x H1 => LiI.rItemsL x H1 Q) : LiI.tListItems te σ H Q := h
theorem rd_mkR {Q : XK} (h : te σ H fun v H1 => ∀ d, H1 d = none → Q (.ref C) (some d) (upd H1 d (.xd [(f, v)]))) : tMkR C f te σ H Q := h
theorem rd_pop1 (h : td σ H fun x H1 => ∃ a, x = .ref a ∧ IsD H1 a ∧ ty σ H1 fun y H2 => ∃ kvs k v, H2 a = some (.dK kvs) ∧ y = kV k ∧ valV kvs k = some v ∧ Q v (upd H2 a (.dK (dropK kvs k)))) : tDPop1 td ty σ H Q := h
theorem rd_get2 (h : td σ H fun x H1 => ∃ a, x = .ref a ∧ IsD H1 a ∧ ty σ H1 fun y H2 => tz σ H2 fun z H3 => ∃ o, DGet H3 a y o ∧ Q (o.getD z) H3) : tDGet2 td ty tz σ H Q := h
theorem rd_fldS {a dx : Addr} {fs : List (Str × V)} {v : V} (h : H a = some (.ins C dx fs)) (c : Cls K C) (n : NoAttr K C f) (l : fs.lookup f = some v) (q : Q v H) : ∃ a' C' dx' fs' v', V.ref a = .ref a' ∧ H a' = some (.ins C' dx' fs') ∧ Cls K C' ∧ NoAttr K C' f ∧ fs'.lookup f = some v' ∧ Q v' H := ⟨a, C, dx, fs, v, rfl, h, c, n, l, q⟩
theorem rd_isB {x : V} {T T' : String} {b : Bool} (h : TyX K H x (.type T)) (k : PySem.W.kitOne K (.type T) (.type T') = some b) (q : Q (.bl b) H) : rIsi K [x, .ty T'] H Q := ⟨x, .ty T', .type T, .type T', b, rfl, .ty _, h, k, q⟩
theorem rd_gtX {a b : List Nat} (q : Q (.bl (decide (b < a))) H) : rGtX (.str (tx a)) (.str (tx b)) H Q := ⟨a, b, rfl, rfl, q⟩
end
end Un

/-! UnPr: stretches of keys, lists of pairs. -/
namespace Un
open PySem PySem.Spec PyProof.Rows L2
theorem okN {P : Program} {w : World} {K : PySem.W.Frag} {mg : Str → Option Value} {base : Heap} {x qual : Str} {params : Arguments} {body : List Stmt} {scope : Scope} {dvs : List V} {kws : List (Str × V)} {f : Addr} {fd : FuncData} {CX : CXT} {N ps : List Str} {k : Nat} {sp : Sp}
    (F : FunD K x qual params body scope dvs kws f fd) (S : FnScope N ps scope) (len : ∀ vs H Q E, sp vs H Q E → vs.length = ps.length)
    (hbody : ∀ (cdv : Value) (A : Around) (outer : List Env) (s : Shared) (H : Hp) (vs : List V) (Q : VK) (E : XK), Room k (A.deeper (envOfC qual scope s.heap.objs.size f cdv)) → sp vs H Q E →
      ∃ t, PSs (cxOf CX P w K mg base N qual scope f cdv A outer s H E).nox body t ∧ t { nx := fun _ H' => Q .non H', rt := Q } (start N vs) H) : FnOk P w K mg base CX (k + 1) f fd ps sp :=
  F.ok S len fun cdv A outer s H vs Q E hr h => by
    obtain ⟨t, ht, q⟩ := hbody cdv A outer s H vs Q E hr h
    exact ⟨t, ht.nox, q⟩
def bnd : Option (List Nat) → V
  | none => .non
  | some u => .str (tx u)
def upB (hi : Option (List Nat)) (k : List Nat) : Bool := match hi with | none => true | some h => decide (k < h)
def afB (af : Option (List Nat)) (k : List Nat) : Bool := match af with | none => true | some a => decide (a < k)
def inR (lo : List Nat) (hi af : Option (List Nat)) (k : List Nat) : Bool := !decide (k < lo) && (upB hi k && afB af k)
/-- the keys of a stretch, ascending -/
def KR (m : Tab) (lo : List Nat) (hi af : Option (List Nat)) (ks : List (List Nat)) : Prop := ks.Perm ((keysT m).filter (inR lo hi af)) ∧ ks.Pairwise fun a b => ¬ b < a
theorem KR.uniq {m : Tab} {lo : List Nat} {hi af : Option (List Nat)} {ks js : List (List Nat)} (a : KR m lo hi af ks) (b : KR m lo hi af js) : ks = js := sort_unique (a.1.trans b.1.symm) a.2 b.2
theorem KR.mem {m : Tab} {lo : List Nat} {hi af : Option (List Nat)} {ks : List (List Nat)} (a : KR m lo hi af ks) {k : List Nat} (h : k ∈ ks) : k ∈ keysT m := (List.mem_filter.mp (a.1.mem_iff.mp h)).1
theorem KR.len {m : Tab} {lo : List Nat} {hi af : Option (List Nat)} {ks : List (List Nat)} (a : KR m lo hi af ks) : ks.length ≤ m.length := by
  rw [a.1.length_eq]
  have := List.length_filter_le (inR lo hi af) (keysT m)
  unfold keysT at this
  rw [List.length_map] at this
  exact this
/-- the pairs of some keys -/
def prT (m : Tab) (ks : List (List Nat)) : Tab := ks.map fun k => (k, (getT m k).getD 0)
theorem prT_len (m : Tab) (ks : List (List Nat)) : (prT m ks).length = ks.length := List.length_map _
/-- tuples of a key and a value -/
def PrV (H : Hp) (p : List Nat × Int) (v : V) : Prop := ∃ T, v = .ref T ∧ H T = some (.tup [.str (tx p.1), .int p.2])
def Prs (H : Hp) (m : Tab) (vs : List V) : Prop := Paired (PrV H) m vs
theorem PrV.keep {H H' : Hp} {p : List Nat × Int} {v : V} (h : PrV H p v) (s : ∀ T, v = .ref T → H T = some (.tup [.str (tx p.1), .int p.2]) → H' T = some (.tup [.str (tx p.1), .int p.2])) : PrV H' p v := by
  obtain ⟨T, rfl, h⟩ := h
  exact ⟨T, rfl, s T rfl h⟩
theorem Prs.keep {H H' : Hp} (s : ∀ T l, H T = some (.tup l) → H' T = some (.tup l)) : ∀ {m : Tab} {vs : List V}, Prs H m vs → Prs H' m vs
  | _, _, .nil => .nil
  | _, _, .cons h t => .cons (h.keep fun T _ e => s T _ e) (Prs.keep s t)
theorem Prs.same {H H' : Hp} {m : Tab} {vs : List V} (h : Prs H m vs) (s : Same H H') : Prs H' m vs := h.keep fun T l e => s _ _ e
theorem Prs.len {H : Hp} {m : Tab} {vs : List V} (h : Prs H m vs) : m.length = vs.length := Paired.length h
theorem Prs.app {H : Hp} : ∀ {m n : Tab} {vs ws : List V}, Prs H m vs → Prs H n ws → Prs H (m ++ n) (vs ++ ws)
  | _, _, _, _, .nil, b => b
  | _, _, _, _, .cons h t, b => .cons h (Prs.app t b)
theorem Prs.one {H : Hp} {p : List Nat × Int} {T : Addr} (h : H T = some (.tup [.str (tx p.1), .int p.2])) : Prs H [p] [.ref T] := .cons ⟨T, rfl, h⟩ .nil
theorem Prs.take {H : Hp} : ∀ {m : Tab} {vs : List V} (n : Nat), Prs H m vs → Prs H (m.take n) (vs.take n)
  | _, _, 0, _ => .nil
  | _, _, n + 1, .nil => .nil
  | _, _, n + 1, .cons h t => .cons h (Prs.take n t)
theorem Prs.get {H : Hp} : ∀ {m : Tab} {vs : List V} {i : Nat} {v : V}, Prs H m vs → vs[i]? = some v → ∃ p, m[i]? = some p ∧ PrV H p v
  | _, _, 0, _, .cons h t, e => ⟨_, rfl, by cases e; exact h⟩
  | _, _, i + 1, _, .cons h t, e => by
    obtain ⟨p, e1, e2⟩ := Prs.get (i := i) t (by simpa using e)
    exact ⟨p, by simpa using e1, e2⟩
/-- what stands where a sequence is read -/
def SeqO (us : List V) (o : HO) : Prop := o = .lst us ∨ o = .tup us ∨ (∃ x, o = .frz x (.lst us)) ∨ ∃ x, o = .frz x (.tup us)
def Seq1 (K : PySem.W.Frag) (H : Hp) (p : Addr) (us : List V) : Prop := SqL K H p us ∨ SqT K H p us
theorem SeqL.keep {K : PySem.W.Frag} {H H' : Hp} {p : Addr} {us : List V} (hp : SqL K H p us) (k : ∀ o, SeqO us o → H p = some o → H' p = some o) : SqL K H' p us := by
  rcases hp with (h | ⟨o, h⟩) | h
  · exact .inl (.inl (k _ (.inl rfl) h))
  · exact .inl (.inr ⟨o, k _ (.inr (.inr (.inl ⟨_, rfl⟩))) h⟩)
  · exact .inr h
theorem SeqT.keep {K : PySem.W.Frag} {H H' : Hp} {p : Addr} {us : List V} (hp : SqT K H p us) (k : ∀ o, SeqO us o → H p = some o → H' p = some o) : SqT K H' p us := by
  rcases hp with (h | ⟨o, h⟩) | h
  · exact .inl (.inl (k _ (.inr (.inl rfl)) h))
  · exact .inl (.inr ⟨o, k _ (.inr (.inr (.inr ⟨_, rfl⟩))) h⟩)
  · exact .inr h
theorem Seq1.keep {K : PySem.W.Frag} {H H' : Hp} {p : Addr} {us : List V} (hp : Seq1 K H p us) (k : ∀ o, SeqO us o → H p = some o → H' p = some o) : Seq1 K H' p us := hp.elim (fun h => .inl (SeqL.keep h k)) (fun h => .inr (SeqT.keep h k))
theorem SeqO.ndK {us : List V} {kvs : List (Key × V)} : ¬ SeqO us (.dK kvs) := by
  rintro (h | h | ⟨_, h⟩ | ⟨_, h⟩) <;> cases h
theorem SeqO.nins {us : List V} {C dx : Addr} {fs : List (Str × V)} : ¬ SeqO us (.ins C dx fs) := by
  rintro (h | h | ⟨_, h⟩ | ⟨_, h⟩) <;> cases h
/-- a walk over a list or a tuple -/
theorem rd_iSeqF {K : PySem.W.Frag} {tl : TE} {σ : L2.St} {H : Hp} {R : It → Hp → Prop} {p : Addr} {us : List V} (hv : ∀ Q : VK, Q (.ref p) H → tl σ H Q) (hp : Seq1 K H p us)
    (q : ∀ (J : It) (G : Hp → Prop), Walk J us.length G (YAt us) → (∀ H', (∀ o, SeqO us o → H p = some o → H' p = some o) → G H') → R J H) : iSeq K tl σ H R := by
  rcases hp with hp | hp
  · exact .inl (rd_iList (hv _ ⟨p, rfl, ⟨us, hp⟩, q _ _ walk_list fun H' k => SeqL.keep hp k⟩))
  · exact .inr (rd_iTup (hv _ ⟨p, rfl, ⟨us, hp⟩, q _ _ walk_tup fun H' k => SeqT.keep hp k⟩))
/-! ### many keys taken away, or put -/
def dropsT (m : Tab) (ks : List (List Nat)) : Tab := ks.foldl dropT m
def putsT (m : Tab) (ks : List (List Nat)) (v : Int) : Tab := ks.foldl (fun m k => putT m k v) m
theorem drops_snoc {m : Tab} {ks : List (List Nat)} {i : Nat} {k : List Nat} (h : ks[i]? = some k) : dropsT m (ks.take (i + 1)) = dropT (dropsT m (ks.take i)) k := by
  unfold dropsT
  rw [List.take_add_one, h, Option.toList_some, List.foldl_append]
  rfl
theorem puts_snoc {m : Tab} {ks : List (List Nat)} {i : Nat} {k : List Nat} {v : Int} (h : ks[i]? = some k) : putsT m (ks.take (i + 1)) v = putT (putsT m (ks.take i) v) k v := by
  unfold putsT
  rw [List.take_add_one, h, Option.toList_some, List.foldl_append]
  rfl
theorem mem_drop {m : Tab} {j k : List Nat} : k ∈ keysT (dropT m j) ↔ k ∈ keysT m ∧ k ≠ j := by
  unfold keysT dropT
  rw [List.mem_map, List.mem_map]
  constructor
  · rintro ⟨p, hp, rfl⟩
    obtain ⟨h1, h2⟩ := List.mem_filter.mp hp
    exact ⟨⟨p, h1, rfl⟩, of_decide_eq_true h2⟩
  · rintro ⟨⟨p, hp, rfl⟩, h⟩
    exact ⟨p, List.mem_filter.mpr ⟨hp, decide_eq_true h⟩, rfl⟩
theorem mem_drops {k : List Nat} : ∀ {ks : List (List Nat)} {m : Tab}, k ∈ keysT (dropsT m ks) ↔ k ∈ keysT m ∧ k ∉ ks
  | [], m => by simp [dropsT]
  | j :: r, m => by
    have h := mem_drops (k := k) (ks := r) (m := dropT m j)
    show k ∈ keysT (dropsT (dropT m j) r) ↔ _
    rw [h, mem_drop, List.mem_cons]
    constructor
    · rintro ⟨⟨a, b⟩, c⟩
      exact ⟨a, fun e => e.elim b c⟩
    · rintro ⟨a, b⟩
      exact ⟨⟨a, fun e => b (.inl e)⟩, fun e => b (.inr e)⟩
theorem drops_nodup : ∀ {ks : List (List Nat)} {m : Tab}, (keysT m).Nodup → (keysT (dropsT m ks)).Nodup
  | [], _, h => h
  | _ :: r, _, h => drops_nodup (ks := r) (dropT_nodup h)
theorem drops_len : ∀ {ks : List (List Nat)} {m : Tab}, (dropsT m ks).length ≤ m.length
  | [], _ => Nat.le_refl _
  | j :: r, m => Nat.le_trans (drops_len (ks := r) (m := dropT m j)) (List.length_filter_le _ _)
theorem puts_keys {v : Int} : ∀ {ks : List (List Nat)} {m : Tab}, (∀ k ∈ ks, k ∈ keysT m) → keysT (putsT m ks v) = keysT m
  | [], _, _ => rfl
  | j :: r, m, h => by
    have e : keysT (putT m j v) = keysT m := by rw [putT_keys, if_pos (h j List.mem_cons_self)]
    show keysT (putsT (putT m j v) r v) = _
    rw [puts_keys (ks := r) (fun k hk => by rw [e]; exact h k (List.mem_cons_of_mem _ hk)), e]
theorem keys_len (m : Tab) : (keysT m).length = m.length := List.length_map _
theorem KR.nodup {m : Tab} {lo : List Nat} {hi af : Option (List Nat)} {ks : List (List Nat)} (a : KR m lo hi af ks) (h : (keysT m).Nodup) : ks.Nodup := (a.1.nodup_iff).mpr (h.sublist List.filter_sublist)
theorem not_before {α : Type} {l : List α} {i : Nat} {x : α} (h : l.Nodup) (hx : l[i]? = some x) : x ∉ l.take i := by
  intro hm
  obtain ⟨j, hj⟩ := List.mem_iff_getElem?.mp hm
  rw [List.getElem?_take] at hj
  split at hj
  · rename_i hji
    have e : l[i]? = l[j]? := by rw [hx, hj]
    have hil : i < l.length := (List.getElem?_eq_some_iff.mp hx).1
    have := (List.getElem?_inj hil h).mp e
    omega
  · cases hj
/-- pairs put one behind another -/
def putsP (m : Tab) (ps : Tab) : Tab := ps.foldl (fun m p => putT m p.1 p.2) m
theorem putsP_snoc {m ps : Tab} {i : Nat} {p : List Nat × Int} (h : ps[i]? = some p) : putsP m (ps.take (i + 1)) = putT (putsP m (ps.take i)) p.1 p.2 := by
  unfold putsP
  rw [List.take_add_one, h, Option.toList_some, List.foldl_append]
  rfl
theorem putT_len (m : Tab) (k : List Nat) (v : Int) : (putT m k v).length ≤ m.length + 1 := by
  rw [← keys_len, ← keys_len, putT_keys]
  split
  · omega
  · simp
theorem putsP_len : ∀ (ps m : Tab), (putsP m ps).length ≤ m.length + ps.length
  | [], _ => Nat.le_refl _
  | p :: r, m => by
    have h1 := putsP_len r (putT m p.1 p.2)
    have h2 := putT_len m p.1 p.2
    show (putsP (putT m p.1 p.2) r).length ≤ _
    rw [List.length_cons]
    omega
theorem putsP_nodup : ∀ {ps m : Tab}, (keysT m).Nodup → (keysT (putsP m ps)).Nodup
  | [], _, h => h
  | _ :: r, _, h => putsP_nodup (ps := r) (putT_nodup h)
theorem prs_of_items {H : Hp} : ∀ {m : Tab} {ts : List Addr}, Paired (fun (t : Addr) (q : Key × V) => H t = some (.tup [kV q.1, q.2])) ts (encT m) → Prs H m (ts.map V.ref)
  | [], _, h => by
    cases h
    exact .nil
  | _ :: _, _, h => by
    cases h with
    | cons a b => exact .cons ⟨_, rfl, a⟩ (prs_of_items b)
theorem putT_new {m : Tab} {k : List Nat} {v : Int} (h : k ∉ keysT m) : putT m k v = m ++ [(k, v)] := by
  unfold putT
  rw [if_neg]
  rw [List.any_eq_true]
  rintro ⟨p, hp, e⟩
  exact h (List.mem_map.mpr ⟨p, hp, of_decide_eq_true e⟩)
theorem putsP_same : ∀ (m acc : Tab), (keysT (acc ++ m)).Nodup → putsP acc m = acc ++ m
  | [], acc, _ => (List.append_nil acc).symm
  | p :: r, acc, h => by
    have h1 : p.1 ∉ keysT acc := fun hm => by
      unfold keysT at h hm
      rw [List.map_append] at h
      exact (List.nodup_append.mp h).2.2 p.1 hm p.1 List.mem_cons_self rfl
    show putsP (putT acc p.1 p.2) r = _
    rw [putT_new h1]
    have e : acc ++ p :: r = (acc ++ [(p.1, p.2)]) ++ r := by simp
    rw [e] at h ⊢
    exact putsP_same r _ h
theorem cutL_take (xs : List Nat) (n : Nat) : cutL xs none (some (n : Int)) = xs.take n := by
  unfold cutL
  rw [HT.sIx_none, HT.sIx_nat, List.drop_zero, Nat.sub_zero]
  by_cases h : n ≤ xs.length
  · rw [Nat.min_eq_left h]
  · rw [Nat.min_eq_right (by omega), List.take_length, List.take_of_length_le (by omega)]
theorem reps_mem {l : List Nat} {c n : Nat} (h : c ∈ reps n l) : c ∈ l := by
  unfold reps at h
  obtain ⟨x, h1, h2⟩ := List.mem_flatten.mp h
  rw [(List.mem_replicate.mp h1).2] at h2
  exact h2
/-- as data -/
def pD (p : List Nat × Int) : PyData := .tuple [.str (tx p.1), .int p.2]
theorem rd_lock {t : TE} {σ : L2.St} {H : Hp} {Q : VK} {d : Addr} {u : HO} (h : H d = some u) (mt : Mut (some u)) (q : ∀ od, t σ (upd H d (.frz od u)) fun v H' => H' d = some (.frz od u) ∧ Q v (upd H' d u)) : tLockE t σ H Q := ⟨d, u, h, mt, q⟩
theorem txs_of : ∀ (ys : List Str), ∃ ks : List (List Nat), ys = ks.map tx
  | [] => ⟨[], rfl⟩
  | z :: r => by
    obtain ⟨ks, e⟩ := txs_of r
    exact ⟨z.cps.toList :: ks, by rw [List.map_cons, tx_of, ← e]⟩
theorem rd_sortT {K : PySem.W.Frag} {H : Hp} {Q : VK} {a : Addr} {ks : List (List Nat)} (hs : SqL K H a (ks.map fun k => V.str (tx k)))
    (q : ∀ (js : List (List Nat)) (p : Addr), js.Perm ks → js.Pairwise (fun a b => ¬ b < a) → H p = none → Q (.ref p) (upd H p (.lst (js.map fun k => V.str (tx k))))) : rSortedT K [.ref a] H Q := by
  refine ⟨a, ks.map tx, rfl, by rw [List.map_map]; exact hs, fun ys p hp hss hn => ?_⟩
  obtain ⟨js, rfl⟩ := txs_of ys
  rw [List.map_map]
  exact q js p (by
    have h := hp.map fun z => z.cps.toList
    rw [List.map_map, List.map_map] at h
    have e : ∀ l : List (List Nat), l.map ((fun z => z.cps.toList) ∘ tx) = l := fun l => by
      conv => rhs; rw [← List.map_id l]
      congr 1
    rw [e, e] at h
    exact h) (sortedS_le hss) hn
theorem pe_fldK {X : Cx} {e : Expr} {ta : TE} {f : Str} {pos : Pos} {K : PySem.W.Frag} (hK : X.K = K) (he : PE X e ta) (hb : attributeBase e f X.env (eval e X.env) = eval e X.env) : PE X (.Attribute e f pos) (tFld K ta f) := by
  subst hK
  exact pe_fld he hb
theorem same_none {H H' : Hp} {p : Addr} (s : Same H H') (h : H' p = none) : H p = none := by
  cases z : H p with
  | none => rfl
  | some o =>
    rw [s _ _ z] at h
    cases h
theorem cutV_take (xs : List V) (n : Nat) : cutV xs none (some (n : Int)) = xs.take n := by
  unfold cutV
  rw [HT.sIx_none, HT.sIx_nat, List.drop_zero, Nat.sub_zero]
  by_cases h : n ≤ xs.length
  · rw [Nat.min_eq_left h]
  · rw [Nat.min_eq_right (by omega), List.take_length, List.take_of_length_le (by omega)]
/-- low <= key and (high is None or key < high) and (after is None or key > after) -/
theorem rd_up {σ : L2.St} {H : Hp} {Q : Bool → Hp → Prop} {h j : Nat} {k : List Nat} {hi : Option (List Nat)} (e2 : σ[h]? = some (some (bnd hi))) (e1 : σ[j]? = some (some (.str (tx k)))) (q : Q (upB hi k) H) :
    tOr (tTest (tOp rIsN1 (tVar h) (tC V.non))) (tTest (tOp rLtX (tVar j) (tVar h))) σ H Q := by
  refine rd_or (rd_test (rd_op (rd_var e2 (rd_c (rd_isN1 (rd_bl ?_))))))
  cases hi with
  | none => exact q
  | some u =>
    refine rd_ite (fun h => by cases h) (fun _ => ?_)
    exact rd_test (rd_op (rd_var e1 (rd_var e2 (rd_ltX (rd_bl q)))))
theorem rd_af {σ : L2.St} {H : Hp} {Q : Bool → Hp → Prop} {h j : Nat} {k : List Nat} {af : Option (List Nat)} (e2 : σ[h]? = some (some (bnd af))) (e1 : σ[j]? = some (some (.str (tx k)))) (q : Q (afB af k) H) :
    tOr (tTest (tOp rIsN1 (tVar h) (tC V.non))) (tTest (tOp rGtX (tVar j) (tVar h))) σ H Q := by
  refine rd_or (rd_test (rd_op (rd_var e2 (rd_c (rd_isN1 (rd_bl ?_))))))
  cases af with
  | none => exact q
  | some u =>
    refine rd_ite (fun h => by cases h) (fun _ => ?_)
    exact rd_test (rd_op (rd_var e1 (rd_var e2 (rd_gtX (rd_bl q)))))
theorem rd_stretch {σ : L2.St} {H : Hp} {Q : Bool → Hp → Prop} {l h g j : Nat} {lo k : List Nat} {hi af : Option (List Nat)} (e0 : σ[l]? = some (some (.str (tx lo)))) (e2 : σ[h]? = some (some (bnd hi))) (e3 : σ[g]? = some (some (bnd af)))
    (e1 : σ[j]? = some (some (.str (tx k)))) (q : Q (inR lo hi af k) H) :
    tAnd (tTest (tOp rLeX (tVar l) (tVar j))) (tAnd (tOr (tTest (tOp rIsN1 (tVar h) (tC V.non))) (tTest (tOp rLtX (tVar j) (tVar h)))) (tOr (tTest (tOp rIsN1 (tVar g) (tC V.non))) (tTest (tOp rGtX (tVar j) (tVar g))))) σ H Q := by
  refine rd_and (rd_test (rd_op (rd_var e0 (rd_var e1 (rd_leX (rd_bl ?_))))))
  unfold inR at q
  refine rd_ite (fun h1 => ?_) (fun h1 => ?_)
  · rw [h1, Bool.true_and] at q
    refine rd_and (rd_up e2 e1 ?_)
    refine rd_ite (fun h2 => ?_) (fun h2 => ?_)
    · rw [h2, Bool.true_and] at q
      exact rd_af e3 e1 q
    · rw [h2, Bool.false_and] at q
      exact q
  · rw [h1, Bool.false_and] at q
    exact q
theorem filt_snoc {α : Type} {l : List α} {i : Nat} {x : α} {p : α → Bool} (h : l[i]? = some x) (hp : p x = true) : (l.take (i + 1)).filter p = (l.take i).filter p ++ [x] := by
  rw [List.take_add_one, h, Option.toList_some, List.filter_append]
  simp [hp]
theorem filt_skip {α : Type} {l : List α} {i : Nat} {x : α} {p : α → Bool} (h : l[i]? = some x) (hp : p x = false) : (l.take (i + 1)).filter p = (l.take i).filter p := by
  rw [List.take_add_one, h, Option.toList_some, List.filter_append]
  simp [hp]
theorem filt_len {α : Type} (l : List α) (i : Nat) (p : α → Bool) : ((l.take i).filter p).length ≤ l.length := by
  have := List.length_filter_le p (l.take i)
  rw [List.length_take] at this
  omega
theorem keys_at {m : Tab} {i : Nat} {k : Key} {v : V} (hk : (encT m)[i]? = some (k, v)) : ∃ key, (keysT m)[i]? = some key ∧ k = Sum.inr (tx key) := by
  unfold encT at hk
  rw [List.getElem?_map] at hk
  cases hmi : m[i]? with
  | none => rw [hmi] at hk; cases hk
  | some p =>
    rw [hmi] at hk
    cases hk
    exact ⟨p.1, by unfold keysT; rw [List.getElem?_map, hmi]; rfl, rfl⟩
end Un

/-! UnDb: dicts whose keys are truth values. -/
namespace Un
open PySem PySem.Spec PyProof.Rows L2
/-- the dict at a with these truth values for keys -/
def DB (P : Program) (w : World) (a : Addr) (kvs : List (Bool × V)) : HO :=
  .ext fun h => kvs.length ≤ sizeLine ∧ (a == sysModules) = false ∧ ∃ vs : List (Bool × Value), KV kvs vs ∧ h.DictOf (PpSet.boolK P w) a vs
theorem db_ok {P : Program} {w : World} {H : Hp} {h : Heap} {a : Addr} {kvs : List (Bool × V)} {vs : List (Bool × Value)} (z : kvs.length ≤ sizeLine) (hd : (a == sysModules) = false) (r : KV kvs vs) (dd : h.DictOf (PpSet.boolK P w) a vs) : ObjOk P w H h a (DB P w a kvs) := by
  refine ⟨⟨z, hd, vs, r, dd⟩, ?_, fun h1 h2 ⟨q1, q2, us, q3, q4⟩ k => ⟨q1, q2, us, q3, ?_⟩⟩
  · obtain ⟨o, _, _, e, _⟩ := dd
    exact ⟨o, e⟩
  · obtain ⟨o, es, ep, e, rest⟩ := q4
    exact ⟨o, es, ep, k o e, rest⟩
section
variable {X : Cx} {pins : List (Addr × Obj)} {σ : L2.St} {H : Hp} {s : Shared} {a : Addr} {kvs : List (Bool × V)} {b : Bool} {v : V} {r : Value} {A : Around} {E : Value → Shared → Prop}
theorem db_of (I : Inv X pins σ H s) (e : H a = some (DB X.prog X.w a kvs)) : kvs.length ≤ sizeLine ∧ (a == sysModules) = false ∧ ∃ vs : List (Bool × Value), KV kvs vs ∧ s.heap.DictOf (PpSet.boolK X.prog X.w) a vs :=
  (show ObjOk X.prog X.w H s.heap a (DB X.prog X.w a kvs) from I.hok a _ e).1
theorem db_get {Q : Value → Shared → Prop} (I : Inv X pins σ H s) (e : H a = some (DB X.prog X.w a kvs)) (hv : valV kvs b = some v) (h : ∀ u s', Inv X pins σ H s' → RelV v u → Q u s') :
    wpAny (model X.prog X.w) A (getItem (.ref a) (.bool b)) Q E s := by
  obtain ⟨_, _, vs, rel, dd⟩ := db_of I e
  obtain ⟨u, hu, ru⟩ := RelO.some_of (v := v) (o := valueAt vs b) (by rw [← hv]; exact rel.val b)
  exact wpAny_getItem_of (PpSet.boolK_is X.prog X.w b) dd.mapOf hu (h u _ (I.tok _) ru)
theorem db_notIn {Q : Value → Shared → Prop} (I : Inv X pins σ H s) (e : H a = some (DB X.prog X.w a kvs)) (h : ∀ s', Inv X pins σ H s' → Q (.bool (!(valV kvs b).isSome)) s') :
    wpAny (model X.prog X.w) A (compareOp .NotIn (.bool b) (.ref a)) Q E s := by
  obtain ⟨_, hd, vs, rel, dd⟩ := db_of I e
  refine wpAny_notIn_of (PpSet.boolK_is X.prog X.w b) hd dd.mapOf ?_
  rw [← (rel.val b).isSome_eq]
  exact h _ (I.tok _)
theorem db_put {Q : Unit → Shared → Prop} (I : Inv X pins σ H s) (e : H a = some (DB X.prog X.w a kvs)) (hl : kvs.length < sizeLine) (rv : RelV v r) (h : ∀ s', Inv X pins σ (upd H a (DB X.prog X.w a (putK kvs b v))) s' → Q () s') :
    wpAny (model X.prog X.w) A (setItem (.ref a) (.bool b) r) Q E s := by
  obtain ⟨z, hd, vs, rel, dd⟩ := db_of I e
  have hz : vs.length ≤ sizeLine := by
    rw [← rel.length]
    exact z
  have hl2 : (putK kvs b v).length ≤ sizeLine := by
    have := length_putK kvs b v
    omega
  refine wpAny_setItem_pairs (hsz := hz) (PpSet.boolK_is X.prog X.w b) dd fun h' dd' hs => h _ ?_
  obtain ⟨q, es, ep, hq, rest⟩ := id dd'
  exact d_write I (by rw [e]; trivial) hs ⟨q, hq⟩ (db_ok hl2 hd (rel.put b rv) dd')
theorem db_len {Q : Value → Shared → Prop} (I : Inv X pins σ H s) (e : H a = some (DB X.prog X.w a kvs)) (h : ∀ t s', Inv X pins σ H s' → Q (.int (kvs.length : Nat) t) s') :
    wpAny (model X.prog X.w) A (call (.builtin "len") [.ref a]) Q E s := by
  obtain ⟨z, hd, vs, rel, dd⟩ := db_of I e
  rw [sizeLine_eq] at z
  refine call_len_dict hd dd (by rw [← rel.length]; omega) ?_
  rw [← rel.length]
  exact h _ _ (I.tok _)
end
/-! ### the words -/
def tNewB (P : Program) (w : World) : TE := fun _ H Q => ∀ p, H p = none → Q (.ref p) (upd H p (DB P w p []))
def tGetB (P : Program) (w : World) (td ty : TE) : TE := fun σ H Q => td σ H fun x H1 => ty σ H1 fun y H2 => ∃ a b kvs v, x = .ref a ∧ y = .bl b ∧ H2 a = some (DB P w a kvs) ∧ valV kvs b = some v ∧ Q v H2
def rNotInB (P : Program) (w : World) : R2 := fun y x H Q => ∃ a b kvs, x = .ref a ∧ y = .bl b ∧ H a = some (DB P w a kvs) ∧ Q (.bl (!(valV kvs b).isSome)) H
def tSetB (P : Program) (w : World) : TSet := fun x y v H Q => ∃ a b kvs, x = .ref a ∧ y = .bl b ∧ H a = some (DB P w a kvs) ∧ kvs.length < sizeLine ∧ Q (upd H a (DB P w a (putK kvs b v)))
def rLenB (P : Program) (w : World) : List V → Hp → VK → Prop := fun xs H Q => ∃ a kvs, xs = [.ref a] ∧ H a = some (DB P w a kvs) ∧ Q (.int (kvs.length : Nat)) H
section
variable {X : Cx} {o i : Expr} {pos : Pos} {td ty : TE}
theorem op_notInB : OpR X (compareOp .NotIn) (rNotInB X.prog X.w) := fun pins s σ H x y u r Q I ru rr h => by
  obtain ⟨a, b, kvs, rfl, rfl, e, q⟩ := h
  cases (show u = Value.bool b from ru)
  cases (show r = Value.ref a from rr)
  exact db_notIn I e fun s' I' => ⟨.bl (!(valV kvs b).isSome), H, I', rfl, q⟩
theorem set_B : PSet X (tSetB X.prog X.w) := fun pins s σ H x y v ux uy uv Q I rx ry rv h => by
  obtain ⟨a, b, kvs, rfl, rfl, e, hl, q⟩ := h
  cases (show ux = Value.ref a from rx)
  cases (show uy = Value.bool b from ry)
  exact db_put I e hl rv fun s' I' => ⟨_, I', q⟩
theorem call_lenB : CallR X (.builtin "len") (rLenB X.prog X.w) := fun pins s σ H xs us Q I r h => by
  obtain ⟨a, kvs, rfl, e, q⟩ := h
  cases r with
  | cons r rr =>
    cases rr
    cases (show _ = Value.ref a from r)
    exact db_len I e fun t s' I' => ⟨.int (kvs.length : Nat), H, I', ⟨t, rfl⟩, q⟩
theorem pe_getB {P : Program} {w : World} (hP : X.prog = P) (hw : X.w = w) (ho : PE X o td) (hi : PE X i ty) (hs : NoSl i) : PE X (.Subscript o i pos) (tGetB P w td ty) := by
  subst hP hw
  refine ⟨fun pins s σ H Q I h => ?_⟩
  refine subD_of PySem.F.slot_dict_getitem.lookup hs (thn (ho.run pins s σ H _ I h) fun u s1 ⟨x, H1, I1, rx, q1⟩ => thn (hi.run pins s1 σ H1 _ I1 q1) fun iv s2 ⟨y, H2, I2, ry, a, b, kvs, v, ex, ey, e, hv, q2⟩ => ?_)
  subst ex ey
  cases (show u = Value.ref a from rx)
  cases (show iv = Value.bool b from ry)
  obtain ⟨_, _, vs, _, dd⟩ := db_of I2 e
  exact ⟨dd.typeIs, db_get I2 e hv fun w' s3 I3 rw' => ⟨v, H2, I3, rw', q2⟩⟩
theorem pe_newB : PE X (.Dict [] [] pos) (tNewB X.prog X.w) := ⟨fun pins s σ H Q I h => by
  refine wpAny_Dict_empty ⟨.ref s.heap.objs.size, upd H s.heap.objs.size (DB X.prog X.w s.heap.objs.size []), ?_, rfl, h _ (I.hok.fresh (Nat.le_refl _))⟩
  exact I.laid (t' := s.toks) (fun _ _ q => Heap.get?_push_of_some _ q) (Nat.le_refl _) (db_ok (Nat.zero_le _) (beq_eq_false_iff_ne.mpr (Ne.symm (Nat.ne_of_lt I.big))) .nil (Heap.DictOf.new s.heap))⟩
end
section
variable {P : Program} {w : World} {σ : L2.St} {H : Hp} {Q : VK} {a : Addr} {b : Bool} {kvs : List (Bool × V)} {v : V}
theorem rd_newB (q : ∀ p, H p = none → Q (.ref p) (upd H p (DB P w p []))) : tNewB P w σ H Q := q
theorem rd_getB {td ty : TE} (h : td σ H fun x H1 => ty σ H1 fun y H2 => ∃ a b kvs v, x = .ref a ∧ y = .bl b ∧ H2 a = some (DB P w a kvs) ∧ valV kvs b = some v ∧ Q v H2) : tGetB P w td ty σ H Q := h
theorem rd_notInB (e : H a = some (DB P w a kvs)) (q : Q (.bl (!(valV kvs b).isSome)) H) : rNotInB P w (.bl b) (.ref a) H Q := ⟨a, b, kvs, rfl, rfl, e, q⟩
theorem rd_setB {Q : Hp → Prop} (e : H a = some (DB P w a kvs)) (hl : kvs.length < sizeLine) (q : Q (upd H a (DB P w a (putK kvs b v)))) : tSetB P w (.ref a) (.bl b) v H Q := ⟨a, b, kvs, rfl, rfl, e, hl, q⟩
theorem rd_disp1 {tk tv : TE} (h : ∀ p, H p = none → tk σ (upd H p (.dK [])) fun x H1 => tv σ H1 fun y H2 => H2 p = some (.dK []) ∧ ∃ kvs : List (Key × V), [(x, y)] = kvs.map (fun kv => (kV kv.1, kv.2)) ∧ kvs.length ≤ 15 ∧ Q (.ref p) (upd H2 p (.dK (mergeK [] kvs)))) : tDisp [(tk, tv)] σ H Q := h
theorem rd_dnewT (h : ∀ p, H p = none → Q (.ref p) (upd H p (.dT []))) : tDNewT σ H Q := h
theorem rd_lenB (e : H a = some (DB P w a kvs)) (q : Q (.int (kvs.length : Nat)) H) : rLenB P w [.ref a] H Q := ⟨a, kvs, rfl, e, q⟩
end
end Un

/-! UnDfa: automata, parts of their states that tell nothing apart, refined by splitters. -/
namespace Un
def fset (f : Nat → Nat) (i v : Nat) : Nat → Nat := fun j => if j = i then v else f j
theorem fset_same {f : Nat → Nat} {i v : Nat} : fset f i v i = v := if_pos rfl
theorem fset_ne {f : Nat → Nat} {i v j : Nat} (h : j ≠ i) : fset f i v j = f j := if_neg h
def runW (to : Nat → Nat → Nat) (s : Nat) : List Nat → Nat
  | [] => s
  | a :: w => runW to (to s a) w
theorem runW_app (to : Nat → Nat → Nat) : ∀ (u v : List Nat) (s : Nat), runW to s (u ++ v) = runW to (runW to s u) v
  | [], _, _ => rfl
  | a :: u, v, s => runW_app to u v (to s a)
/-- no word tells s from t -/
def Eqv {β : Type} (m : Nat) (lab : Nat → β) (to : Nat → Nat → Nat) (s t : Nat) : Prop := ∀ w : List Nat, (∀ a ∈ w, a < m) → lab (runW to s w) = lab (runW to t w)
section
variable {β : Type} {n m : Nat} {lab : Nat → β} {to : Nat → Nat → Nat}
theorem Eqv.step {s t a : Nat} (h : Eqv m lab to s t) (ha : a < m) : Eqv m lab to (to s a) (to t a) := fun w hw => h (a :: w) fun b hb => by
  rcases List.mem_cons.mp hb with rfl | hb
  · exact ha
  · exact hw b hb
theorem Eqv.here {s t : Nat} (h : Eqv m lab to s t) : lab s = lab t := h [] fun a ha => by cases ha
theorem Eqv.refl (s : Nat) : Eqv m lab to s s := fun _ _ => rfl
theorem Eqv.symm {s t : Nat} (h : Eqv m lab to s t) : Eqv m lab to t s := fun w hw => (h w hw).symm
theorem Eqv.trans {s t u : Nat} (h : Eqv m lab to s t) (k : Eqv m lab to t u) : Eqv m lab to s u := fun w hw => (h w hw).trans (k w hw)
def Closed (n m : Nat) (to : Nat → Nat → Nat) : Prop := ∀ s < n, ∀ a < m, to s a < n
/-- whatever is finer than the parts and is kept by the waiting ones is kept by all -/
def Hop (n m : Nat) (to : Nat → Nat → Nat) (P : Nat → Nat) (W : List Nat) : Prop := ∀ R : Nat → Nat → Prop, (∀ s t, R s t → s < n ∧ t < n ∧ P s = P t) →
  (∀ p ∈ W, ∀ a < m, ∀ s t, R s t → (P (to s a) = p ↔ P (to t a) = p)) → ∀ s t, R s t → ∀ a < m, P (to s a) = P (to t a)
theorem hop_all {k : Nat} {P : Nat → Nat} {W : List Nat} (hc : Closed n m to) (hp : ∀ s < n, P s < k) (hW : ∀ p < k, p ∈ W) : Hop n m to P W := fun R h1 h2 s t h a ha => by
  obtain ⟨hs, ht, _⟩ := h1 s t h
  exact ((h2 _ (hW _ (hp _ (hc s hs a ha))) a ha s t h).mp rfl).symm
theorem hop_step {k S : Nat} {P P' : Nat → Nat} {W W' : List Nat} (hc : Closed n m to) (I : Hop n m to P (W ++ [S])) (c1 : ∀ x < n, P' x = P x ∨ k ≤ P' x) (c2 : ∀ x < n, ∀ y < n, P' x = P' y → P x = P y) (c3 : ∀ x < n, P x < k)
    (c4 : ∀ x < n, k ≤ P' x → P' x ∈ W') (c5 : ∀ p ∈ W, p ∈ W') (c6 : ∀ a < m, ∀ s < n, ∀ t < n, P' s = P' t → (P (to s a) = S ↔ P (to t a) = S)) : Hop n m to P' W' := by
  intro R h1 h2 s t h a ha
  have old : ∀ s t, R s t → ∀ a < m, P (to s a) = P (to t a) := by
    refine I R (fun s t h => ?_) fun p hp a ha s t h => ?_
    · obtain ⟨hs, ht, e⟩ := h1 s t h
      exact ⟨hs, ht, c2 s hs t ht e⟩
    · obtain ⟨hs, ht, e⟩ := h1 s t h
      rcases List.mem_append.mp hp with hp | hp
      · -- p waits still: its old block is a union of waiting ones
        have one : ∀ x y, x < n → y < n → (∀ q ∈ W', (P' x = q ↔ P' y = q)) → P x = p → P y = p := fun x y hx hy hq e => by
          rcases c1 x hx with h | h
          · have e1 : P' x = p := h.trans e
            have e2 := (hq p (c5 p hp)).mp e1
            have e3 := c2 x hx y hy (e1.trans e2.symm)
            exact e3.symm.trans e
          · have e2 := (hq _ (c4 x hx h)).mp rfl
            exact (c2 x hx y hy e2.symm).symm.trans e
        have hq := fun q hq => h2 q hq a ha s t h
        exact ⟨one _ _ (hc s hs a ha) (hc t ht a ha) hq, one _ _ (hc t ht a ha) (hc s hs a ha) fun q m => (hq q m).symm⟩
      · rw [List.mem_singleton.mp hp]
        exact c6 a ha s hs t ht e
  obtain ⟨hs, ht, _⟩ := h1 s t h
  have e := old s t h a ha
  have hx := hc s hs a ha
  have hy := hc t ht a ha
  rcases c1 _ hx with h3 | h3
  · rcases c1 _ hy with h4 | h4
    · rw [h3, h4, e]
    · exact (h2 _ (c4 _ hy h4) a ha s t h).mpr rfl
  · exact ((h2 _ (c4 _ hx h3) a ha s t h).mp rfl).symm
theorem hop_end {P : Nat → Nat} (hc : Closed n m to) (I : Hop n m to P []) (hl : ∀ s < n, ∀ t < n, P s = P t → lab s = lab t) : ∀ (w : List Nat), (∀ a ∈ w, a < m) → ∀ s < n, ∀ t < n, P s = P t → lab (runW to s w) = lab (runW to t w)
  | [], _, s, hs, t, ht, e => hl s hs t ht e
  | a :: w, hw, s, hs, t, ht, e => by
    have ha := hw a List.mem_cons_self
    have e1 := I (fun s t => s < n ∧ t < n ∧ P s = P t) (fun _ _ h => h) (fun _ hp => by cases hp) s t ⟨hs, ht, e⟩ a ha
    exact hop_end hc I hl w (fun b hb => hw b (List.mem_cons_of_mem _ hb)) _ (hc s hs a ha) _ (hc t ht a ha) e1
end

/-! ### parts as stretches of a row of states -/
structure Blk (n k : Nat) (po st pl fi la : Nat → Nat) : Prop where
  hpl : ∀ s < n, pl s < n ∧ st (pl s) = s
  hst : ∀ i < n, st i < n ∧ pl (st i) = i
  hpo : ∀ s < n, po s < k ∧ fi (po s) ≤ pl s ∧ pl s < la (po s)
  hiv : ∀ p < k, fi p < la p ∧ la p ≤ n ∧ ∀ i, fi p ≤ i → i < la p → po (st i) = p
section
variable {n k : Nat} {po st pl fi la mid : Nat → Nat} {M : Nat → Prop}
theorem Blk.k_le (B : Blk n k po st pl fi la) : k ≤ n := by
  -- the first states of the parts are unlike
  have h : ((List.range k).map fun p => st (fi p)).Nodup := by
    refine List.pairwise_map.mpr (List.Pairwise.imp_of_mem (fun {p q} hp hq hne e => hne ?_) List.nodup_range)
    have hp := List.mem_range.mp hp
    have hq := List.mem_range.mp hq
    have h1 := (B.hiv p hp).2.2 (fi p) (Nat.le_refl _) (B.hiv p hp).1
    have h2 := (B.hiv q hq).2.2 (fi q) (Nat.le_refl _) (B.hiv q hq).1
    rw [← h1, ← h2, e]
  have hs : ((List.range k).map fun p => st (fi p)) ⊆ List.range n := fun x hx => by
    obtain ⟨p, hp, rfl⟩ := List.mem_map.mp hx
    have hp := List.mem_range.mp hp
    have h1 := B.hiv p hp
    exact List.mem_range.mpr (B.hst _ (by omega)).1
  have := List.Nodup.length_le_of_subset h hs
  simpa using this
/-- marked states stand first in their parts -/
structure Mkd (n k : Nat) (po st pl fi la mid : Nat → Nat) (M : Nat → Prop) : Prop extends Blk n k po st pl fi la where
  hmid : ∀ p < k, fi p ≤ mid p ∧ mid p ≤ la p ∧ (∀ i, fi p ≤ i → i < mid p → M (st i)) ∧ ∀ i, mid p ≤ i → i < la p → ¬ M (st i)
theorem Mkd.start (B : Blk n k po st pl fi la) : Mkd n k po st pl fi la fi fun _ => False :=
  ⟨B, fun p hp => ⟨Nat.le_refl _, Nat.le_of_lt (B.hiv p hp).1, fun i h1 h2 => absurd h1 (by omega), fun _ _ _ h => h⟩⟩
theorem Mkd.congr {mid' : Nat → Nat} {M' : Nat → Prop} (B : Mkd n k po st pl fi la mid M) (h1 : ∀ p < k, mid' p = mid p) (h2 : ∀ s < n, M' s ↔ M s) : Mkd n k po st pl fi la mid' M' := by
  refine ⟨B.toBlk, fun p hp => ?_⟩
  obtain ⟨a, b, c, d⟩ := B.hmid p hp
  have hn := (B.hiv p hp).2.1
  rw [h1 p hp]
  refine ⟨a, b, fun i i1 i2 => (h2 _ (B.hst i (by omega)).1).mpr (c i i1 i2), fun i i1 i2 h => d i i1 i2 ((h2 _ (B.hst i (by omega)).1).mp h)⟩
theorem Mkd.mark (B : Mkd n k po st pl fi la mid M) {s : Nat} (hs : s < n) (hM : ¬ M s) :
    mid (po s) < n ∧ st (mid (po s)) < n ∧ Mkd n k po (fset (fset st (pl s) (st (mid (po s)))) (mid (po s)) s) (fset (fset pl (st (mid (po s))) (pl s)) s (mid (po s))) fi la (fset mid (po s) (mid (po s) + 1)) (fun x => M x ∨ x = s) := by
  obtain ⟨hp, hp1, hp2⟩ := B.hpo s hs
  obtain ⟨hl1, hl2, hl3⟩ := B.hiv _ hp
  obtain ⟨hm1, hm2, hm3, hm4⟩ := B.hmid _ hp
  obtain ⟨hj, hj2⟩ := B.hpl s hs
  have hle : mid (po s) ≤ pl s := by
    rcases Nat.lt_or_ge (pl s) (mid (po s)) with h | h
    · exact absurd (by have := hm3 (pl s) hp1 h; rw [hj2] at this; exact this) hM
    · exact h
  have hto : mid (po s) < n := by omega
  obtain ⟨hx, hx2⟩ := B.hst _ hto
  generalize hT : mid (po s) = T at *
  generalize hX : st T = X at *
  -- X stands at T, s at J
  generalize hJ : pl s = J at *
  have hXp : po X = po s := by rw [← hX]; exact hl3 T hm1 (by omega)
  have hst : ∀ i, (fset (fset st J X) T s) i = if i = T then s else if i = J then X else st i := fun i => rfl
  have hpl : ∀ y, (fset (fset pl X J) s T) y = if y = s then T else if y = X then J else pl y := fun y => rfl
  have inj : ∀ {i j}, i < n → j < n → st i = st j → i = j := fun {i j} hi hj' e => by
    have h1 := (B.hst i hi).2
    have h2 := (B.hst j hj').2
    rw [← h1, ← h2, e]
  refine ⟨hto, hx, ⟨⟨fun y hy => ?_, fun i hi => ?_, fun y hy => ?_, fun p hp' => ?_⟩, fun p hp' => ?_⟩⟩
  · rw [hpl, hst]
    by_cases h1 : y = s
    · rw [if_pos h1, if_pos rfl]
      exact ⟨hto, h1.symm⟩
    · rw [if_neg h1]
      by_cases h2 : y = X
      · rw [if_pos h2]
        have hJT : J ≠ T := fun e => by
          rw [e, hX] at hj2
          exact h1 (h2.trans hj2)
        rw [if_neg hJT, if_pos rfl]
        exact ⟨hj, h2.symm⟩
      · rw [if_neg h2]
        obtain ⟨a, b⟩ := B.hpl y hy
        have n1 : pl y ≠ T := fun e => h2 (by rw [← hX, ← e, b])
        have n2 : pl y ≠ J := fun e => h1 (by rw [← b, e, hj2])
        rw [if_neg n1, if_neg n2]
        exact ⟨a, b⟩
  · rw [hst]
    by_cases h1 : i = T
    · rw [if_pos h1]
      refine ⟨hs, ?_⟩
      rw [hpl, if_pos rfl, h1]
    · rw [if_neg h1]
      by_cases h2 : i = J
      · rw [if_pos h2]
        refine ⟨hx, ?_⟩
        rw [hpl]
        have : X ≠ s := fun e => h1 (h2.trans (inj hj hto (by rw [hj2, hX, e])))
        rw [if_neg this, if_pos rfl, h2]
      · rw [if_neg h2]
        obtain ⟨a, b⟩ := B.hst i hi
        refine ⟨a, ?_⟩
        rw [hpl]
        have n1 : st i ≠ s := fun e => h2 (inj hi hj (by rw [hj2, e]))
        have n2 : st i ≠ X := fun e => h1 (inj hi hto (by rw [hX, e]))
        rw [if_neg n1, if_neg n2]
        exact b
  · obtain ⟨a, b, c⟩ := B.hpo y hy
    rw [hpl]
    refine ⟨a, ?_⟩
    by_cases h1 : y = s
    · rw [if_pos h1, h1]
      exact ⟨hm1, by omega⟩
    · rw [if_neg h1]
      by_cases h2 : y = X
      · rw [if_pos h2, h2, hXp]
        exact ⟨by omega, hp2⟩
      · rw [if_neg h2]
        exact ⟨b, c⟩
  · obtain ⟨a, b, c⟩ := B.hiv p hp'
    refine ⟨a, b, fun i i1 i2 => ?_⟩
    rw [hst]
    by_cases h1 : i = T
    · rw [if_pos h1]
      have := c i i1 i2
      rw [h1, hX, hXp] at this
      exact this
    · rw [if_neg h1]
      by_cases h2 : i = J
      · rw [if_pos h2, hXp]
        have := c i i1 i2
        rw [h2, hj2] at this
        exact this
      · rw [if_neg h2]
        exact c i i1 i2
  · obtain ⟨a, b, c, d⟩ := B.hmid p hp'
    obtain ⟨v1, v2, v3⟩ := B.hiv p hp'
    by_cases hps : p = po s
    · subst hps
      rw [fset_same]
      refine ⟨by omega, by omega, fun i i1 i2 => ?_, fun i i1 i2 => ?_⟩
      · rw [hst]
        by_cases h1 : i = T
        · rw [if_pos h1]
          exact .inr rfl
        · rw [if_neg h1]
          have h2 : i ≠ J := by omega
          rw [if_neg h2]
          exact .inl (hm3 i i1 (by omega))
      · rw [hst]
        have h1 : i ≠ T := by omega
        rw [if_neg h1]
        by_cases h2 : i = J
        · rw [if_pos h2]
          rintro (h | h)
          · exact hm4 T (Nat.le_refl _) (by omega) (by rw [hX]; exact h)
          · exact h1 (h2.trans (inj hj hto (by rw [hj2, hX, h])))
        · rw [if_neg h2]
          rintro (h | h)
          · exact hm4 i (by omega) i2 h
          · exact h2 (inj (by omega) hj (by rw [hj2, h]))
    · rw [fset_ne hps]
      have far : ∀ i, fi p ≤ i → i < la p → i ≠ T ∧ i ≠ J := fun i i1 i2 => by
        have e := v3 i i1 i2
        refine ⟨fun z => ?_, fun z => ?_⟩
        · rw [z, hX, hXp] at e
          exact hps e.symm
        · rw [z, hj2] at e
          exact hps e.symm
      refine ⟨a, b, fun i i1 i2 => ?_, fun i i1 i2 => ?_⟩
      · obtain ⟨n1, n2⟩ := far i i1 (by omega)
        rw [hst, if_neg n1, if_neg n2]
        exact .inl (c i i1 i2)
      · obtain ⟨n1, n2⟩ := far i (by omega) i2
        rw [hst, if_neg n1, if_neg n2]
        rintro (h | h)
        · exact d i i1 i2 h
        · exact n2 (inj (by omega) hj (by rw [hj2, h]))

/-- some parts (those in D) have been cut by their marks -/
structure Cut (n k kc : Nat) (po poc st pl fi la fic lac : Nat → Nat) (M : Nat → Prop) (D : List Nat) : Prop where
  B : Blk n kc poc st pl fic lac
  kk : k ≤ kc
  far : ∀ p < k, p ∉ D → fic p = fi p ∧ lac p = la p ∧ ∀ s < n, (poc s = p ↔ po s = p)
  new : ∀ s < n, poc s = po s ∨ k ≤ poc s
  eqv : ∀ s < n, ∀ t < n, (poc s = poc t ↔ po s = po t ∧ (po s ∈ D → (M s ↔ M t)))
theorem Cut.start (B : Mkd n k po st pl fi la mid M) : Cut n k k po po st pl fi la fi la M [] :=
  ⟨B.toBlk, Nat.le_refl _, fun p hp _ => ⟨rfl, rfl, fun s hs => Iff.rfl⟩, fun s _ => .inl rfl, fun s _ t _ => ⟨fun e => ⟨e, fun h => by cases h⟩, fun h => h.1⟩⟩
/-- which states of a part are marked -/
theorem Mkd.marks (B : Mkd n k po st pl fi la mid M) {s : Nat} (hs : s < n) : M s ↔ pl s < mid (po s) := by
  obtain ⟨a, b, c⟩ := B.hpo s hs
  obtain ⟨_, _, h1, h2⟩ := B.hmid _ a
  obtain ⟨_, e⟩ := B.hpl s hs
  constructor
  · intro h
    rcases Nat.lt_or_ge (pl s) (mid (po s)) with g | g
    · exact g
    · exact absurd (by rw [e]; exact h) (h2 _ g c)
  · intro h
    have := h1 _ b h
    rw [e] at this
    exact this
theorem Cut.whole {kc : Nat} {poc fic lac : Nat → Nat} {D : List Nat} (B : Mkd n k po st pl fi la mid M) (C : Cut n k kc po poc st pl fi la fic lac M D) {p : Nat} (hp : p < k) (h : mid p = la p) : Cut n k kc po poc st pl fi la fic lac M (p :: D) := by
  refine ⟨C.B, C.kk, fun q hq hn => C.far q hq fun h => hn (List.mem_cons_of_mem _ h), C.new, fun s hs t ht => ?_⟩
  rw [C.eqv s hs t ht]
  constructor
  · rintro ⟨e, g⟩
    refine ⟨e, fun hd => ?_⟩
    rcases List.mem_cons.mp hd with hd | hd
    · rw [B.marks hs, B.marks ht, ← e, hd, h]
      have h1 := (B.hpo s hs).2.2
      have h2 := (B.hpo t ht).2.2
      rw [← e] at h2
      rw [hd] at h1 h2
      exact ⟨fun _ => h2, fun _ => h1⟩
    · exact g hd
  · rintro ⟨e, g⟩
    exact ⟨e, fun hd => g (List.mem_cons_of_mem _ hd)⟩
theorem Cut.split {kc x y x' y' : Nat} {poc fic lac poc' fic' lac' : Nat → Nat} {D : List Nat} (B : Mkd n k po st pl fi la mid M) (C : Cut n k kc po poc st pl fi la fic lac M D) {p : Nat} (hp : p < k) (hD : p ∉ D)
    (hxy : (x = fi p ∧ y = mid p ∧ x' = mid p ∧ y' = la p) ∨ (x = mid p ∧ y = la p ∧ x' = fi p ∧ y' = mid p)) (h1 : fi p < mid p) (h2 : mid p < la p)
    (hf : ∀ q < kc, q ≠ p → fic' q = fic q ∧ lac' q = lac q) (hk : fic' kc = x ∧ lac' kc = y) (hpp : fic' p = x' ∧ lac' p = y') (ho : ∀ s < n, poc' s = if x ≤ pl s ∧ pl s < y then kc else poc s) :
    Cut n k (kc + 1) po poc' st pl fi la fic' lac' M (p :: D) := by
  obtain ⟨hfp, hlp, hsp⟩ := C.far p hp hD
  have hpk : p < kc := Nat.lt_of_lt_of_le hp C.kk
  obtain ⟨v1, v2, v3⟩ := C.B.hiv p hpk
  rw [hfp, hlp] at v3
  rw [hlp] at v2
  -- a place between x and y is one of p
  have inp : ∀ i, x ≤ i → i < y → fi p ≤ i ∧ i < la p := fun i i1 i2 => by omega
  have inq : ∀ i, x' ≤ i → i < y' → fi p ≤ i ∧ i < la p := fun i i1 i2 => by omega
  have pin : ∀ s < n, x ≤ pl s → pl s < y → poc s = p := fun s hs i1 i2 => by
    obtain ⟨a, b⟩ := inp _ i1 i2
    have := v3 _ a b
    rw [(C.B.hpl s hs).2] at this
    exact this
  refine ⟨⟨C.B.hpl, C.B.hst, fun s hs => ?_, fun q hq => ?_⟩, Nat.le_succ_of_le C.kk, fun q hq hn => ?_, fun s hs => ?_, fun s hs t ht => ?_⟩
  · rw [ho s hs]
    by_cases c : x ≤ pl s ∧ pl s < y
    · rw [if_pos c, hk.1, hk.2]
      exact ⟨by omega, c⟩
    · rw [if_neg c]
      obtain ⟨a, b, d⟩ := C.B.hpo s hs
      refine ⟨by omega, ?_⟩
      by_cases e : poc s = p
      · rw [e] at b d ⊢
        rw [hpp.1, hpp.2]
        rw [hfp] at b
        rw [hlp] at d
        omega
      · rw [(hf _ a e).1, (hf _ a e).2]
        exact ⟨b, d⟩
  · rcases Nat.lt_or_ge q kc with g | g
    · by_cases e : q = p
      · subst e
        rw [hpp.1, hpp.2]
        refine ⟨by omega, by omega, fun i i1 i2 => ?_⟩
        obtain ⟨a, b⟩ := inq i i1 i2
        have hi : i < n := by omega
        rw [ho _ (C.B.hst i hi).1, (C.B.hst i hi).2, if_neg (by omega)]
        exact v3 i a b
      · obtain ⟨w1, w2, w3⟩ := C.B.hiv q g
        rw [(hf q g e).1, (hf q g e).2]
        refine ⟨w1, w2, fun i i1 i2 => ?_⟩
        have hi : i < n := by omega
        have := w3 i i1 i2
        rw [ho _ (C.B.hst i hi).1, (C.B.hst i hi).2, if_neg ?_]
        · exact this
        · rintro ⟨c1, c2⟩
          have h3 := pin (st i) (C.B.hst i hi).1 (by rw [(C.B.hst i hi).2]; exact c1) (by rw [(C.B.hst i hi).2]; exact c2)
          rw [this] at h3
          exact e h3
    · have e : q = kc := by omega
      subst e
      rw [hk.1, hk.2]
      refine ⟨by omega, by omega, fun i i1 i2 => ?_⟩
      obtain ⟨a, b⟩ := inp i i1 i2
      have hi : i < n := by omega
      rw [ho _ (C.B.hst i hi).1, (C.B.hst i hi).2, if_pos ⟨i1, i2⟩]
  · have hqp : q ≠ p := fun e => hn (by rw [e]; exact List.mem_cons_self)
    have hqk : q < kc := Nat.lt_of_lt_of_le hq C.kk
    obtain ⟨a, b, c⟩ := C.far q hq fun h => hn (List.mem_cons_of_mem _ h)
    rw [(hf q hqk hqp).1, (hf q hqk hqp).2]
    refine ⟨a, b, fun s hs => ?_⟩
    rw [ho s hs]
    by_cases d : x ≤ pl s ∧ pl s < y
    · rw [if_pos d, ← c s hs, pin s hs d.1 d.2]
      exact ⟨fun e => by omega, fun e => absurd e.symm hqp⟩
    · rw [if_neg d]
      exact c s hs
  · rw [ho s hs]
    by_cases d : x ≤ pl s ∧ pl s < y
    · rw [if_pos d]
      exact .inr C.kk
    · rw [if_neg d]
      exact C.new s hs
  · have hlt := fun s hs => (C.B.hpo s hs).1
    -- in the part p the marks tell which half
    have half : ∀ s < n, po s = p → ((x ≤ pl s ∧ pl s < y) ↔ M s) ∨ True := fun _ _ _ => .inr trivial
    have inP : ∀ s < n, po s = p → fi p ≤ pl s ∧ pl s < la p := fun s hs e => by
      have := B.hpo s hs
      rw [e] at this
      exact this.2
    rw [ho s hs, ho t ht]
    by_cases es : po s = p
    · by_cases et : po t = p
      · have ms := B.marks hs
        have mt := B.marks ht
        rw [es] at ms
        rw [et] at mt
        have i1 := inP s hs es
        have i2 := inP t ht et
        have e1 := (hsp s hs).mpr es
        have e2 := (hsp t ht).mpr et
        rw [es, et, ms, mt, e1, e2]
        have hmem : p ∈ p :: D := List.mem_cons_self
        constructor
        · intro h
          refine ⟨rfl, fun _ => ?_⟩
          split at h <;> split at h <;> omega
        · rintro ⟨_, h⟩
          have h := h hmem
          split <;> split <;> omega
      · have e1 := (hsp s hs).mpr es
        have n2 : poc t ≠ p := fun e => et ((hsp t ht).mp e)
        have n3 : ¬ (x ≤ pl t ∧ pl t < y) := fun c => n2 (pin t ht c.1 c.2)
        rw [if_neg n3, e1]
        constructor
        · intro h
          split at h
          · have := hlt t ht
            omega
          · exact absurd h.symm n2
        · rintro ⟨h, _⟩
          exact absurd (h.symm.trans es) et
    · have n1 : poc s ≠ p := fun e => es ((hsp s hs).mp e)
      have n3 : ¬ (x ≤ pl s ∧ pl s < y) := fun c => n1 (pin s hs c.1 c.2)
      rw [if_neg n3]
      by_cases et : po t = p
      · have e2 := (hsp t ht).mpr et
        rw [e2]
        constructor
        · intro h
          split at h
          · have := hlt s hs
            omega
          · exact absurd h n1
        · rintro ⟨h, _⟩
          exact absurd (h.trans et) es
      · have n2 : poc t ≠ p := fun e => et ((hsp t ht).mp e)
        have n4 : ¬ (x ≤ pl t ∧ pl t < y) := fun c => n2 (pin t ht c.1 c.2)
        rw [if_neg n4, C.eqv s hs t ht]
        constructor
        · rintro ⟨a, b⟩
          refine ⟨a, fun hd => ?_⟩
          rcases List.mem_cons.mp hd with hd | hd
          · exact absurd hd es
          · exact b hd
        · rintro ⟨a, b⟩
          exact ⟨a, fun hd => b (List.mem_cons_of_mem _ hd)⟩
/-- all touched parts have been cut -/
theorem Cut.all {kc : Nat} {poc fic lac : Nat → Nat} {D : List Nat} (B : Mkd n k po st pl fi la mid M) (C : Cut n k kc po poc st pl fi la fic lac M D) (hD : ∀ p < k, p ∉ D → mid p = fi p) :
    ∀ s < n, ∀ t < n, (poc s = poc t ↔ po s = po t ∧ (M s ↔ M t)) := fun s hs t ht => by
  rw [C.eqv s hs t ht]
  constructor
  · rintro ⟨e, h⟩
    refine ⟨e, ?_⟩
    by_cases d : po s ∈ D
    · exact h d
    · have m := hD _ (B.hpo s hs).1 d
      rw [B.marks hs, B.marks ht, ← e, m]
      have h1 := (B.hpo s hs).2.1
      have h2 := (B.hpo t ht).2.1
      rw [← e] at h2
      constructor <;> (intro; omega)
  · rintro ⟨e, h⟩
    exact ⟨e, fun _ => h⟩
end
/-- a row of all states -/
structure Row (n : Nat) (st : Nat → Nat) : Prop where
  lt : ∀ i < n, st i < n
  inj : ∀ i < n, ∀ j < n, st i = st j → i = j
  sur : ∀ s < n, ∃ i < n, st i = s
/-- the first places of the parts, as far as the row has been gone along -/
structure Fst (i c : Nat) (po st fi : Nat → Nat) : Prop where
  le : c ≤ i
  last : 0 < i → 0 < c ∧ po (st (i - 1)) = c - 1
  at_ : ∀ q < c, fi q < i ∧ po (st (fi q)) = q
  all : ∀ j < i, po (st j) < c ∧ fi (po (st j)) ≤ j ∧ (po (st j) + 1 < c → j < fi (po (st j) + 1))
section
variable {n k i c : Nat} {po st fi pl : Nat → Nat}
theorem Fst.start : Fst 0 0 po st fi := ⟨Nat.le_refl _, fun h => by omega, fun q h => by omega, fun j h => by omega⟩
theorem Fst.new (F : Fst i c po st fi) (R : Row n st) (mono : ∀ i j, i < j → j < n → po (st i) ≤ po (st j)) (used : ∀ q < k, ∃ s < n, po s = q) (lt : ∀ s < n, po s < k) (hi : i < n) (h : i = 0 ∨ po (st i) ≠ po (st (i - 1))) : Fst (i + 1) (c + 1) po st (fset fi c i) := by
  have e : po (st i) = c := by
    have hge : c ≤ po (st i) := by
      rcases Nat.eq_zero_or_pos i with h0 | h0
      · have := F.le
        omega
      · obtain ⟨c1, c2⟩ := F.last h0
        have := mono (i - 1) i (by omega) hi
        rcases h with h | h
        · omega
        · omega
    rcases Nat.lt_or_ge c (po (st i)) with g | g
    · obtain ⟨s, hs, es⟩ := used c (by have := lt _ (R.lt i hi); omega)
      obtain ⟨j, hj, ej⟩ := R.sur s hs
      rcases Nat.lt_trichotomy j i with h1 | h1 | h1
      · have := (F.all j h1).1
        rw [ej, es] at this
        omega
      · rw [← h1, ej, es] at g
        omega
      · have := mono i j h1 hj
        rw [ej, es] at this
        omega
    · omega
  refine ⟨by have := F.le; omega, fun _ => ⟨by omega, by rw [show i + 1 - 1 = i by omega, e]; omega⟩, fun q hq => ?_, fun j hj => ?_⟩
  · rcases Nat.lt_or_ge q c with g | g
    · rw [fset_ne (by omega)]
      have := F.at_ q g
      exact ⟨by omega, this.2⟩
    · have : q = c := by omega
      subst this
      rw [fset_same]
      exact ⟨by omega, e⟩
  · rcases Nat.lt_or_ge j i with g | g
    · obtain ⟨a, b, d⟩ := F.all j g
      rw [fset_ne (by omega)]
      refine ⟨by omega, b, fun h => ?_⟩
      by_cases z : po (st j) + 1 = c
      · rw [z, fset_same]
        exact g
      · rw [fset_ne z]
        exact d (by omega)
    · have : j = i := by omega
      subst this
      rw [e, fset_same]
      exact ⟨by omega, Nat.le_refl _, fun h => by omega⟩
theorem Fst.old (F : Fst i c po st fi) (h0 : i ≠ 0) (h : po (st i) = po (st (i - 1))) : Fst (i + 1) c po st fi := by
  obtain ⟨c1, c2⟩ := F.last (by omega)
  refine ⟨by have := F.le; omega, fun _ => ⟨c1, by rw [show i + 1 - 1 = i by omega, h, c2]⟩, fun q hq => ?_, fun j hj => ?_⟩
  · have := F.at_ q hq
    exact ⟨by omega, this.2⟩
  · rcases Nat.lt_or_ge j i with g | g
    · exact F.all j g
    · have : j = i := by omega
      subst this
      obtain ⟨a, b, d⟩ := F.all (j - 1) (by omega)
      rw [h]
      exact ⟨a, by omega, fun z => by rw [c2] at z; omega⟩
theorem Fst.blk (F : Fst n c po st fi) (R : Row n st) (hpl : ∀ i < n, pl (st i) = i) (mono : ∀ i j, i < j → j < n → po (st i) ≤ po (st j)) (used : ∀ q < k, ∃ s < n, po s = q) (lt : ∀ s < n, po s < k) (hn : 1 ≤ n) :
    c = k ∧ Blk n k po st pl fi (fun p => if p + 1 < k then fi (p + 1) else n) := by
  have e : c = k := by
    obtain ⟨c1, c2⟩ := F.last (by omega)
    have h1 := lt _ (R.lt (n - 1) (by omega))
    obtain ⟨s, hs, es⟩ := used (k - 1) (by omega)
    obtain ⟨j, hj, ej⟩ := R.sur s hs
    have := (F.all j hj).1
    rw [ej, es] at this
    omega
  subst e
  have sur : ∀ s < n, st (pl s) = s ∧ pl s < n := fun s hs => by
    obtain ⟨j, hj, ej⟩ := R.sur s hs
    rw [← ej, hpl j hj]
    exact ⟨rfl, hj⟩
  refine ⟨rfl, fun s hs => ⟨(sur s hs).2, (sur s hs).1⟩, fun i hi => ⟨R.lt i hi, hpl i hi⟩, fun s hs => ?_, fun p hp => ?_⟩
  · obtain ⟨e1, e2⟩ := sur s hs
    obtain ⟨a, b, d⟩ := F.all (pl s) e2
    rw [e1] at a b d
    refine ⟨a, b, ?_⟩
    split
    · rename_i h
      exact d h
    · exact e2
  · obtain ⟨f1, f2⟩ := F.at_ p hp
    have up : fi p < (if p + 1 < c then fi (p + 1) else n) ∧ (if p + 1 < c then fi (p + 1) else n) ≤ n := by
      split
      · rename_i h
        have h2 := (F.at_ (p + 1) h).1
        refine ⟨?_, by omega⟩
        have h3 := (F.all (fi p) f1).2.2
        rw [f2] at h3
        exact h3 h
      · exact ⟨f1, Nat.le_refl _⟩
    refine ⟨up.1, up.2, fun i i1 i2 => ?_⟩
    have hi : i < n := by omega
    -- not below p, not above
    have lo : p ≤ po (st i) := by
      rcases Nat.lt_or_ge (fi p) i with h | h
      · have := mono _ _ h hi
        omega
      · rw [show i = fi p by omega, f2]
        exact Nat.le_refl _
    have hi' : po (st i) ≤ p := by
      rcases Nat.lt_or_ge p (po (st i)) with h | h
      · have hc := lt _ (R.lt i hi)
        have hp1 : p + 1 < c := by omega
        rw [if_pos hp1] at i2
        obtain ⟨g1, g2⟩ := F.at_ (p + 1) hp1
        have := mono _ _ i2 g1
        rw [g2] at this
        have e3 : po (st i) = p + 1 := by omega
        have := (F.all i hi).2.1
        rw [e3] at this
        omega
      · exact h
    omega
end
/-! ### what the refining keeps -/
structure PInv {β : Type} (n m k : Nat) (lab : Nat → β) (to : Nat → Nat → Nat) (po st pl fi la : Nat → Nat) (W : List Nat) : Prop where
  B : Blk n k po st pl fi la
  hop : Hop n m to po W
  lb : ∀ s < n, ∀ t < n, po s = po t → lab s = lab t
  eq : ∀ s < n, ∀ t < n, Eqv m lab to s t → po s = po t
  wl : ∀ p ∈ W, p < k
  wn : W.Nodup
/-- the numbers from k below kc -/
def newN (k kc : Nat) : List Nat := (List.range (kc - k)).map (k + ·)
theorem newN_self (k : Nat) : newN k k = [] := by simp [newN]
theorem newN_succ {k kc : Nat} (h : k ≤ kc) : newN k (kc + 1) = newN k kc ++ [kc] := by
  unfold newN
  rw [show kc + 1 - k = (kc - k) + 1 by omega, List.range_succ, List.map_append]
  show _ ++ [k + (kc - k)] = _
  rw [show k + (kc - k) = kc by omega]
theorem mem_newN {k kc q : Nat} : q ∈ newN k kc ↔ k ≤ q ∧ q < kc := by
  unfold newN
  rw [List.mem_map]
  constructor
  · rintro ⟨i, hi, rfl⟩
    have := List.mem_range.mp hi
    omega
  · rintro ⟨h1, h2⟩
    exact ⟨q - k, List.mem_range.mpr (by omega), by omega⟩
theorem newN_len (k kc : Nat) : (newN k kc).length = kc - k := by simp [newN]
theorem newN_nodup (k kc : Nat) : (newN k kc).Nodup := List.pairwise_map.mpr (List.nodup_range.imp fun h e => h (by omega))
theorem short_of {n : Nat} {L : List Nat} (h1 : L.Nodup) (h2 : ∀ x ∈ L, x < n) : L.length ≤ n := by
  have := List.Nodup.length_le_of_subset h1 (l₂ := List.range n) fun x hx => List.mem_range.mpr (h2 x hx)
  simpa using this
/-- as far as the letters below a have been gone through with the part S of P -/
structure PLet {β : Type} (n m k kc a S : Nat) (lab : Nat → β) (to : Nat → Nat → Nat) (P po st pl fi la : Nat → Nat) : Prop where
  B : Blk n kc po st pl fi la
  kk : k ≤ kc
  c1 : ∀ x < n, po x = P x ∨ k ≤ po x
  c2 : ∀ x < n, ∀ y < n, po x = po y → P x = P y
  c6 : ∀ b < a, ∀ s < n, ∀ t < n, po s = po t → (P (to s b) = S ↔ P (to t b) = S)
  eq : ∀ s < n, ∀ t < n, Eqv m lab to s t → po s = po t
section
variable {β : Type} {n m k kc a S : Nat} {lab : Nat → β} {to : Nat → Nat → Nat} {P po st pl fi la po0 st0 pl0 fi0 la0 : Nat → Nat} {W : List Nat}
theorem PLet.start {W : List Nat} (I : PInv n m k lab to P st pl fi la W) : PLet n m k k 0 S lab to P P st pl fi la :=
  ⟨I.B, Nat.le_refl _, fun x _ => .inl rfl, fun x _ y _ e => e, fun b h => by omega, I.eq⟩
/-- one letter more -/
theorem PLet.next {kd : Nat} {mid po' st' pl' fi' la' : Nat → Nat} {M : Nat → Prop} {D : List Nat} (hc : Closed n m to) (I0 : ∀ s < n, ∀ t < n, Eqv m lab to s t → P s = P t) (L : PLet n m k kc a S lab to P po st0 pl0 fi la) (ha : a < m) (hB : Mkd n kc po st' pl' fi la mid M) (C : Cut n kc kd po po' st' pl' fi la fi' la' M D)
    (hD : ∀ p < kc, p ∉ D → mid p = fi p) (hM : ∀ s < n, M s ↔ P (to s a) = S) : PLet n m k kd (a + 1) S lab to P po' st' pl' fi' la' := by
  have all := C.all hB hD
  refine ⟨C.B, Nat.le_trans L.kk C.kk, fun x hx => ?_, fun x hx y hy e => L.c2 x hx y hy ((all x hx y hy).mp e).1, fun b hb s hs t ht e => ?_, fun s hs t ht h => ?_⟩
  · rcases C.new x hx with h | h
    · rw [h]
      exact L.c1 x hx
    · exact .inr (Nat.le_trans L.kk h)
  · obtain ⟨e1, e2⟩ := (all s hs t ht).mp e
    rcases Nat.lt_or_ge b a with g | g
    · exact L.c6 b g s hs t ht e1
    · have : b = a := by omega
      subst this
      rw [hM s hs, hM t ht] at e2
      exact e2
  · refine (all s hs t ht).mpr ⟨L.eq s hs t ht h, ?_⟩
    rw [hM s hs, hM t ht, I0 _ (hc s hs a ha) _ (hc t ht a ha) (h.step ha)]
theorem PLet.fin (hc : Closed n m to) (I : PInv n m k lab to P st0 pl0 fi0 la0 (W ++ [S])) (L : PLet n m k kc m S lab to P po st pl fi la) : PInv n m kc lab to po st pl fi la (W ++ newN k kc) := by
  have hlt := fun s hs => (I.B.hpo s hs).1
  refine ⟨L.B, hop_step (k := k) hc I.hop L.c1 L.c2 (fun x hx => hlt x hx) (fun x hx h => List.mem_append_right _ (mem_newN.mpr ⟨h, (L.B.hpo x hx).1⟩)) (fun p hp => List.mem_append_left _ hp) L.c6, fun s hs t ht e => I.lb s hs t ht (L.c2 s hs t ht e), L.eq, fun p hp => ?_, ?_⟩
  · rcases List.mem_append.mp hp with hp | hp
    · exact Nat.lt_of_lt_of_le (I.wl p (List.mem_append_left _ hp)) L.kk
    · exact (mem_newN.mp hp).2
  · refine List.nodup_append.mpr ⟨(List.nodup_append.mp I.wn).1, newN_nodup _ _, fun x hx y hy e => ?_⟩
    have h1 := I.wl x (List.mem_append_left _ hx)
    have h2 := (mem_newN.mp hy).1
    omega
theorem PInv.done (hc : Closed n m to) (I : PInv n m k lab to po st pl fi la []) : (∀ s < n, ∀ t < n, (po s = po t ↔ Eqv m lab to s t)) ∧ (∀ s < n, po s < k) ∧ (∀ q < k, ∃ s < n, po s = q) ∧ k ≤ n :=
  ⟨fun s hs t ht => ⟨fun e w hw => hop_end hc I.hop I.lb w hw s hs t ht e, I.eq s hs t ht⟩, fun s hs => (I.B.hpo s hs).1, fun q hq => by
    obtain ⟨h1, h2, h3⟩ := I.B.hiv q hq
    exact ⟨st (fi q), (I.B.hst _ (by omega)).1, h3 _ (Nat.le_refl _) h1⟩, I.B.k_le⟩
end
/-! ### the states that lead to some goals -/
structure Src (n a : Nat) (to : Nat → Nat → Nat) (cnt : Nat → Nat) (src : Nat → Nat → Nat) : Prop where
  lt : ∀ g < n, ∀ i < cnt g, src g i < n ∧ to (src g i) a = g
  inj : ∀ g < n, ∀ i < cnt g, ∀ j < cnt g, src g i = src g j → i = j
  sur : ∀ s < n, ∃ i < cnt (to s a), src (to s a) i = s
def gath (cnt : Nat → Nat) (src : Nat → Nat → Nat) (g : Nat) : List Nat := (List.range (cnt g)).map (src g)
def gaths (cnt : Nat → Nat) (src : Nat → Nat → Nat) (gl : List Nat) : List Nat := (gl.map (gath cnt src)).flatten
section
variable {n a : Nat} {to : Nat → Nat → Nat} {cnt : Nat → Nat} {src : Nat → Nat → Nat}
theorem mem_gath (S : Src n a to cnt src) {g x : Nat} (hg : g < n) : x ∈ gath cnt src g ↔ x < n ∧ to x a = g := by
  unfold gath
  rw [List.mem_map]
  constructor
  · rintro ⟨i, hi, rfl⟩
    exact S.lt g hg i (List.mem_range.mp hi)
  · rintro ⟨hx, rfl⟩
    obtain ⟨i, hi, e⟩ := S.sur x hx
    exact ⟨i, List.mem_range.mpr hi, e⟩
theorem gath_nodup (S : Src n a to cnt src) {g : Nat} (hg : g < n) : (gath cnt src g).Nodup :=
  List.pairwise_map.mpr (List.Pairwise.imp_of_mem (fun {i j} hi hj hne e => hne (S.inj g hg i (List.mem_range.mp hi) j (List.mem_range.mp hj) e)) List.nodup_range)
theorem mem_gaths (S : Src n a to cnt src) {gl : List Nat} (hg : ∀ g ∈ gl, g < n) {x : Nat} : x ∈ gaths cnt src gl ↔ x < n ∧ to x a ∈ gl := by
  unfold gaths
  rw [List.mem_flatten]
  constructor
  · rintro ⟨l, hl, hx⟩
    obtain ⟨g, hgl, rfl⟩ := List.mem_map.mp hl
    obtain ⟨h1, h2⟩ := (mem_gath S (hg g hgl)).mp hx
    exact ⟨h1, by rw [h2]; exact hgl⟩
  · rintro ⟨hx, h⟩
    exact ⟨_, List.mem_map.mpr ⟨_, h, rfl⟩, (mem_gath S (hg _ h)).mpr ⟨hx, rfl⟩⟩
theorem gaths_nodup (S : Src n a to cnt src) : ∀ {gl : List Nat}, (∀ g ∈ gl, g < n) → gl.Nodup → (gaths cnt src gl).Nodup
  | [], _, _ => List.nodup_nil
  | g :: r, hg, nd => by
    obtain ⟨h1, h2⟩ := List.nodup_cons.mp nd
    have hr := fun x hx => hg x (List.mem_cons_of_mem _ hx)
    show (gath cnt src g ++ gaths cnt src r).Nodup
    refine List.nodup_append.mpr ⟨gath_nodup S (hg g List.mem_cons_self), gaths_nodup S hr h2, fun x hx y hy e => ?_⟩
    have e1 := ((mem_gath S (hg g List.mem_cons_self)).mp hx).2
    have e2 := ((mem_gaths S hr).mp hy).2
    rw [← e, e1] at e2
    exact h1 e2
theorem gaths_snoc (gl : List Nat) (g : Nat) : gaths cnt src (gl ++ [g]) = gaths cnt src gl ++ gath cnt src g := by simp [gaths]
theorem gath_take (g i : Nat) (h : i < cnt g) : (gath cnt src g).take (i + 1) = (gath cnt src g).take i ++ [src g i] := by
  have : (gath cnt src g)[i]? = some (src g i) := by simp [gath, h]
  rw [List.take_add_one, this]
  rfl
theorem gath_len (g : Nat) : (gath cnt src g).length = cnt g := by simp [gath]
end
end Un

/-! UnBfs: states numbered as they are met, state by state, letter by letter. -/
namespace Un
/-- how many are met after some letters of a row -/
def rowC (f : Nat → Nat) (c : Nat) : Nat → Nat
  | 0 => c
  | a + 1 => if rowC f c a ≤ f a then rowC f c a + 1 else rowC f c a
/-- how many are met ahead of a row -/
def totC (m : Nat) (t : Nat → Nat → Nat) : Nat → Nat
  | 0 => 1
  | i + 1 => rowC (t i) (totC m t i) m
theorem rowC_congr {f g : Nat → Nat} {c : Nat} : ∀ {a : Nat}, (∀ b < a, f b = g b) → rowC f c a = rowC g c a
  | 0, _ => rfl
  | a + 1, h => by
    show (if rowC f c a ≤ f a then _ else _) = (if rowC g c a ≤ g a then _ else _)
    rw [rowC_congr (a := a) fun b hb => h b (by omega), h a (by omega)]
theorem totC_congr {m : Nat} {t t' : Nat → Nat → Nat} : ∀ {i : Nat}, (∀ j < i, ∀ b < m, t j b = t' j b) → totC m t i = totC m t' i
  | 0, _ => rfl
  | i + 1, h => by
    show rowC (t i) (totC m t i) m = rowC (t' i) (totC m t' i) m
    rw [totC_congr (i := i) fun j hj b hb => h j (by omega) b hb, rowC_congr fun b hb => h i (by omega) b hb]
theorem rowC_le (f : Nat → Nat) (c : Nat) : ∀ a, c ≤ rowC f c a
  | 0 => Nat.le_refl _
  | a + 1 => by
    have := rowC_le f c a
    show c ≤ if rowC f c a ≤ f a then rowC f c a + 1 else rowC f c a
    split <;> omega
/-- a table whose states are numbered as they are met -/
structure Num (k m : Nat) (t : Nat → Nat → Nat) : Prop where
  lt : ∀ i < k, i < totC m t i
  le : ∀ i < k, ∀ a < m, t i a ≤ rowC (t i) (totC m t i) a
  all : totC m t k = k
def set2 (t : Nat → Nat → Nat) (i a v : Nat) : Nat → Nat → Nat := fun j b => if j = i ∧ b = a then v else t j b
theorem set2_same {t : Nat → Nat → Nat} {i a v : Nat} : set2 t i a v i a = v := if_pos ⟨rfl, rfl⟩
theorem set2_ne {t : Nat → Nat → Nat} {i a v j b : Nat} (h : ¬ (j = i ∧ b = a)) : set2 t i a v j b = t j b := if_neg h
structure Bfs (n m c at_ a : Nat) (to : Nat → Nat → Nat) (start : Nat) (met num : Nat → Nat) (t : Nat → Nat → Nat) : Prop where
  m0 : met 0 = start
  c0 : 1 ≤ c
  mn : ∀ i < c, met i < n
  nm : ∀ i < c, num (met i) = i
  known : ∀ i b, i < at_ ∧ b < m ∨ i = at_ ∧ b < a → t i b < c ∧ met (t i b) = to (met i) b ∧ t i b ≤ rowC (t i) (totC m t i) b
  lt : ∀ i < at_, i < totC m t i
  tot : rowC (t at_) (totC m t at_) a = c
section
variable {n m c at_ a start : Nat} {to t : Nat → Nat → Nat} {met num : Nat → Nat}
theorem Bfs.begin (h : start < n) : Bfs n m 1 0 0 to start (fun _ => start) (fun _ => 0) (fun _ _ => 0) :=
  ⟨rfl, Nat.le_refl _, fun _ _ => h, fun i hi => by omega, fun i b h => by omega, fun i h => by omega, rfl⟩
theorem Bfs.inj (B : Bfs n m c at_ a to start met num t) {i j : Nat} (hi : i < c) (hj : j < c) (e : met i = met j) : i = j := by
  rw [← B.nm i hi, ← B.nm j hj, e]
theorem Bfs.le_n (B : Bfs n m c at_ a to start met num t) : c ≤ n := by
  have := short_of (n := n) (L := (List.range c).map met) (List.pairwise_map.mpr (List.Pairwise.imp_of_mem (fun {x y} hx hy hne e => hne (B.inj (List.mem_range.mp hx) (List.mem_range.mp hy) e)) List.nodup_range)) fun x hx => by
    obtain ⟨i, hi, rfl⟩ := List.mem_map.mp hx
    exact B.mn i (List.mem_range.mp hi)
  simpa using this
theorem set_row {v : Nat} : rowC (set2 t at_ a v at_) (totC m (set2 t at_ a v) at_) a = rowC (t at_) (totC m t at_) a := by
  rw [totC_congr (t := set2 t at_ a v) (t' := t) fun j hj b hb => set2_ne (by omega)]
  exact rowC_congr fun b hb => set2_ne (by omega)
theorem set_tot {v i : Nat} (h : i ≤ at_) : totC m (set2 t at_ a v) i = totC m t i := totC_congr fun j hj b hb => set2_ne (by omega)
theorem set_row' {v i b : Nat} (h : i < at_ ∨ i = at_ ∧ b ≤ a) : rowC (set2 t at_ a v i) (totC m (set2 t at_ a v) i) b = rowC (t i) (totC m t i) b := by
  rw [set_tot (by omega)]
  exact rowC_congr fun d hd => set2_ne (by omega)
theorem Bfs.old (B : Bfs n m c at_ a to start met num t) {v : Nat} (hv : v < c) (e : met v = to (met at_) a) : Bfs n m c at_ (a + 1) to start met num (set2 t at_ a v) := by
  refine ⟨B.m0, B.c0, B.mn, B.nm, fun i b h => ?_, fun i h => by rw [set_tot (by omega)]; exact B.lt i h, ?_⟩
  · by_cases g : i = at_ ∧ b = a
    · obtain ⟨rfl, rfl⟩ := g
      rw [set2_same, set_row' (.inr ⟨rfl, Nat.le_refl _⟩), B.tot]
      exact ⟨hv, e, Nat.le_of_lt hv⟩
    · rw [set2_ne g, set_row' (by omega)]
      exact B.known i b (by omega)
  · show (if rowC _ _ a ≤ set2 t at_ a v at_ a then _ else _) = _
    rw [set_row, B.tot, set2_same, if_neg (by omega)]
theorem Bfs.new (B : Bfs n m c at_ a to start met num t) (hat : at_ < c) {x : Nat} (hx : x < n) (e : x = to (met at_) a) (hn : ∀ i < c, met i ≠ x) : Bfs n m (c + 1) at_ (a + 1) to start (fset met c x) (fset num x c) (set2 t at_ a c) := by
  have c0 := B.c0
  refine ⟨by rw [fset_ne (by omega)]; exact B.m0, by omega, fun i hi => ?_, fun i hi => ?_, fun i b h => ?_, fun i h => by rw [set_tot (by omega)]; exact B.lt i h, ?_⟩
  · rcases Nat.lt_or_ge i c with g | g
    · rw [fset_ne (by omega)]
      exact B.mn i g
    · rw [show i = c by omega, fset_same]
      exact hx
  · rcases Nat.lt_or_ge i c with g | g
    · rw [fset_ne (f := met) (by omega), fset_ne (hn i g)]
      exact B.nm i g
    · rw [show i = c by omega, fset_same, fset_same]
  · rw [fset_ne (f := met) (i := c) (j := i) (by omega)]
    by_cases g : i = at_ ∧ b = a
    · obtain ⟨rfl, rfl⟩ := g
      rw [set2_same, set_row' (.inr ⟨rfl, Nat.le_refl _⟩), B.tot, fset_same]
      exact ⟨by omega, e, Nat.le_refl _⟩
    · obtain ⟨k1, k2, k3⟩ := B.known i b (by omega)
      rw [set2_ne g, set_row' (by omega), fset_ne (by omega)]
      exact ⟨by omega, k2, k3⟩
  · show (if rowC _ _ a ≤ set2 t at_ a c at_ a then _ else _) = _
    rw [set_row, B.tot, set2_same, if_pos (Nat.le_refl _)]
theorem Bfs.row (B : Bfs n m c at_ m to start met num t) (h : at_ < totC m t at_) : Bfs n m c (at_ + 1) 0 to start met num t :=
  ⟨B.m0, B.c0, B.mn, B.nm, fun i b g => B.known i b (by omega), fun i g => by
    rcases Nat.lt_or_ge i at_ with z | z
    · exact B.lt i z
    · rw [show i = at_ by omega]
      exact h, B.tot⟩
/-- the whole has been met -/
structure MetOf (n m : Nat) (to : Nat → Nat → Nat) (start k : Nat) (met : Nat → Nat) (t : Nat → Nat → Nat) : Prop where
  m0 : met 0 = start
  k0 : 1 ≤ k
  kn : k ≤ n
  mn : ∀ i < k, met i < n
  inj : ∀ i < k, ∀ j < k, met i = met j → i = j
  step : ∀ i < k, ∀ a < m, t i a < k ∧ met (t i a) = to (met i) a
  num : Num k m t
theorem Bfs.done (B : Bfs n m c c 0 to start met num t) : MetOf n m to start c met t :=
  ⟨B.m0, B.c0, B.le_n, B.mn, fun i hi j hj e => B.inj hi hj e, fun i hi a ha => ⟨(B.known i a (.inl ⟨hi, ha⟩)).1, (B.known i a (.inl ⟨hi, ha⟩)).2.1⟩, ⟨B.lt, fun i hi a ha => (B.known i a (.inl ⟨hi, ha⟩)).2.2, B.tot⟩⟩
end
section
variable {β : Type} {n m k start : Nat} {lab : Nat → β} {to t : Nat → Nat → Nat} {met : Nat → Nat}
theorem MetOf.run (M : MetOf n m to start k met t) : ∀ (w : List Nat), (∀ a ∈ w, a < m) → ∀ i < k, runW t i w < k ∧ met (runW t i w) = runW to (met i) w
  | [], _, i, hi => ⟨hi, rfl⟩
  | a :: w, hw, i, hi => by
    obtain ⟨h1, h2⟩ := M.step i hi a (hw a List.mem_cons_self)
    obtain ⟨h3, h4⟩ := M.run w (fun b hb => hw b (List.mem_cons_of_mem _ hb)) (t i a) h1
    refine ⟨h3, ?_⟩
    show met (runW t (t i a) w) = runW to (to (met i) a) w
    rw [h4, h2]
theorem MetOf.eqv (M : MetOf n m to start k met t) {i j : Nat} (hi : i < k) (hj : j < k) : Eqv m (fun i => lab (met i)) t i j ↔ Eqv m lab to (met i) (met j) :=
  ⟨fun h w hw => by
    have := h w hw
    rw [← (M.run w hw i hi).2, ← (M.run w hw j hj).2]
    exact this, fun h w hw => by
    show lab (met (runW t i w)) = lab (met (runW t j w))
    rw [(M.run w hw i hi).2, (M.run w hw j hj).2]
    exact h w hw⟩
theorem MetOf.closed (M : MetOf n m to start k met t) : Closed k m t := fun s hs a ha => (M.step s hs a ha).1
end
/-- the machine of the parts -/
theorem quot_of {β : Type} {k1 m : Nat} {lab1 : Nat → β} {t1 : Nat → Nat → Nat} {po : Nat → Nat} (hc : Closed k1 m t1) (hpo : ∀ s < k1, ∀ s' < k1, (po s = po s' ↔ Eqv m lab1 t1 s s')) :
    ∃ (plab : Nat → β) (pto : Nat → Nat → Nat), (∀ s < k1, plab (po s) = lab1 s) ∧ ∀ s < k1, ∀ a < m, pto (po s) a = po (t1 s a) := by
  refine ⟨fun q => lab1 (if h : ∃ s, s < k1 ∧ po s = q then h.choose else 0), fun q a => po (t1 (if h : ∃ s, s < k1 ∧ po s = q then h.choose else 0) a), fun s hs => ?_, fun s hs a ha => ?_⟩
  · have h : ∃ s', s' < k1 ∧ po s' = po s := ⟨s, hs, rfl⟩
    show lab1 (if h : ∃ s', s' < k1 ∧ po s' = po s then h.choose else 0) = _
    rw [dif_pos h]
    exact ((hpo _ h.choose_spec.1 _ hs).mp h.choose_spec.2).here
  · have h : ∃ s', s' < k1 ∧ po s' = po s := ⟨s, hs, rfl⟩
    show po (t1 (if h : ∃ s', s' < k1 ∧ po s' = po s then h.choose else 0) a) = _
    rw [dif_pos h]
    exact (hpo _ (hc _ h.choose_spec.1 a ha) _ (hc s hs a ha)).mpr (((hpo _ h.choose_spec.1 _ hs).mp h.choose_spec.2).step ha)
/-- the least table of a machine from its state 0 on -/
structure LeastOf {β : Type} (n m : Nat) (lab : Nat → β) (to : Nat → Nat → Nat) (k : Nat) (lab' : Nat → β) (t : Nat → Nat → Nat) : Prop where
  k0 : 1 ≤ k
  kn : k ≤ n
  cl : Closed k m t
  num : Num k m t
  least : ∀ i < k, ∀ j < k, Eqv m lab' t i j → i = j
  run : ∀ w : List Nat, (∀ a ∈ w, a < m) → lab' (runW t 0 w) = lab (runW to 0 w)
section
variable {β : Type} {n m k k1 k2 : Nat} {lab plab : Nat → β} {to t t1 pto : Nat → Nat → Nat} {met met1 po : Nat → Nat}
theorem hom_run (hc : Closed k1 m t1) (hto : ∀ s < k1, ∀ a < m, pto (po s) a = po (t1 s a)) : ∀ (w : List Nat), (∀ a ∈ w, a < m) → ∀ s < k1, runW pto (po s) w = po (runW t1 s w) ∧ runW t1 s w < k1
  | [], _, s, hs => ⟨rfl, hs⟩
  | a :: w, hw, s, hs => by
    have ha := hw a List.mem_cons_self
    obtain ⟨h1, h2⟩ := hom_run hc hto w (fun b hb => hw b (List.mem_cons_of_mem _ hb)) (t1 s a) (hc s hs a ha)
    refine ⟨?_, h2⟩
    show runW pto (pto (po s) a) w = po (runW t1 (t1 s a) w)
    rw [hto s hs a ha, h1]
theorem leastT_of (M1 : MetOf n m to 0 k1 met1 t1) (hpo : ∀ s < k1, ∀ s' < k1, (po s = po s' ↔ Eqv m (fun i => lab (met1 i)) t1 s s')) (hlt : ∀ s < k1, po s < k2) (used : ∀ q < k2, ∃ s < k1, po s = q) (hk : k2 ≤ k1)
    (hl : ∀ s < k1, plab (po s) = lab (met1 s)) (hto : ∀ s < k1, ∀ a < m, pto (po s) a = po (t1 s a)) (M2 : MetOf k2 m pto (po 0) k met t) : LeastOf n m lab to k (fun i => plab (met i)) t := by
  have hc1 := M1.closed
  have h10 : 0 < k1 := M1.k0
  have run1 := hom_run hc1 hto
  refine ⟨M2.k0, Nat.le_trans M2.kn (Nat.le_trans hk M1.kn), M2.closed, M2.num, fun i hi j hj e => ?_, fun w hw => ?_⟩
  · have e1 := M2.eqv (lab := plab) hi hj |>.mp e
    obtain ⟨s, hs, es⟩ := used _ (M2.mn i hi)
    obtain ⟨s', hs', es'⟩ := used _ (M2.mn j hj)
    rw [← es, ← es'] at e1
    refine M2.inj i hi j hj ?_
    rw [← es, ← es']
    refine (hpo s hs s' hs').mpr fun w hw => ?_
    have e2 := e1 w hw
    obtain ⟨a1, a2⟩ := run1 w hw s hs
    obtain ⟨b1, b2⟩ := run1 w hw s' hs'
    rw [a1, b1, hl _ a2, hl _ b2] at e2
    exact e2
  · obtain ⟨_, e1⟩ := M2.run w hw 0 M2.k0
    rw [M2.m0] at e1
    obtain ⟨a1, a2⟩ := run1 w hw 0 h10
    obtain ⟨_, c2⟩ := M1.run w hw 0 h10
    rw [M1.m0] at c2
    show plab (met (runW t 0 w)) = _
    rw [e1, a1, hl _ a2, c2]
end
end Un

/-! UnTrie: a machine of words, grown letter by letter. -/
namespace Un
/-- the state that a word leads to: state j + 1 was made behind the state and the letter that T's j-th pair names -/
inductive Path (T : List (Nat × Nat)) : Nat → List Nat → Prop
  | nil : Path T 0 []
  | snoc {p c j : Nat} {u : List Nat} (h : Path T p u) (e : T[j]? = some (p, c)) : Path T (j + 1) (u ++ [c])
section
variable {T : List (Nat × Nat)} {p c s s' j : Nat} {u u' : List Nat}
theorem Path.inv (h : Path T s (u ++ [c])) : ∃ p j, Path T p u ∧ T[j]? = some (p, c) ∧ s = j + 1 := by
  generalize hv : u ++ [c] = v at h
  cases h with
  | nil => simp at hv
  | @snoc p c' j u' h e =>
    obtain ⟨rfl, h2⟩ := List.append_inj' hv rfl
    simp only [List.cons.injEq, and_true] at h2
    subst h2
    exact ⟨p, j, h, e, rfl⟩
theorem Path.inv0 (h : Path T s []) : s = 0 := by
  generalize hv : ([] : List Nat) = v at h
  cases h with
  | nil => rfl
  | snoc h e => simp at hv
theorem at_inj (nd : T.Nodup) {i j : Nat} {x : Nat × Nat} (h1 : T[i]? = some x) (h2 : T[j]? = some x) : i = j := by
  obtain ⟨a1, b1⟩ := List.getElem?_eq_some_iff.mp h1
  obtain ⟨a2, b2⟩ := List.getElem?_eq_some_iff.mp h2
  exact (List.getElem_inj nd).mp (b1.trans b2.symm)
theorem Path.one (nd : T.Nodup) (h : Path T s u) : ∀ {s'}, Path T s' u → s' = s := by
  induction h with
  | nil => exact fun h => h.inv0
  | @snoc p c j u h e ih =>
    intro s' h'
    obtain ⟨p', j', h1, e1, rfl⟩ := h'.inv
    have := ih h1
    subst this
    rw [at_inj nd e1 e]
theorem Path.word (h : Path T s u) : ∀ {u'}, Path T s u' → u' = u := by
  induction h with
  | nil =>
    intro u' h'
    generalize hz : 0 = z at h'
    cases h' with
    | nil => rfl
    | snoc h e => omega
  | @snoc p c j u h e ih =>
    intro u' h'
    generalize hz : j + 1 = z at h'
    cases h' with
    | nil => omega
    | @snoc p' c' j' u'' h'' e'' =>
      have : j' = j := by omega
      subst this
      rw [e] at e''
      have e3 := Option.some.inj e''
      obtain ⟨rfl, rfl⟩ := Prod.mk.inj e3
      rw [ih h'']
theorem Path.lt (h : Path T s u) : s ≤ T.length := by
  cases h with
  | nil => omega
  | snoc h e =>
    have := (List.getElem?_eq_some_iff.mp e).1
    omega
theorem Path.grow {x : Nat × Nat} (h : Path T s u) : Path (T ++ [x]) s u := by
  induction h with
  | nil => exact .nil
  | snoc h e ih => exact .snoc ih (by rw [List.getElem?_append_left (List.getElem?_eq_some_iff.mp e).1]; exact e)
theorem Path.last {x : Nat × Nat} (h : Path T x.1 u) : Path (T ++ [x]) (T.length + 1) (u ++ [x.2]) := .snoc h.grow (by simp)
end
/-- the trie of some words -/
structure Trie (T : List (Nat × Nat)) (ends : List Nat) (ns : List (List Nat)) : Prop where
  nd : T.Nodup
  par : ∀ x ∈ T, x.1 ≤ T.length
  has : ∀ n ∈ ns, ∃ s, Path T s n
  ends : ∀ s, s ∈ ends ↔ ∃ n ∈ ns, Path T s n
section
variable {T : List (Nat × Nat)} {ends : List Nat} {ns : List (List Nat)}
theorem Trie.start : Trie [] [] [] := ⟨List.nodup_nil, (fun x h => by cases h), (fun n h => by cases h), fun s => ⟨(fun h => by cases h), (fun h => by
  obtain ⟨n, h, _⟩ := h
  cases h)⟩⟩
theorem Trie.grow (t : Trie T ends ns) {x : Nat × Nat} (hx : x ∉ T) (hp : x.1 ≤ T.length) : Trie (T ++ [x]) ends ns := by
  have nd : (T ++ [x]).Nodup := List.nodup_append.mpr ⟨t.nd, List.nodup_cons.mpr ⟨(fun z => by cases z), List.nodup_nil⟩, fun a ha b hb e => hx (by rw [← List.mem_singleton.mp hb, ← e]; exact ha)⟩
  refine ⟨nd, fun y hy => ?_, fun n hn => ?_, fun s => ?_⟩
  · rw [List.length_append]
    rcases List.mem_append.mp hy with h | h
    · have := t.par y h
      omega
    · rw [List.mem_singleton.mp h]
      omega
  · obtain ⟨s, h⟩ := t.has n hn
    exact ⟨s, h.grow⟩
  · rw [t.ends]
    constructor
    · rintro ⟨n, hn, h⟩
      exact ⟨n, hn, h.grow⟩
    · rintro ⟨n, hn, h⟩
      obtain ⟨s', h'⟩ := t.has n hn
      rw [Path.one nd h'.grow h]
      exact ⟨n, hn, h'⟩
theorem Trie.done (t : Trie T ends ns) {s : Nat} {n : List Nat} (h : Path T s n) {ends' : List Nat} (he : ∀ x, x ∈ ends' ↔ x ∈ ends ∨ x = s) : Trie T ends' (ns ++ [n]) := by
  refine ⟨t.nd, t.par, fun m hm => ?_, fun x => ?_⟩
  · rcases List.mem_append.mp hm with g | g
    · exact t.has m g
    · rw [List.mem_singleton.mp g]
      exact ⟨s, h⟩
  · rw [he, t.ends]
    constructor
    · rintro (⟨m, hm, g⟩ | rfl)
      · exact ⟨m, List.mem_append_left _ hm, g⟩
      · exact ⟨n, List.mem_append_right _ (List.mem_singleton.mpr rfl), h⟩
    · rintro ⟨m, hm, g⟩
      rcases List.mem_append.mp hm with z | z
      · exact .inl ⟨m, z, g⟩
      · rw [List.mem_singleton.mp z] at g
        exact .inr (Path.one t.nd h g)
/-- the machine over the letters l -/
theorem Trie.run (t : Trie T ends ns) {l : List Nat} {to : Nat → Nat → Nat}
    (h1 : ∀ s ≤ T.length, ∀ a c, l[a]? = some c → (∀ j, T[j]? = some (s, c) → to s a = j + 1) ∧ ((s, c) ∉ T → to s a = T.length + 1)) (h2 : ∀ a < l.length, to (T.length + 1) a = T.length + 1) :
    ∀ (w : List Nat), (∀ a ∈ w, a < l.length) → ∀ (s : Nat) (u : List Nat), (Path T s u ∨ s = T.length + 1 ∧ ¬ ∃ s, Path T s u) →
      (Path T (runW to s w) (u ++ w.map fun a => l.getD a 0)) ∨ (runW to s w = T.length + 1 ∧ ¬ ∃ s, Path T s (u ++ w.map fun a => l.getD a 0))
  | [], _, s, u, h => by
    rw [List.map_nil, List.append_nil]
    exact h
  | a :: w, hw, s, u, h => by
    have ha := hw a List.mem_cons_self
    have hc : l[a]? = some (l.getD a 0) := by
      rw [List.getD_eq_getElem?_getD, List.getElem?_eq_getElem ha]
      rfl
    have step : Path T (to s a) (u ++ [l.getD a 0]) ∨ to s a = T.length + 1 ∧ ¬ ∃ s', Path T s' (u ++ [l.getD a 0]) := by
      rcases h with h | ⟨h, hn⟩
      · obtain ⟨g1, g2⟩ := h1 _ h.lt a _ hc
        by_cases hm : (s, l.getD a 0) ∈ T
        · obtain ⟨j, hj⟩ := List.mem_iff_getElem?.mp hm
          rw [g1 j hj]
          exact .inl (.snoc h hj)
        · rw [g2 hm]
          refine .inr ⟨rfl, fun ⟨s, hs⟩ => hm ?_⟩
          obtain ⟨p, j, k1, k2, _⟩ := hs.inv
          rw [Path.one t.nd h k1] at k2
          exact List.mem_of_getElem? k2
      · rw [h, h2 a ha]
        refine .inr ⟨rfl, fun ⟨s, hs⟩ => hn ?_⟩
        obtain ⟨p, j, k1, _⟩ := hs.inv
        exact ⟨p, k1⟩
    have := t.run h1 h2 w (fun b hb => hw b (List.mem_cons_of_mem _ hb)) (to s a) (u ++ [l.getD a 0]) step
    rw [List.append_assoc] at this
    exact this
theorem Trie.says (t : Trie T ends ns) {l : List Nat} {to : Nat → Nat → Nat}
    (h1 : ∀ s ≤ T.length, ∀ a c, l[a]? = some c → (∀ j, T[j]? = some (s, c) → to s a = j + 1) ∧ ((s, c) ∉ T → to s a = T.length + 1)) (h2 : ∀ a < l.length, to (T.length + 1) a = T.length + 1)
    {w : List Nat} (hw : ∀ a ∈ w, a < l.length) : runW to 0 w ∈ ends ↔ (w.map fun a => l.getD a 0) ∈ ns := by
  rw [t.ends]
  rcases t.run h1 h2 w hw 0 [] (.inl .nil) with h | ⟨h, hn⟩
  · constructor
    · rintro ⟨n, hn, g⟩
      have e : n = w.map fun a => l.getD a 0 := h.word g
      rw [← e]
      exact hn
    · intro hn
      exact ⟨_, hn, h⟩
  · constructor
    · rintro ⟨n, _, g⟩
      have := g.lt
      omega
    · intro hm
      exact absurd (t.has _ hm) hn
end
end Un

/-! UnFam: a machine that goes round a word and leaves it behind a turn by a tail. -/
namespace Un
def runC (go : Nat → Nat → Nat) (s : Nat) : List Nat → Nat
  | [] => s
  | c :: x => runC go (go s c) x
def famPos (turn L i : Nat) : Nat := if i < turn + L then i else turn + (i - turn) % L
structure Fam (om : Nat → Nat) (turn L : Nat) (d : List Nat) (go : Nat → Nat → Nat) : Prop where
  L0 : 1 ≤ L
  per : ∀ i, om (i + L) = om i
  off : ∀ c, d[0]? = some c → c ≠ om turn
  g1 : ∀ i < turn + L, go i (om i) = if i + 1 < turn + L then i + 1 else turn
  g2 : ∀ i c, d[i]? = some c → go (if i = 0 then turn else turn + L + i - 1) c = turn + L + i
  g3 : ∀ s c, ¬ (s < turn + L ∧ c = om s) → (∀ i, d[i]? = some c → s ≠ if i = 0 then turn else turn + L + i - 1) → go s c = turn + L + d.length
section
variable {om : Nat → Nat} {turn L : Nat} {d : List Nat} {go : Nat → Nat → Nat}
theorem famPos_lt (h : 1 ≤ L) (i : Nat) : famPos turn L i < turn + L := by
  unfold famPos
  split
  · assumption
  · have := Nat.mod_lt (i - turn) (show 0 < L by omega)
    omega
theorem famPos_succ (h : 1 ≤ L) (i : Nat) : famPos turn L (i + 1) = if famPos turn L i + 1 < turn + L then famPos turn L i + 1 else turn := by
  unfold famPos
  by_cases h1 : i + 1 < turn + L
  · rw [if_pos h1, if_pos (show i < turn + L by omega), if_pos h1]
  · rw [if_neg h1]
    by_cases h2 : i < turn + L
    · rw [if_pos h2, if_neg h1, show i + 1 - turn = L by omega, Nat.mod_self]
      omega
    · rw [if_neg h2, show i + 1 - turn = (i - turn) + 1 by omega]
      have hl := Nat.mod_lt (i - turn) (show 0 < L by omega)
      have hd := Nat.div_add_mod (i - turn) L
      have e : ((i - turn) + 1) % L = ((i - turn) % L + 1) % L := by rw [Nat.mod_add_mod]
      rw [e]
      by_cases h3 : (i - turn) % L + 1 < L
      · rw [Nat.mod_eq_of_lt h3, if_pos (by omega)]
        omega
      · rw [show (i - turn) % L + 1 = L by omega, Nat.mod_self, if_neg (by omega)]
        omega
theorem famPos_om (F : Fam om turn L d go) : ∀ i, om (famPos turn L i) = om i := by
  have mul : ∀ k i, om (i + L * k) = om i := fun k => by
    induction k with
    | zero => exact fun i => by rw [Nat.mul_zero, Nat.add_zero]
    | succ k ih => exact fun i => by rw [Nat.mul_succ, ← Nat.add_assoc, F.per, ih]
  intro i
  unfold famPos
  split
  · rfl
  · have hd := Nat.div_add_mod (i - turn) L
    have := mul ((i - turn) / L) (turn + (i - turn) % L)
    rw [← this]
    congr 1
    omega
theorem famPos_turn (h : 1 ≤ L) {i : Nat} : famPos turn L i = turn ↔ ∃ k, i = turn + L * k := by
  unfold famPos
  constructor
  · intro e
    split at e
    · exact ⟨0, by omega⟩
    · have hd := Nat.div_add_mod (i - turn) L
      exact ⟨(i - turn) / L, by omega⟩
  · rintro ⟨k, rfl⟩
    split
    · rename_i g
      have : k = 0 := by
        rcases Nat.eq_zero_or_pos k with z | z
        · exact z
        · have : L * 1 ≤ L * k := Nat.mul_le_mul_left L z
          omega
      rw [this]
      rfl
    · rw [Nat.add_sub_cancel_left, Nat.mul_mod_right]
      rfl
/-- the words that it takes -/
def FamW (om : Nat → Nat) (turn L : Nat) (d x : List Nat) : Prop := ∃ k, x.length = turn + L * k + d.length ∧ (∀ j < turn + L * k, x[j]? = some (om j)) ∧ ∀ j < d.length, x[turn + L * k + j]? = d[j]?
/-- round the word, into the tail, or lost -/
def FamSt (om : Nat → Nat) (turn L : Nat) (d : List Nat) (s : Nat) (x : List Nat) : Prop :=
  s = turn + L + d.length ∨ ((∀ j < x.length, x[j]? = some (om j)) ∧ s = famPos turn L x.length) ∨
    ∃ k i, 1 ≤ i ∧ i ≤ d.length ∧ x.length = turn + L * k + i ∧ (∀ j < turn + L * k, x[j]? = some (om j)) ∧ (∀ j < i, x[turn + L * k + j]? = d[j]?) ∧ s = turn + L + i - 1
theorem at_push {x : List Nat} {c j : Nat} (h : j < x.length) : (x ++ [c])[j]? = x[j]? := List.getElem?_append_left h
theorem at_last {x : List Nat} {c : Nat} : (x ++ [c])[x.length]? = some c := by simp
theorem FamSt.step (F : Fam om turn L d go) {s c : Nat} {x : List Nat} (h : FamSt om turn L d s x) : FamSt om turn L d (go s c) (x ++ [c]) := by
  have L0 := F.L0
  have dl : ∀ {i e : Nat}, d[i]? = some e → i < d.length := fun h => (List.getElem?_eq_some_iff.mp h).1
  rcases h with rfl | ⟨hx, rfl⟩ | ⟨k, i, i1, i2, hlen, hx, hd, rfl⟩
  · refine .inl (F.g3 _ _ (fun h => by omega) fun i hi => ?_)
    have := dl hi
    split <;> omega
  · have hp := famPos_lt (turn := turn) L0 x.length
    by_cases hc : c = om x.length
    · refine .inr (.inl ⟨fun j hj => ?_, ?_⟩)
      · rw [List.length_append] at hj
        rcases Nat.lt_or_ge j x.length with g | g
        · rw [at_push g]
          exact hx j g
        · rw [show j = x.length by simp at hj; omega, at_last, hc]
      · rw [hc, ← famPos_om F, F.g1 _ hp, List.length_append]
        exact (famPos_succ L0 _).symm
    · by_cases hb : d[0]? = some c ∧ famPos turn L x.length = turn
      · obtain ⟨h0, hpt⟩ := hb
        obtain ⟨k, hk⟩ := (famPos_turn L0).mp hpt
        have := dl h0
        have e := F.g2 0 c h0
        rw [if_pos rfl] at e
        refine .inr (.inr ⟨k, 1, Nat.le_refl _, this, by rw [List.length_append]; show x.length + 1 = _; omega, fun j hj => ?_, fun j hj => ?_, ?_⟩)
        · rw [at_push (by omega)]
          exact hx j (by omega)
        · rw [show j = 0 by omega, h0, show turn + L * k + 0 = x.length by omega, at_last]
        · rw [hpt, e]
          omega
      · refine .inl (F.g3 _ _ (fun h => hc (by rw [h.2, famPos_om F])) fun i hi e => ?_)
        have := dl hi
        split at e
        · rename_i z
          exact hb ⟨by rw [← z]; exact hi, e⟩
        · omega
  · by_cases hc : d[i]? = some c
    · have := dl hc
      have e := F.g2 i c hc
      rw [if_neg (by omega)] at e
      refine .inr (.inr ⟨k, i + 1, by omega, this, by rw [List.length_append]; show x.length + 1 = _; omega, fun j hj => ?_, fun j hj => ?_, ?_⟩)
      · rw [at_push (by omega)]
        exact hx j hj
      · rcases Nat.lt_or_ge j i with g | g
        · rw [at_push (by omega)]
          exact hd j g
        · rw [show j = i by omega, hc, show turn + L * k + i = x.length by omega, at_last]
      · rw [e]
        omega
    · refine .inl (F.g3 _ _ (fun h => by omega) fun i' hi' e => ?_)
      have := dl hi'
      split at e
      · omega
      · have : i' = i := by omega
        subst this
        exact hc hi'
theorem FamSt.run (F : Fam om turn L d go) : ∀ (x : List Nat) (s : Nat) (u : List Nat), FamSt om turn L d s u → FamSt om turn L d (runC go s x) (u ++ x)
  | [], s, u, h => by
    rw [List.append_nil]
    exact h
  | c :: x, s, u, h => by
    have := FamSt.run F x (go s c) (u ++ [c]) (h.step F)
    rw [List.append_assoc] at this
    exact this
theorem round_run (F : Fam om turn L d go) : ∀ (x : List Nat) (b : Nat), (∀ j < x.length, x[j]? = some (om (b + j))) → runC go (famPos turn L b) x = famPos turn L (b + x.length)
  | [], b, _ => rfl
  | c :: x, b, h => by
    have h0 := h 0 (by rw [List.length_cons]; omega)
    rw [List.getElem?_cons_zero, Nat.add_zero] at h0
    show runC go (go (famPos turn L b) c) x = _
    rw [Option.some.inj h0, ← famPos_om F b, F.g1 _ (famPos_lt F.L0 b), ← famPos_succ F.L0, round_run F x (b + 1) fun j hj => by
      have := h (j + 1) (by rw [List.length_cons]; omega)
      rw [List.getElem?_cons_succ] at this
      rw [this, show b + 1 + j = b + (j + 1) by omega]]
    rw [List.length_cons, show b + 1 + x.length = b + (x.length + 1) by omega]
theorem tail_run (F : Fam om turn L d go) : ∀ (x : List Nat) (i : Nat), i + x.length = d.length → (∀ j < x.length, x[j]? = d[i + j]?) → x ≠ [] → runC go (if i = 0 then turn else turn + L + i - 1) x = turn + L + d.length - 1
  | [], _, _, _, h => absurd rfl h
  | [c], i, hl, h, _ => by
    have h0 := h 0 (by simp)
    rw [List.getElem?_cons_zero, Nat.add_zero] at h0
    show go _ c = _
    rw [F.g2 i c h0.symm]
    rw [List.length_singleton] at hl
    omega
  | c :: c2 :: x, i, hl, h, _ => by
    have h0 := h 0 (by simp)
    rw [List.getElem?_cons_zero, Nat.add_zero] at h0
    show runC go (go _ c) (c2 :: x) = _
    rw [F.g2 i c h0.symm]
    have := tail_run F (c2 :: x) (i + 1) (by simp only [List.length_cons] at hl ⊢; omega) (fun j hj => by
      have := h (j + 1) (by simp only [List.length_cons] at hj ⊢; omega)
      rw [List.getElem?_cons_succ] at this
      rw [this, show i + 1 + j = i + (j + 1) by omega]) (by simp)
    rw [if_neg (by omega), show turn + L + (i + 1) - 1 = turn + L + i by omega] at this
    exact this
theorem runC_app (go : Nat → Nat → Nat) : ∀ (x y : List Nat) (s : Nat), runC go s (x ++ y) = runC go (runC go s x) y
  | [], _, _ => rfl
  | c :: x, y, s => runC_app go x y (go s c)
/-- it takes just these words -/
theorem Fam.takes (F : Fam om turn L d go) (x : List Nat) : runC go 0 x = (if d = [] then turn else turn + L + d.length - 1) ↔ FamW om turn L d x := by
  have L0 := F.L0
  have z0 : famPos turn L 0 = 0 := if_pos (by omega)
  constructor
  · intro e
    have h := FamSt.run F x 0 [] (.inr (.inl ⟨fun j hj => absurd hj (by simp), z0.symm⟩))
    rw [List.nil_append, e] at h
    rcases h with h | ⟨hx, h⟩ | ⟨k, i, i1, i2, hlen, hx, hd, h⟩
    · split at h
      · omega
      · rename_i z
        have : 0 < d.length := List.length_pos_iff.mpr z
        omega
    · split at h
      · rename_i z
        obtain ⟨k, hk⟩ := (famPos_turn L0).mp h.symm
        subst z
        exact ⟨k, hk, fun j hj => hx j (by omega), fun j hj => absurd hj (by simp)⟩
      · rename_i z
        have := famPos_lt (turn := turn) L0 x.length
        have : 0 < d.length := List.length_pos_iff.mpr z
        omega
    · split at h
      · omega
      · have : i = d.length := by omega
        subst this
        exact ⟨k, hlen, hx, hd⟩
  · rintro ⟨k, hlen, hx, hd⟩
    have hsplit : x = x.take (turn + L * k) ++ x.drop (turn + L * k) := (List.take_append_drop _ _).symm
    have h1 := round_run F (x.take (turn + L * k)) 0 fun j hj => by
      rw [List.length_take] at hj
      rw [List.getElem?_take, if_pos (by omega), Nat.zero_add]
      exact hx j (by omega)
    rw [z0, Nat.zero_add, List.length_take, Nat.min_eq_left (by omega), (famPos_turn L0).mpr ⟨k, rfl⟩] at h1
    rw [hsplit, runC_app, h1]
    by_cases z : d = []
    · rw [if_pos z]
      subst z
      rw [List.drop_eq_nil_of_le (by simp at hlen; omega)]
      rfl
    · rw [if_neg z]
      have hpos : 0 < d.length := List.length_pos_iff.mpr z
      have := tail_run F (x.drop (turn + L * k)) 0 (by rw [List.length_drop]; omega) (fun j hj => by
        rw [List.length_drop] at hj
        rw [List.getElem?_drop, Nat.zero_add]
        exact hd j (by omega)) (fun e => by
        have := congrArg List.length e
        rw [List.length_drop] at this
        simp at this
        omega)
      rw [if_pos rfl] at this
      exact this
end
end Un

/-! UnFamIn: the words of a family, told by a word and a rest. -/
namespace Un
theorem fol_is (f : Nat → Nat) : ∀ (t : List Nat) (i j : Nat), j < follows f t i → t[j]? = some (f (i + j))
  | [], _, _, h => by simp [follows] at h
  | c :: r, i, j, h => by
    unfold follows at h
    split at h
    · rename_i e
      cases j with
      | zero => rw [e]; rfl
      | succ j =>
        rw [List.getElem?_cons_succ, fol_is f r (i + 1) j (by omega), show i + 1 + j = i + (j + 1) by omega]
    · omega
theorem famW_iff {u r x : List Nat} {c : Nat} (hu : u ≠ []) : FamW (per u) (c * u.length + follows (per u) r 0) u.length (r.drop (follows (per u) r 0)) x ↔ ∃ k, c ≤ k ∧ x = repW k u ++ r := by
  have hA := follows_le (per u) r 0
  have hA2 := fol_is (per u) r 0
  generalize follows (per u) r 0 = A at hA hA2 ⊢
  have hU : 1 ≤ u.length := List.length_pos_iff.mpr hu
  have e0 : ∀ k, c * u.length + A + u.length * k = (c + k) * u.length + A := fun k => by
    rw [Nat.add_mul, Nat.mul_comm u.length k]
    omega
  constructor
  · rintro ⟨k, h1, h2, h3⟩
    rw [e0, List.length_drop] at h1
    rw [e0] at h2 h3
    refine ⟨c + k, Nat.le_add_right _ _, List.ext_getElem? fun j => ?_⟩
    generalize hN : (c + k) * u.length = N at h1 h2 h3
    have hl : (repW (c + k) u).length = N := by rw [repW_len, hN]
    rcases Nat.lt_or_ge j N with hj | hj
    · rw [List.getElem?_append_left (by rw [hl]; exact hj), repW_get _ _ _ (by rw [hN]; exact hj)]
      exact h2 j (by omega)
    · rw [List.getElem?_append_right (by rw [hl]; exact hj), hl]
      rcases Nat.lt_or_ge (j - N) A with hi | hi
      · rw [hA2 _ hi, h2 j (by omega), Nat.zero_add, ← per_add_mul u (j - N) (c + k), Nat.mul_comm, hN, Nat.sub_add_cancel hj]
      · rcases Nat.lt_or_ge (j - N) r.length with hi2 | hi2
        · have := h3 (j - N - A) (by rw [List.length_drop]; omega)
          rw [List.getElem?_drop, show A + (j - N - A) = j - N by omega, show N + A + (j - N - A) = j by omega] at this
          exact this
        · rw [List.getElem?_eq_none (by omega), List.getElem?_eq_none hi2]
  · rintro ⟨k, hk, rfl⟩
    refine ⟨k - c, ?_, fun j hj => ?_, fun j hj => ?_⟩
    · rw [e0, Nat.add_sub_cancel' hk, List.length_append, repW_len, List.length_drop]
      omega
    · rw [e0, Nat.add_sub_cancel' hk] at hj
      rcases Nat.lt_or_ge j (k * u.length) with h | h
      · rw [List.getElem?_append_left (by rw [repW_len]; exact h), repW_get _ _ _ h]
      · rw [List.getElem?_append_right (by rw [repW_len]; exact h), repW_len, hA2 _ (by omega), Nat.zero_add, ← per_add_mul u (j - k * u.length) k, Nat.mul_comm u.length, Nat.sub_add_cancel h]
    · rw [List.length_drop] at hj
      rw [e0, Nat.add_sub_cancel' hk, List.getElem?_append_right (by rw [repW_len]; omega), repW_len, List.getElem?_drop, show k * u.length + A + j - k * u.length = A + j by omega]
/-- as a test of the text alone -/
def famIn (u r : List Nat) (c : Nat) (x : List Nat) : Bool :=
  decide (r.length ≤ x.length ∧ x.drop (x.length - r.length) = r) && (decide (x.take (x.length - r.length) = repW ((x.length - r.length) / u.length) u) && decide (c ≤ (x.length - r.length) / u.length))
theorem famIn_iff {u r x : List Nat} {c : Nat} (hu : u ≠ []) : famIn u r c x = true ↔ ∃ k, c ≤ k ∧ x = repW k u ++ r := by
  have hU : 0 < u.length := List.length_pos_iff.mpr hu
  unfold famIn
  rw [Bool.and_eq_true, Bool.and_eq_true, decide_eq_true_eq, decide_eq_true_eq, decide_eq_true_eq]
  constructor
  · rintro ⟨⟨h1, h2⟩, h3, h4⟩
    refine ⟨_, h4, ?_⟩
    rw [← h3]
    have := List.take_append_drop (x.length - r.length) x
    rw [h2] at this
    exact this.symm
  · rintro ⟨k, hk, rfl⟩
    have e : (repW k u ++ r).length - r.length = k * u.length := by rw [List.length_append, repW_len, Nat.add_sub_cancel]
    have hl : (repW k u).length = k * u.length := repW_len k u
    rw [e, Nat.mul_div_cancel _ hU]
    refine ⟨⟨by rw [List.length_append]; omega, ?_⟩, ?_, hk⟩
    · rw [← hl, List.drop_left]
    · rw [← hl, List.take_left]
theorem famIn_W {u r x : List Nat} {c : Nat} (hu : u ≠ []) : famIn u r c x = true ↔ FamW (per u) (c * u.length + follows (per u) r 0) u.length (r.drop (follows (per u) r 0)) x := (famIn_iff hu).trans (famW_iff hu).symm
end Un

/-! UnLs: rules that may stand within a comprehension. -/
namespace Un
open PySem PySem.Spec PyProof.Rows L2
theorem hu65 {k : Nat} {A : Around} (hr : Room k A) : A.units + 65 < cLine := by
  have := hr.un
  omega
section
variable {X : Cx} {K : PySem.W.Frag}
theorem op_catAK (h : X.K = K) : OpR X (binaryOp .Add) (rCatA K) := by
  subst h
  exact op_catA
theorem mt_indexDK (h : X.K = K) (hu : X.A.units + 65 < cLine) : MtR X "list.index" (rIndexD K) := by
  subst h
  exact mt_indexD hu
theorem call_isiQ (h : X.K = K) : CallR X (.builtin "isinstance") (rIsi K) := by
  subst h
  exact call_isi
theorem pe_bmK {o e : Expr} {es : List Expr} {to : TE} {t : TA} {name : Str} {apos cpos : Pos} {T id : String} {r : V → List V → Hp → VK → Prop} (h : X.K = K) (pa : PlainAttrs T) (slot : Slot T name id) (hty : typeOf (.builtin id) = pure (.type "method_descriptor"))
    (hm : MtR X id r) (ho : PE X o to) (ha : PA X (e :: es) t) (hbase : attributeBase o name X.env (eval o X.env) = eval o X.env := by rfl)
    (hfew : ((backTo cpos (starEach (e :: es) X.env)).all (fun x => !x.1) && (backToKw cpos (keywordEach [] X.env)).all (fun x => x.1.isSome) && decide ((e :: es).length + ([] : List Keyword).length + (if ([] : List Keyword).isEmpty then 0 else 1) < 30)) = true := by rfl)
    (hline : (apos.endLine == cpos.line) = true := by rfl) (hs : starEach (e :: es) X.env = (false, eval e X.env) :: starEach es X.env := by rfl) (hplain : (backTo cpos (starEach es X.env)).any (·.1) = false := by rfl) :
    PE X (.Call (.Attribute o name apos) (e :: es) [] cpos) (tBM K T r to t) := by
  subst h
  exact pe_bm pa slot hty hm ho ha hbase hfew hline hs hplain
end
section
variable {K : PySem.W.Frag} {H : Hp} {Q : VK} {σ : L2.St}
theorem rd_catA {a b : Addr} {xs ys : List V} (ha : SqT K H a xs) (hb : SqT K H b ys) (hz : xs.length + ys.length ≤ sizeLine) (hx : xs ≠ []) (q1 : ys = [] → Q (.ref a) H) (q2 : ∀ p, H p = none → Q (.ref p) (upd H p (.tup (xs ++ ys)))) : rCatA K (.ref a) (.ref b) H Q :=
  ⟨a, b, xs, ys, rfl, rfl, ha, hb, hz, fun h => absurd h hx, fun _ h => q1 h, fun _ _ => q2⟩
theorem rd_lenSet {ta : TE} (h : ta σ H fun x H1 => ∃ (l : Addr) (ns : List Int), x = .ref l ∧ SqL K H1 l (ns.map V.int) ∧ ns.Nodup ∧ ns.length ≤ 4000 ∧ Q (.int (ns.length : Nat)) H1) : RZ.tLenSetI K ta σ H Q := h
theorem rd_repT {a : Addr} {k : Int} {xs : List V} (h : SqT K H a xs) (h1 : xs ≠ []) (h2 : 2 ≤ k) (h3 : k ≤ 1000) (h4 : xs.length ≤ 1000) (q : ∀ p, H p = none → Q (.ref p) (upd H p (.tup (List.replicate k.toNat xs).flatten))) : rRepT K (.ref a) (.int k) H Q := ⟨a, k, xs, rfl, rfl, h, h1, h2, h3, h4, q⟩
end
end Un

/-! UnMoore: kinds of states, made finer until they stay. -/
namespace Un
def KeyEq (m : Nat) (t : Nat → Nat → Nat) (kd : Nat → Nat) (s s' : Nat) : Prop := kd s = kd s' ∧ ∀ a < m, kd (t s a) = kd (t s' a)
theorem KeyEq.symm {m : Nat} {t : Nat → Nat → Nat} {kd : Nat → Nat} {s s' : Nat} (h : KeyEq m t kd s s') : KeyEq m t kd s' s := ⟨h.1.symm, fun a ha => (h.2 a ha).symm⟩
theorem KeyEq.trans {m : Nat} {t : Nat → Nat → Nat} {kd : Nat → Nat} {s s' s'' : Nat} (h : KeyEq m t kd s s') (g : KeyEq m t kd s' s'') : KeyEq m t kd s s'' := ⟨h.1.trans g.1, fun a ha => (h.2 a ha).trans (g.2 a ha)⟩
theorem least_ex (p : Nat → Prop) : ∀ {s : Nat}, p s → ∃ j, j ≤ s ∧ p j ∧ ∀ i < j, ¬ p i := fun {s} => by
  induction s using Nat.strongRecOn with
  | ind s ih =>
    intro h
    by_cases g : ∃ i, i < s ∧ p i
    · obtain ⟨i, hi, hp⟩ := g
      obtain ⟨j, hj, h1, h2⟩ := ih i hi hp
      exact ⟨j, by omega, h1, h2⟩
    · exact ⟨s, Nat.le_refl _, h, fun i hi hp => g ⟨i, hi, hp⟩⟩
/-- the first with the same key -/
noncomputable def finer (m : Nat) (t : Nat → Nat → Nat) (kd : Nat → Nat) (s : Nat) : Nat := (least_ex (fun j => KeyEq m t kd j s) (s := s) ⟨rfl, fun _ _ => rfl⟩).choose
section
variable {k m : Nat} {t : Nat → Nat → Nat} {lab : Nat → Bool} {kd : Nat → Nat}
theorem finer_spec (s : Nat) : finer m t kd s ≤ s ∧ KeyEq m t kd (finer m t kd s) s ∧ ∀ i < finer m t kd s, ¬ KeyEq m t kd i s := (least_ex (fun j => KeyEq m t kd j s) (s := s) ⟨rfl, fun _ _ => rfl⟩).choose_spec
theorem finer_eq {s s' : Nat} (h : KeyEq m t kd s s') : finer m t kd s = finer m t kd s' := by
  obtain ⟨_, b, c⟩ := finer_spec (m := m) (t := t) (kd := kd) s
  obtain ⟨_, b', c'⟩ := finer_spec (m := m) (t := t) (kd := kd) s'
  rcases Nat.lt_trichotomy (finer m t kd s) (finer m t kd s') with h1 | h1 | h1
  · exact absurd (b.trans h) (c' _ h1)
  · exact h1
  · exact absurd (b'.trans h.symm) (c _ h1)
theorem finer_key {s s' : Nat} (h : finer m t kd s = finer m t kd s') : KeyEq m t kd s s' := by
  obtain ⟨_, b, _⟩ := finer_spec (m := m) (t := t) (kd := kd) s
  obtain ⟨_, b', _⟩ := finer_spec (m := m) (t := t) (kd := kd) s'
  rw [h] at b
  exact b.symm.trans b'
theorem finer_idem (s : Nat) : finer m t kd (finer m t kd s) = finer m t kd s := finer_eq (finer_spec s).2.1
def fixN (k : Nat) (kd : Nat → Nat) : Nat := (List.range k).countP fun s => decide (kd s = s)
structure Moore (k m : Nat) (lab : Nat → Bool) (t : Nat → Nat → Nat) (i : Nat) (kd : Nat → Nat) : Prop where
  labs : ∀ s < k, ∀ s' < k, kd s = kd s' → lab s = lab s'
  small : ∀ s < k, kd s ≤ 1000
  canon : i = 0 ∨ (∀ s < k, kd s ≤ s) ∧ (∀ s < k, ∀ r < k, kd r = kd s → kd s ≤ r) ∧ i ≤ fixN k kd
theorem countP_lt {p q : Nat → Bool} : ∀ {l : List Nat}, (∀ x ∈ l, p x = true → q x = true) → (∃ x ∈ l, q x = true ∧ p x = false) → l.countP p < l.countP q
  | [], _, h => by
    obtain ⟨x, hx, _⟩ := h
    cases hx
  | y :: l, h1, h2 => by
    have h1' := fun x hx => h1 x (List.mem_cons_of_mem y hx)
    have le : l.countP p ≤ l.countP q := List.countP_mono_left h1'
    obtain ⟨x, hx, hq, hp⟩ := h2
    rw [List.countP_cons, List.countP_cons]
    rcases List.mem_cons.mp hx with rfl | hx
    · rw [hq, hp]
      simp only [if_true, Bool.false_eq_true, if_false]
      omega
    · have := countP_lt h1' ⟨x, hx, hq, hp⟩
      have h3 := h1 y List.mem_cons_self
      cases e : p y with
      | false => simp only [Bool.false_eq_true, if_false]; split <;> omega
      | true =>
        rw [h3 e]
        simp only [if_true]
        omega
theorem Moore.start (hk : k ≤ 1000) : Moore k m lab t 0 (fun s => if lab s = true then 1 else 0) := by
  refine ⟨fun s _ s' _ h => ?_, fun s _ => ?_, .inl rfl⟩
  · cases e : lab s <;> cases e' : lab s' <;> simp [e, e'] at h ⊢
  · show (if lab s = true then 1 else 0) ≤ 1000
    split <;> decide
theorem Moore.step {i : Nat} (hk0 : 0 < k) (hk : k ≤ 1000) (hc : Closed k m t) (M : Moore k m lab t i kd) (hne : ∃ s < k, finer m t kd s ≠ kd s) : Moore k m lab t (i + 1) (finer m t kd) := by
  have sp := fun s => finer_spec (m := m) (t := t) (kd := kd) s
  refine ⟨fun s hs s' hs' h => M.labs s hs s' hs' (finer_key h).1, fun s hs => by have := (sp s).1; omega, .inr ⟨fun s _ => (sp s).1, fun s _ r _ h => by rw [← h]; exact (sp r).1, ?_⟩⟩
  rcases M.canon with rfl | ⟨h1, h2, h3⟩
  · refine List.countP_pos_iff.mpr ⟨0, List.mem_range.mpr hk0, decide_eq_true ?_⟩
    have := (sp 0).1
    omega
  · refine Nat.lt_of_le_of_lt h3 (countP_lt (fun s hs h => ?_) ?_)
    · have hs' := List.mem_range.mp hs
      have e := of_decide_eq_true h
      refine decide_eq_true ?_
      obtain ⟨a, b, _⟩ := sp s
      have := h2 s hs' (finer m t kd s) (by omega) b.1
      omega
    · obtain ⟨s, hs, hd⟩ := hne
      obtain ⟨a, b, _⟩ := sp s
      refine ⟨finer m t kd s, List.mem_range.mpr (by omega), decide_eq_true (finer_idem s), decide_eq_false fun e => hd ?_⟩
      rw [← b.1, e]
theorem Moore.stay (least : ∀ i < k, ∀ j < k, Eqv m lab t i j → i = j) (hc : Closed k m t) {i : Nat} (M : Moore k m lab t i kd) (h : ∀ s < k, finer m t kd s = kd s) : ∀ s < k, ∀ s' < k, kd s = kd s' → s = s' := by
  intro s hs s' hs' e
  refine least s hs s' hs' fun w => ?_
  induction w generalizing s s' with
  | nil => exact fun _ => M.labs s hs s' hs' e
  | cons a w ih =>
    intro hw
    have ha := hw a List.mem_cons_self
    have key : KeyEq m t kd s s' := finer_key ((h s hs).trans (e.trans (h s' hs').symm))
    exact ih (t s a) (hc s hs a ha) (t s' a) (hc s' hs' a ha) (key.2 a ha) fun b hb => hw b (List.mem_cons_of_mem _ hb)
theorem Moore.full (hk0 : 0 < k) (M : Moore k m lab t k kd) : ∀ s < k, ∀ s' < k, kd s = kd s' → s = s' := by
  rcases M.canon with h | ⟨_, _, h3⟩
  · omega
  · have e : fixN k kd = (List.range k).length := Nat.le_antisymm List.countP_le_length (by rw [List.length_range]; exact h3)
    have all := List.countP_eq_length.mp e
    intro s hs s' hs' h
    rw [← of_decide_eq_true (all s (List.mem_range.mpr hs)), h]
    exact of_decide_eq_true (all s' (List.mem_range.mpr hs'))
end
end Un

/-! UnFront: a machine with a word read ahead of it. -/
namespace Un
/-- the word's states first, then the machine's, then the lost one -/
structure Front (n m : Nat) (ws : List Nat) (lab lab' : Nat → Bool) (to to' : Nat → Nat → Nat) : Prop where
  n0 : 0 < n
  cl : Closed n m to'
  f1 : ∀ s b, ws[s]? = some b → ∀ a < m, to s a = if a = b then s + 1 else ws.length + n
  f2 : ∀ s < n, ∀ a < m, to (ws.length + s) a = ws.length + to' s a
  f3 : ∀ a < m, to (ws.length + n) a = ws.length + n
  l1 : ∀ s < ws.length, lab s = false
  l2 : ∀ s < n, lab (ws.length + s) = lab' s
  l3 : lab (ws.length + n) = false
section
variable {n m : Nat} {ws : List Nat} {lab lab' : Nat → Bool} {to to' : Nat → Nat → Nat}
theorem Front.lost (F : Front n m ws lab lab' to to') : ∀ w : List Nat, (∀ a ∈ w, a < m) → runW to (ws.length + n) w = ws.length + n
  | [], _ => rfl
  | a :: w, hw => by
    show runW to (to (ws.length + n) a) w = _
    rw [F.f3 a (hw a List.mem_cons_self)]
    exact F.lost w fun b hb => hw b (List.mem_cons_of_mem _ hb)
theorem Front.within (F : Front n m ws lab lab' to to') : ∀ (w : List Nat), (∀ a ∈ w, a < m) → ∀ s < n, runW to (ws.length + s) w = ws.length + runW to' s w ∧ runW to' s w < n
  | [], _, s, hs => ⟨rfl, hs⟩
  | a :: w, hw, s, hs => by
    have ha := hw a List.mem_cons_self
    show runW to (to (ws.length + s) a) w = ws.length + runW to' (to' s a) w ∧ runW to' (to' s a) w < n
    rw [F.f2 s hs a ha]
    exact F.within w (fun b hb => hw b (List.mem_cons_of_mem _ hb)) _ (F.cl s hs a ha)
theorem Front.reads (F : Front n m ws lab lab' to to') : ∀ (t : List Nat) (s : Nat), s + t.length = ws.length → ws.drop s = t → ∀ w : List Nat, (∀ a ∈ w, a < m) →
    (lab (runW to s w) = true ↔ w.take t.length = t ∧ lab' (runW to' 0 (w.drop t.length)) = true)
  | [], s, hl, _, w, hw => by
    obtain ⟨h1, h2⟩ := F.within w hw 0 F.n0
    rw [List.length_nil, Nat.add_zero] at hl
    rw [hl, show ws.length = ws.length + 0 from rfl, h1, F.l2 _ h2]
    simp
  | b :: t, s, hl, hd, w, hw => by
    rw [List.length_cons] at hl
    have hb : ws[s]? = some b := by
      have := congrArg (fun z : List Nat => z[0]?) hd
      simpa using this
    have ht : ws.drop (s + 1) = t := by
      have := congrArg (List.drop 1) hd
      simpa [Nat.add_comm] using this
    cases w with
    | nil =>
      show lab s = true ↔ _
      rw [F.l1 s (by omega)]
      simp
    | cons a w =>
      have ha := hw a List.mem_cons_self
      have hw' := fun x hx => hw x (List.mem_cons_of_mem a hx)
      show lab (runW to (to s a) w) = true ↔ _
      rw [F.f1 s b hb a ha]
      by_cases e : a = b
      · rw [if_pos e, F.reads t (s + 1) (by omega) ht w hw', e]
        simp
      · rw [if_neg e, F.lost w hw', F.l3]
        simp [e]
theorem Front.says (F : Front n m ws lab lab' to to') {w : List Nat} (hw : ∀ a ∈ w, a < m) : lab (runW to 0 w) = true ↔ w.take ws.length = ws ∧ lab' (runW to' 0 (w.drop ws.length)) = true :=
  F.reads ws 0 (by omega) rfl w hw
end
end Un

set_option maxHeartbeats 2000000
/-! UnDc: a dict comprehension whose keys are tuples. -/
namespace Un
open PySem PySem.Spec PyProof.Rows L2
theorem dt_put {X : Cx} {pins : List (Addr × Obj)} {τ : L2.St} {G : Hp} {q : Shared} {E : Value → Shared → Prop} {p b : Addr} {kvs : List (List Key × V)} {k : List Key} {v : V} {r : Value} {Q : Unit → Shared → Prop} (hu : X.A.units + 1 < cLine)
    (I : Inv X pins τ G q) (hp : G p = some (.dT kvs)) (hb : G b = some (.tup (k.map kV))) (hl : kvs.length < sizeLine) (rv : RelV v r)
    (next : ∀ q', Inv X pins τ (upd G p (.dT (putK kvs k v))) q' → Q () q') : wpAny (model X.prog X.w) X.A (dictSet p (.ref b) r) Q E q := by
  obtain ⟨z, nm, xs, rel, dd⟩ := dt_of I.hok hp
  have hx : xs.length ≤ sizeLine := by
    have := Paired.length rel
    omega
  have hn : (putK kvs k v).length ≤ sizeLine := Nat.le_trans (length_putK kvs k v) hl
  have ru : (tupleKind (mixKind X.prog X.w)).room X.A := (show X.A.units < cLine by omega)
  refine wpAny_dictSet_heap (hsz := hx) ru (key_of I.hok hb) dd fun h' dd' sb => next _ ?_
  obtain ⟨o, es, ep, ho, a2, a3, a4, _, a5⟩ := dd'
  refine d_write I (by rw [hp]; trivial) sb ⟨o, ho⟩ ⟨hn, nm, _, (rel.put k hb rv).keeps fun c ys ec => ?_, o, es, ep, ho, a2, a3, a4, a5⟩
  exact (upd_ne (ne_of ec hp fun z => nomatch z)).trans ec
section
variable {X : Cx}
/-- {(..): v for target in iter if ..}: p the new dict -/
def tDcT (wi : TI) (g : TG) (tt : TT) (tk tv : TE) (vs : List Nat) : TE := fun σ G0 Q => wi σ G0 fun J G1 => ∀ p, G1 p = none → ∃ U : Nat → Nat → Hp → Prop, (∃ m, U 0 m (upd G1 p (.dT []))) ∧ ∀ i m G, U i m G →
  (J.stop i G ∧ Q (.ref p) G) ∨ (J.go i G ∧ ∃ Nx : Hp → Prop, (∀ G', Nx G' → ∃ m', m' < m ∧ U (i + 1) m' G') ∧ ∀ z G', J.yld i G z G' → g z (wipe σ vs) G' fun τ G2 => wipe τ vs = wipe σ vs ∧ tt τ G2 fun b G3 =>
    if b = true then tk τ G3 fun y G4 => tv τ G4 fun v G5 => ∃ kvs k a, y = .ref a ∧ G5 a = some (.tup (k.map kV)) ∧ G5 p = some (.dT kvs) ∧ kvs.length < sizeLine ∧ Nx (upd G5 p (.dT (putK kvs k v))) else Nx G3)
theorem pe_dcT {kx vx tg iter : Expr} {ifs : List Expr} {scope : Scope} {own : List (Str × Nat)} {pos : Pos} {wi : TI} {g : TG} {tt : TT} {tk tv : TE} (hu : X.A.units + 1 < cLine) (hc : X.calm = true) (hN : X.N.Nodup) (hi : PI X tg iter wi)
    (ok : BlkOk X.N X.env.scope scope own)
    (hg : ∀ (q : Shared) (G : Hp) (C : Addr) (cl : List (Str × Addr)) (fp : List Addr), PG (X.blk q G scope (compEnvC scope cl C X.env) fp) tg g)
    (ht : ∀ (q : Shared) (G : Hp) (C : Addr) (cl : List (Str × Addr)) (fp : List Addr), PTs (X.blk q G scope (compEnvC scope cl C X.env) fp) ifs tt)
    (hk : ∀ (q : Shared) (G : Hp) (C : Addr) (cl : List (Str × Addr)) (fp : List Addr), PE (X.blk q G scope (compEnvC scope cl C X.env) fp) kx tk)
    (he : ∀ (q : Shared) (G : Hp) (C : Addr) (cl : List (Str × Addr)) (fp : List Addr), PE (X.blk q G scope (compEnvC scope cl C X.env) fp) vx tv)
    (hs : ∀ x, foldedSetIterable iter X.env x = pure x := by intro _; rfl) :
    PE X (.DictComp kx vx [⟨tg, iter, ifs, 0⟩] scope pos) (tDcT wi g tt tk tv (own.map (·.2))) := by
  refine ⟨fun pins q τ G Q I word => ?_⟩
  rw [arm_eval_DictComp]
  have hclo : ∀ y ∈ scope.names, y.2 = .free → ∃ c, X.env.cells.lookup y.1 = some c := fun y hy e => (ok.free y hy e).elim (fun z => I.ok.has _ (.inl z)) fun z => I.ok.has _ (.inr z)
  refine wpAny_comprehension_free rfl hs (closure_ok hclo) ok.kind (fun y hy e => by rw [ok.uniq y hy, e]) (thn (hi.run pins q τ G _ I word) fun xv q1 w1 => thn w1 fun itv q2 w2 => ?_)
  obtain ⟨it, fp, tn, J, G2, rfl, I2, T, st2, f2, w3⟩ := w2
  refine wpAny_newObj_type (newEnv_comp ?_)
  generalize hp : q2.heap.objs.size = p
  obtain ⟨U, ⟨m0, u0⟩, turn⟩ := w3 p (I2.hok.fresh (Nat.le_of_eq hp))
  generalize hq3 : ({ q2 with heap := q2.heap.push { cls := .type "dict", data := .dict #[] } } : Shared) = q3
  have h3 : q3.heap = q2.heap.push { cls := .type "dict", data := .dict #[] } := by
    rw [← hq3]
  have I3 : Inv X pins τ (upd G2 p (.dT [])) q3 := by
    rw [← hq3]
    refine I2.laid (t' := q2.toks) (fun _ _ z => Heap.get?_push_of_some _ z) (Nat.le_of_eq hp) ?_
    rw [← hp]
    exact dt_empty q2.heap I2.big
  have f3 : ∀ b ∈ fp, FpOk X pins (upd G2 p (.dT [])) b ∧ b < q3.heap.objs.size := fun b hb => by
    obtain ⟨o, eo, _⟩ := T.obj _ _ st2 b hb
    have lt := Heap.lt_size eo
    refine ⟨⟨?_, (f2 b hb).2⟩, by rw [h3, Heap.size_push]; exact Nat.lt_succ_of_lt lt⟩
    rw [upd_ne (show b ≠ p by rw [← hp]; exact Nat.ne_of_lt lt)]
    exact (f2 b hb).1
  have st3 : tn 0 q3.heap := T.keep _ _ _ st2 fun b _ o z => by
    rw [h3]
    exact Heap.get?_push_of_some _ z
  have I4 := block_start I3 ok hN f3
  generalize hC : q3.heap.objs.size = C at I4 ⊢
  have pg := hg q3 (upd G2 p (.dT [])) C (cellsFrom (C + 1) scope.names (cloFrom X.env.cells scope.names [])) fp
  have pt := ht q3 (upd G2 p (.dT [])) C (cellsFrom (C + 1) scope.names (cloFrom X.env.cells scope.names [])) fp
  have pk := hk q3 (upd G2 p (.dT [])) C (cellsFrom (C + 1) scope.names (cloFrom X.env.cells scope.names [])) fp
  have pe := he q3 (upd G2 p (.dT [])) C (cellsFrom (C + 1) scope.names (cloFrom X.env.cells scope.names [])) fp
  have nofp : ∀ b ∈ fp, (upd G2 p (.dT [])) b = none := fun b hb => (f3 b hb).1.1
  show codeAny (model X.prog X.w) X.A (.compStart (.DictComp kx vx [⟨tg, iter, ifs, 0⟩] scope pos) 0 (.ref it) (.ref p) (compEnvC scope (cellsFrom (C + 1) scope.names (cloFrom X.env.cells scope.names [])) C X.env)) (compPost (model X.prog X.w) X.A X.xe none (EP X pins τ Q) (.ref p) C) { q3 with heap := pushCells (q3.heap.push { cls := .type "dict", data := .dict #[] }) scope.names }
  have cL : (compEnvC scope (cellsFrom (C + 1) scope.names (cloFrom X.env.cells scope.names [])) C X.env).locals = C := rfl
  generalize compEnvC scope (cellsFrom (C + 1) scope.names (cloFrom X.env.cells scope.names [])) C X.env = ce at I4 pg pt pk pe cL ⊢
  generalize upd G2 p (.dT []) = G3 at I3 I4 pg pt pk pe u0 nofp f3
  generalize hq4 : ({ q3 with heap := pushCells (q3.heap.push { cls := .type "dict", data := .dict #[] }) scope.names } : Shared) = q4 at I4 ⊢
  have st4 : tn 0 q4.heap := T.keep _ _ _ st3 fun b _ o z => by
    rw [← hq4]
    exact pushCells_keeps _ _ _ _ (Heap.get?_push_of_some _ z)
  have stay : ∀ {σ' : L2.St} {G' : Hp} {q' : Shared}, Inv (X.blk q3 G3 scope ce fp) [] σ' G' q' → (∀ b ∈ fp, G' b = none) → ∀ b ∈ fp, FpOk (X.blk q3 G3 scope ce fp) [] G' b := fun {σ' G' q'} I' n b hb =>
    ⟨n b hb, (I'.ok.exf b hb).1, I'.ok.exfs b hb, .inl hb, fun x c e => (I'.ok.exf b hb).2 x c e, fun a ha => absurd (show a ∈ ([] : List (Addr × Obj)) ++ [] from ha) (by simp)⟩
  have loop : codeAny (model X.prog X.w) X.A (.compLoop (.DictComp kx vx [⟨tg, iter, ifs, 0⟩] scope pos) 0 (.ref it) (.ref p) ce) (compPost (model X.prog X.w) X.A X.xe none (EP X pins τ Q) (.ref p) C) q4 := by
    refine compLoop_anyD (fun n q' => ∃ i G', Inv (X.blk q3 G3 scope ce fp) [] (wipe τ (own.map (·.2))) G' q' ∧ tn i q'.heap ∧ (∀ b ∈ fp, G' b = none) ∧ U i n G') ?_ m0 ⟨0, G3, I4, st4, nofp, u0⟩
    rintro n q5 ⟨i, G5, I5, st5, n5, u5⟩
    rcases turn i n G5 u5 with ⟨stop, fin⟩ | ⟨go, Nx, hNx, step⟩
    · refine thnF (T.done (X.blk q3 G3 scope ce fp) rfl rfl rfl hc i [] q5 _ G5 (fun _ _ => False) I5 (stay I5 n5) st5 stop) fun r q6 ⟨hr, I6⟩ => ?_
      subst hr
      have I7 : Inv X pins τ G5 q6 := I3.call' (ch := fp) I6.os I6.base I6.hok I6.bare fun b hb => by
        obtain ⟨_, a1, a2, a3, a4, a5⟩ := (f3 b hb).1
        exact ⟨a3, a1, a4, a5⟩
      have nC : G5 C = none := by
        have z : G5 ce.locals = none := I6.free
        rw [cL] at z
        exact z
      obtain ⟨m, hm, _⟩ := I6.loc
      have hm' : q6.heap.Ns ce.locals m := hm
      rw [cL] at hm'
      have fC : FpOk X pins G5 C := by
        refine I3.fpOk ?_ nC
        rw [← hC]
        exact Nat.le_refl _
      obtain ⟨b0, b1, b2, b3, b4, b5⟩ := fC
      exact ⟨m, hm', fun h'' sb => ⟨.ref p, G5, I7.turned (t' := q6.toks) (fun b o hb e => (sb.2 b hb).trans e) b0 b1 b3 b4 b5, rfl, fin⟩⟩
    · refine thnF (T.item (X.blk q3 G3 scope ce fp) rfl rfl rfl hc i [] q5 _ G5 (fun _ _ => False) I5 (stay I5 n5) st5 go) fun r q6 ⟨u, hr, w6⟩ => ?_
      subst hr
      refine thnF w6 fun _ q7 ⟨x, G7, I7, r7, y7, st7, n7⟩ => ?_
      refine thnF (pg.run _ q7 _ G7 x u _ (I7.pinned (stay I7 n7) (T.obj _ _ st7)) r7 (step x G7 y7)) fun _ q8 ⟨σ8, G8, I8, hw8, w8⟩ => ?_
      refine thnF (pt.run _ q8 σ8 G8 _ I8 w8) fun b q9 ⟨G9, I9, w9⟩ => ?_
      have round : ∀ {q' : Shared} {G' : Hp}, Inv (X.blk q3 G3 scope ce fp) ([] ++ pinsAt fp q7.heap) σ8 G' q' → Nx G' → ∃ m, m < n ∧ ∃ i G', Inv (X.blk q3 G3 scope ce fp) [] (wipe τ (own.map (·.2))) G' q' ∧ tn i q'.heap ∧ (∀ b ∈ fp, G' b = none) ∧ U i m G' := fun {q' G'} I' nx => by
        obtain ⟨m', hm, u'⟩ := hNx G' nx
        have pinned : ∀ b ∈ fp, ∀ o, q7.heap.get? b = some o → q'.heap.get? b = some o ∧ G' b = none := fun b hb o z =>
          have z' := I'.pin (b, o) (List.mem_append_right _ (List.mem_append_right _ (mem_pinsAt hb z)))
          ⟨z'.1, z'.2.1⟩
        refine ⟨m', hm, i + 1, G', (I'.unpinned (pins := [])).weak (by rw [← hw8, wipe_length]) (fun j v z => ?_), T.keep _ _ _ st7 fun b hb o z => (pinned b hb o z).1, fun b hb => ?_, u'⟩
        · rw [← hw8] at z
          exact (wipe_some z).1
        · obtain ⟨o, z, _⟩ := T.obj _ _ st7 b hb
          exact (pinned b hb o z).2
      cases b with
      | false =>
        simp only [Bool.false_eq_true, if_false] at w9 ⊢
        exact round I9 w9
      | true =>
        simp only [if_true] at w9 ⊢
        refine thnF (pk.run _ q9 σ8 G9 _ I9 w9) fun z q10 ⟨yk, G10, I10, r10, w10⟩ => ?_
        refine thnF (pe.run _ q10 σ8 G10 _ I10 w10) fun z2 q11 ⟨yv, G11, I11, r11, kvs, k, a, ek, ha, hpd, hl, nx⟩ => ?_
        subst ek
        cases (show z = Value.ref a from r10)
        exact dt_put (X := X.blk q3 G3 scope ce fp) hu I11 hpd ha hl r11 fun q12 I12 => round I12 nx
  exact codeAny_compStart_dict loop (T.self X.A 0 _ _ _ st4 loop)
end
/-- a walk of a dict comprehension -/
theorem dcT_it {J : It} {n : Nat} {B : Hp → Prop} {Y : Nat → Hp → V → Hp → Prop} (w : Walk J n B Y) {g : TG} {tt : TT} {tk tv : TE} {vs : List Nat} {σ : L2.St} {G1 : Hp} {p : Addr} {Qd : Hp → Prop} (Pv : Nat → Hp → Prop) (h0 : Pv 0 (upd G1 p (.dT []))) (hG : ∀ i H, i ≤ n → Pv i H → B H)
    (hs : ∀ i x H H', i < n → Pv i H → Y i H x H' → g x (wipe σ vs) H' fun τ G2 => wipe τ vs = wipe σ vs ∧ tt τ G2 fun b G3 =>
      if b = true then tk τ G3 fun y G4 => tv τ G4 fun v G5 => ∃ kvs k a, y = .ref a ∧ G5 a = some (.tup (k.map kV)) ∧ G5 p = some (.dT kvs) ∧ kvs.length < sizeLine ∧ Pv (i + 1) (upd G5 p (.dT (putK kvs k v))) else Pv (i + 1) G3) (hd : ∀ H, Pv n H → Qd H) :
    ∃ U : Nat → Nat → Hp → Prop, (∃ m, U 0 m (upd G1 p (.dT []))) ∧ ∀ i m G, U i m G →
      (J.stop i G ∧ Qd G) ∨ (J.go i G ∧ ∃ Nx : Hp → Prop, (∀ G', Nx G' → ∃ m', m' < m ∧ U (i + 1) m' G') ∧ ∀ z G', J.yld i G z G' → g z (wipe σ vs) G' fun τ G2 => wipe τ vs = wipe σ vs ∧ tt τ G2 fun b G3 =>
        if b = true then tk τ G3 fun y G4 => tv τ G4 fun v G5 => ∃ kvs k a, y = .ref a ∧ G5 a = some (.tup (k.map kV)) ∧ G5 p = some (.dT kvs) ∧ kvs.length < sizeLine ∧ Nx (upd G5 p (.dT (putK kvs k v))) else Nx G3) := by
  refine ⟨fun i m H => m = n - i ∧ i ≤ n ∧ Pv i H, ⟨n, rfl, Nat.zero_le _, h0⟩, ?_⟩
  rintro i m H ⟨rfl, hi, p⟩
  rcases Nat.lt_or_ge i n with h | h
  · exact .inr ⟨w.goes i H h (hG i H hi p), Pv (i + 1), fun H' p' => ⟨n - (i + 1), by omega, rfl, h, p'⟩, fun x H' y => hs i x H H' h p (w.yields i H x H' h (hG i H hi p) y)⟩
  · obtain rfl : i = n := by omega
    exact .inl ⟨w.stops H (hG _ H hi p), hd H p⟩
theorem rd_dcT {wi : TI} {g : TG} {tt : TT} {tk tv : TE} {vs : List Nat} {σ : L2.St} {H : Hp} {Q : VK} (h : wi σ H fun J G1 => ∀ p, G1 p = none → ∃ U : Nat → Nat → Hp → Prop, (∃ m, U 0 m (upd G1 p (.dT []))) ∧ ∀ i m G, U i m G →
  (J.stop i G ∧ Q (.ref p) G) ∨ (J.go i G ∧ ∃ Nx : Hp → Prop, (∀ G', Nx G' → ∃ m', m' < m ∧ U (i + 1) m' G') ∧ ∀ z G', J.yld i G z G' → g z (wipe σ vs) G' fun τ G2 => wipe τ vs = wipe σ vs ∧ tt τ G2 fun b G3 =>
    if b = true then tk τ G3 fun y G4 => tv τ G4 fun v G5 => ∃ kvs k a, y = .ref a ∧ G5 a = some (.tup (k.map kV)) ∧ G5 p = some (.dT kvs) ∧ kvs.length < sizeLine ∧ Nx (upd G5 p (.dT (putK kvs k v))) else Nx G3)) : tDcT wi g tt tk tv vs σ H Q := h
end Un

/-! UnZ: repr of lists of pairs. -/
namespace Un
open PySem PySem.Spec PyProof.Rows L2
/-- how a value is shown, and that it can be: depth and weight bounded -/
structure GoodZ (z w : Nat) (d : PyData) : Prop where
  s : d.showable = true
  n : d.hasDict = false
  z : d.depth ≤ z
  l : d.leavesShort 62 = true
  w : d.weight ≤ w
def rReprZ (K : PySem.W.Frag) : List V → Hp → VK → Prop := fun xs H Q => ∃ (x : V) (d : PyData), xs = [x] ∧ Dp K H x d ∧ GoodZ 20 200000 d ∧ Q (.str d.shown) H
theorem call_reprZ {X : Cx} {k : Nat} (hgd : X.A.guards = some []) (hr : Room k X.A) : CallR X (.builtin "repr") (rReprZ X.K) := by
  intro pins s σ H xs us Q I r h
  obtain ⟨x, d, rfl, hd, g, q⟩ := h
  have hsz : d.shown.length ≤ sizeLine := by
    have h1 := PyData.shown_le 62 (by decide) d g.l
    have h2 := g.w
    rw [sizeLine_eq]
    omega
  have base : scalR x → reprS x = d.shown → wpAny (model X.prog X.w) X.A (call (.builtin "repr") us) (EP X pins σ Q) X.xe s := fun h1 h2 => call_reprS pins s σ H [x] us Q I r ⟨x, rfl, h1, by rw [h2]; exact q⟩
  cases hd with
  | non => exact base trivial (by simp only [PyData.shown]; rfl)
  | bl b => exact base trivial (by simp only [PyData.shown]; rfl)
  | int i => exact base (by have h0 := g.s; simp only [PyData.showable, decide_eq_true_eq] at h0; exact h0) (by simp only [PyData.shown]; rfl)
  | str z => exact base (by have := hsz; simp only [PyData.shown] at this; exact this) (by simp only [PyData.shown]; rfl)
  | lst h1 h2 => exact call_reprD hgd hr pins s σ H _ us Q I r ⟨_, _, rfl, .lst h1 h2, g.s, g.n, by have := g.z; omega, hsz, q⟩
  | tup h1 h2 => exact call_reprD hgd hr pins s σ H _ us Q I r ⟨_, _, rfl, .tup h1 h2, g.s, g.n, by have := g.z; omega, hsz, q⟩
theorem rd_reprZ {K : PySem.W.Frag} {H : Hp} {Q : VK} {x : V} {d : PyData} (h : Dp K H x d) (g : GoodZ 20 200000 d) (q : Q (.str d.shown) H) : rReprZ K [x] H Q := ⟨x, d, rfl, h, g, q⟩
theorem GoodZ.mono {z w z' w' : Nat} {d : PyData} (g : GoodZ z w d) (h1 : z ≤ z') (h2 : w ≤ w') : GoodZ z' w' d := ⟨g.s, g.n, Nat.le_trans g.z h1, g.l, Nat.le_trans g.w h2⟩
/-- a pair that may be shown -/
structure OkP (q : List Nat × Int) : Prop where
  k : q.1.length ≤ 300
  c : ∀ c ∈ q.1, c < 1000
  v : q.2.natAbs < 2 ^ 60
theorem int_good {i : Int} (h : i.natAbs < 2 ^ 60) : GoodZ 0 61 (.int i) := by
  have h1 : i.natAbs.log2 < 60 := PySem.Flt.log2_lt_of (by decide) h
  have h2 := PySem.int_text_length_le (a := i) (k := 60) (by decide) h1
  refine ⟨?_, rfl, ?_, ?_, ?_⟩
  · simp only [PyData.showable, decide_eq_true_eq]
    omega
  · simp [PyData.depth]
  · simp only [PyData.leavesShort, PyData.shown]
    refine decide_eq_true ?_
    show (Str.ofString (toString i)).length ≤ 62
    rw [PySem.ofString_length]
    omega
  · simp only [PyData.weight]
    split <;> omega
theorem str_good {l : List Nat} (h : ∀ c ∈ l, c < 1000) : GoodZ 0 l.length (.str (tx l)) := by
  refine ⟨rfl, rfl, by simp [PyData.depth], ?_, ?_⟩
  · simp only [PyData.leavesShort, List.all_eq_true, decide_eq_true_eq]
    intro c hc
    rw [tx_cps] at hc
    have := h c hc
    have e : (1000 : Nat) < 16 ^ 8 := by decide
    omega
  · simp only [PyData.weight]
    simp [tx]
theorem bool_good (b : Bool) : GoodZ 0 0 (.bool b) := by cases b <;> exact ⟨rfl, rfl, by decide +kernel, rfl, by decide +kernel⟩
theorem pair_good {q : List Nat × Int} (o : OkP q) : GoodZ 1 400 (pD q) := by
  have a := str_good o.c
  have b := int_good o.v
  have k := o.k
  unfold pD
  refine ⟨?_, ?_, ?_, ?_, ?_⟩
  · simp only [PyData.showable, PyData.showableAll, Bool.and_eq_true]
    exact ⟨trivial, b.s, trivial⟩
  · simp only [PyData.hasDict, PyData.hasDictAll, Bool.or_false]
  · simp [PyData.depth, PyData.depthAll]
  · simp only [PyData.leavesShort, PyData.leavesShortAll, Bool.and_true, Bool.and_eq_true]
    exact ⟨a.l, b.l⟩
  · have h1 := a.w
    have h2 := b.w
    simp only [PyData.weight, PyData.weightAll] at h1 h2 ⊢
    omega
/-- a list of pairs -/
def plD (m : Tab) : PyData := .list (m.map pD)
theorem plD_all : ∀ {m : Tab}, (∀ q ∈ m, OkP q) → PyData.showableAll (m.map pD) = true ∧ PyData.hasDictAll (m.map pD) = false ∧ PyData.depthAll (m.map pD) ≤ 1 ∧ PyData.leavesShortAll 62 (m.map pD) = true ∧ PyData.weightAll (m.map pD) ≤ 401 * m.length
  | [], _ => by simp [PyData.showableAll, PyData.hasDictAll, PyData.depthAll, PyData.leavesShortAll, PyData.weightAll]
  | q :: r, h => by
    obtain ⟨h1, h2, h3, h4, h5⟩ := plD_all (m := r) fun x hx => h x (List.mem_cons_of_mem _ hx)
    have g := pair_good (h q List.mem_cons_self)
    have gz := g.z
    have gw := g.w
    rw [List.map_cons]
    refine ⟨?_, ?_, ?_, ?_, ?_⟩
    · simp only [PyData.showableAll, g.s, h1, Bool.and_true]
    · simp only [PyData.hasDictAll, g.n, h2, Bool.or_false]
    · simp only [PyData.depthAll]
      omega
    · simp only [PyData.leavesShortAll, g.l, h4, Bool.and_true]
    · simp only [PyData.weightAll, List.length_cons]
      omega
theorem plD_good {m : Tab} (h : ∀ q ∈ m, OkP q) (hm : m.length ≤ 200) : GoodZ 2 80200 (plD m) := by
  obtain ⟨h1, h2, h3, h4, h5⟩ := plD_all h
  unfold plD
  refine ⟨?_, ?_, ?_, ?_, ?_⟩
  · simp only [PyData.showable, h1]
  · simp only [PyData.hasDict, h2]
  · simp only [PyData.depth]
    omega
  · simp only [PyData.leavesShort, h4]
  · simp only [PyData.weight]
    omega
theorem two_good {z w : Nat} {a b : PyData} (g : GoodZ z w a) (k : GoodZ z w b) : GoodZ (z + 1) (2 * w + 2) (.list [a, b]) := by
  have gz := g.z
  have kz := k.z
  have gw := g.w
  have kw := k.w
  refine ⟨?_, ?_, ?_, ?_, ?_⟩
  · simp only [PyData.showable, PyData.showableAll, g.s, k.s, Bool.and_true]
  · simp only [PyData.hasDict, PyData.hasDictAll, g.n, k.n, Bool.or_false]
  · simp only [PyData.depth, PyData.depthAll]
    omega
  · simp only [PyData.leavesShort, PyData.leavesShortAll, g.l, k.l, Bool.and_true]
  · simp only [PyData.weight, PyData.weightAll]
    omega
theorem Prs.dp {K : PySem.W.Frag} {H : Hp} : ∀ {m : Tab} {us : List V}, Prs H m us → DpAll K H us (m.map pD)
  | _, _, .nil => .nil
  | _, _, .cons ⟨T, e, h⟩ t => by
    subst e
    exact .cons (.tup (SqT.of h) (.cons (.str _) (.cons (.int _) .nil))) (Prs.dp t)
theorem Prs.list {K : PySem.W.Frag} {H : Hp} {a : Addr} {m : Tab} {us : List V} (h : H a = some (.lst us)) (p : Prs H m us) : Dp K H (.ref a) (plD m) := .lst (SqL.of h) p.dp
/-- [(key, table[key]) for key in keys] -/
theorem lc_prs {K : PySem.W.Frag} {g : TG} {tt : TT} {te : TE} {vs : List Nat} {σ : L2.St} {H1 : Hp} {r e : Addr} {m : Tab} {js : List (List Nat)} {Qd : Hp → Prop} (er : H1 r = some (.lst (js.map fun k => V.str (tx k)))) (ne : H1 e = none) (hin : ∀ k ∈ js, k ∈ keysT m) (hl : js.length ≤ 1000)
    (hs : ∀ (key : List Nat) (v : Int) (H2 : Hp) (Q' : VK) (B : Hp → Prop), key ∈ js → getT m key = some v → Same H1 H2 → (∀ p, H2 p = none → Q' (.ref p) (upd H2 p (.tup [.str (tx key), .int v]))) →
      g (.str (tx key)) (wipe σ vs) H2 fun σ2 H3 => wipe σ2 vs = wipe σ vs ∧ tt σ2 H3 fun b H4 => if b = true then te σ2 H4 Q' else B H4)
    (hd : ∀ us H, Same H1 H → H e = some (.lst us) → Prs H (prT m js) us → Qd H) :
    ∃ W : Nat → Nat → Hp → Prop, (∃ n, W 0 n (upd H1 e (.lst []))) ∧ ∀ i n H, W i n H →
      ((Itl K r).stop i H ∧ Qd H) ∨ ((Itl K r).go i H ∧ ∃ Nx : Hp → Prop, (∀ H', Nx H' → ∃ m', m' < n ∧ W (i + 1) m' H') ∧ ∀ x H', (Itl K r).yld i H x H' → g x (wipe σ vs) H' fun σ2 H2 => wipe σ2 vs = wipe σ vs ∧ tt σ2 H2 fun b H3 =>
        if b = true then te σ2 H3 fun y H4 => ∃ acc, H4 e = some (.lst acc) ∧ acc.length < sizeLine ∧ Nx (upd H4 e (.lst (acc ++ [y]))) else Nx H3) := by
  refine lc_it (walk_list (K := K) (a := r) (xs := js.map fun k => V.str (tx k))) (fun i H' => Same H1 H' ∧ ∃ us, H' e = some (.lst us) ∧ Prs H' (prT m (js.take i)) us) ⟨same_upd ne, [], upd_same, .nil⟩ (fun i H' _ h => SqL.of (h.1 _ _ er)) ?_ ?_
  · rintro i x H2 H2' hi ⟨s2, us, eu, pu⟩ ⟨rfl, hx⟩
    obtain ⟨key, hk, rfl⟩ := get_map hx
    have hkj := List.mem_of_getElem? hk
    obtain ⟨v, hv⟩ := getT_some (hin key hkj)
    refine hs key v _ _ _ hkj hv s2 (fun p hp => ?_)
    have hpe : e ≠ p := fun z => by
      rw [← z, eu] at hp
      cases hp
    have hz : us.length < sizeLine := by
      rw [← pu.len, prT_len, List.length_take]
      exact small1000 (by omega)
    refine ⟨us, by rw [upd_ne hpe]; exact eu, hz, same_mut (same_mut s2 (same_none s2 hp)) ne, _, upd_same, ?_⟩
    have e1 : prT m (js.take (i + 1)) = prT m (js.take i) ++ [(key, v)] := by
      unfold prT
      rw [List.take_add_one, hk, Option.toList_some, List.map_append]
      show _ ++ [(key, (getT m key).getD 0)] = _
      rw [hv]
      rfl
    rw [e1]
    refine (pu.keep fun T l h => ?_).app (Prs.one ?_)
    · have h1 : T ≠ e := fun z => by
        rw [z, eu] at h
        cases h
      have h2 : T ≠ p := fun z => by
        rw [z, hp] at h
        cases h
      rw [upd_ne h1, upd_ne h2]
      exact h
    · rw [upd_ne hpe.symm, upd_same]
  · rintro H2 ⟨s2, us, eu, pu⟩
    rw [List.length_map, List.take_length] at pu
    exact hd us H2 s2 eu pu
theorem prT_ok {m : Tab} {ks : List (List Nat)} (h : ∀ q ∈ m, OkP q) (hk : ∀ k ∈ ks, k ∈ keysT m) : ∀ q ∈ prT m ks, OkP q := by
  intro q hq
  obtain ⟨k, hk1, rfl⟩ := List.mem_map.mp hq
  obtain ⟨v, hv⟩ := getT_some (hk k hk1)
  rw [hv]
  unfold getT at hv
  cases e : m.find? fun p => decide (p.1 = k) with
  | none => rw [e] at hv; cases hv
  | some p =>
    rw [e] at hv
    cases hv
    have h1 := List.find?_some e
    have h2 := h p (List.mem_of_find?_eq_some e)
    have h3 : p.1 = k := of_decide_eq_true h1
    rw [← h3]
    exact h2
end Un

/-! UnTry: o[i] of an own class within try; isinstance of a caught error with a field. -/
namespace Un
open PySem PySem.Spec PyProof.Rows L2
section
variable {X : Cx} {CX : CXT} {k : Nat} {C f : Addr} {fd : FuncData} {ps : List Str} {sp : Sp} {E : XK}
theorem run_in1S {pins : List (Addr × Obj)} {σ : L2.St} {H : Hp} {s : Shared} {Q : VK} {us : List Value} {vs : List V} (F : FnOk X.prog X.w X.K X.mg X.base CX k f fd ps sp) (hr : Room (k + 1) X.A) (hb : Binds X.K fd ps []) (hx : PassesAt CX X σ E)
    (I : Inv X pins σ H s) (r : Vals vs us) (h : sp vs H Q E) : wpAny (model X.prog X.w) X.A.in1 (call (.ref f) us) (EP X pins σ Q) X.xe s := by
  have hl : us.length = ps.length := by
    rw [← r.length]
    exact F.len _ _ _ _ h
  have hbd := hb s us I.kIn (by simpa using hl)
  rw [List.append_nil] at hbd
  refine wpAny_call (codeAny_mono (F.run X.A.in1 X.stack s H ⟨us, []⟩ us vs Q E hr.in1 I.env0.in1 hbd r h) fun q s' hq => ?_)
  match q, hq with
  | .error e, hq => exact hx pins H s e s' I hq
  | .ok (.ret u), hq => exact I.after hq
  | .ok .next, hq => exact hq.elim
  | .ok .brk, hq => exact hq.elim
  | .ok .cont, hq => exact hq.elim
def tGetS (C : Addr) (sp : Sp) (E : L2.St → XK) (ta tb : TE) : TE := fun σ H Q => ta σ H fun x H1 => tb σ H1 fun y H2 => rGetO C sp (E σ) x y H2 Q
theorem pe_getGS {a b : Expr} {ta tb : TE} {pos : Pos} {j : Nat} {E : L2.St → XK} (g : MetG X.prog X.w X.K X.mg X.base CX C "__getitem__" ps k sp) (hr : Room j X.A) (hk : k + 1 ≤ j) (hx : ∀ σ, PassesAt CX X σ (E σ)) (pa : PE X a ta) (pb : PE X b tb)
    (hs : ∀ (x : Addr) (i : Value), subscripted b true (.ref x) i = runValue (.builtin "lifetime.subscript" ⟨[.ref x, i], []⟩) := by exact fun _ _ => by with_unfolding_all rfl) : PE X (.Subscript a b pos) (tGetS C sp E ta tb) := by
  obtain ⟨f, fd, c, hm, F, hfn, hb⟩ := g
  refine ⟨fun pins s σ H Q I h => Subscript_ (binT pa pb I h fun v u s2 x y H2 I2 rx ry q => ?_)⟩
  obtain ⟨p, dx, fs, rfl, hp, q⟩ := q
  cases (show v = Value.ref p from rx)
  obtain ⟨mA, O, _⟩ := ins_get I2.hok hp
  obtain ⟨od, J, _⟩ := O.look
  obtain ⟨m, hF⟩ := I2.fr
  exact PySem.W.sub_K hF I2.ok.mod.kin J hm.at_ hfn hm.fn (run_in1S F (hr.mono hk) hb (hx σ) I2 (show Vals [V.ref p, y] [Value.ref p, u] from .cons rfl (.cons ry .nil)) q) (hs p u)
end
theorem rd_getS {C : Addr} {sp : Sp} {E : L2.St → XK} {ta tb : TE} {σ : L2.St} {H : Hp} {Q : VK} (h : ta σ H fun x H1 => tb σ H1 fun y H2 => rGetO C sp (E σ) x y H2 Q) : tGetS C sp E ta tb σ H Q := h
/-- repr within a suite -/
theorem call_reprU {X : Cx} (hgd : X.A.guards = some []) (hu : X.A.units + 64 < cLine) : CallR X (.builtin "repr") (rReprZ X.K) := by
  intro pins s σ H xs us Q I r h
  obtain ⟨x, d, rfl, hd, g, q⟩ := h
  have hsz : d.shown.length ≤ sizeLine := by
    have h1 := PyData.shown_le 62 (by decide) d g.l
    have h2 := g.w
    rw [sizeLine_eq]
    omega
  have base : scalR x → reprS x = d.shown → wpAny (model X.prog X.w) X.A (call (.builtin "repr") us) (EP X pins σ Q) X.xe s := fun h1 h2 => call_reprS pins s σ H [x] us Q I r ⟨x, rfl, h1, by rw [h2]; exact q⟩
  have deep : ∀ a, x = .ref a → wpAny (model X.prog X.w) X.A (call (.builtin "repr") us) (EP X pins σ Q) X.xe s := by
    rintro a rfl
    obtain ⟨u, rfl, rx⟩ := vals1 r
    obtain ⟨as, rd⟩ := Dp.reads I d _ u hd rx
    cases rx
    have hz := g.z
    refine repr_of_reads' rd g.s (PyData.noDict_hsm g.n) hgd (by omega) (fun _ _ e => e) (fun h' u tk hk => ?_) hsz
    exact ⟨.str d.shown, H, I.kept (t' := tk) hk, ⟨u, rfl⟩, q⟩
  cases hd with
  | non => exact base trivial (by simp only [PyData.shown]; rfl)
  | bl b => exact base trivial (by simp only [PyData.shown]; rfl)
  | int i => exact base (by have h0 := g.s; simp only [PyData.showable, decide_eq_true_eq] at h0; exact h0) (by simp only [PyData.shown]; rfl)
  | str z => exact base (by have := hsz; simp only [PyData.shown] at this; exact this) (by simp only [PyData.shown]; rfl)
  | lst h1 h2 => exact deep _ rfl
  | tup h1 h2 => exact deep _ rfl
/-- isinstance(e, T): e just caught, of an own class, with its fields -/
def rIsS (K : PySem.W.Frag) (a : Addr) (cls : Value) (d : Option Addr) : List V → Hp → VK → Prop := fun xs H Q => ∃ (D : Addr) (T : String) (b : Bool) (dd : Addr) (fs : List (Str × V)), xs = [.ref a, .ty T] ∧ cls = .ref D ∧ d = some dd ∧ H dd = some (.xd fs) ∧ ExcC K D ∧
  PySem.W.kitOne K (.ref D) (.type T) = some b ∧ Q (.bl b) H
theorem call_isS {X : Cx} {a : Addr} {oe : Obj} {cls : Value} {d : Option Addr} {pn : List (Addr × Obj)} (hz : Zc cls d oe) (hf : ∃ vs, oe.data = .fields vs) : CallR (X.suite a ((a, oe) :: pn)) (.builtin "isinstance") (rIsS X.K a cls d) := by
  intro pins s σ H xs us Q I r h
  obtain ⟨D, T', b, dd, fs, rfl, rfl, rfl, ea, T, e, q⟩ := h
  obtain ⟨u1, u2, rfl, r1, r2⟩ := vals2 r
  cases (show u1 = Value.ref a from r1)
  cases (show u2 = Value.type T' from r2)
  obtain ⟨ha, _⟩ := I.pin (a, oe) (List.mem_append_left _ List.mem_cons_self)
  obtain ⟨vs, hd⟩ := hf
  have hx : ObjOk X.prog X.w H s.heap dd (.xd fs) := I.hok dd _ ea
  obtain ⟨mA, hns, hr⟩ := hx
  obtain ⟨od, ho, hl⟩ := lookIn_ns hns
  have J : PySem.W.InstAt s.heap a oe D (some od) := ⟨ha, hz.1, by unfold PySem.W.notCls; rw [hd] <;> rfl, by rw [hz.2]; exact ho⟩
  exact PySem.W.kia_one (PySem.W.kitx_excD T.hg T.hk T.hs T.hd T.ha T.hn T.ht T.hm) I.kIn J e (fun z => nomatch z) fun tk => ⟨.bl b, H, I.tok tk, rfl, q⟩
end Un

/-! UnNe: x != y where x's own class has __eq__ and no __ne__. -/
namespace Un
open PySem PySem.Spec PyProof.Rows L2
section
variable {prog : Program} {w : World} {A : Around} {E : Value → Shared → Prop} {s : Shared} {K : PySem.W.Frag} {x C f L : Addr} {ox : Obj} {od : Option Obj} {b tb : Value} {h₀ : Heap} {m : Str → Option Value}
theorem ne_entry (X : K.In s.heap) (I : PySem.W.InstAt s.heap x ox C od) (hs : PySem.W.findIn K (.ref C) "__eq__" = some (some (.ref f))) (hf : PySem.W.isFn K (.ref f) = true) (hu : A.units < cLine) {Q : Fin → Shared → Prop}
    (hcall : wpAny (model prog w) A (call (.ref f) [.ref x, b]) (fun v s' => ∃ c, v = .bool c ∧ Q (.done (.ret (.bool (!c)))) s') E s) :
    wpAny (model prog w) A (Builtin.«object.__ne__» ⟨[.ref x, b], []⟩) Q E s := by
  unfold Builtin.«object.__ne__»
  repeat (first
    | with_reducible refine wpAny_cRoomFor hu ?_
    | (refine wpAny_bind (m := callSpecialIfBound? (.ref x) (Str.ofString "__eq__") [b])
        (PySem.W.ifBound_K X I hs hf (wpAny_mono hcall (fun r s' hr => by
          obtain ⟨c, rfl, hq⟩ := hr
          repeat (first | exact hq | exact wpAny_pure hq | exact wpAny_truthy_bool hq | (refine wpAny_bind (m := truthy (.bool _)) (wpAny_truthy_bool ?_)) | wp_step)) fun _ _ e => e)))
    | wp_step)
theorem ifBound_ne {M : Model} {args : List Value} {Q : Option Value → Shared → Prop} (X : K.In s.heap) (I : PySem.W.InstAt s.heap x ox C od) (hs : PySem.W.findIn K (.ref C) "__ne__" = some (some (.builtin "object.__ne__")))
    (h : wpAny M A (call (.builtin "object.__ne__") (.ref x :: args)) (fun v => Q (some v)) E s) : wpAny M A (callSpecialIfBound? (.ref x) "__ne__" args) Q E s := by
  simp only [callSpecialIfBound?, bindSpecialIfBound?]
  refine wpAny_holding (wpAny_bind (wpAny_bind (wpAny_bind (I.type.here ((PySem.W.looks_findIn X hs).here ?_)))))
  refine wpAny_bind (wpAny_askSetting (wpAny_ite ?_))
  have fin : wpAny M A (call (.builtin "object.__ne__") ([.ref x] ++ args) >>= fun v => pure (some v)) Q E s := wpAny_bind (wpAny_mono h (fun v s' h' => wpAny_pure h') fun _ _ h' => h')
  split
  · exact wpAny_bind (wpAny_of_eq (PySem.F.cmp_object.ne.bind _) (wpAny_pure (by exact fin)))
  · exact wpAny_tryCatch (wpAny_bind (wpAny_of_eq (PySem.F.cmp_object.ne.bind _) (wpAny_pure (by exact fin))))
theorem ne_K {Q : Value → Shared → Prop} (hu : A.units + 1 < cLine) (X : K.In s.heap) (I : PySem.W.InstAt s.heap x ox C od) (hb : PySem.W.Looks (model prog w) s.heap (typeOf b) tb) (hn : PySem.W.notFirst K C tb = true)
    (he : PySem.W.findIn K (.ref C) "__eq__" = some (some (.ref f))) (hf : PySem.W.isFn K (.ref f) = true) (hne : PySem.W.findIn K (.ref C) "__ne__" = some (some (.builtin "object.__ne__"))) (hm : PySem.W.mroIn K C (.type "object") = some true)
    (h : wpAny (model prog w) A.in1 (call (.ref f) [.ref x, b]) (fun v s' => ∃ c, v = .bool c ∧ Q (.bool (!c)) s') E s) : wpAny (model prog w) A (richCompare .NotEq (.ref x) b) Q E s := by
  have one : wpAny (model prog w) A (tryCompare (.ref x) "__ne__" b) (fun r s' => ∃ v, r = some v ∧ Q v s') E s := by
    unfold tryCompare
    refine wpAny_bind (ifBound_ne X I hne (wpAny_call (codeAny_call_builtin PySem.F.cmp_object.ne.plain PySem.F.cmpEntry_ne (PySem.W.check_slot PySem.F.cmpKind_ne PySem.F.cmpSplit_ne (I.type.andThen (PySem.W.looks_mroIn X hm)) (PySem.F.cmpArgs_ne _ _)
      (ne_entry (A := A.in1) X I he hf hu (wpAny_mono h (fun v s' hv => ?_) fun _ _ e => e))))))
    obtain ⟨c, rfl, hq⟩ := hv
    refine ⟨c, rfl, ?_⟩
    first | exact wpAny_pure ⟨_, rfl, hq⟩ | exact wpAny_pure (wpAny_pure ⟨_, rfl, hq⟩) | exact ⟨_, rfl, hq⟩
  unfold richCompare
  simp only [oneThing_ref]
  refine wpAny_holding (wpAny_bind (wpAny_cRoomFor (Nat.lt_of_succ_lt hu) ?_))
  rw [cmpInfo_NotEq]
  dsimp only
  refine wpAny_bind (I.type.here (wpAny_bind (hb.here ?_)))
  split
  · rename_i q
    have e : PySem.W.subIn K tb (.ref C) = some false := by
      rcases Bool.or_eq_true_iff.mp hn with e | e
      · rw [beq_iff_eq.mp e] at q; simp at q
      · exact beq_iff_eq.mp e
    refine wpAny_bind ((PySem.W.looks_subIn X e).here ?_)
    simp only [Bool.false_eq_true, if_false]
    refine wpAny_bind (wpAny_mono one (fun r s' z => ?_) fun _ _ e => e)
    obtain ⟨v, rfl, hq⟩ := z
    exact wpAny_pure hq
  · refine wpAny_bind (wpAny_pure ?_)
    simp only [Bool.false_eq_true, if_false]
    refine wpAny_bind (wpAny_mono one (fun r s' z => ?_) fun _ _ e => e)
    obtain ⟨v, rfl, hq⟩ := z
    exact wpAny_pure hq
end
section
variable {X : Cx} {CX : CXT} {k : Nat} {C f : Addr} {fd : FuncData} {ps : List Str} {sp : Sp} {E : XK}
/-- o != y -/
def rNeO (C : Addr) (sp : Sp) (E : XK) (T : V → Hp → Prop) : R2 := fun x y H Q => ∃ a dx fs, x = .ref a ∧ H a = some (.ins C dx fs) ∧ T y H ∧ sp [.ref a, y] H (fun r H' => ∃ b, r = .bl b ∧ Q (.bl (!b)) H') E
/-- no __ne__ of its own -/
structure NeK (K : PySem.W.Frag) (C : Addr) : Prop where
  ne : PySem.W.findIn K (.ref C) "__ne__" = some (some (.builtin "object.__ne__"))
  mr : PySem.W.mroIn K C (.type "object") = some true
theorem op_neO {T : V → Hp → Prop} (hT : Right X C T) (hN : NeK X.K C) (hm : Meth X.K C "__eq__" f) (F : FnOk X.prog X.w X.K X.mg X.base CX k f fd ps sp) (hr : Room (k + 1) X.A) (hb : Binds X.K fd ps []) (hx : Passes CX X E) : OpR X (compareOp .NotEq) (rNeO C sp E T) := by
  intro pins s σ H x y v u Q I rx ry h
  obtain ⟨a, dx, fs, rfl, ha, ht, h⟩ := h
  cases (show v = Value.ref a from rx)
  obtain ⟨mA, O, _⟩ := ins_get I.hok ha
  obtain ⟨od, J, _⟩ := O.look
  obtain ⟨t, hL, hn⟩ := hT pins σ H s y u I ry ht
  have hu : X.A.units + 1 < cLine := by have := hr.units; omega
  unfold compareOp
  refine ne_K hu I.kIn J hL hn hm.at_ hm.fn hN.ne hN.mr (wpAny_mono (run_in1 F hr hb hx I (show Vals [V.ref a, y] [Value.ref a, u] from .cons rfl (.cons ry .nil)) h) (fun r s' hs => ?_) fun _ _ e => e)
  obtain ⟨z, H', I', rz, b, rfl, q⟩ := hs
  cases (show r = Value.bool b from rz)
  exact ⟨b, rfl, .bl (!b), H', I', rfl, q⟩
theorem ne_G {j : Nat} {T : V → Hp → Prop} (hT : Right X C T) (hN : NeK X.K C) (g : MetG X.prog X.w X.K X.mg X.base CX0 C "__eq__" ps k sp) (hr : Room j X.A) (hk : k + 1 ≤ j) : OpR X (compareOp .NotEq) (rNeO C sp E0 T) := by
  obtain ⟨f, fd, c, M, F, i, b⟩ := g
  exact op_neO hT hN M F (hr.mono hk) b pass0
end
/-- what may stand on the right of == and != : a store, a list, a dict -/
def RightO (C : Addr) (y : V) (H : Hp) : Prop := ∃ a, y = .ref a ∧ ((∃ dx fs, H a = some (.ins C dx fs)) ∨ (∃ xs, H a = some (.lst xs)) ∨ ∃ kvs, H a = some (.dK kvs))
theorem right_o {X : Cx} {C : Addr} (hi : InsK X.K C) : Right X C (RightO C) := by
  rintro pins σ H s y u I ry ⟨a, rfl, h⟩
  cases (show u = Value.ref a from ry)
  rcases h with ⟨dx, fs, h⟩ | ⟨xs, h⟩ | ⟨kvs, h⟩
  · obtain ⟨mA, O, _⟩ := ins_get I.hok h
    obtain ⟨od, J, _⟩ := O.look
    exact ⟨.ref C, J.type, hi.nf⟩
  · obtain ⟨_, its, n, _, e⟩ := (show ObjOk X.prog X.w H s.heap a (.lst xs) from I.hok a _ h)
    exact ⟨.type "list", (PySem.W.Looks.ld e).andThen .now, (hi.no "list" (by decide)).2⟩
  · obtain ⟨_, _, vs, _, o, es, ep, e, x, _⟩ := (show ObjOk X.prog X.w H s.heap a (.dK kvs) from I.hok a _ h)
    have hc : o.cls = .type "dict" := x.1
    exact ⟨.type "dict", hc ▸ (PySem.W.Looks.ld e).andThen .now, (hi.no "dict" (by decide)).2⟩
end Un

/-! UnMin: min of two texts. -/
namespace Un
open PySem PySem.Spec PyProof.Rows L2
theorem cmp_txt {prog : Program} {w : World} {A : Around} {its : Array Value} (z : Nat → Str) (hz : ∀ (i : Nat) (v : Value), its[i]? = some v → ∃ t, v = Value.str (z i) t) :
    CmpOf prog w A .Lt (fun i v => its[i]? = some v) (fun i j => decide ((z i).cps.toList < (z j).cps.toList)) := by
  intro i j a b s Q E ha hb q
  obtain ⟨t, rfl⟩ := hz i a ha
  obtain ⟨u, rfl⟩ := hz j b hb
  exact P.lt_str q
theorem min_txt {prog : Program} {w : World} {A : Around} {E : Value → Shared → Prop} {s : Shared} {x y : Str} {t u : Tok} {Q : Value → Shared → Prop} (hh : A.handled = none)
    (q : ∀ g tk (v : Value), (v = Value.str x t ∨ v = Value.str y u) → (∀ d o, s.heap.get? d = some o → g.get? d = some o) → Q v { s with heap := g, toks := tk }) : wpAny (model prog w) A (call (.builtin "min") [.str x t, .str y u]) Q E s := by
  have sz : (s.heap.push { cls := .type "tuple", data := .seq #[.str x t, .str y u] }).objs.size = s.heap.objs.size + 1 := by rw [Heap.size_push]
  have tp : (s.heap.push { cls := .type "tuple", data := .seq #[.str x t, .str y u] }).IsTuple s.heap.objs.size #[.str x t, .str y u] := ⟨_, Heap.get?_push_size _ rfl, rfl, 0, rfl⟩
  have two : ∀ (i : Nat) (v : Value), (#[Value.str x t, Value.str y u])[i]? = some v → v = .str x t ∧ i = 0 ∨ v = .str y u ∧ i = 1 := fun i v e => by
    match i, e with
    | 0, e => exact .inl ⟨(Option.some.inj e).symm, rfl⟩
    | 1, e => exact .inr ⟨(Option.some.inj e).symm, rfl⟩
    | i + 2, e => simp at e
  refine call_min_two (wpAny_pyIter_tuple tp ?_)
  refine ⟨_, _, [_], _, _, _, _, rfl, Walks.tuple (A := A.in1) hh _ s.heap.objs.size (by rw [sz]; exact (Nat.succ_ne_self _).symm) #[.str x t, .str y u], ⟨⟨_, Heap.get?_push_size _ rfl, rfl, rfl⟩, tp.push _⟩, fun d hd => ?_, by simp, cmp_txt (fun i => if i = 0 then x else y) (fun i v e => ?_), fun v g tk hp hk => ?_⟩
  · show d < ((s.heap.push _).push _).objs.size
    rw [Heap.size_push, sz]
    simp only [List.mem_cons, List.not_mem_nil, or_false] at hd
    rcases hd with rfl | rfl
    · rw [sz]; exact Nat.lt_succ_self _
    · exact Nat.lt_succ_of_lt (Nat.lt_succ_self _)
  · rcases two i v e with ⟨rfl, rfl⟩ | ⟨rfl, rfl⟩
    · exact ⟨t, rfl⟩
    · exact ⟨u, rfl⟩
  · refine q g tk v ?_ fun d o e => ?_
    · rcases two _ v hp with h | h
      · exact .inl h.1
      · exact .inr h.1
    · refine hk d o (fun hm => ?_) (Heap.get?_push_of_some _ (Heap.get?_push_of_some _ e))
      have l := Heap.lt_size e
      rw [List.mem_singleton.mp hm, sz] at l
      exact absurd l (Nat.not_lt_of_le (Nat.le_succ _))
def rMinX : List V → Hp → VK → Prop := fun xs H Q => ∃ a b, xs = [.str (tx a), .str (tx b)] ∧ ∀ c, (c = a ∨ c = b) → Q (.str (tx c)) H
theorem call_minX {X : Cx} (hc : X.calm = true) : CallR X (.builtin "min") rMinX := by
  intro pins s σ H xs us Q I r h
  obtain ⟨a, b, rfl, q⟩ := h
  obtain ⟨u1, u2, rfl, ⟨t1, rfl⟩, ⟨t2, rfl⟩⟩ := vals2 r
  refine min_txt (I.ok.hd hc) fun g tk v hv hk => ?_
  rcases hv with rfl | rfl
  · exact ⟨.str (tx a), H, I.kept hk, ⟨t1, rfl⟩, q a (.inl rfl)⟩
  · exact ⟨.str (tx b), H, I.kept hk, ⟨t2, rfl⟩, q b (.inr rfl)⟩
theorem rd_minX {H : Hp} {Q : VK} {a b : List Nat} (q : ∀ c, (c = a ∨ c = b) → Q (.str (tx c)) H) : rMinX [.str (tx a), .str (tx b)] H Q := ⟨a, b, rfl, q⟩
def rMinI : List V → Hp → VK → Prop := fun xs H Q => ∃ i j, xs = [.int i, .int j] ∧ Q (.int (if j < i then j else i)) H
theorem call_min2X {X : Cx} (hc : X.calm = true) : CallR X (.builtin "min") rMinI := call_min2 hc
theorem rd_minI {H : Hp} {Q : VK} {i j : Int} (q : Q (.int (if j < i then j else i)) H) : rMinI [.int i, .int j] H Q := ⟨i, j, rfl, q⟩
end Un

/-! UnHds: try with several except clauses, each with a name or without. -/
namespace Un
open PySem PySem.Spec PyProof.Rows L2
/-- an except clause: its class, the slot of its name, its suite's reading -/
abbrev Hd := Value × Option Nat × (Addr → Value → Option Addr → TS)
def clause (a : Addr) (cls : Value) (d : Option Addr) (D : Ends) : Option Nat → (Addr → Value → Option Addr → TS) → L2.St → Hp → Prop
  | none, t, ρ, G => t a cls d D ρ G
  | some i, t, ρ, G => t a cls d { nx := fun ρ1 G1 => D.nx (ρ1.set i none) G1, rt := D.rt, bk := fun ρ1 G1 => D.bk (ρ1.set i none) G1, ct := fun ρ1 G1 => D.ct (ρ1.set i none) G1 } (ρ.set i (some (.ref a))) G
def wHds (K : PySem.W.Frag) (W0 : WX) (D : Ends) : List Hd → WX
  | [] => W0
  | (c, i, t) :: r => fun cls d ρ G => ∃ b, PySem.W.exmOne K cls c = some b ∧ (b = true → ∀ a, G a = none → clause a cls d D i t ρ G) ∧ (b = false → wHds K W0 D r cls d ρ G)
inductive Hds (X : Cx) : List ExceptHandler → List Hd → Prop
  | nil : Hds X [] []
  | bare {x : Str} {c : Value} {t : Addr → Value → Option Addr → TS} {st : Stmt} {sts : List Stmt} {p1 p2 : Pos} {es : List ExceptHandler} {l : List Hd} (nc : Names X x c)
      (su : ∀ (a : Addr) (ob : Obj) (cls : Value) (d : Option Addr) (pn : List (Addr × Obj)), Zc cls d ob → (∃ fs, ob.data = .fields fs) → PSs (X.suite a ((a, ob) :: pn)) (st :: sts) (t a cls d)) (r : Hds X es l) :
      Hds X (.ExceptHandler (some (.Name x p1)) none (st :: sts) p2 :: es) ((c, none, t) :: l)
  | as {x n : Str} {i : Nat} {c : Value} {t : Addr → Value → Option Addr → TS} {st : Stmt} {sts : List Stmt} {p1 p2 : Pos} {es : List ExceptHandler} {l : List Hd} (ni : X.N[i]? = some n) (nl : X.env.kindOf n = some .local) (nc : Names X x c)
      (su : ∀ (a : Addr) (ob : Obj) (cls : Value) (d : Option Addr) (pn : List (Addr × Obj)), Zc cls d ob → (∃ fs, ob.data = .fields fs) → PSs (X.suite a ((a, ob) :: pn)) (st :: sts) (t a cls d)) (r : Hds X es l) :
      Hds X (.ExceptHandler (some (.Name x p1)) (some n) (st :: sts) p2 :: es) ((c, some i, t) :: l)
section
variable {X : Cx} {body : List Stmt} {e0 : ExceptHandler} {es : List ExceptHandler} {l : List Hd} {tp : Pos} {tb : WX → TS} {W0 : WX}
theorem ps_try_hds (st : X.stack = X.env :: X.outer) (fr : X.env.frame = some X.env.locals) (nd : X.N.Nodup) (tk : Takes X W0)
    (pb : ∀ (W : WX) (pn : List (Addr × Obj)) (xe : Value → Shared → Prop), Takes (X.tr pn xe) W → PassesOwn (model X.prog X.w) X.A X.env xe → PSs (X.tr pn xe) body (tb W))
    (ph : Hds X (e0 :: es) l) : PS X (.Try body (e0 :: es) [] [] tp) (fun D ρ G => tb (wHds X.K W0 D l) D ρ G) := by
  refine ⟨fun pins z ρ G D J0 rd => ?_⟩
  have okX := J0.ok
  have frs0 : X.A.frames = some (X.env :: X.outer) := by rw [okX.frames, st]
  refine wpAny_Try_except ?_
  refine wpAny_mono ((pb (wHds X.K W0 D l) (X.pn ++ pins) (fun e z1 => wpAny (model X.prog X.w) X.A (noteFrame e X.env) (fun _ z2 => wpAny (model X.prog X.w) X.A (setFlight e none) (fun _ z3 =>
    wpAny (model X.prog X.w) X.A (handleBy e X.env (e0 :: es)) (SP X pins D) X.xe z3) X.xe z2) X.xe z1) (fun u z1 thrown => ?_) PassesOwn.looking).run [] z ρ G D (J0.toTry _) rd) (fun fl z1 fin => ?_) (fun e z1 he => he)
  · obtain ⟨a, B, zI, pins', ρ1, G1, cls, d, rfl, J1, nb, up, sky, na, os, ag, wish⟩ := thrown
    have JI : Inv X pins ρ1 G1 zI := J1.ofTry okX
    have skyE : Sky B (X.env :: X.outer) a (Zc cls d) X.env.locals z1.heap := by rw [← st]; exact sky
    show wpAny (model X.prog X.w) X.A (noteFrame (.ref a) X.env) _ _ _
    refine Sky.land Zc.steady frs0 fr skyE fun g3 fl3 up3 => ?_
    have J3 : Inv X pins ρ1 G1 { z1 with heap := g3 } := JI.landed nb fl3.1 (up.trans up3) os ag
    obtain ⟨ob3, fs3, at3, zc3, da3⟩ := fl3.there
    have apart : a ∉ frs (X.env :: X.outer) := fun hm => by
      obtain ⟨_, ob', at', nof⟩ := fl3.2.2.1.mem hm
      rw [at3] at at'
      cases at'
      exact nof _ da3
    have aL : a ≠ X.env.locals := fun q => apart (List.mem_filterMap.mpr ⟨X.env, List.mem_cons_self, by rw [fr, q]⟩)
    have aF : a ∉ X.fs := fun hm => by
      obtain ⟨ev, hev, q⟩ := List.mem_filterMap.mp hm
      exact apart (List.mem_filterMap.mpr ⟨ev, List.mem_cons_of_mem _ hev, q⟩)
    have S3 := J3.suite at3 da3 na aL aF
    have looks : PySem.W.Looks (model X.prog X.w) g3 (typeOf (.ref a)) cls := fun A Q E s k q => wpAny_typeOf_ref (k _ _ at3) (by rw [zc3.1]; exact q)
    have named : ∀ {x : Str} {c : Value} {p1 : Pos} {Q : Value → Shared → Prop} {E : Value → Shared → Prop}, Names X x c → Q c { z1 with heap := g3 } → wpAny (model X.prog X.w) (X.A.mark (some (.ref a))) (eval (.Name x p1) X.env) Q E { z1 with heap := g3 } := fun {x c p1 Q E} nc q => by
      obtain ⟨gl, db, m | ⟨m, hv, nn⟩⟩ := nc
      · exact ld_glob (X := X.suite a ((a, ob3) :: (X.pn ++ pins))) S3 gl m q db
      · exact ld_blt (X := X.suite a ((a, ob3) :: (X.pn ++ pins))) S3 gl m hv q nn db
    have each : ∀ {es' : List ExceptHandler} {l' : List Hd}, Hds X es' l' → wHds X.K W0 D l' cls d ρ1 G1 → wpAny (model X.prog X.w) X.A (handleBy (.ref a) X.env es') (SP X pins D) X.xe { z1 with heap := g3 } := by
      intro es' l' hk
      induction hk with
      | nil =>
        intro wish
        refine wpAny_handleBy_nil ?_
        obtain ⟨k1, k2, k3, ob, fs, T, oT, tl, at0, zc0, da0, f1, f2⟩ := id fl3
        unfold PySem.passOn
        refine wpAny_bind (wpAny_field at0 da0 f1 ?_)
        rw [if_neg (show ¬ ((Value.ref T == Value.none) = true) from by simp)]
        have go : wpAny (model X.prog X.w) X.A (setFlight (.ref a) X.env.frame) (fun _ z4 => wpAny (model X.prog X.w) X.A (throw (.ref a) : Sem Flow) (SP X pins D) X.xe z4) X.xe { z1 with heap := g3 } := by
          rw [fr]
          refine HandSPX.setFlight_upZ fl3 fun g4 sk4 up4 => wpAny_throw (tk _ _ ?_)
          exact ⟨a, B, zI, pins, ρ1, G1, cls, d, rfl, JI, nb, (up.trans up3).trans up4, .inr (.inr (by rw [st]; exact sk4)), na, os, ag, wish⟩
        first
          | exact wpAny_bind (wpAny_pure (wpAny_bind go))
          | exact wpAny_bind go
      | @bare x c t st1 sts p1 p2 es2 l2 nc su r ih =>
        rintro ⟨b, m1, yes, no⟩
        refine wpAny_handleBy_cons (codeAny_handlers_test ?_) (by intro q; cases q)
        refine named nc ((PySem.W.exm_one (M := model X.prog X.w) (J3.kIn) looks m1).here ?_)
        cases b with
        | false =>
          show wpAny _ X.A (handleBy (.ref a) X.env es2) _ _ _
          exact ih (no rfl)
        | true =>
          refine codeAny_handlers_suite ?_
          refine HandSPX.lands_againZ fl3 fun g4 fl4 up4 => ?_
          have J4 : Inv X pins ρ1 G1 { z1 with heap := g4 } := JI.landed nb fl4.1 ((up.trans up3).trans up4) os ag
          obtain ⟨ob4, fs4, at4, zc4, da4⟩ := fl4.there
          have S4 := J4.suite at4 da4 na aL aF
          refine wpAny_mono ((su a ob4 cls d (X.pn ++ pins) zc4 ⟨_, da4⟩).run [] _ _ G1 _ S4 (yes rfl a na)) (fun fl z6 fin => ?_) (fun _ _ q => False.elim q)
          cases fl with
          | next => obtain ⟨ρ6, G6, S6, q6⟩ := fin; exact ⟨_, _, S6.unsuite okX, q6⟩
          | brk => obtain ⟨ρ6, G6, S6, q6⟩ := fin; exact ⟨_, _, S6.unsuite okX, q6⟩
          | cont => obtain ⟨ρ6, G6, S6, q6⟩ := fin; exact ⟨_, _, S6.unsuite okX, q6⟩
          | ret u => obtain ⟨v6, ρ6, G6, S6, r6, q6⟩ := fin; exact ⟨_, _, _, S6.unsuite okX, r6, q6⟩
      | @as x n i c t st1 sts p1 p2 es2 l2 ni nl nc su r ih =>
        rintro ⟨b, m1, yes, no⟩
        refine wpAny_handleBy_cons (codeAny_handlers_test ?_) (by intro q; cases q)
        refine named nc ((PySem.W.exm_one (M := model X.prog X.w) (J3.kIn) looks m1).here ?_)
        cases b with
        | false =>
          show wpAny _ X.A (handleBy (.ref a) X.env es2) _ _ _
          exact ih (no rfl)
        | true =>
          refine codeAny_handlers_suite_as ?_
          refine HandSPX.lands_againZ fl3 fun g4 fl4 up4 => ?_
          have J4 : Inv X pins ρ1 G1 { z1 with heap := g4 } := JI.landed nb fl4.1 ((up.trans up3).trans up4) os ag
          obtain ⟨ob4, fs4, at4, zc4, da4⟩ := fl4.there
          have S4 := J4.suite at4 da4 na aL aF
          refine store_ok (X := X.suite a ((a, ob4) :: (X.pn ++ pins))) (v := .ref a) S4 nd ni (.inl nl) rfl (fun z5 S5 => ?_) (.inr nl)
          refine wpAny_mono ((su a ob4 cls d (X.pn ++ pins) zc4 ⟨_, da4⟩).run [] z5 _ G1 _ S5 (yes rfl a na)) (fun fl z6 fin => ?_) (fun _ _ q => False.elim q)
          have shut : ∀ {ρ6 : L2.St} {G6 : Hp} {Q : Shared → Prop}, Inv (X.suite a ((a, ob4) :: (X.pn ++ pins))) [] ρ6 G6 z6 → (∀ z7, Inv X pins (ρ6.set i none) G6 z7 → Q z7) →
              wpAny (model X.prog X.w) X.A (do bindName X.env n .none; unbindBehindTheSuite X.env n p2) (fun _ z7 => Q z7) X.xe z6 := fun {ρ6 G6 Q} S6 hq => gone_ok (S6.unsuite okX) nd ni nl hq
          cases fl with
          | next => obtain ⟨ρ6, G6, S6, q6⟩ := fin; exact shut S6 fun z7 J7 => ⟨_, _, J7, q6⟩
          | brk => obtain ⟨ρ6, G6, S6, q6⟩ := fin; exact shut S6 fun z7 J7 => ⟨_, _, J7, q6⟩
          | cont => obtain ⟨ρ6, G6, S6, q6⟩ := fin; exact shut S6 fun z7 J7 => ⟨_, _, J7, q6⟩
          | ret u => obtain ⟨v6, ρ6, G6, S6, r6, q6⟩ := fin; exact shut S6 fun z7 J7 => ⟨_, _, _, J7, r6, q6⟩
    exact each ph wish
  · cases fl with
    | next => obtain ⟨ρ1, G1, J1, q⟩ := fin; exact wpAny_execs_nil ⟨ρ1, G1, J1.ofTry okX, q⟩
    | brk => obtain ⟨ρ1, G1, J1, q⟩ := fin; exact ⟨ρ1, G1, J1.ofTry okX, q⟩
    | cont => obtain ⟨ρ1, G1, J1, q⟩ := fin; exact ⟨ρ1, G1, J1.ofTry okX, q⟩
    | ret u => obtain ⟨v, ρ1, G1, J1, r, q⟩ := fin; exact ⟨v, ρ1, G1, J1.ofTry okX, r, q⟩
end
end Un

/-! UnTab: the end of a law whose defs make lambdas, and show values. -/
namespace Un
open PySem PySem.Spec PyProof.Rows L2
theorem runTG {P : Program} {w : World} {K : PySem.W.Frag} {mg mb : Str → Option Value} {k : Nat} {fa a : Addr} {cs : List (Addr × Addr)} {fd : FuncData} {x : Str} {sp : Sp} {z : Shared} {vs : List Value} {ns : List Int}
    (KX : K.In z.heap) (hns : z.heap.Ns mainGlobals mg) (hb : z.heap.Ns builtinsNs mb) (hbb : ∀ y : Str, y ≠ "__name__" → mb y = bootBuiltins y) (lim : z.heap.NoLimit) (hg : z.gens = #[])
    (tabs : ∀ p ∈ cs, z.heap.get? p.2 = some { cls := .none, data := .fields #[] }) (nT : ∀ p ∈ cs, K.lookup p.2 = none) (hd : ∀ p ∈ cs, PySem.W.CodeHd z.heap p.1 p.2)
    (bmn : ∃ (bm : Addr) (ob : Obj), mg "__builtins__" = some (.ref bm) ∧ bm ≠ builtinsNs ∧ z.heap.get? bm = some ob ∧ ob.cls = .type "module" ∧ ob.dict = some builtinsNs ∧ ob.data = .plain)
    (ha : z.heap.get? a = some { cls := .type "list", data := .seq vs.toArray }) (hi : IntsAre vs ns) (hl : ns.length ≤ sizeLine) (room : Room k callerA)
    (F : ∀ base : Heap, K.In base → base.Ns mainGlobals mg → (∀ p ∈ cs, LamX.TabB base mg p.1 p.2) → FnG P w K mg base k fa fd [x] sp) (bind1 : ∀ (s : Shared) (u : Value), BindsTo s fd ⟨[u], []⟩ [(x, u)])
    (told : ∀ H : Hp, (∀ p ∈ cs, H p.2 = some (.tbl #[])) → SqL K H a (ns.map V.int) → sp [.ref a] H (fun v _ => v = .bl true) fun _ _ _ => False) :
    codeAny (model P w) callerA (.call (.ref fa) ⟨[.ref a], []⟩) (fun r s' => r = .ok (.ret (.bool true)) ∧ OldK z.heap s'.heap ∧ s'.os = z.os ∧ AllBare s'.gens) z := by
  have relV := vals_ints hi
  have sizes := hi.length
  have tabAt : ∀ b : Addr, b ∈ cs.map (·.2) → z.heap.get? b = some { cls := .none, data := .fields #[] } := fun b m => by
    obtain ⟨p, hp, rfl⟩ := List.mem_map.mp m
    exact tabs p hp
  have apart : a ∉ cs.map (·.2) := fun m => by
    have e := tabAt a m
    rw [ha] at e
    cases congrArg Obj.data (Option.some.inj e)
  have inT : ∀ p ∈ cs, p.2 ∈ cs.map (·.2) := fun p hp => List.mem_map.mpr ⟨p, hp, rfl⟩
  suffices from_ : ∀ H : Hp, (∀ b u, H b = some u → (b = a ∧ K.lookup a = none ∧ u = .frz { cls := .type "list", data := .seq vs.toArray } (.lst (ns.map V.int))) ∨ (b ∈ cs.map (·.2) ∧ u = .tbl #[])) → (∀ p ∈ cs, H p.2 = some (.tbl #[])) → SqL K H a (ns.map V.int) →
      codeAny (model P w) callerA (.call (.ref fa) ⟨[.ref a], []⟩) (fun r s' => r = .ok (.ret (.bool true)) ∧ OldK z.heap s'.heap ∧ s'.os = z.os ∧ AllBare s'.gens) z by
    cases look : K.lookup a with
    | some o =>
      have there := KX a o look
      rw [ha] at there
      obtain rfl := Option.some.inj there
      refine from_ (fun b => if b ∈ cs.map (·.2) then some (.tbl #[]) else none) (fun b u e => ?_) (fun p hp => if_pos (inT p hp)) (.inr ⟨_, vs.toArray, _, look, rfl, rfl, rfl, by rw [List.size_toArray, sizes]; exact hl, by simpa using relV⟩)
      by_cases m : b ∈ cs.map (·.2)
      · rw [if_pos m] at e
        exact .inr ⟨m, (Option.some.inj e).symm⟩
      · rw [if_neg m] at e
        cases e
    | none =>
      refine from_ (fun b => if b = a then some (.frz { cls := .type "list", data := .seq vs.toArray } (.lst (ns.map V.int))) else if b ∈ cs.map (·.2) then some (.tbl #[]) else none) (fun b u e => ?_) (fun p hp => ?_) (.inl (.inr ⟨_, if_pos rfl⟩))
      · by_cases q : b = a
        · rw [if_pos q] at e
          exact .inl ⟨q, look, (Option.some.inj e).symm⟩
        · rw [if_neg q] at e
          by_cases m : b ∈ cs.map (·.2)
          · rw [if_pos m] at e
            exact .inr ⟨m, (Option.some.inj e).symm⟩
          · rw [if_neg m] at e
            cases e
      · have q : ¬ p.2 = a := fun q => apart (by rw [← q]; exact inT p hp)
        exact (if_neg q).trans (if_pos (inT p hp))
  intro H hH hT hS
  have held : HOk P w H z.heap := fun b u e => by
    rcases hH b u e with ⟨rfl, _, rfl⟩ | ⟨m, rfl⟩
    · exact ⟨ha, by rw [List.length_map]; exact hl, vs, _, relV, ha⟩
    · exact tabAt b m
  have unseen : ∀ {b : Addr} {o : Obj}, z.heap.get? b = some o → (∀ us n, o.data ≠ .seq us n) → o.data ≠ .fields #[] → H b = none := fun {b o} e h1 h2 => by
    cases q : H b with
    | none => rfl
    | some u =>
      rcases hH b u q with ⟨rfl, _, _⟩ | ⟨m, _⟩
      · rw [ha] at e
        cases e
        exact (h1 _ _ rfl).elim
      · rw [tabAt b m] at e
        cases e
        exact (h2 rfl).elim
  have hidden : ∀ {b : Addr} {m : Str → Option Value}, z.heap.Ns b m → (hidT z.heap H).Ns b m := by
    rintro b m ⟨o, es, ep, e, d, r⟩
    exact ⟨o, es, ep, hidT_get e (unseen e (fun us n q => by rw [d] at q; cases q) fun q => by rw [d] at q; cases q), d, r⟩
  have kIn : K.In (hidT z.heap H) := fun b o e => hidT_get (KX b o e) (by
    cases q : H b with
    | none => rfl
    | some u =>
      rcases hH b u q with ⟨rfl, n, _⟩ | ⟨m, _⟩
      · rw [n] at e
        cases e
      · obtain ⟨p, hp, rfl⟩ := List.mem_map.mp m
        rw [nT p hp] at e
        cases e)
  have md : Mod K mg (hidT z.heap H) := ⟨kIn, hidden hns, ⟨mb, hidden hb, hbb⟩, match lim with | ⟨mc, h1, h2⟩ => ⟨mc, hidden h1, h2⟩⟩
  have tb : ∀ p ∈ cs, LamX.TabB (hidT z.heap H) mg p.1 p.2 := fun p hp => by
    have at_ := tabs p hp
    obtain ⟨og, es, ep, eg, dg, _⟩ := id hns
    refine ⟨?_, ?_, fun q => ?_⟩
    · obtain ⟨o, us, file, tf, flags, tg, inF, text, tt, e1, r1, r2, r3, rest⟩ := hd p hp
      refine ⟨o, us, file, tf, flags, tg, inF, text, tt, hidT_get e1 (unseen e1 (fun us n q => by rw [r2] at q; cases q) fun q => ?_), r1, r2, r3, rest⟩
      rw [r2] at q
      cases q
      simp at r3
    · obtain ⟨bm, ob, b1, b2, b3, b4, b5, b6⟩ := bmn
      refine ⟨bm, ob, b1, b2, fun q => ?_, fun q => ?_, hidT_get b3 (unseen b3 (fun us n q => by rw [b6] at q; cases q) fun q => by rw [b6] at q; cases q), b4, b5, b6⟩
      · rw [q, eg] at b3
        cases b3
        rw [dg] at b6
        cases b6
      · rw [q, at_] at b3
        cases b3
        cases b6
    · rw [q, at_] at eg
      cases eg
      cases dg
  have none_in : ∀ b : Addr, b ∈ ([] : List Addr) → False := fun b m => by cases m
  have env0 : Env0 P w K mg (hidT z.heap H) callerA [] z H := ⟨rfl, md, fun b o e => of_hidT e, Nat.le_of_eq (hidT_size _ _), trivial, fun b m => (none_in b m).elim, held, .of_eq hg⟩
  refine codeAny_mono ((F _ kIn (hidden hns) tb).run callerA [] z H ⟨[.ref a], []⟩ [.ref a] [.ref a] _ _ rfl room env0 (bind1 z (.ref a)) (.cons rfl .nil) (told H hT hS)) fun r s' h => ?_
  match r, h with
  | .error e, h => exact (show False from h).elim
  | .ok .next, h => exact (show False from h).elim
  | .ok .brk, h => exact (show False from h).elim
  | .ok .cont, h => exact (show False from h).elim
  | .ok (.ret u), h =>
    obtain ⟨v, H', hos, bare, un, held', rv, rfl⟩ := h
    obtain rfl : u = Value.bool true := rv
    have kept : ∀ b o, b ∉ cs.map (·.2) → z.heap.get? b = some o → s'.heap.get? b = some o := fun b o nb e => by
      cases q : H b with
      | none => exact un.keep b o e q (none_in b) (none_in b)
      | some y =>
        rcases hH b y q with ⟨rfl, _, rfl⟩ | ⟨m, _⟩
        · have e1 := (held _ _ q).1
          rw [e] at e1
          rw [Option.some.inj e1]
          exact (held' _ _ (un.frzs _ _ _ q)).1
        · exact (nb m).elim
    have grown : ∀ p ∈ cs, ∃ more : Array Value, s'.heap.get? p.2 = some { cls := .none, data := .fields more } := fun p hp => by
      obtain ⟨more, q⟩ := un.tbls p.2 #[] (hT p hp)
      exact ⟨_, held' p.2 _ q⟩
    refine ⟨rfl, ⟨fun b o e => ?_, fun b o e => ?_⟩, hos, bare⟩
    · by_cases m : b ∈ cs.map (·.2)
      · obtain ⟨p, hp, rfl⟩ := List.mem_map.mp m
        obtain ⟨more, hm⟩ := grown p hp
        rw [tabs p hp] at e
        cases e
        exact .inr (.inl ⟨((hd p hp).tab (tabs p hp)).isCodeTable, rfl, #[], more, rfl, by rw [Array.empty_append]; exact hm⟩)
      · exact .inl (kept b o m e)
    · by_cases m : b ∈ cs.map (·.2)
      · obtain ⟨p, hp, rfl⟩ := List.mem_map.mp m
        obtain ⟨more, hm⟩ := grown p hp
        exact ⟨_, hm⟩
      · exact ⟨o, kept b o m e⟩
/-- what the end asks at the head's heap -/
def LawTG (l : PySem.W.OpenLaw) (w : World) (K : PySem.W.Frag) (k n : Nat) (x : Str) (mg : Str → Option Value) (fa : Addr) (h : Heap) : Prop :=
  ∃ (fd : FuncData) (cs : List (Addr × Addr)) (sp : Sp), (∀ p ∈ cs, h.get? p.2 = some { cls := .none, data := .fields #[] }) ∧ (∀ p ∈ cs, K.lookup p.2 = none) ∧ (∀ p ∈ cs, PySem.W.CodeHd h p.1 p.2) ∧ (∀ (s : Shared) (u : Value), BindsTo s fd ⟨[u], []⟩ [(x, u)]) ∧
    (∀ (H : Hp) (a : Addr) (ns : List Int), ns.length ≤ n → (∀ p ∈ cs, H p.2 = some (.tbl #[])) → SqL K H a (ns.map V.int) → sp [.ref a] H (fun v _ => v = .bl true) fun _ _ _ => False) ∧
    ∀ base : Heap, K.In base → base.Ns mainGlobals mg → (∀ p ∈ cs, LamX.TabB base mg p.1 p.2) → FnG l.prog w K mg base k fa fd [x] sp
theorem walk_ofTG {l : PySem.W.OpenLaw} {n k : Nat} {q : Program} {loose : List Str} {XP : (Str → Option Value) → Heap → Prop} {YP : World → Heap → Prop} {d : DefRec} {K : Params → PySem.W.Frag} {x : Str}
    (hn : l.most = some n) (hn2 : n ≤ sizeLine) (hdf : d.params.defaults = []) (room : Room k callerA) (hY : ∀ (w : World) (h : Heap), YP w h → (K w.params).In h)
    (F : ∀ (w : World) (mg : Str → Option Value) (fa : Addr) (h : Heap), YP w h → (K w.params).In h → h.Ns mainGlobals mg → mg d.name = some (.ref fa) → LawTG l w (K w.params) k n x mg fa h) :
    PySem.W.WalkO q loose XP YP l.row.toRowW d [] (fun f vs => PySem.call f vs) := by
  refine Att.attach_callB hn hdf fun w s₀ z mg mb fa o pm cd doc a vs ns G Y ho hd hcd hmg hobj hints hlen hbits hg => ?_
  have KX := hY w _ Y
  obtain ⟨fd, cs, sp, hT, nT, C, hb, told, hF⟩ := F w mg fa _ Y KX G.T.g hmg
  exact runTG KX G.T.g G.T.b G.T.builtins G.T.nolimit hg hT nT C G.T.bmain hobj hints (Nat.le_trans hlen hn2) room hF hb fun H hH hS => told H a ns hlen hH hS
end Un

/-! UnLam: what raises, called by name; isinstance of a caught error of several kinds; a def that calls what it was handed; defs whose code object is told. -/
namespace Un
open PySem PySem.Spec PyProof.Rows L2
/-! ### isinstance(e, C), isinstance(e, (C, D)): e just caught, of an own class -/
def rIsC (K : PySem.W.Frag) (a : Addr) (cls : Value) (d : Option Addr) : List V → Hp → VK → Prop := fun xs H Q =>
  ∃ (D : Addr) (b : Bool), cls = .ref D ∧ ExcC K D ∧ (∀ dd, d = some dd → ∃ fs, H dd = some (.xd fs)) ∧ Q (.bl b) H ∧
    ((∃ c u, xs = [.ref a, c] ∧ ClsV c u ∧ PySem.W.kitOne K (.ref D) u = some b) ∨ (∃ tp cs us, xs = [.ref a, .ref tp] ∧ H tp = some (.tup cs) ∧ Paired ClsV cs us ∧ PySem.W.kitAny K (.ref D) us = some b))
theorem call_isC {X : Cx} {a : Addr} {oe : Obj} {cls : Value} {d : Option Addr} {pn : List (Addr × Obj)} (hz : Zc cls d oe) (hf : ∃ vs, oe.data = .fields vs) : CallR (X.suite a ((a, oe) :: pn)) (.builtin "isinstance") (rIsC X.K a cls d) := by
  intro pins s σ H xs us Q I r h
  obtain ⟨D, b, rfl, T, hd, q, h⟩ := h
  obtain ⟨ha, _⟩ := I.pin (a, oe) (List.mem_append_left _ List.mem_cons_self)
  obtain ⟨vs, hv⟩ := hf
  have Z : ∃ P : Heap → Prop, PySem.W.KitX X.K (.ref a) (.ref D) P ∧ P s.heap := by
    cases d with
    | none => exact ⟨_, PySem.W.handS_kitx_exc T.hg T.hk T.hs T.hd T.ha T.hn T.ht T.hm, show PySem.W.InstAt s.heap a oe D none from ⟨ha, hz.1, by unfold PySem.W.notCls; rw [hv] <;> rfl, by rw [hz.2]; trivial⟩⟩
    | some dd =>
      obtain ⟨fs, ea⟩ := hd dd rfl
      obtain ⟨mA, hns, hr⟩ := (show ObjOk X.prog X.w H s.heap dd (.xd fs) from I.hok dd _ ea)
      obtain ⟨od, ho, hl⟩ := lookIn_ns hns
      exact ⟨_, PySem.W.kitx_excD T.hg T.hk T.hs T.hd T.ha T.hn T.ht T.hm, show PySem.W.InstAt s.heap a oe D (some od) from ⟨ha, hz.1, by unfold PySem.W.notCls; rw [hv] <;> rfl, by rw [hz.2]; exact ho⟩⟩
  obtain ⟨P, z, p⟩ := Z
  rcases h with ⟨c, u, rfl, k, e⟩ | ⟨tp, cs, ws, rfl, hT, k, e⟩
  · obtain ⟨u1, u2, rfl, r1, r2⟩ := vals2 r
    cases (show u1 = Value.ref a from r1)
    have e2 := k.eq r2
    subst e2
    exact PySem.W.kia_one z I.kIn p e (fun z => nomatch z) fun tk => ⟨.bl b, H, I.tok tk, rfl, q⟩
  · obtain ⟨u1, u2, rfl, r1, r2⟩ := vals2 r
    cases (show u1 = Value.ref a from r1)
    cases (show u2 = Value.ref tp from r2)
    obtain ⟨_, its, rv, o, h1, h2, n, h3⟩ := (show ObjOk X.prog X.w H s.heap tp (.tup cs) from I.hok tp _ hT)
    have e3 := ClsV.all k rv
    subst e3
    obtain ⟨oc, od, dt, sl⟩ := o
    simp only at h2 h3
    subst h2 h3
    exact PySem.W.kia_tup z I.kIn p h1 e (fun z => nomatch z) fun tk => ⟨.bl b, H, I.tok tk, rfl, q⟩
theorem rd_isC1 {K : PySem.W.Frag} {a D C : Addr} {d : Option Addr} {H : Hp} {Q : VK} {b : Bool} (T : ExcC K D) (hd : ∀ dd, d = some dd → ∃ fs, H dd = some (.xd fs)) (k : PySem.W.kitOne K (.ref D) (.ref C) = some b) (q : Q (.bl b) H) : rIsC K a (.ref D) d [.ref a, .ref C] H Q :=
  ⟨D, b, rfl, T, hd, q, .inl ⟨_, _, rfl, .own C, k⟩⟩
theorem rd_isC2 {K : PySem.W.Frag} {a D C1 C2 tp : Addr} {d : Option Addr} {H : Hp} {Q : VK} (T : ExcC K D) (hd : ∀ dd, d = some dd → ∃ fs, H dd = some (.xd fs)) (ht : H tp = some (.tup [.ref C1, .ref C2])) (k1 : PySem.W.kitOne K (.ref D) (.ref C1) = some false) (k2 : PySem.W.kitOne K (.ref D) (.ref C2) = some false)
    (q : Q (.bl false) H) : rIsC K a (.ref D) d [.ref a, .ref tp] H Q :=
  ⟨D, false, rfl, T, hd, q, .inr ⟨tp, _, [.ref C1, .ref C2], rfl, ht, .cons (.own C1) (.cons (.own C2) .nil), kitAny_cons k1 (fun _ => kitAny_cons k2 (fun _ => kitAny_nil) fun h => by cases h) fun h => by cases h⟩⟩
/-! ### what raises, called by name -/
section
variable {X : Cx} {C : Addr} {m x : Str} {ps : List Str} {k j n : Nat} {sp : Sp} {e o : Expr} {es : List Expr} {kws : List Keyword} {ta : TE} {t tk' : TA} {p pos apos : Pos} {dvs : List V} {ks : List Str} {gV : List V → List V → List V} {E : XK}
theorem set_GX (g : MetG X.prog X.w X.K X.mg X.base (L2.CX X.prog X.w) C "__setitem__" ps k sp) (hq : PySem.W.noSeq X.K C = true) (hr : Room j X.A) (hk : k ≤ j) (tk : Takes X fun cls d _ H => E cls d H) : PSet X (rSetO C sp E) := by
  obtain ⟨f, fd, c, M, F, i, b⟩ := g
  exact set_own M hq F (hr.mono hk) b (passes_call tk fun _ _ _ _ h => h)
/-- C(e, ..), where the __init__ may raise -/
def MakX (P : Program) (w : World) (K : PySem.W.Frag) (mg : Str → Option Value) (base : Heap) (x : Str) (C : Addr) (k : Nat) (sp : Sp) (dvs : List V) : Prop :=
  ∃ (f : Addr) (fd : FuncData) (ps : List Str) (ds : List Value), L2.Mk K C f ∧ FnOk P w K mg base (L2.CX P w) k f fd ps sp ∧ mg x = some (.ref C) ∧ Binds K fd ps ds ∧ Vals dvs ds
theorem pe_mkDX (g : MakX X.prog X.w X.K X.mg X.base x C k sp dvs) (hr : Room j X.A) (hk : k + 1 ≤ j) (hg : Gl X x) (tk : Takes X fun cls d _ H => E cls d H) (ha : PA X (e :: es) t)
    (hdb : (x == ("__debug__" : Str)) = false := by decide) (he : starEach (e :: es) X.env = (false, eval e X.env) :: starEach es X.env := by rfl) (hpl : (backTo pos (starEach es X.env)).any (·.1) = false := by rfl) :
    PE X (.Call (.Name x p) (e :: es) [] pos) (tMake C sp dvs E t) := by
  obtain ⟨f, fd, ps, ds, M, F, hm, b, d⟩ := g
  exact pe_make M F (hr.mono hk) hg hm b d (passes_call tk fun _ _ _ _ h => h) ha hdb he hpl
def MetDX (P : Program) (w : World) (K : PySem.W.Frag) (mg : Str → Option Value) (base : Heap) (C : Addr) (m : Str) (k : Nat) (sp : Sp) (dvs : List V) : Prop :=
  ∃ (f : Addr) (fd : FuncData) (ps : List Str) (ds : List Value), Cls K C ∧ Meth K C m f ∧ FnOk P w K mg base (L2.CX P w) k f fd ps sp ∧ Binds K fd ps ds ∧ Vals dvs ds
theorem pe_mtDX {pl : Sem Bool} (g : MetDX X.prog X.w X.K X.mg X.base C m k sp dvs) (hr : Room j X.A) (hk : k ≤ j) (tk : Takes X fun cls d _ H => E cls d H) (he : PE X o ta) (ha : PA X (e :: es) t)
    (hst : starEach (e :: es) X.env = (false, eval e X.env) :: starEach es X.env := by rfl) (hpl : (backTo pos (starEach es X.env)).any (·.1) = false := by rfl)
    (ht : eval (.Call (.Attribute o m apos) (e :: es) [] pos) X.env = (do let ov ← eval o X.env; standAt apos.atName; let (f, first) ← holding [ov] (getMethod ov m pl); callWith pos f first (backTo pos (starEach (e :: es) X.env)) (backToKw pos (keywordEach [] X.env))) := by rfl) :
    PE X (.Call (.Attribute o m apos) (e :: es) [] pos) (tMeth C m sp dvs E ta t) := by
  obtain ⟨f, fd, ps, ds, c, M, F, b, d⟩ := g
  exact pe_meth (pl := pl) he c M F (hr.mono hk) b d (passes_call tk fun _ _ _ _ h => h) ha hst hpl ht
def MetKX (P : Program) (w : World) (K : PySem.W.Frag) (mg : Str → Option Value) (base : Heap) (C : Addr) (m : Str) (n : Nat) (ks : List Str) (k : Nat) (sp : Sp) (gV : List V → List V → List V) : Prop :=
  ∃ (f : Addr) (fd : FuncData) (ps : List Str) (g : List Value → List Value → List Value), Cls K C ∧ Meth K C m f ∧ FnOk P w K mg base (L2.CX P w) k f fd ps sp ∧ KBn K fd ps n ks g gV
theorem methN_GX {pl : Sem Bool} (q : MetKX X.prog X.w X.K X.mg X.base C m n ks k sp gV) (hr : Room j X.A) (hk : k ≤ j) (tk : Takes X fun cls d _ H => E cls d H) (he : PE X o ta) (ha : PA X (e :: es) t) (hkw : PK X kws tk')
    (hall : (backToKw pos (keywordEach kws X.env)).all (·.1.isSome) = true := by rfl) (hks : (backToKw pos (keywordEach kws X.env)).filterMap (·.1) = ks := by rfl)
    (hst : starEach (e :: es) X.env = (false, eval e X.env) :: starEach es X.env := by rfl)
    (hpl : ((backTo pos (starEach (e :: es) X.env)).any (·.1) || (backToKw pos (keywordEach kws X.env)).any (·.1.isNone)) = false := by rfl)
    (ht : eval (.Call (.Attribute o m apos) (e :: es) kws pos) X.env = (do let ov ← eval o X.env; standAt apos.atName; let (f, first) ← holding [ov] (getMethod ov m pl); callWith pos f first (backTo pos (starEach (e :: es) X.env)) (backToKw pos (keywordEach kws X.env))) := by rfl) :
    PE X (.Call (.Attribute o m apos) (e :: es) kws pos) (tMethN C m n ks.length sp gV E ta t tk') := by
  obtain ⟨f, fd, ps, g, c, M, F, hb⟩ := q
  exact pe_methN (pl := pl) he c M F (hr.mono hk) hb (passes_call tk fun _ _ _ _ h => h) ha hkw hall hks hst hpl ht
end
/-! ### defs whose code object is told -/
structure FunC (K : PySem.W.Frag) (x qual : Str) (st : Stmt) (f : Addr) (fd : FuncData) (c : Addr) : Prop where
  ex : ∃ (oc : Value) (od : Option Addr) (kV doc pm : Value) (an : Option Addr) (ct : Value) (osl : Array (Option Value)),
    fd = PySem.W.fnOf x qual (defArgs st) (defBody st) (defScope st) .none kV doc pm an (.ref c) ct ∧ K.lookup f = some ⟨oc, od, .func fd, osl⟩ ∧ PySem.W.codeIn K (.ref c) qual = true
  kp : PySem.W.keepIn K (.ref f) = true
def AtC (K : PySem.W.Frag) (mg : Str → Option Value) (nm : Str) (st : Stmt) (ps : List Str) (c : Addr) : Prop :=
  ∃ (f : Addr) (fd : FuncData), FunC K nm nm st f fd c ∧ mg nm = some (.ref f) ∧ Binds K fd ps []
section
variable {P : Program} {w : World} {K : PySem.W.Frag} {mg : Str → Option Value} {base : Heap}
theorem okGC {nm qual : Str} {st : Stmt} {f c : Addr} {fd : FuncData} {N ps : List Str} {k : Nat} {sp : Sp} (F : FunC K nm qual st f fd c) (S : FnScope N ps (defScope st)) (hlen : ∀ vs H Q E, sp vs H Q E → vs.length = ps.length)
    (hb : ∀ (A : Around) (outer : List Env) (s : Shared) (H : Hp) (vs : List V) (Q : VK) (E : XK), A.guards = some [] → Room k (A.deeper (envOfC qual (defScope st) s.heap.objs.size f (.ref c))) → sp vs H Q E →
      ∃ t, PSs (cxOf CX0 P w K mg base N qual (defScope st) f (.ref c) A outer s H E).nox (defBody st) t ∧ t { nx := fun _ H' => Q .non H', rt := Q } (start N vs) H) : FnG P w K mg base (k + 1) f fd ps sp := by
  obtain ⟨c1, c2, c3, c4, c5, c6, c7, c8, rfl, look, code⟩ := F.ex
  refine ⟨hlen, fun A outer s H args us vs Q E gA room e0 bd rel asked => ?_⟩
  have inHeap : K.In s.heap := e0.mod.kin.keeps fun b o hbo => (e0.bs b o hbo).1
  have free := e0.mod.nolimit.keeps (h' := s.heap) fun b o hbo => (e0.bs b o hbo).1
  have kinds : ∀ y ∈ ps.zip us, (defScope st).names.lookup y.1 = some .local ∨ ((defScope st).names.lookup y.1 = some .cell ∧ ((cellsFrom (s.heap.objs.size + 1) (defScope st).names []).lookup y.1).isSome = true) := by
    rintro ⟨n, v⟩ hy
    exact (S.par n (List.of_mem_zip hy).1).imp id fun hc => ⟨hc, PySem.W.cellsFrom_some _ _ _ (.inl hc)⟩
  refine codeAny_call_function room.depth (inHeap _ _ look) rfl S.co S.gen rfl (PySem.W.codeRec_of inHeap code) (bd _ _ _ _ ?_)
  refine wpAny_newFunctionEnv_cells S.kind kinds fun env henv s1 entry => ?_
  subst henv
  obtain ⟨t, ht, hq⟩ := hb A outer s H vs Q E gA (room.deeper _) asked
  have I0 : Inv (cxOf CX0 P w K mg base N qual (defScope st) f (.ref c) A outer s H E) [] (start N vs) H s1 := inv_start S room.hd e0 (hlen _ _ _ _ asked) rel entry
  refine ⟨free.keeps entry.toInCall.keep, codeAny_func (wpAny_mono (ht.nox.run [] s1 (start N vs) H _ I0 hq) (fun flow s' hs => ?_) fun e s' hs => hs)⟩
  cases flow with
  | ret u => exact match hs with | ⟨v, σ', H', J, rv, q⟩ => ⟨v, H', J.os, J.bare, J.base, J.hok, rv, q⟩
  | next => exact match hs with | ⟨σ', H', J, q⟩ => ⟨V.non, H', J.os, J.bare, J.base, J.hok, rfl, q⟩
  | brk => exact match hs with | ⟨_, _, _, q⟩ => False.elim q
  | cont => exact match hs with | ⟨_, _, _, q⟩ => False.elim q
theorem clGC_of {nm : Str} {st : Stmt} {ps : List Str} {k : Nat} {sp : Sp} {c : Addr} (a : AtC K mg nm st ps c) (h : ∀ f fd, FunC K nm nm st f fd c → FnG P w K mg base k f fd ps sp) : ClG P w K mg base nm ps k sp := by
  obtain ⟨f, fd, F, m, b⟩ := a
  exact ⟨f, fd, m, h f fd F, F.kp, b⟩
end
/-! ### a def that calls what it was handed -/
section
variable {X : Cx}
theorem takes_len {W : WX} (tk : Takes X W) : Takes X (fun cls d σ H => σ.length = X.N.length → W cls d σ H) := fun u s' ⟨a, B, sI, pins, σ, H, cls, d, e, I, nb, up, sky, na, os, ag, w⟩ =>
  tk u s' ⟨a, B, sI, pins, σ, H, cls, d, e, I, nb, up, sky, na, os, ag, w I.len⟩
def tAct (n : Nat) (f c' : Addr) (q : Str) (tl : XK → Hp → VK → Prop) (W : WX) : TE := fun σ H Q => ∃ Ech : XK, (∀ cls d σ' H', σ'.length = n → Ech cls d H' → W cls d σ' H') ∧ σ[0]? = some (some (.ref f)) ∧ H c' = some (LamX.CodeO c' q) ∧ tl Ech H Q
theorem pe_tact {Y : Cx} {f c' : Addr} {q a : Str} {tl : XK → Hp → VK → Prop} {p1 p2 : Pos}
    (act : ∀ (W : WX) (pn : List (Addr × Obj)) (xe : Value → Shared → Prop) (E : XK) (p1 p2 : Pos), Takes (Y.tr pn xe) W → (∀ cls d σ' H', E cls d H' → W cls d σ' H') →
      PE (Y.tr pn xe) (.Call (.Name a p1) [] [] p2) (fun σZ HZ Q => σZ[0]? = some (some (.ref f)) ∧ HZ c' = some (LamX.CodeO c' q) ∧ tl E HZ Q))
    {W : WX} {pn : List (Addr × Obj)} {xe : Value → Shared → Prop} (tk : Takes (Y.tr pn xe) W) : PE (Y.tr pn xe) (.Call (.Name a p1) [] [] p2) (tAct Y.N.length f c' q tl W) := by
  refine ⟨fun pins s σ H Q I h => ?_⟩
  obtain ⟨E, hW, h⟩ := h
  exact (act _ pn xe E p1 p2 (takes_len tk) fun cls d σ' H' e hl => hW cls d σ' H' hl e).run pins s σ H Q I h
/-- x(lambda: body), x a def as it stands -/
theorem pe_lamG {x a : Str} {st : Stmt} {Ng : List Str} {T : List (Addr × Str)} {TT : (XK → Hp → VK → Prop) → Hp → VK → Prop} {t : XK → TE} {c P : Addr} {k : Nat} {params : Arguments} {body : Expr} {scope : Scope} {p lpos pos : Pos}
    (A : At X.K X.mg x st [a]) (hg : Gl X x) (Sg : FnScope Ng [a] (defScope st)) (hNg : Ng[0]? = some a) (hva : Vis (defScope st) a) (hG : ∀ (g : Addr) (cdg : Value), LamX.GivesTo X Ng x (defScope st) g cdg (defBody st) a (X.env.qual ++ "<lambda>") TT)
    (TB : LamX.TabB X.base X.mg c P) (hcode : X.env.code = .ref c) (hmT : (P, X.env.qual ++ "<lambda>") ∈ T) (hu : ∀ p ∈ T, p.1 = P → p.2 = X.env.qual ++ "<lambda>") (hr : Room (k + 2) X.A) (L : LamX.LamS X.env.scope scope) (hdef : defaultsOf params X.env = ([], []))
    (hbind : ∀ (q : Str) (cl : List (Str × Addr)) (pm cv ctv : Value), bindArgs (PySem.W.kla_fn "<lambda>" q params body scope cl pm cv ctv) ⟨[], []⟩ = pure [])
    (hbody : ∀ (A : Around) (outer : List Env) (s : Shared) (H : Hp) (E : XK) (f c' : Addr), Room k (A.deeper (LamX.lamEnv X scope s.heap.objs.size f c')) → PE (LamX.lamCx X A outer s H E scope f c') body (t E))
    (hdb : (x == ("__debug__" : Str)) = false := by decide) (hd : (a == ("__debug__" : Str)) = false := by decide) (hcd : (a == ("__classdict__" : Str)) = false := by decide) :
    PE X (.Call (.Name x p) [.Lambda params body scope lpos] [] pos) (LamX.tLam T TT t) := by
  obtain ⟨f, fd, F, m, b⟩ := A
  obtain ⟨oc, od, kV, doc, pm, an, cdv, ct, osl, rfl, lk, hc⟩ := F.ex
  exact LamX.pe_lamcall (dV := .none) hg m F.kp lk hc b Sg hNg hva (hG f cdv) TB hcode hmT hu hr L hdef hbind hbody hdb hd hcd
end
end Un

set_option maxHeartbeats 2000000
/-! UnCm: classmethods in bundles; cls(..) within one; bool(o) by an own method. -/
namespace Un
open PySem PySem.Spec PyProof.Rows L2
/-- a classmethod of the class at C, as it stands, its defaults' values told -/
def AtCm (K : PySem.W.Frag) (C : Addr) (m qual : Str) (st : Stmt) (dvs : List V) : Prop :=
  ∃ (p g : Addr) (fd : FuncData), FunD K m qual (defArgs st) (defBody st) (defScope st) dvs [] g fd ∧ ClX.CRead K C (.type "type") ∧ ClX.CMet K C (.type "type") m p g
/-- an __init__ without defaults -/
def AtI0 (K : PySem.W.Frag) (C : Addr) (m qual : Str) (st : Stmt) (ps : List Str) : Prop := ∃ (f : Addr) (fd : FuncData), Fun K m qual st f fd ∧ L2.Mk K C f ∧ Binds K fd ps []
/-- the same as a promise of what stands behind the class -/
def CmG (P : Program) (w : World) (K : PySem.W.Frag) (mg : Str → Option Value) (base : Heap) (CX : CXT) (C : Addr) (m : Str) (k : Nat) (sp : Sp) : Prop :=
  ∃ p g : Addr, ClX.CRead K C (.type "type") ∧ ClX.CMet K C (.type "type") m p g ∧ FnR P w K mg base CX k g sp
def cmB (K : PySem.W.Frag) (C : Addr) (m : Str) (p g : Addr) : Bool :=
  (match PySem.W.findCls K (.ref C) (.type "type") m with
    | some (.get (.builtin i) (.ref q) .none (.ref D)) => decide (i = "classmethod.__get__") && (decide (q = p) && decide (D = C))
    | _ => false) && ((match PySem.W.recIn K p "classmethod" with
    | some (.ref d :: _) => decide (d = g)
    | _ => false) && PySem.W.fnIn K g)
theorem cmB_ok {K : PySem.W.Frag} {C : Addr} {m : Str} {p g : Addr} (b : cmB K C m p g = true) : ClX.CMet K C (.type "type") m p g := by
  obtain ⟨b1, b⟩ := Bool.and_eq_true_iff.mp b
  obtain ⟨b2, b3⟩ := Bool.and_eq_true_iff.mp b
  refine ⟨?_, ?_, b3⟩
  · clear b b2
    split at b1
    · rename_i i q D e
      obtain ⟨c1, c⟩ := Bool.and_eq_true_iff.mp b1
      obtain ⟨c2, c3⟩ := Bool.and_eq_true_iff.mp c
      rw [e, of_decide_eq_true c1, of_decide_eq_true c2, of_decide_eq_true c3]
    · cases b1
  · split at b2
    · rename_i d r e
      exact ⟨r, by rw [e, of_decide_eq_true b2]⟩
    · cases b2
def crB (K : PySem.W.Frag) (C : Addr) : Bool := PySem.W.readsIn K C (.type "type") && (match PySem.W.specialIn K (.ref C) "__getattribute__" with
  | some (some (.builtin i)) => decide (i = "type.__getattribute__")
  | _ => false)
theorem crB_ok {K : PySem.W.Frag} {C : Addr} (b : crB K C = true) : ClX.CRead K C (.type "type") := by
  obtain ⟨b1, b2⟩ := Bool.and_eq_true_iff.mp b
  refine ⟨b1, ?_⟩
  split at b2
  · rename_i i e
    rw [e, of_decide_eq_true b2]
  · cases b2
section
variable {P : Program} {w : World} {K : PySem.W.Frag} {mg : Str → Option Value} {base : Heap} {C : Addr} {m qual : Str} {st : Stmt} {ps : List Str} {k : Nat} {sp : Sp} {CX : CXT}
/-- every parameter written -/
theorem cmG_of (a : AtCm K C m qual st []) (hb : ∀ (kV doc pm : Value) (an : Option Addr) (cdv ct : Value) (us : List Value), us.length = ps.length → bindArgs (PySem.W.fnOf m qual (defArgs st) (defBody st) (defScope st) .none kV doc pm an cdv ct) ⟨us, []⟩ = pure (ps.zip us))
    (h : ∀ f fd, FunD K m qual (defArgs st) (defBody st) (defScope st) [] [] f fd → FnOk P w K mg base CX k f fd ps sp) : CmG P w K mg base CX C m k sp := by
  obtain ⟨p, g, fd, F, r, c⟩ := a
  exact ⟨p, g, r, c, ((h g fd F).raw (F.bindsN hb) .nil).imp fun vs H Q E q => by rw [List.append_nil]; exact q⟩
/-- one default; n values are written -/
theorem cmG_ofD {d : V} (a : AtCm K C m qual st [d]) (n j : Nat) (hn : n + (1 - j) = ps.length)
    (hb : ∀ (T : Addr) (kV doc pm : Value) (an : Option Addr) (cdv ct : Value) (us its : List Value), us.length = n → its.length = 1 →
      ∃ kk, bindArgs (PySem.W.fnOf m qual (defArgs st) (defBody st) (defScope st) (.ref T) kV doc pm an cdv ct) ⟨us, []⟩ = seqItems? (.ref T) >>= kk ∧ kk (some its.toArray) = pure (ps.zip (us ++ its.drop j)))
    (h : ∀ f fd, FunD K m qual (defArgs st) (defBody st) (defScope st) [d] [] f fd → FnOk P w K mg base CX k f fd ps sp) : CmG P w K mg base CX C m k fun vs H Q E => sp (vs ++ [d].drop j) H Q E := by
  obtain ⟨p, g, fd, F, r, c⟩ := a
  obtain ⟨ds, v, b⟩ := F.binds1 (ps := ps) n j (by simp) hn hb
  exact ⟨p, g, r, c, (h g fd F).raw b v⟩
end
/-! ### C.m(e, ..), within try too -/
def tCmS (C : Addr) (sp : Sp) (E : L2.St → XK) (ta : TE) (t : TA) : TE := fun σ H Q => ta σ H fun x H1 => x = .ref C ∧ t σ H1 fun vs H2 => sp (.ref C :: vs) H2 Q (E σ)
section
variable {X : Cx} {CX : CXT} {k j : Nat} {C p g : Addr} {sp : Sp} {E : L2.St → XK} {o e : Expr} {es : List Expr} {m : Str} {pos apos : Pos} {ta : TE} {t : TA} {pl : Sem Bool}
theorem run_cmS {pins : List (Addr × Obj)} {σ : L2.St} {H : Hp} {s : Shared} {q : Addr} {Q : VK} {us : List Value} {vs : List V} (F : FnR X.prog X.w X.K X.mg X.base CX k g sp) (hr : Room k X.A) (hx : PassesAt CX X σ (E σ)) (I : Inv X ((q, PySem.W.methodObj (.ref g) (.ref C)) :: pins) σ H s)
    (r : Vals vs us) (h : sp (.ref C :: vs) H Q (E σ)) : wpAny (model X.prog X.w) X.A (call (.ref q) us) (EP X pins σ Q) X.xe s := by
  have r2 : Vals (V.ref C :: vs) (Value.ref C :: us) := .cons rfl r
  have body : codeAny (model X.prog X.w) X.A (.call (.ref g) ⟨.ref C :: us, []⟩) (fun a s' => match a with | .ok (.ret v) => EP X pins σ Q v s' | .ok _ => False | .error e => X.xe e s') s := by
    refine codeAny_mono (F X.A X.stack s H _ _ Q (E σ) hr I.env0 r2 h) fun a s' ha => ?_
    match a, ha with
    | .error e, ha => exact hx _ H s e s' I ha
    | .ok (.ret u), ha => exact ClX.unpinE (I.after ha)
    | .ok .next, ha => exact ha.elim
    | .ok .brk, ha => exact ha.elim
    | .ok .cont, ha => exact ha.elim
  exact wpAny_call (PySem.W.method_call (ClX.pin_at I) body)
theorem pe_cmS (c : CmG X.prog X.w X.K X.mg X.base CX C m k sp) (hr : Room j X.A) (hk : k ≤ j) (hx : ∀ σ, PassesAt CX X σ (E σ)) (he : PE X o ta) (ha : PA X (e :: es) t)
    (hst : starEach (e :: es) X.env = (false, eval e X.env) :: starEach es X.env := by rfl) (hpl : (backTo pos (starEach es X.env)).any (·.1) = false := by rfl)
    (ht : eval (.Call (.Attribute o m apos) (e :: es) [] pos) X.env = (do let ov ← eval o X.env; standAt apos.atName; let (f, first) ← holding [ov] (getMethod ov m pl); callWith pos f first (backTo pos (starEach (e :: es) X.env)) (backToKw pos (keywordEach [] X.env))) := by rfl) :
    PE X (.Call (.Attribute o m apos) (e :: es) [] pos) (tCmS C sp E ta t) := by
  obtain ⟨p, g, r, c, F⟩ := c
  refine ⟨fun pins s σ H Q I h => ?_⟩
  refine PySem.W.methodCall_KW (pl := pl) (thn (he.run pins s σ H _ I h) fun u s1 w1 => ?_) ht
  obtain ⟨x, H1, I1, rx, rfl, q⟩ := w1
  cases (show u = Value.ref C from rx)
  refine ClX.getmethcm_ok I1 r c fun s2 I2 => ?_
  refine ClX.callwith_cm I2 (ClX.base_none I1 (Nat.le_refl _)) c.fi (thn (ha.run pos _ s2 σ H1 _ I2 q) fun us s3 w2 => ?_) hst hpl
  obtain ⟨vs, H2, I3, rv, q2⟩ := w2
  exact ⟨⟨ClX.pin_at I3, I3.kIn⟩, run_cmS F (hr.mono hk) (hx σ) I3 rv q2⟩
end
/-! ### cls(e, ..), the class in a slot -/
def tMakeL (i : Nat) (C : Addr) (sp : Sp) (dvs : List V) (E : XK) (t : TA) : TE := fun σ H Q => σ[i]? = some (some (.ref C)) ∧ tMake C sp dvs E t σ H Q
section
variable {X : Cx} {k j i : Nat} {C : Addr} {sp : Sp} {dvs : List V} {x nm : Str} {p pos : Pos} {e : Expr} {es : List Expr} {t : TA}
theorem pe_mkL (g : MakD X.prog X.w X.K X.mg X.base nm C k sp dvs) (hr : Room j X.A) (hk : k + 1 ≤ j) (hN : X.N[i]? = some x) (hv : Vis X.env.scope x) (ha : PA X (e :: es) t)
    (hdb : (x == ("__debug__" : Str)) = false := by decide) (hcd : (x == ("__classdict__" : Str)) = false := by decide)
    (he : starEach (e :: es) X.env = (false, eval e X.env) :: starEach es X.env := by rfl) (hpl : (backTo pos (starEach es X.env)).any (·.1) = false := by rfl) : PE X (.Call (.Name x p) (e :: es) [] pos) (tMakeL i C sp dvs E0 t) := by
  obtain ⟨f, fd, ps, ds, M, F, hm, b, d⟩ := g
  refine ⟨fun pins s σ H Q I h => ?_⟩
  obtain ⟨hs, h⟩ := h
  refine wpAny_Call_Name_kw (thn ((pe_var (pos := p) hN hv hdb hcd).run pins s σ H (fun v H1 => v = .ref C ∧ H1 = H) I ⟨.ref C, hs, rfl, rfl⟩) fun u s1 w1 => ?_)
  obtain ⟨v, H1, I1, r1, rfl, rfl⟩ := w1
  cases r1
  refine PySem.W.callWith_K (h₀ := X.base) I.ok.mod.kin M.kp (thn (ha.run pos pins s1 σ _ _ I1 h) fun us s2 w2 => ?_) he hpl
  obtain ⟨vs, H2, I2, r, q⟩ := w2
  exact ⟨I2.kIn, run_make M F (hr.mono hk) b d pass0 I2 r q⟩
theorem rd_makeL {σ : L2.St} {H : Hp} {Q : VK} {E : XK} (hs : σ[i]? = some (some (.ref C))) (h : tMake C sp dvs E t σ H Q) : tMakeL i C sp dvs E t σ H Q := ⟨hs, h⟩
end
theorem rd_cmS {C : Addr} {sp : Sp} {E : L2.St → XK} {ta : TE} {t : TA} {σ : L2.St} {H : Hp} {Q : VK} (h : ta σ H fun x H1 => x = .ref C ∧ t σ H1 fun vs H2 => sp (.ref C :: vs) H2 Q (E σ)) : tCmS C sp E ta t σ H Q := h
theorem rd_refl {v : V} {R : Prop} (q : R) : v = v ∧ R := ⟨rfl, q⟩
/-! ### bool(o) by the own __bool__ -/
theorem bool_new_own {prog : Program} {w : World} (a : Addr) : MeetsIn prog w (Builtin.«bool.__new__» ⟨[.type "bool", .ref a], []⟩) (fun A R s => wpAny (model prog w) A.in1 (truthy (.ref a)) (fun b s' => R (.ok (.ret (.bool b))) s') (fun e s' => R (.error e) s') s) :=
  .of_wp fun A R s hs => by
    obtain ⟨hp, g, d, tk, os⟩ := s
    have f1 := F.conv_sub_bool
    repeat (any_goals (first | assumption | (refine wpAny_bind (m := truthy (.ref a)) (wpAny_mono hs (fun b s' hb => ?_) fun _ _ e => e)) | wp_step))
    all_goals first | exact ⟨_, rfl, by assumption⟩ | skip
section
variable {X : Cx} {CX : CXT} {k : Nat} {C f : Addr} {fd : FuncData} {ps : List Str} {sp : Sp} {E : XK}
theorem run_in2 {pins : List (Addr × Obj)} {σ : L2.St} {H : Hp} {s : Shared} {Q : VK} {us : List Value} {vs : List V} (F : FnOk X.prog X.w X.K X.mg X.base CX k f fd ps sp) (hr : Room (k + 2) X.A) (hb : Binds X.K fd ps []) (hx : Passes CX X E)
    (I : Inv X pins σ H s) (r : Vals vs us) (h : sp vs H Q E) : wpAny (model X.prog X.w) X.A.in1.in1 (call (.ref f) us) (EP X pins σ Q) X.xe s := by
  have hl : us.length = ps.length := by
    rw [← r.length]
    exact F.len _ _ _ _ h
  have bd := hb s us I.kIn (by simpa using hl)
  rw [List.append_nil] at bd
  refine wpAny_call (codeAny_mono (F.run X.A.in1.in1 X.stack s H ⟨us, []⟩ us vs Q E hr.in1.in1 I.env0.in1.in1 bd r h) fun q s' hq => ?_)
  match q, hq with
  | .error e, hq => exact hx pins σ H s e s' I hq
  | .ok (.ret u), hq => exact I.after hq
  | .ok .next, hq => exact hq.elim
  | .ok .brk, hq => exact hq.elim
  | .ok .cont, hq => exact hq.elim
/-- bool(o), bool(a truth value) -/
def rBoolO (C : Addr) (sp : Sp) (E : XK) : List V → Hp → VK → Prop := fun xs H Q => ∃ a dx fs, xs = [.ref a] ∧ H a = some (.ins C dx fs) ∧ sp [.ref a] H (fun r H' => ∃ b, r = .bl b ∧ Q (.bl b) H') E
def rBoolB : List V → Hp → VK → Prop := fun xs H Q => ∃ b, xs = [.bl b] ∧ Q (.bl b) H
theorem call_boolB : CallR X (.type "bool") rBoolB := fun pins s σ H xs us Q I r h => call_bool1 pins s σ H xs us Q I r (.inr h)
theorem call_boolO (hm : Meth X.K C "__bool__" f) (F : FnOk X.prog X.w X.K X.mg X.base CX k f fd ps sp) (hr : Room (k + 2) X.A) (hb : Binds X.K fd ps []) (hx : Passes CX X E) : CallR X (.type "bool") (rBoolO C sp E) := by
  intro pins s σ H xs us Q I r h
  obtain ⟨a, dx, fs, rfl, ha, h⟩ := h
  obtain ⟨u, rfl, ru⟩ := vals1 r
  cases (show u = Value.ref a from ru)
  obtain ⟨mA, O, _⟩ := ins_get I.hok ha
  obtain ⟨od, J, _⟩ := O.look
  obtain ⟨m, hF⟩ := I.fr
  refine callType_newIn PySem.F.called_bool PySem.F.newNe_bool (PySem.F.typeCall_bool_1 _) (PySem.F.newCall_bool_1 _) (fun obj => PySem.F.args_object_init_2 obj _) PySem.F.entry_bool_new (bool_new_own a) ?_
  refine PySem.W.truthy_K hF I.ok.mod.kin J hm.at_ hm.fn (wpAny_mono (run_in2 F hr hb hx I (show Vals [V.ref a] [Value.ref a] from .cons rfl .nil) h) (fun v s' hs => ?_) fun _ _ e => e)
  obtain ⟨z, H', I', rz, b, rfl, q⟩ := hs
  cases (show v = Value.bool b from rz)
  exact ⟨rfl, .bl b, H', I', rfl, q⟩
end
section
variable {X : Cx} {k j : Nat} {C : Addr} {ps : List Str} {sp : Sp}
theorem bool_G (g : MetG X.prog X.w X.K X.mg X.base CX0 C "__bool__" ps k sp) (hr : Room j X.A) (hk : k + 2 ≤ j) : CallR X (.type "bool") (rBoolO C sp E0) := by
  obtain ⟨f, fd, c, M, F, i, b⟩ := g
  exact call_boolO M F (hr.mono hk) b pass0
end
/-- x.endswith(y) -/
theorem ends_tx (a b : List Nat) : Txt.endswith (tx a) (tx b) = decide (b.length ≤ a.length ∧ a.drop (a.length - b.length) = b) := by
  unfold Txt.endswith Builtin.Str.subAt
  rw [tx_len, tx_len, Nat.zero_add, Bool.eq_iff_iff, Bool.and_eq_true, decide_eq_true_eq, beq_iff_eq, decide_eq_true_eq]
  refine and_congr_right fun h => ?_
  rw [← Array.toList_inj]
  have e : a.length - b.length + b.length = a.length := Nat.sub_add_cancel h
  simp [tx, List.extract_eq_take_drop, h]
  rw [List.take_of_length_le (by rw [List.length_drop]; exact Nat.le_refl _)]
def rEndX : V → List V → Hp → VK → Prop := fun x xs H Q => ∃ a b : List Nat, x = .str (tx a) ∧ xs = [.str (tx b)] ∧ Q (.bl (decide (b.length ≤ a.length ∧ a.drop (a.length - b.length) = b))) H
theorem mt_endX {X : Cx} : MtR X "str.endswith" rEndX := by
  intro pins s σ H x xs v us Q I rx rs h
  obtain ⟨a, b, rfl, rfl, q⟩ := h
  exact mt_endswith pins s σ H _ _ v us Q I rx rs ⟨_, _, rfl, rfl, by rw [ends_tx]; exact q⟩
theorem rd_endX {H : Hp} {Q : VK} {a b : List Nat} (q : Q (.bl (decide (b.length ≤ a.length ∧ a.drop (a.length - b.length) = b))) H) : rEndX (.str (tx a)) [.str (tx b)] H Q := ⟨a, b, rfl, rfl, q⟩
theorem rd_boolB {H : Hp} {Q : VK} {b : Bool} (q : Q (.bl b) H) : rBoolB [.bl b] H Q := ⟨b, rfl, q⟩
end Un

/-! UnRev: text[::-1]. -/
namespace Un
open PySem PySem.Spec PyProof.Rows L2
def tRevS (te : TE) : TE := fun σ H Q => te σ H fun x H1 => ∃ l, x = .str (tx l) ∧ l.length ≤ sizeLine ∧ Q (.str (tx l.reverse)) H1
theorem rev_picked (l : List Nat) (t1 : Tok) : ((slicePicked (tx l) none none (some (-1, t1))).filterMap ((tx l).cps[·]?)) = l.reverse := by
  show ((PySem.sliceRange (((tx l).length : Int) - 1) (-1) (-1)).filterMap ((tx l).cps[·]?)) = l.reverse
  rw [PySem.W.krv_sliceRange, PySem.W.krv_range, List.filterMap_reverse]
  have e : (List.range (tx l).length).filterMap ((tx l).cps[·]?) = (tx l).cps.toList := PySem.W.krv_all _
  rw [e, tx_cps]
theorem pe_revS {X : Cx} {e : Expr} {te : TE} {k : Nat} {p1 p2 p3 pos : Pos} (he : PE X e te) : PE X (.Subscript e (.Slice none none (some (.UnaryOp .USub (.Constant (.int 1) k p1) p2)) p3) pos) (tRevS te) := by
  refine ⟨fun pins s σ H Q I h => ?_⟩
  refine Subscript_ (thn (he.run pins s σ H _ I h) fun v s1 ⟨x, H1, I1, r1, q1⟩ => ?_)
  obtain ⟨z, ex, hz, q⟩ := q1
  subst ex
  obtain ⟨t, rfl⟩ := r1
  have hst : PO X (some (.UnaryOp .USub (.Constant (.int 1) k p1) p2)) (tPart (tUn (rU fun i => .int (-i)) (tC (.int 1)))) := po_some (pe_un un_neg pe_int)
  refine wpAny_Slice (thn (po_none.run pins s1 σ H1 (fun o H2 => o = none ∧ H2 = H1) I1 ⟨rfl, rfl⟩) fun vl s2 ⟨l, H2, I2, pl, el, e2⟩ => ?_)
  subst el e2
  refine thn (po_none.run pins s2 σ H2 (fun o H3 => o = none ∧ H3 = H2) I2 ⟨rfl, rfl⟩) fun vu s3 ⟨u, H3, I3, pu, eu, e3⟩ => ?_
  subst eu e3
  refine thn (hst.run pins s3 σ H3 (fun o H4 => o = some (-1) ∧ H4 = H3) I3 ⟨1, rfl, -1, rfl, rfl, rfl⟩) fun vs s4 ⟨o, H4, I4, ps, eo, e4⟩ => ?_
  subst eo e4
  have I5 : Inv X pins σ H4 { s4 with heap := s4.heap.push { cls := .type "slice", data := .fields #[vl, vu, vs] } } := I4.kept (t' := s4.toks) fun b ob q => Heap.get?_push_of_some _ q
  obtain ⟨a1, rfl, f1⟩ := IsPart.raw pl
  obtain ⟨a2, rfl, f2⟩ := IsPart.raw pu
  obtain ⟨a3, rfl, f3⟩ := IsPart.raw ps
  cases a1 with
  | some _ => cases f1
  | none =>
  cases a2 with
  | some _ => cases f2
  | none =>
  cases a3 with
  | none => cases f3
  | some c =>
  obtain ⟨ci, ct⟩ := c
  have hci : ci = -1 := Option.some.inj f3
  subst hci
  show wpAny (model X.prog X.w) X.A (subscriptTail e (.Slice none none (some (.UnaryOp .USub (.Constant (.int 1) k p1) p2)) p3) (.str (tx z) t) (.ref s4.heap.objs.size)) (EP X pins σ Q) X.xe _
  refine tail_any (ops := [.str (tx z) t, .ref s4.heap.objs.size]) (typeIs_str _ _ _) (PySem.F.slot_str_getitem.lookup) ?_ (by with_unfolding_all rfl)
  refine wpAny_getItem_str_slice (l := none) (u := none) (st := some (-1, ct)) ⟨_, Heap.get?_push_size _ rfl, rfl, rfl⟩ rfl ?_
  unfold sliceMade
  have hneg : ¬ (((Option.map (fun x : Int × Tok => x.1) (some ((-1 : Int), ct))).getD 1 == 1 && (slicePicked (tx z) none none (some (-1, ct))).length == (tx z).length) = true) := by
    show ¬ (((-1 : Int) == 1 && _) = true)
    simp
  rw [if_neg hneg, rev_picked]
  exact ⟨by show (tx z.reverse).length ≤ sizeLine; rw [tx_len, List.length_reverse]; exact hz, .str _, H4, I5.tok _, ⟨_, rfl⟩, q⟩
theorem rd_revS {te : TE} {σ : L2.St} {H : Hp} {Q : VK} (h : te σ H fun x H1 => ∃ l, x = .str (tx l) ∧ l.length ≤ sizeLine ∧ Q (.str (tx l.reverse)) H1) : tRevS te σ H Q := h
end Un

/-! UnTy: what stays where nothing but tables of code objects changes. -/
namespace Un
open PySem PySem.Spec PyProof.Rows L2
abbrev ExtN := LamX.ExtN
theorem Same.ext {H H' : Hp} (s : Same H H') : ExtN H H' := fun b o h _ => s b o h
theorem tyX_ext {K : PySem.W.Frag} {H H' : Hp} {x : V} {t : Value} (s : ExtN H H') (h : TyX K H x t) : TyX K H' x t := by
  cases h with
  | base h =>
    cases h with
    | non => exact .base .non
    | bl x => exact .base (.bl x)
    | int i => exact .base (.int i)
    | str x => exact .base (.str x)
    | flt x => exact .base (.flt x)
    | lst e => exact .base (.lst (s _ _ e fun _ z => by cases z))
    | frz e => exact .base (.frz (s _ _ e fun _ z => by cases z))
    | tup e => exact .base (.tup (s _ _ e fun _ z => by cases z))
    | dK e => exact .base (.dK (s _ _ e fun _ z => by cases z))
    | dT e => exact .base (.dT (s _ _ e fun _ z => by cases z))
    | ins e cl ha hn htk hm => exact .base (.ins (s _ _ e fun _ z => by cases z) cl ha hn htk hm)
  | byt b => exact .byt b
  | set e => exact .set (s _ _ e fun _ z => by cases z)
  | kList e c => exact .kList e c
  | kTuple e c => exact .kTuple e c
  | kDict e c => exact .kDict e c
  | fTuple e => exact .fTuple (s _ _ e fun _ z => by cases z)
  | fDict e => exact .fDict (s _ _ e fun _ z => by cases z)
theorem sqL_ext {K : PySem.W.Frag} {H H' : Hp} {a : Addr} {ys : List V} (h : SqL K H a ys) (s : ExtN H H') : SqL K H' a ys := by
  rcases h with (h | ⟨o, h⟩) | h
  · exact .inl (.inl (s _ _ h fun _ z => by cases z))
  · exact .inl (.inr ⟨o, s _ _ h fun _ z => by cases z⟩)
  · exact .inr h
theorem sqT_ext {K : PySem.W.Frag} {H H' : Hp} {a : Addr} {ys : List V} (h : SqT K H a ys) (s : ExtN H H') : SqT K H' a ys := by
  rcases h with (h | ⟨o, h⟩) | h
  · exact .inl (.inl (s _ _ h fun _ z => by cases z))
  · exact .inl (.inr ⟨o, s _ _ h fun _ z => by cases z⟩)
  · exact .inr h
mutual
theorem Dp.ext {K : PySem.W.Frag} {H H' : Hp} (s : ExtN H H') : ∀ {v : V} {d : PyData}, Dp K H v d → Dp K H' v d
  | _, _, .non => .non
  | _, _, .bl b => .bl b
  | _, _, .int i => .int i
  | _, _, .str x => .str x
  | _, _, .lst h t => .lst (sqL_ext h s) (DpAll.ext s t)
  | _, _, .tup h t => .tup (sqT_ext h s) (DpAll.ext s t)
theorem DpAll.ext {K : PySem.W.Frag} {H H' : Hp} (s : ExtN H H') : ∀ {vs : List V} {ds : List PyData}, DpAll K H vs ds → DpAll K H' vs ds
  | _, _, .nil => .nil
  | _, _, .cons h t => .cons (Dp.ext s h) (DpAll.ext s t)
end
theorem all_good {z w : Nat} : ∀ {ds : List PyData}, (∀ d ∈ ds, GoodZ z w d) → PyData.showableAll ds = true ∧ PyData.hasDictAll ds = false ∧ PyData.depthAll ds ≤ z ∧ PyData.leavesShortAll 62 ds = true ∧ PyData.weightAll ds ≤ (w + 1) * ds.length
  | [], _ => ⟨rfl, rfl, Nat.zero_le _, rfl, Nat.zero_le _⟩
  | d :: r, h => by
    obtain ⟨h1, h2, h3, h4, h5⟩ := all_good (ds := r) fun e he => h e (List.mem_cons_of_mem _ he)
    have g := h d List.mem_cons_self
    have gz := g.z
    have gw := g.w
    refine ⟨?_, ?_, ?_, ?_, ?_⟩
    · simp only [PyData.showableAll, g.s, h1, Bool.and_true]
    · simp only [PyData.hasDictAll, g.n, h2, Bool.or_false]
    · simp only [PyData.depthAll]
      omega
    · simp only [PyData.leavesShortAll, g.l, h4, Bool.and_true]
    · simp only [PyData.weightAll, List.length_cons]
      have e : (w + 1) * (r.length + 1) = (w + 1) * r.length + (w + 1) := by rw [Nat.mul_add, Nat.mul_one]
      omega
theorem list_good {z w : Nat} {ds : List PyData} (h : ∀ d ∈ ds, GoodZ z w d) : GoodZ (z + 1) ((w + 1) * ds.length + 1) (.list ds) := by
  obtain ⟨h1, h2, h3, h4, h5⟩ := all_good h
  refine ⟨?_, ?_, ?_, ?_, ?_⟩
  · simp only [PyData.showable, h1]
  · simp only [PyData.hasDict, h2]
  · simp only [PyData.depth]
    omega
  · simp only [PyData.leavesShort, h4]
  · simp only [PyData.weight]
    omega
theorem tup_good {z w : Nat} {ds : List PyData} (h : ∀ d ∈ ds, GoodZ z w d) : GoodZ (z + 1) ((w + 1) * ds.length + 1) (.tuple ds) := by
  obtain ⟨h1, h2, h3, h4, h5⟩ := all_good h
  refine ⟨?_, ?_, ?_, ?_, ?_⟩
  · simp only [PyData.showable, h1]
  · simp only [PyData.hasDict, h2]
  · simp only [PyData.depth]
    omega
  · simp only [PyData.leavesShort, h4]
  · simp only [PyData.weight]
    omega
theorem non_good : GoodZ 0 0 .none := ⟨rfl, rfl, by decide +kernel, rfl, by decide +kernel⟩
theorem one_mem {α : Type} {P : α → Prop} {a : α} (h : P a) : ∀ x ∈ [a], P x := fun x hx => by rw [List.mem_singleton.mp hx]; exact h
theorem two_mem {α : Type} {P : α → Prop} {a b : α} (h : P a) (k : P b) : ∀ x ∈ [a, b], P x := fun x hx => by
  rcases List.mem_cons.mp hx with e | hx
  · rw [e]
    exact h
  · rw [List.mem_singleton.mp hx]
    exact k
theorem lay_all : ∀ {ds : List PyData}, (∀ d ∈ ds, d.canLay0 = true) → PyData.canLayAll0 ds = true
  | [], _ => by simp only [PyData.canLayAll0]
  | d :: r, h => by
    simp only [PyData.canLayAll0, h d List.mem_cons_self, lay_all (ds := r) fun e he => h e (List.mem_cons_of_mem _ he), Bool.and_true]
theorem lay_list {ds : List PyData} (h : ∀ d ∈ ds, d.canLay0 = true) : (PyData.list ds).canLay0 = true := by simp only [PyData.canLay0, lay_all h]
theorem lay_tup {ds : List PyData} (h : ∀ d ∈ ds, d.canLay0 = true) : (PyData.tuple ds).canLay0 = true := by simp only [PyData.canLay0, lay_all h]
theorem lay_str {l : List Nat} (h : ∀ c ∈ l, c < 1000) : (PyData.str (tx l)).canLay0 = true := by
  simp only [PyData.canLay0, PyData.strOk]
  rw [← Array.all_toList, tx_cps, List.all_eq_true]
  exact fun c hc => decide_eq_true (by have := h c hc; omega)
theorem shaped_good {z w : Nat} {d : PyData} (g : GoodZ z w d) (hz : z ≤ 64) (h : d.canLay0 = true) : SeqAt.shaped d = true := by
  unfold SeqAt.shaped
  rw [h, Bool.true_and]
  exact decide_eq_true (Nat.le_trans g.z hz)
theorem dpAll_app {K : PySem.W.Frag} {H : Hp} : ∀ {vs ws : List V} {ds es : List PyData}, DpAll K H vs ds → DpAll K H ws es → DpAll K H (vs ++ ws) (ds ++ es)
  | _, _, _, _, .nil, b => b
  | _, _, _, _, .cons h t, b => .cons h (dpAll_app t b)
theorem dpAll_take {K : PySem.W.Frag} {H : Hp} : ∀ {vs : List V} {ds : List PyData} (n : Nat), DpAll K H vs ds → DpAll K H (vs.take n) (ds.take n)
  | _, _, 0, _ => .nil
  | _, _, n + 1, .nil => .nil
  | _, _, n + 1, .cons h t => .cons h (dpAll_take n t)
theorem dpAll_drop {K : PySem.W.Frag} {H : Hp} : ∀ {vs : List V} {ds : List PyData} (n : Nat), DpAll K H vs ds → DpAll K H (vs.drop n) (ds.drop n)
  | _, _, 0, h => h
  | _, _, n + 1, .nil => .nil
  | _, _, n + 1, .cons h t => dpAll_drop n t
end Un

local macro_rules | `(tactic| walk_at "rd") => `(tactic| first
  | with_reducible refine' Un.rd_seq ?_
  | with_reducible refine' Un.rd_asg ?_
  | with_reducible refine' Un.rd_gname ?_
  | ((with_reducible refine' Un.rd_var ?k1 ?_); (case k1 => rfl))
  | with_reducible refine' Un.rd_c ?_
  | with_reducible refine' Un.rd_op ?_
  | with_reducible refine' Un.rd_I0 ?_
  | with_reducible refine' Un.rd_test ?_
  | with_reducible refine' Un.rd_bl ?_
  | with_reducible refine' Un.rd_ifS ?_
  | with_reducible refine' Un.rd_call ?_
  | with_reducible refine' Un.rd_cons ?_
  | with_reducible refine' Un.rd_nil ?_
  | with_reducible refine' Un.rd_ret ?_
  | with_reducible refine' Un.rd_retN ?_
  | with_reducible refine' Un.rd_drop ?_
  | with_reducible refine' Un.rd_next ?_
  | with_reducible refine' Un.rd_break ?_
  | with_reducible refine' Un.rd_cont ?_
  | with_reducible refine' Un.rd_cb ?_
  | with_reducible refine' Un.rd_bm ?_
  | with_reducible refine' Un.rd_bm0 ?_
  | with_reducible refine' Un.rd_tyS ?_
  | with_reducible refine' Un.rd_lst ?_
  | with_reducible refine' Un.rd_tup ?_
  | with_reducible refine' Un.rd_sl ?_
  | with_reducible refine' Un.rd_part ?_
  | with_reducible refine' Un.rd_some ?_
  | with_reducible refine' Un.rd_nopart ?_
  | with_reducible refine' Un.rd_un ?_
  | with_reducible refine' Un.rd_U ?_
  | with_reducible refine' Un.rd_B ?_
  | with_reducible refine' Un.rd_and ?_
  | with_reducible refine' Un.rd_or ?_
  | with_reducible refine' Un.rd_not ?_
  | with_reducible refine' Un.rd_andV ?_
  | with_reducible refine' Un.rd_orV ?_
  | with_reducible refine' Un.rd_notV ?_
  | with_reducible refine' Un.rd_if ?_
  | with_reducible refine' Un.rd_gsub ?_
  | with_reducible refine' Un.rd_gnil ?_
  | with_reducible refine' Un.rd_gcons ?_
  | with_reducible refine' Un.rd_two ?_
  | with_reducible refine' Un.rd_ltX ?_
  | with_reducible refine' Un.rd_inX ?_
  | ((with_reducible refine' Un.rd_eq ?k1 ?_); (case k1 => rfl))
  | ((with_reducible refine' Un.rd_ne ?k1 ?_); (case k1 => rfl))
  | with_reducible refine' Un.rd_intI ?_
  | with_reducible refine' Un.rd_intB ?_
  | with_reducible refine' Un.rd_strS ?_
  | with_reducible refine' Un.rd_strE ?_
  | with_reducible refine' Un.rd_one ?_
  | with_reducible refine' Un.rd_par ?_
  | with_reducible refine' Un.rd_revL ?_
  | with_reducible refine' Un.rd_lc ?_
  | with_reducible refine' Un.rd_iList ?_
  | with_reducible refine' Un.rd_iStr ?_
  | with_reducible refine' Un.rd_iTup ?_
  | with_reducible refine' Un.rd_for ?_
  | with_reducible refine' Un.rd_rng1 ?_
  | with_reducible refine' Un.rd_rng2 ?_
  | with_reducible refine' Un.rd_yes ?_
  | with_reducible refine' Un.rd_startX ?_
  | with_reducible refine' Un.rd_leX ?_
  | with_reducible refine' Un.rd_isN1 ?_
  | with_reducible refine' Un.rd_notN1 ?_
  | with_reducible refine' Un.rd_maxX ?_
  | with_reducible refine' Un.rd_iEnumX (l := []) ?_)
local macro_rules | `(tactic| walk_at "rds") => `(tactic| repeat walk_at "rd")

local macro_rules | `(tactic| walk_at "rd") => `(tactic| first
  | with_reducible refine' Un.rd_fld ?_
  | with_reducible refine' Un.rd_sfld ?_
  | with_reducible refine' Un.rd_dput ?_
  | with_reducible refine' Un.rd_dget ?_
  | with_reducible refine' Un.rd_din ?_
  | with_reducible refine' Un.rd_dnotin ?_
  | with_reducible refine' Un.rd_ddel ?_
  | with_reducible refine' Un.rd_dnew ?_
  | with_reducible refine' Un.rd_make ?_
  | with_reducible refine' Un.rd_meth ?_
  | with_reducible refine' Un.rd_methN ?_
  | with_reducible refine' Un.rd_iKeys ?_
  | with_reducible refine' Un.rd_items ?_
  | with_reducible refine' Un.rd_mkR ?_
  | with_reducible refine' Un.rd_pop1 ?_
  | with_reducible refine' Un.rd_get2 ?_
  | with_reducible refine' Un.rd_gtX ?_)

local macro_rules | `(tactic| walk_at "rd") => `(tactic| first
  | with_reducible refine' Un.rd_newB ?_
  | with_reducible refine' Un.rd_getB ?_
  | with_reducible refine' Un.rd_dnewT ?_
  | with_reducible refine' Un.rd_then ?_
  | with_reducible refine' Un.rd_dcT ?_
  | with_reducible refine' Un.rd_clX ?_
  | with_reducible refine' Un.rd_cmS ?_
  | with_reducible refine' Un.rd_boolB ?_
  | with_reducible refine' Un.rd_lenSet ?_
  | with_reducible refine' Un.rd_endX ?_
  | with_reducible refine' Un.rd_startX ?_
  | with_reducible refine' Un.rd_disp1 ?_
  | with_reducible refine' Un.rd_zipK ?_
  | ((with_reducible refine' Un.rd_aug ?k1 ?_); (case k1 => rfl))
  | with_reducible refine' Un.rd_ipI ?_
  | with_reducible refine' Un.rd_lc2 ?_
  | with_reducible refine' Un.rd_enumK ?_)
namespace Zk12
open PySem PySem.Spec PyProof.Rows L2 Un
--K
--H k_NoText : PySem.W.kitOne K (.ref @NoText) (.ref @UnderError) = some true
--G law
--U UnderError
--U NoText
--F Names letters
--F Names table
--M Names.__init__
--M Names.none
--M Names.every
--M Names.of
--M Names.beginning
--M Names.family
--M Names.__contains__
--M Names.__bool__
--X _check_text
--X Names.of
--X Names.beginning
--X Names.family
def topS (i : Nat) : Stmt := PySem.Challenge.pw_undername_k12_sets_of_names_built.main.body.getD i (.Pass ⟨0, 0, 0, 0⟩)
abbrev s_size_of : Stmt := topS 1
abbrev n_size_of : List Str := ["table", "lost", "_", "due", "state", "way", "to", "many", "ready", "total", "passed", "is_in"]
theorem sc_size_of : FnScope n_size_of ["table"] (defScope s_size_of) := ⟨rfl, rfl, rfl, by decide +kernel, rfl, by decide +kernel, by decide +kernel⟩
abbrev s_many_of_length : Stmt := topS 2
abbrev n_many_of_length : List Str := ["table", "length", "lost", "reached", "_"]
theorem sc_many_of_length : FnScope n_many_of_length ["table", "length"] (defScope s_many_of_length) := ⟨rfl, rfl, rfl, by decide +kernel, rfl, by decide +kernel, by decide +kernel⟩
abbrev s_name_with_number : Stmt := topS 3
abbrev n_name_with_number : List Str := ["letters", "table", "number", "lost", "reached", "left", "length", "many"]
theorem sc_name_with_number : FnScope n_name_with_number ["letters", "table", "number"] (defScope s_name_with_number) := ⟨rfl, rfl, rfl, by decide +kernel, rfl, by decide +kernel, by decide +kernel⟩
abbrev s_least_name : Stmt := topS 4
abbrev n_least_name : List Str := ["letters", "table", "steps", "state", "is_in", "way", "letter", "to"]
theorem sc_least_name : FnScope n_least_name ["letters", "table"] (defScope s_least_name) := ⟨rfl, rfl, rfl, by decide +kernel, rfl, by decide +kernel, by decide +kernel⟩
abbrev s__path : Stmt := topS 5
abbrev n__path : List Str := ["steps", "state", "path", "letter"]
theorem sc__path : FnScope n__path ["steps", "state"] (defScope s__path) := ⟨rfl, rfl, rfl, by decide +kernel, rfl, by decide +kernel, by decide +kernel⟩
abbrev s__lost_state : Stmt := topS 6
abbrev n__lost_state : List Str := ["table", "state", "is_in", "way", "to"]
theorem sc__lost_state : FnScope n__lost_state ["table"] (defScope s__lost_state) := ⟨rfl, rfl, rfl, by decide +kernel, rfl, by decide +kernel, by decide +kernel⟩
abbrev s__stepped : Stmt := topS 7
abbrev n__stepped : List Str := ["table", "lost", "reached", "found", "state", "many", "to"]
theorem sc__stepped : FnScope n__stepped ["table", "lost", "reached"] (defScope s__stepped) := ⟨rfl, rfl, rfl, by decide +kernel, rfl, by decide +kernel, by decide +kernel⟩
abbrev s__many_in : Stmt := topS 8
abbrev n__many_in : List Str := ["table", "reached", "state", "many"]
theorem sc__many_in : FnScope n__many_in ["table", "reached"] (defScope s__many_in) := ⟨rfl, rfl, rfl, by decide +kernel, rfl, by decide +kernel, by decide +kernel⟩
abbrev s__spelled : Stmt := topS 9
abbrev n__spelled : List Str := ["letters", "table", "length", "number", "_", "counts", "last", "name", "state", "left", "further", "letter", "to", "is_in", "way", "goal"]
theorem sc__spelled : FnScope n__spelled ["letters", "table", "length", "number"] (defScope s__spelled) := ⟨rfl, rfl, rfl, by decide +kernel, rfl, by decide +kernel, by decide +kernel⟩
abbrev s_least_table : Stmt := topS 16
abbrev n_least_table : List Str := ["labels", "ways", "table", "parts", "part_labels", "part_ways", "part", "label", "way", "_", "to"]
theorem sc_least_table : FnScope n_least_table ["labels", "ways"] (defScope s_least_table) := ⟨rfl, rfl, rfl, by decide +kernel, rfl, by decide +kernel, by decide +kernel⟩
abbrev s_met_table : Stmt := topS 17
abbrev n_met_table : List Str := ["labels", "ways", "start", "met", "numbers", "at", "state", "to", "old", "goal"]
theorem sc_met_table : FnScope n_met_table ["labels", "ways", "start"] (defScope s_met_table) := ⟨rfl, rfl, rfl, by decide +kernel, rfl, by decide +kernel, by decide +kernel⟩
abbrev s__parts : Stmt := topS 18
abbrev n__parts : List Str := ["table", "part_of", "states", "places", "state", "firsts", "lasts", "sources", "waiting", "splitter", "goals", "sources_of", "middles", "to", "part", "middle", "at", "label", "_", "goal", "source"]
theorem sc__parts : FnScope n__parts ["table"] (defScope s__parts) := ⟨rfl, rfl, rfl, by decide +kernel, rfl, by decide +kernel, by decide +kernel⟩
abbrev s_numbered : Stmt := topS 19
abbrev n_numbered : List Str := ["labels", "numbers", "label"]
theorem sc_numbered : FnScope n_numbered ["labels"] (defScope s_numbered) := ⟨rfl, rfl, rfl, by decide +kernel, rfl, by decide +kernel, by decide +kernel⟩
abbrev s__side_by_side : Stmt := topS 20
abbrev n__side_by_side : List Str := ["part_of", "many", "code", "state", "part"]
theorem sc__side_by_side : FnScope n__side_by_side ["part_of"] (defScope s__side_by_side) := ⟨rfl, rfl, rfl, by decide +kernel, rfl, by decide +kernel, by decide +kernel⟩
abbrev s__places : Stmt := topS 21
abbrev n__places : List Str := ["states", "places", "at", "state", "_"]
theorem sc__places : FnScope n__places ["states"] (defScope s__places) := ⟨rfl, rfl, rfl, by decide +kernel, rfl, by decide +kernel, by decide +kernel⟩
abbrev s__sources : Stmt := topS 22
abbrev n__sources : List Str := ["table", "letter_at", "many", "codes", "found", "at", "goal", "start", "state", "_", "way", "code"]
theorem sc__sources : FnScope n__sources ["table", "letter_at"] (defScope s__sources) := ⟨rfl, rfl, rfl, by decide +kernel, rfl, by decide +kernel, by decide +kernel⟩
abbrev s_joined : Stmt := topS 23
abbrev n_joined : List Str := ["one", "other", "met", "numbers", "ways", "first", "second", "pair"]
theorem sc_joined : FnScope n_joined ["one", "other"] (defScope s_joined) := ⟨rfl, rfl, rfl, by decide +kernel, rfl, by decide +kernel, by decide +kernel⟩
abbrev s_state_behind : Stmt := topS 24
abbrev n_state_behind : List Str := ["letters", "table", "state", "text", "letter"]
theorem sc_state_behind : FnScope n_state_behind ["letters", "table", "state", "text"] (defScope s_state_behind) := ⟨rfl, rfl, rfl, by decide +kernel, rfl, by decide +kernel, by decide +kernel⟩
abbrev s_shared : Stmt := topS 26
abbrev n_shared : List Str := ["word", "name", "at", "letter"]
theorem sc_shared : FnScope n_shared ["word", "name"] (defScope s_shared) := ⟨rfl, rfl, rfl, by decide +kernel, rfl, by decide +kernel, by decide +kernel⟩
abbrev s_spread : Stmt := topS 28
abbrev n_spread : List Str := ["letters", "steps", "many", "state", "letter"]
theorem sc_spread : FnScope n_spread ["letters", "steps", "many"] (defScope s_spread) := ⟨rfl, rfl, rfl, by decide +kernel, rfl, by decide +kernel, by decide +kernel⟩
abbrev s_table_of : Stmt := topS 29
abbrev n_table_of : List Str := ["letters", "names", "steps", "ends", "many", "name", "state", "letter"]
theorem sc_table_of : FnScope n_table_of ["letters", "names"] (defScope s_table_of) := ⟨rfl, rfl, rfl, by decide +kernel, rfl, by decide +kernel, by decide +kernel⟩
abbrev s_table_in_front : Stmt := topS 30
abbrev n_table_in_front : List Str := ["letters", "text", "table", "size", "steps", "lost", "chain", "ways", "at", "letter", "_", "way", "is_in", "to"]
theorem sc_table_in_front : FnScope n_table_in_front ["letters", "text", "table"] (defScope s_table_in_front) := ⟨rfl, rfl, rfl, by decide +kernel, rfl, by decide +kernel, by decide +kernel⟩
abbrev s_table_of_family : Stmt := topS 31
abbrev n_table_of_family : List Str := ["letters", "word", "rest", "count", "along", "turn", "size", "steps", "at", "goal", "many", "letter", "state"]
theorem sc_table_of_family : FnScope n_table_of_family ["letters", "word", "rest", "count"] (defScope s_table_of_family) := ⟨rfl, rfl, rfl, by decide +kernel, rfl, by decide +kernel, by decide +kernel⟩
abbrev s_table_behind : Stmt := topS 32
abbrev n_table_behind : List Str := ["letters", "table", "text", "turns", "runs", "met", "numbers", "ways", "size", "state", "pairs", "pair", "at", "turn"]
theorem sc_table_behind : FnScope n_table_behind ["letters", "table", "text"] (defScope s_table_behind) := ⟨rfl, rfl, rfl, by decide +kernel, rfl, by decide +kernel, by decide +kernel⟩
abbrev s__turns : Stmt := topS 33
abbrev n__turns : List Str := ["letters", "text", "turns", "shorter", "size", "row", "_", "letter", "short"]
theorem sc__turns : FnScope n__turns ["letters", "text"] (defScope s__turns) := ⟨rfl, rfl, rfl, by decide +kernel, rfl, by decide +kernel, by decide +kernel⟩
abbrev s__runs : Stmt := topS 34
abbrev n__runs : List Str := ["letters", "table", "text", "runs", "state", "_", "run", "letter"]
theorem sc__runs : FnScope n__runs ["letters", "table", "text"] (defScope s__runs) := ⟨rfl, rfl, rfl, by decide +kernel, rfl, by decide +kernel, by decide +kernel⟩
abbrev s__consists_of : Stmt := topS 36
abbrev n__consists_of : List Str := ["characters", "text", "character"]
theorem sc__consists_of : FnScope n__consists_of ["characters", "text"] (defScope s__consists_of) := ⟨rfl, rfl, rfl, by decide +kernel, rfl, by decide +kernel, by decide +kernel⟩
abbrev s_is_text : Stmt := topS 37
abbrev n_is_text : List Str := ["letters", "value"]
theorem sc_is_text : FnScope n_is_text ["letters", "value"] (defScope s_is_text) := ⟨rfl, rfl, rfl, by decide +kernel, rfl, by decide +kernel, by decide +kernel⟩
abbrev s_Names___init__ : Stmt := inClass (topS 39) 0
abbrev n_Names___init__ : List Str := ["self", "letters", "table"]
theorem sc_Names___init__ : FnScope n_Names___init__ ["self", "letters", "table"] (defScope s_Names___init__) := ⟨rfl, rfl, rfl, by decide +kernel, rfl, by decide +kernel, by decide +kernel⟩
abbrev s_Names_none : Stmt := inClass (topS 39) 1
abbrev n_Names_none : List Str := ["cls", "letters"]
theorem sc_Names_none : FnScope n_Names_none ["cls", "letters"] (defScope s_Names_none) := ⟨rfl, rfl, rfl, by decide +kernel, rfl, by decide +kernel, by decide +kernel⟩
abbrev s_Names_every : Stmt := inClass (topS 39) 2
abbrev n_Names_every : List Str := ["cls", "letters"]
theorem sc_Names_every : FnScope n_Names_every ["cls", "letters"] (defScope s_Names_every) := ⟨rfl, rfl, rfl, by decide +kernel, rfl, by decide +kernel, by decide +kernel⟩
abbrev s_Names_of : Stmt := inClass (topS 39) 3
abbrev n_Names_of : List Str := ["cls", "letters", "some", "name"]
theorem sc_Names_of : FnScope n_Names_of ["cls", "letters", "some"] (defScope s_Names_of) := ⟨rfl, rfl, rfl, by decide +kernel, rfl, by decide +kernel, by decide +kernel⟩
abbrev s_Names_beginning : Stmt := inClass (topS 39) 4
abbrev n_Names_beginning : List Str := ["cls", "letters", "text"]
theorem sc_Names_beginning : FnScope n_Names_beginning ["cls", "letters", "text"] (defScope s_Names_beginning) := ⟨rfl, rfl, rfl, by decide +kernel, rfl, by decide +kernel, by decide +kernel⟩
abbrev s_Names_family : Stmt := inClass (topS 39) 5
abbrev n_Names_family : List Str := ["cls", "letters", "word", "rest", "count"]
theorem sc_Names_family : FnScope n_Names_family ["cls", "letters", "word", "rest", "count"] (defScope s_Names_family) := ⟨rfl, rfl, rfl, by decide +kernel, rfl, by decide +kernel, by decide +kernel⟩
abbrev s_Names_size : Stmt := inClass (topS 39) 6
abbrev n_Names_size : List Str := ["self"]
theorem sc_Names_size : FnScope n_Names_size ["self"] (defScope s_Names_size) := ⟨rfl, rfl, rfl, by decide +kernel, rfl, by decide +kernel, by decide +kernel⟩
abbrev s_Names_least : Stmt := inClass (topS 39) 7
abbrev n_Names_least : List Str := ["self"]
theorem sc_Names_least : FnScope n_Names_least ["self"] (defScope s_Names_least) := ⟨rfl, rfl, rfl, by decide +kernel, rfl, by decide +kernel, by decide +kernel⟩
abbrev s_Names_many : Stmt := inClass (topS 39) 8
abbrev n_Names_many : List Str := ["self", "length"]
theorem sc_Names_many : FnScope n_Names_many ["self", "length"] (defScope s_Names_many) := ⟨rfl, rfl, rfl, by decide +kernel, rfl, by decide +kernel, by decide +kernel⟩
abbrev s_Names___getitem__ : Stmt := inClass (topS 39) 9
abbrev n_Names___getitem__ : List Str := ["self", "at", "name"]
theorem sc_Names___getitem__ : FnScope n_Names___getitem__ ["self", "at"] (defScope s_Names___getitem__) := ⟨rfl, rfl, rfl, by decide +kernel, rfl, by decide +kernel, by decide +kernel⟩
abbrev s_Names___iter__ : Stmt := inClass (topS 39) 10
abbrev n_Names___iter__ : List Str := ["self"]
theorem sc_Names___iter__ : FnScope n_Names___iter__ ["self"] (defScope s_Names___iter__) := ⟨rfl, rfl, rfl, by decide +kernel, rfl, by decide +kernel, by decide +kernel⟩
abbrev s_Names___contains__ : Stmt := inClass (topS 39) 11
abbrev n_Names___contains__ : List Str := ["self", "x"]
theorem sc_Names___contains__ : FnScope n_Names___contains__ ["self", "x"] (defScope s_Names___contains__) := ⟨rfl, rfl, rfl, by decide +kernel, rfl, by decide +kernel, by decide +kernel⟩
abbrev s_Names___bool__ : Stmt := inClass (topS 39) 12
abbrev n_Names___bool__ : List Str := ["self"]
theorem sc_Names___bool__ : FnScope n_Names___bool__ ["self"] (defScope s_Names___bool__) := ⟨rfl, rfl, rfl, by decide +kernel, rfl, by decide +kernel, by decide +kernel⟩
abbrev s_Names___eq__ : Stmt := inClass (topS 39) 13
abbrev n_Names___eq__ : List Str := ["self", "other"]
theorem sc_Names___eq__ : FnScope n_Names___eq__ ["self", "other"] (defScope s_Names___eq__) := ⟨rfl, rfl, rfl, by decide +kernel, rfl, by decide +kernel, by decide +kernel⟩
abbrev s_Names___and__ : Stmt := inClass (topS 39) 14
abbrev n_Names___and__ : List Str := ["self", "other"]
theorem sc_Names___and__ : FnScope n_Names___and__ ["self", "other"] (defScope s_Names___and__) := ⟨rfl, rfl, rfl, by decide +kernel, rfl, by decide +kernel, by decide +kernel⟩
abbrev s_Names___or__ : Stmt := inClass (topS 39) 15
abbrev n_Names___or__ : List Str := ["self", "other"]
theorem sc_Names___or__ : FnScope n_Names___or__ ["self", "other"] (defScope s_Names___or__) := ⟨rfl, rfl, rfl, by decide +kernel, rfl, by decide +kernel, by decide +kernel⟩
abbrev s_Names___sub__ : Stmt := inClass (topS 39) 16
abbrev n_Names___sub__ : List Str := ["self", "other"]
theorem sc_Names___sub__ : FnScope n_Names___sub__ ["self", "other"] (defScope s_Names___sub__) := ⟨rfl, rfl, rfl, by decide +kernel, rfl, by decide +kernel, by decide +kernel⟩
abbrev s_Names___xor__ : Stmt := inClass (topS 39) 17
abbrev n_Names___xor__ : List Str := ["self", "other"]
theorem sc_Names___xor__ : FnScope n_Names___xor__ ["self", "other"] (defScope s_Names___xor__) := ⟨rfl, rfl, rfl, by decide +kernel, rfl, by decide +kernel, by decide +kernel⟩
abbrev s_Names___invert__ : Stmt := inClass (topS 39) 18
abbrev n_Names___invert__ : List Str := ["self", "is_in", "way"]
theorem sc_Names___invert__ : FnScope n_Names___invert__ ["self"] (defScope s_Names___invert__) := ⟨rfl, rfl, rfl, by decide +kernel, rfl, by decide +kernel, by decide +kernel⟩
abbrev s_Names___le__ : Stmt := inClass (topS 39) 19
abbrev n_Names___le__ : List Str := ["self", "other"]
theorem sc_Names___le__ : FnScope n_Names___le__ ["self", "other"] (defScope s_Names___le__) := ⟨rfl, rfl, rfl, by decide +kernel, rfl, by decide +kernel, by decide +kernel⟩
abbrev s_Names___lt__ : Stmt := inClass (topS 39) 20
abbrev n_Names___lt__ : List Str := ["self", "other"]
theorem sc_Names___lt__ : FnScope n_Names___lt__ ["self", "other"] (defScope s_Names___lt__) := ⟨rfl, rfl, rfl, by decide +kernel, rfl, by decide +kernel, by decide +kernel⟩
abbrev s_Names___ge__ : Stmt := inClass (topS 39) 21
abbrev n_Names___ge__ : List Str := ["self", "other"]
theorem sc_Names___ge__ : FnScope n_Names___ge__ ["self", "other"] (defScope s_Names___ge__) := ⟨rfl, rfl, rfl, by decide +kernel, rfl, by decide +kernel, by decide +kernel⟩
abbrev s_Names___gt__ : Stmt := inClass (topS 39) 22
abbrev n_Names___gt__ : List Str := ["self", "other"]
theorem sc_Names___gt__ : FnScope n_Names___gt__ ["self", "other"] (defScope s_Names___gt__) := ⟨rfl, rfl, rfl, by decide +kernel, rfl, by decide +kernel, by decide +kernel⟩
abbrev s_Names___add__ : Stmt := inClass (topS 39) 23
abbrev n_Names___add__ : List Str := ["self", "other"]
theorem sc_Names___add__ : FnScope n_Names___add__ ["self", "other"] (defScope s_Names___add__) := ⟨rfl, rfl, rfl, by decide +kernel, rfl, by decide +kernel, by decide +kernel⟩
abbrev s_Names___radd__ : Stmt := inClass (topS 39) 24
abbrev n_Names___radd__ : List Str := ["self", "other"]
theorem sc_Names___radd__ : FnScope n_Names___radd__ ["self", "other"] (defScope s_Names___radd__) := ⟨rfl, rfl, rfl, by decide +kernel, rfl, by decide +kernel, by decide +kernel⟩
abbrev s_Names___floordiv__ : Stmt := inClass (topS 39) 25
abbrev n_Names___floordiv__ : List Str := ["self", "other", "start", "labels", "is_in", "_", "way"]
theorem sc_Names___floordiv__ : FnScope n_Names___floordiv__ ["self", "other"] (defScope s_Names___floordiv__) := ⟨rfl, rfl, rfl, by decide +kernel, rfl, by decide +kernel, by decide +kernel⟩
abbrev s__check_text : Stmt := topS 40
abbrev n__check_text : List Str := ["letters", "value"]
theorem sc__check_text : FnScope n__check_text ["letters", "value"] (defScope s__check_text) := ⟨rfl, rfl, rfl, by decide +kernel, rfl, by decide +kernel, by decide +kernel⟩
abbrev s__constant : Stmt := topS 41
abbrev n__constant : List Str := ["letters", "is_in", "_"]
theorem sc__constant : FnScope n__constant ["letters", "is_in"] (defScope s__constant) := ⟨rfl, rfl, rfl, by decide +kernel, rfl, by decide +kernel, by decide +kernel⟩
abbrev s__joined : Stmt := topS 42
abbrev n__joined : List Str := ["one", "other"]
theorem sc__joined : FnScope n__joined ["one", "other"] (defScope s__joined) := ⟨rfl, rfl, rfl, by decide +kernel, rfl, by decide +kernel, by decide +kernel⟩
abbrev s__merged : Stmt := topS 43
abbrev n__merged : List Str := ["one", "other", "wanted", "pairs", "ways", "first", "second"]
theorem sc__merged : FnScope n__merged ["one", "other", "wanted"] (defScope s__merged) := ⟨rfl, rfl, rfl, by decide +kernel, rfl, by decide +kernel, by decide +kernel⟩
abbrev s__is_within : Stmt := topS 44
abbrev n__is_within : List Str := ["one", "other", "pairs", "_", "first", "second"]
theorem sc__is_within : FnScope n__is_within ["one", "other"] (defScope s__is_within) := ⟨rfl, rfl, rfl, by decide +kernel, rfl, by decide +kernel, by decide +kernel⟩
abbrev s__law_deal : Stmt := topS 46
abbrev n__law_deal : List Str := ["_law_script", "_law_base", "_law_cell", "_law_cells", "_law_mixed"]
theorem sc__law_deal : FnScope n__law_deal ["_law_script", "_law_base"] (defScope s__law_deal) := ⟨rfl, rfl, rfl, by decide +kernel, rfl, by decide +kernel, by decide +kernel⟩
abbrev s__law_draw : Stmt := topS 47
abbrev n__law_draw : List Str := ["_law_deal_here", "_law_many", "_law_left"]
theorem sc__law_draw : FnScope n__law_draw ["_law_deal_here", "_law_many"] (defScope s__law_draw) := ⟨rfl, rfl, rfl, by decide +kernel, rfl, by decide +kernel, by decide +kernel⟩
abbrev s__law_pick : Stmt := topS 48
abbrev n__law_pick : List Str := ["_law_deal_here", "_law_some"]
theorem sc__law_pick : FnScope n__law_pick ["_law_deal_here", "_law_some"] (defScope s__law_pick) := ⟨rfl, rfl, rfl, by decide +kernel, rfl, by decide +kernel, by decide +kernel⟩
abbrev s__law_letters : Stmt := topS 49
abbrev n__law_letters : List Str := ["_law_deal_here", "_law_most", "_law_signs", "_law_found", "_law_many", "_law_k", "_law_spot"]
theorem sc__law_letters : FnScope n__law_letters ["_law_deal_here", "_law_most"] (defScope s__law_letters) := ⟨rfl, rfl, rfl, by decide +kernel, rfl, by decide +kernel, by decide +kernel⟩
abbrev s__law_text : Stmt := topS 50
abbrev n__law_text : List Str := ["_law_deal_here", "_law_letters_here", "_law_most", "_law_k"]
theorem sc__law_text : FnScope n__law_text ["_law_deal_here", "_law_letters_here", "_law_most"] (defScope s__law_text) := ⟨rfl, rfl, rfl, by decide +kernel, rfl, by decide +kernel, by decide +kernel⟩
abbrev s__law_name : Stmt := topS 51
abbrev n__law_name : List Str := ["_law_deal_here", "_law_letters_here", "_law_most", "_law_form", "_law_many", "_law_word", "_law_k"]
theorem sc__law_name : FnScope n__law_name ["_law_deal_here", "_law_letters_here", "_law_most"] (defScope s__law_name) := ⟨rfl, rfl, rfl, by decide +kernel, rfl, by decide +kernel, by decide +kernel⟩
abbrev s__law_leaf : Stmt := topS 52
abbrev n__law_leaf : List Str := ["_law_deal_here", "_law_letters_here", "_law_form", "_law_word", "_law_k"]
theorem sc__law_leaf : FnScope n__law_leaf ["_law_deal_here", "_law_letters_here"] (defScope s__law_leaf) := ⟨rfl, rfl, rfl, by decide +kernel, rfl, by decide +kernel, by decide +kernel⟩
abbrev s__law_in : Stmt := topS 53
abbrev n__law_in : List Str := ["_law_told", "_law_name_here", "_law_word", "_law_left", "_law_size", "_law_one", "_law_other"]
theorem sc__law_in : FnScope n__law_in ["_law_told", "_law_name_here"] (defScope s__law_in) := ⟨rfl, rfl, rfl, by decide +kernel, rfl, by decide +kernel, by decide +kernel⟩
abbrev s__law_set : Stmt := topS 54
abbrev n__law_set : List Str := ["_law_letters_here", "_law_told", "_law_word", "_law_one", "_law_other"]
theorem sc__law_set : FnScope n__law_set ["_law_letters_here", "_law_told"] (defScope s__law_set) := ⟨rfl, rfl, rfl, by decide +kernel, rfl, by decide +kernel, by decide +kernel⟩
abbrev s__law_all_names : Stmt := topS 55
abbrev n__law_all_names : List Str := ["_law_letters_here", "_law_many", "_law_found", "_law_last", "_law_longer", "_law_name_here", "_law_letter"]
theorem sc__law_all_names : FnScope n__law_all_names ["_law_letters_here", "_law_many"] (defScope s__law_all_names) := ⟨rfl, rfl, rfl, by decide +kernel, rfl, by decide +kernel, by decide +kernel⟩
abbrev s__law_is_least : Stmt := topS 56
abbrev n__law_is_least : List Str := ["_law_letters_here", "_law_table", "_law_met", "_law_at", "_law_to", "_law_kinds", "_law_turn", "_law_keys", "_law_finer", "_law_row", "_law_spot", "_law_key"]
theorem sc__law_is_least : FnScope n__law_is_least ["_law_letters_here", "_law_table"] (defScope s__law_is_least) := ⟨rfl, rfl, rfl, by decide +kernel, rfl, by decide +kernel, by decide +kernel⟩
abbrev s__law_walked : Stmt := topS 57
abbrev n__law_walked : List Str := ["_law_letters_here", "_law_table", "_law_name_here", "_law_at", "_law_letter"]
theorem sc__law_walked : FnScope n__law_walked ["_law_letters_here", "_law_table", "_law_name_here"] (defScope s__law_walked) := ⟨rfl, rfl, rfl, by decide +kernel, rfl, by decide +kernel, by decide +kernel⟩
abbrev s__law_near : Stmt := topS 58
abbrev n__law_near : List Str := ["_law_told", "_law_letters_here", "_law_rows", "_law_k", "_law_name_here"]
theorem sc__law_near : FnScope n__law_near ["_law_told", "_law_letters_here"] (defScope s__law_near) := ⟨rfl, rfl, rfl, by decide +kernel, rfl, by decide +kernel, by decide +kernel⟩
abbrev s__law_refused : Stmt := topS 59
abbrev n__law_refused : List Str := ["_law_letters_here", "_law_form", "_law_one", "_law_other", "_law_found", "e"]
theorem sc__law_refused : FnScope n__law_refused ["_law_letters_here", "_law_form", "_law_one", "_law_other"] (defScope s__law_refused) := ⟨rfl, rfl, rfl, by decide +kernel, rfl, by decide +kernel, by decide +kernel⟩
abbrev s_law : Stmt := topS 60
abbrev n_law : List Str := ["_law_script", "_law_deal_here", "_law_turn", "_law_letters_here", "_law_told", "_law_names", "_law_some", "_law_name_here", "_law_due", "_law_every", "_law_none", "_law_bad", "_law_good", "_law_other", "_law_form", "_law_value"]
theorem sc_law : FnScope n_law ["_law_script"] (defScope s_law) := ⟨rfl, rfl, rfl, by decide +kernel, rfl, by decide +kernel, by decide +kernel⟩
abbrev s_NoText : Stmt := inClass (topS 13) 0
theorem sc_NoText : FnScope ["self", "value"] ["self", "value"] (defScope s_NoText) := ⟨rfl, rfl, rfl, by decide +kernel, rfl, by decide +kernel, by decide +kernel⟩
abbrev s_NoName : Stmt := inClass (topS 14) 0
theorem sc_NoName : FnScope ["self", "number"] ["self", "number"] (defScope s_NoName) := ⟨rfl, rfl, rfl, by decide +kernel, rfl, by decide +kernel, by decide +kernel⟩
/-- what the module's names hold -/
structure Txt (K : PySem.W.Frag) (mg : Str → Option Value) : Prop where
  a_size_of : At K mg "size_of" s_size_of ["table"]
  a_many_of_length : At K mg "many_of_length" s_many_of_length ["table", "length"]
  a_name_with_number : At K mg "name_with_number" s_name_with_number ["letters", "table", "number"]
  a_least_name : At K mg "least_name" s_least_name ["letters", "table"]
  a__path : At K mg "_path" s__path ["steps", "state"]
  a__lost_state : At K mg "_lost_state" s__lost_state ["table"]
  a__stepped : At K mg "_stepped" s__stepped ["table", "lost", "reached"]
  a__many_in : At K mg "_many_in" s__many_in ["table", "reached"]
  a__spelled : At K mg "_spelled" s__spelled ["letters", "table", "length", "number"]
  a_least_table : At K mg "least_table" s_least_table ["labels", "ways"]
  a_met_table : At K mg "met_table" s_met_table ["labels", "ways", "start"]
  a__parts : At K mg "_parts" s__parts ["table"]
  a_numbered : At K mg "numbered" s_numbered ["labels"]
  a__side_by_side : At K mg "_side_by_side" s__side_by_side ["part_of"]
  a__places : At K mg "_places" s__places ["states"]
  a__sources : At K mg "_sources" s__sources ["table", "letter_at"]
  a_joined : At K mg "joined" s_joined ["one", "other"]
  a_state_behind : At K mg "state_behind" s_state_behind ["letters", "table", "state", "text"]
  a_shared : At K mg "shared" s_shared ["word", "name"]
  a_spread : At K mg "spread" s_spread ["letters", "steps", "many"]
  a_table_of : At K mg "table_of" s_table_of ["letters", "names"]
  a_table_in_front : At K mg "table_in_front" s_table_in_front ["letters", "text", "table"]
  a_table_of_family : At K mg "table_of_family" s_table_of_family ["letters", "word", "rest", "count"]
  a_table_behind : At K mg "table_behind" s_table_behind ["letters", "table", "text"]
  a__turns : At K mg "_turns" s__turns ["letters", "text"]
  a__runs : At K mg "_runs" s__runs ["letters", "table", "text"]
  a__consists_of : At K mg "_consists_of" s__consists_of ["characters", "text"]
  a_is_text : At K mg "is_text" s_is_text ["letters", "value"]
  a__check_text : At K mg "_check_text" s__check_text ["letters", "value"]
  a__constant : At K mg "_constant" s__constant ["letters", "is_in"]
  a__joined : At K mg "_joined" s__joined ["one", "other"]
  a__merged : At K mg "_merged" s__merged ["one", "other", "wanted"]
  a__is_within : At K mg "_is_within" s__is_within ["one", "other"]
  a__law_deal : At K mg "_law_deal" s__law_deal ["_law_script", "_law_base"]
  a__law_draw : At K mg "_law_draw" s__law_draw ["_law_deal_here", "_law_many"]
  a__law_pick : At K mg "_law_pick" s__law_pick ["_law_deal_here", "_law_some"]
  a__law_letters : At K mg "_law_letters" s__law_letters ["_law_deal_here", "_law_most"]
  a__law_text : At K mg "_law_text" s__law_text ["_law_deal_here", "_law_letters_here", "_law_most"]
  a__law_name : At K mg "_law_name" s__law_name ["_law_deal_here", "_law_letters_here", "_law_most"]
  a__law_leaf : At K mg "_law_leaf" s__law_leaf ["_law_deal_here", "_law_letters_here"]
  a__law_in : At K mg "_law_in" s__law_in ["_law_told", "_law_name_here"]
  a__law_set : At K mg "_law_set" s__law_set ["_law_letters_here", "_law_told"]
  a__law_all_names : At K mg "_law_all_names" s__law_all_names ["_law_letters_here", "_law_many"]
  a__law_is_least : At K mg "_law_is_least" s__law_is_least ["_law_letters_here", "_law_table"]
  a__law_walked : At K mg "_law_walked" s__law_walked ["_law_letters_here", "_law_table", "_law_name_here"]
  a__law_near : At K mg "_law_near" s__law_near ["_law_told", "_law_letters_here"]
  a__law_refused : At K mg "_law_refused" s__law_refused ["_law_letters_here", "_law_form", "_law_one", "_law_other"]
  a_law : At K mg "law" s_law ["_law_script"]
  g_Names : mg "Names" = some (.ref (ca mg "Names"))
  k_Names : Cls K (ca mg "Names")
  q_Names : PySem.W.noSeq K (ca mg "Names") = true
  i_Names : InsK K (ca mg "Names")
  ne_Names : NeK K (ca mg "Names")
  n_Names_letters : NoAttr K (ca mg "Names") "letters"
  n_Names_table : NoAttr K (ca mg "Names") "table"
  a_Names___init__ : AtI0 K (ca mg "Names") "__init__" "Names.__init__" s_Names___init__ ["self", "letters", "table"]
  c_Names_none : AtCm K (ca mg "Names") "none" "Names.none" s_Names_none []
  c_Names_every : AtCm K (ca mg "Names") "every" "Names.every" s_Names_every []
  c_Names_of : AtCm K (ca mg "Names") "of" "Names.of" s_Names_of []
  c_Names_beginning : AtCm K (ca mg "Names") "beginning" "Names.beginning" s_Names_beginning []
  c_Names_family : AtCm K (ca mg "Names") "family" "Names.family" s_Names_family [V.int 0]
  a_Names___contains__ : AtM K (ca mg "Names") "__contains__" "Names.__contains__" s_Names___contains__ ["self", "x"]
  a_Names___bool__ : AtM K (ca mg "Names") "__bool__" "Names.__bool__" s_Names___bool__ ["self"]
  e_UnderError : Err0 K mg "UnderError" (ca mg "UnderError")
  e_NoText : ErrI K mg "NoText" "NoText.__init__" "value" s_NoText (ca mg "NoText")
  m_TypeError : mg "TypeError" = none
  m_ValueError : mg "ValueError" = none
  m_abs : mg "abs" = none
  m_all : mg "all" = none
  m_bool : mg "bool" = none
  m_enumerate : mg "enumerate" = none
  m_int : mg "int" = none
  m_isinstance : mg "isinstance" = none
  m_len : mg "len" = none
  m_list : mg "list" = none
  m_min : mg "min" = none
  m_range : mg "range" = none
  m_repr : mg "repr" = none
  m_set : mg "set" = none
  m_sorted : mg "sorted" = none
  m_str : mg "str" = none
  m_sum : mg "sum" = none
  m_tuple : mg "tuple" = none
  m_zip : mg "zip" = none
structure Xt (K : PySem.W.Frag) (mg : Str → Option Value) : Prop where
  k_NoText : PySem.W.kitOne K (.ref (ca mg "NoText")) (.ref (ca mg "UnderError")) = some true
section
variable {P : Program} {w : World} {K : PySem.W.Frag} {mg : Str → Option Value} {base : Heap}
theorem same_refl (H : Hp) : Same H H := fun _ _ h => h
theorem same_trans {H H1 H2 : Hp} (a : Same H H1) (b : Same H1 H2) : Same H H2 := fun c o h => b c o (a c o h)
/-- a list of numbers, of truth values, told by their places -/
def nats (n : Nat) (f : Nat → Nat) : List V := (List.range n).map fun i => V.int ((f i : Nat) : Int)
def bools (n : Nat) (f : Nat → Bool) : List V := (List.range n).map fun i => V.bl (f i)
theorem nats_len (n : Nat) (f : Nat → Nat) : (nats n f).length = n := by simp [nats]
theorem nats_get {n i : Nat} {f : Nat → Nat} (h : i < n) : (nats n f)[i]? = some (.int ((f i : Nat) : Int)) := by simp [nats, h]
theorem bools_len (n : Nat) (f : Nat → Bool) : (bools n f).length = n := by simp [bools]
theorem bools_at {n i : Nat} {f : Nat → Bool} {x : V} (h : (bools n f)[i]? = some x) : i < n ∧ x = .bl (f i) := by
  have hi : i < n := by
    have := (List.getElem?_eq_some_iff.mp h).1
    rw [bools_len] at this
    exact this
  refine ⟨hi, ?_⟩
  simp [bools, hi] at h
  exact h.symm
theorem nats_at {n i : Nat} {f : Nat → Nat} {x : V} (h : (nats n f)[i]? = some x) : i < n ∧ x = .int ((f i : Nat) : Int) := by
  have hi : i < n := by
    have := (List.getElem?_eq_some_iff.mp h).1
    rw [nats_len] at this
    exact this
  refine ⟨hi, ?_⟩
  rw [nats_get hi] at h
  exact (Option.some.inj h).symm
theorem nats_snoc (n : Nat) (f : Nat → Nat) : nats (n + 1) f = nats n f ++ [.int ((f n : Nat) : Int)] := by
  unfold nats
  rw [List.range_succ, List.map_append]
  rfl
theorem nats_congr {n : Nat} {f g : Nat → Nat} (h : ∀ i < n, f i = g i) : nats n f = nats n g := by
  unfold nats
  refine List.map_congr_left fun i hi => ?_
  rw [h i (List.mem_range.mp hi)]
theorem nats_set {n i v : Nat} {f : Nat → Nat} (h : i < n) : (nats n f).set i (.int (v : Int)) = nats n (fset f i v) := by
  refine List.ext_getElem? fun j => ?_
  rw [List.getElem?_set]
  by_cases e : i = j
  · subst e
    rw [if_pos rfl, if_pos (by rw [nats_len]; exact h), nats_get h, fset_same]
  · rw [if_neg e]
    by_cases hj : j < n
    · rw [nats_get hj, nats_get hj, fset_ne (Ne.symm e)]
    · rw [List.getElem?_eq_none (by rw [nats_len]; omega), List.getElem?_eq_none (by rw [nats_len]; omega)]
def spNumd : Sp := fun vs H Q _ => ∃ (a : Addr) (n : Nat) (lab : Nat → Bool), vs = [.ref a] ∧ H a = some (.lst (bools n lab)) ∧ n ≤ 1000 ∧
  ∀ (k : Nat) (po : Nat → Nat) (p : Addr) (H' : Hp), k ≤ 2 → (∀ s < n, ∀ t < n, (po s = po t ↔ lab s = lab t)) → (∀ s < n, po s < k) → (∀ q < k, ∃ s < n, po s = q) → Same H H' → H p = none → H' p = some (.lst (nats n po)) → Q (.ref p) H'
theorem numd_fits {n : Nat} (lab : Nat → Bool) : ∃ k, k ≤ 2 ∧ (∀ s < n, (if lab s = lab 0 then 0 else 1) < k) ∧ ∀ q < k, ∃ s < n, (if lab s = lab 0 then 0 else 1) = q := by
  by_cases h0 : n = 0
  · exact ⟨0, by decide, fun s hs => by omega, fun q hq => by omega⟩
  · by_cases hh : ∃ s < n, lab s ≠ lab 0
    · obtain ⟨s, hs, hne⟩ := hh
      refine ⟨2, by decide, fun s _ => by split <;> omega, fun q hq => ?_⟩
      rcases Nat.lt_or_ge q 1 with h | h
      · exact ⟨0, by omega, by rw [if_pos rfl]; omega⟩
      · exact ⟨s, hs, by rw [if_neg hne]; omega⟩
    · have all : ∀ s < n, lab s = lab 0 := fun s hs => by
        by_cases e : lab s = lab 0
        · exact e
        · exact absurd ⟨s, hs, e⟩ hh
      refine ⟨1, by decide, fun s hs => by rw [if_pos (all s hs)]; omega, fun q hq => ⟨0, by omega, by rw [if_pos rfl]; omega⟩⟩
theorem cl_numd (T : Txt K mg) : Cl P w K mg base "numbered" ["labels"] 1 spNumd := cl_of T.a_numbered fun f fd F => by
  refine F.ok sc_numbered (fun vs H Q E h => ?_) (fun cdv A outer s H vs Q E hr h => ?_)
  · obtain ⟨a, n, lab, rfl, _⟩ := h
    rfl
  · obtain ⟨a, n, lab, rfl, ha, hl, q⟩ := h
    refine ⟨_, (pss_cons (ps_set (i := 1) sc_numbered.nd rfl (Or.inr rfl) pe_newB)
      (Evl.pss_cut (ps_for PassesOwn.never rfl (pi_list (pv 0)) (pg_name (i := 2) sc_numbered.nd rfl (Or.inl rfl))
      (pss_one (ps_if (pt_cmpR op_notInB (pv 2) (pv 1) (by rfl))
      (pss_one (ps_asg (pe_callB call_lenB (by rfl) T.m_len (by decide +kernel) (pa_cons (pv 1) pa_nil)) (pg_sub (pv 1) (pv 2) set_B)))
      pss_nil)))
      (pss_one (ps_ret (pe_lc (own := [("label", 2)]) (g := gName 2) (tt := tYes) (by rfl) sc_numbered.nd (pi_list (pv 0)) (blkOk_by (own := [("label", 2)]) (N := n_numbered) (sc := defScope s_numbered) (by decide +kernel)) (fun _ _ _ _ _ => (pg_name (i := 2) sc_numbered.nd rfl (by first | exact Or.inl rfl | exact Or.inr rfl))) (fun _ _ _ _ _ => pts_nil) (fun _ _ _ _ _ => (pe_getB (P := P) (w := w) (by rfl) (by rfl) (pv 1) (pv 2) (fun _ _ => rfl)))))))), ?_⟩
    walk_at "rds"
    refine fun d nd => ?_
    have hP : (cxOf CX0 P w K mg base n_numbered (Str.ofString "numbered") (defScope s_numbered) f cdv A outer s H E).nox.prog = P := rfl
    have hw : (cxOf CX0 P w K mg base n_numbered (Str.ofString "numbered") (defScope s_numbered) f cdv A outer s H E).nox.w = w := rfl
    simp only [hP, hw]
    have had : a ≠ d := ne_of_none ha nd
    walk_at "rds"
    refine rd_cut (fun σ' H' => (∃ x, σ' = [some (.ref a), some (.ref d), x]) ∧ (∀ b o, H b = some o → H' b = some o) ∧ ∃ kvs, H' d = some (DB P w d kvs) ∧ ∀ s < n, valV kvs (lab s) = some (.int (((if lab s = lab 0 then 0 else 1 : Nat) : Nat) : Int))) ?_ ?_
    · walk_at "rds"
      refine ⟨a, rfl, ⟨_, SqL.of (by rw [upd_ne had]; exact ha)⟩, for_it walk_list (fun i σ' H' => (∃ x, σ' = [some (.ref a), some (.ref d), x]) ∧ (∀ b o, H b = some o → H' b = some o) ∧ ∃ kvs, H' d = some (DB P w d kvs) ∧ (∀ j < i, valV kvs (lab j) = some (.int (((if lab j = lab 0 then 0 else 1 : Nat) : Nat) : Int))) ∧ (∀ b, (∀ j < i, lab j ≠ b) → valV kvs b = none) ∧ (i = 0 → kvs.length = 0) ∧ (0 < i → (∀ j < i, lab j = lab 0) → kvs.length = 1) ∧ kvs.length ≤ i)
        ⟨⟨_, rfl⟩, same_upd nd, [], upd_same, fun j hj => absurd hj (by omega), fun b _ => rfl, fun _ => rfl, fun h => absurd h (by omega), Nat.le_refl _⟩ (fun i σ' H' _ h => SqL.of (h.2.1 _ _ ha)) ?_ ?_⟩
      · rintro i x σ' H1 H2 hi ⟨⟨y, rfl⟩, s1, kvs, ed, g1, g2, g3, g4, g5⟩ ⟨rfl, hx⟩
        obtain ⟨hin, rfl⟩ := bools_at hx
        walk_at "rds"
        refine rd_notInB ed ?_
        walk_at "rds"
        refine rd_ite (fun h => ?_) (fun h => ?_)
        · walk_at "rds"
          refine rd_lenB ed ?_
          walk_at "rds"
          refine rd_setB ed (small1000 (by omega)) ?_
          have none_ : valV kvs (lab i) = none := by
            cases hz : valV kvs (lab i) with
            | none => rfl
            | some z => rw [hz] at h; cases h
          have hnew : ∀ j < i, lab j ≠ lab i := fun j hj e => by
            have := g1 j hj
            rw [e, none_] at this
            cases this
          -- the number that it gets
          have hlen : kvs.length = (if lab i = lab 0 then 0 else 1) := by
            by_cases h0 : i = 0
            · rw [g3 h0, h0, if_pos rfl]
            · have hne : lab i ≠ lab 0 := fun e => hnew 0 (by omega) e.symm
              rw [if_neg hne]
              refine g4 (by omega) fun j hj => ?_
              have h1 := hnew j hj
              revert h1 hne
              cases lab j <;> cases lab i <;> cases lab 0 <;> simp
          refine ⟨⟨_, rfl⟩, fun b o hb => ?_, _, upd_same, fun j hj => ?_, fun b hb => ?_, fun h => by omega, fun _ hall => ?_, ?_⟩
          · rw [upd_ne (ne_of_none hb nd)]
            exact s1 b o hb
          · rw [valV_put]
            by_cases e : lab j = lab i
            · rw [if_pos e, hlen, e]
            · rw [if_neg e]
              exact g1 j (by
                rcases Nat.lt_or_ge j i with h | h
                · exact h
                · exact absurd (by rw [show j = i by omega]) e)
          · rw [valV_put, if_neg (fun e => hb i (by omega) e.symm)]
            exact g2 b fun j hj => hb j (by omega)
          · have h0 : i = 0 := by
              rcases Nat.eq_zero_or_pos i with h | h
              · exact h
              · have h1 := hnew 0 h
                exact absurd (hall i (by omega)).symm h1
            unfold putK
            rw [if_neg (by rw [valV_any, none_]; simp), List.length_append, g3 h0]
            rfl
          · have := length_putK kvs (lab i) (V.int ((kvs.length : Nat) : Int))
            omega
        · walk_at "rds"
          obtain ⟨z, hz⟩ : ∃ z, valV kvs (lab i) = some z := by
            cases hz : valV kvs (lab i) with
            | none => rw [hz] at h; cases h
            | some z => exact ⟨z, rfl⟩
          have hold : ∃ j < i, lab j = lab i := by
            by_cases c : ∃ j < i, lab j = lab i
            · exact c
            · rw [g2 (lab i) fun j hj e => c ⟨j, hj, e⟩] at hz
              cases hz
          obtain ⟨j0, hj0, e0⟩ := hold
          refine ⟨⟨_, rfl⟩, s1, kvs, ed, fun j hj => ?_, fun b hb => g2 b fun j hj => hb j (by omega), fun h => by omega, fun _ hall => g4 (by omega) fun j hj => hall j (by omega), by omega⟩
          rcases Nat.lt_or_ge j i with h | h
          · exact g1 j h
          · have e : j = i := by omega
            subst e
            rw [← e0]
            exact g1 j0 hj0
      · rintro σ' H1 ⟨⟨y, rfl⟩, s1, kvs, ed, g1, _⟩
        rw [bools_len] at g1
        exact ⟨⟨_, rfl⟩, s1, kvs, ed, g1⟩
    · rintro σ' H1 ⟨⟨y, rfl⟩, s1, kvs, ed, g1⟩
      walk_at "rds"
      refine ⟨a, rfl, ⟨_, SqL.of (s1 _ _ ha)⟩, fun e ne => lc_it walk_list (fun i H' => (∀ b o, H1 b = some o → H' b = some o) ∧ H' e = some (.lst (nats i fun s => if lab s = lab 0 then 0 else 1))) ⟨same_upd ne, upd_same⟩ (fun i H' _ h => SqL.of (h.1 _ _ (s1 _ _ ha))) ?_ ?_⟩
      · rintro i x H2 H3 hi ⟨s2, e2⟩ ⟨rfl, hx⟩
        obtain ⟨hin, rfl⟩ := bools_at hx
        walk_at "rds"
        refine ⟨rfl, ?_⟩
        walk_at "rds"
        refine rd_ite (fun _ => ?_) (fun h => by cases h)
        walk_at "rds"
        refine ⟨d, lab i, kvs, _, rfl, rfl, s2 _ _ ed, g1 i hin, ?_⟩
        refine ⟨_, e2, by rw [nats_len]; exact small1000 (by omega), fun b o hb => ?_, ?_⟩
        · rw [upd_ne (ne_of_none hb ne)]
          exact s2 b o hb
        · rw [upd_same, nats_snoc]
      · rintro H2 ⟨s2, e2⟩
        rw [bools_len] at e2
        walk_at "rds"
        obtain ⟨k, hk0, hk1, hk2⟩ := numd_fits (n := n) lab
        refine q k _ e H2 hk0 (fun s hs t ht => ?_) hk1 hk2 (fun b o hb => s2 _ _ (s1 _ _ hb)) (same_none s1 ne) e2
        cases lab s <;> cases lab t <;> cases lab 0 <;> simp
end
section
variable {P : Program} {w : World} {K : PySem.W.Frag} {mg : Str → Option Value} {base : Heap}
theorem row_of {n : Nat} {ks : List Nat} (h : ks.Perm (List.range n)) : Row n (fun i => ks.getD i 0) ∧ ks = (List.range n).map fun i => ks.getD i 0 := by
  have hl : ks.length = n := by
    rw [h.length_eq, List.length_range]
  have at_ : ∀ i < n, ∃ hi : i < ks.length, ks.getD i 0 = ks[i] := fun i hi => ⟨by omega, by rw [List.getD_eq_getElem?_getD, List.getElem?_eq_getElem (by omega)]; rfl⟩
  have nd : ks.Nodup := h.nodup_iff.mpr List.nodup_range
  refine ⟨⟨fun i hi => ?_, fun i hi j hj e => ?_, fun s hs => ?_⟩, ?_⟩
  · obtain ⟨h1, e⟩ := at_ i hi
    rw [e]
    exact List.mem_range.mp (h.mem_iff.mp (List.getElem_mem h1))
  · obtain ⟨h1, e1⟩ := at_ i hi
    obtain ⟨h2, e2⟩ := at_ j hj
    rw [e1, e2] at e
    exact (List.getElem_inj nd).mp e
  · have hm : s ∈ ks := h.mem_iff.mpr (List.mem_range.mpr hs)
    obtain ⟨i, hi, e⟩ := List.mem_iff_getElem.mp hm
    refine ⟨i, by omega, ?_⟩
    obtain ⟨_, e2⟩ := at_ i (by omega)
    rw [e2, e]
  · refine List.ext_getElem? fun i => ?_
    by_cases hi : i < n
    · rw [List.getElem?_map, List.getElem?_range hi]
      obtain ⟨h1, e⟩ := at_ i hi
      show _ = some (ks.getD i 0)
      rw [e, List.getElem?_eq_getElem h1]
    · rw [List.getElem?_eq_none (by omega), List.getElem?_eq_none (by rw [List.length_map, List.length_range]; omega)]
theorem nats_ints (n : Nat) (f : Nat → Nat) : nats n f = ((List.range n).map fun i => ((f i : Nat) : Int)).map V.int := by
  unfold nats
  rw [List.map_map]
  rfl
/-- codes sorted: the states in a row, by their first parts -/
theorem sorted_row {n : Nat} {f : Nat → Nat} {ns : List Int} (hp : ns.Perm ((List.range n).map fun s => (((f s * n + s : Nat) : Nat) : Int))) (hs : ns.Pairwise (· ≤ ·)) :
    ∃ st, Row n st ∧ ns.map V.int = nats n (fun i => f (st i) * n + st i) ∧ ∀ i j, i < j → j < n → f (st i) ≤ f (st j) := by
  obtain ⟨ks, hk, rfl⟩ := perm_map hp
  obtain ⟨R, e⟩ := row_of hk
  refine ⟨_, R, ?_, fun i j hij hj => ?_⟩
  · rw [List.map_map]
    conv => lhs; rw [e]
    rw [List.map_map]
    rfl
  · rw [List.pairwise_map] at hs
    have hl : ks.length = n := by rw [hk.length_eq, List.length_range]
    have h := (List.pairwise_iff_getElem.mp hs) i j (by omega) (by omega) hij
    have e1 : ks.getD i 0 = ks[i]'(by omega) := by rw [List.getD_eq_getElem?_getD, List.getElem?_eq_getElem (by omega)]; rfl
    have e2 : ks.getD j 0 = ks[j]'(by omega) := by rw [List.getD_eq_getElem?_getD, List.getElem?_eq_getElem (by omega)]; rfl
    rw [e1, e2]
    have l1 := R.lt j hj
    rw [e2] at l1
    have h' : f ks[i] * n + ks[i] ≤ f ks[j] * n + ks[j] := by exact_mod_cast h
    rcases Nat.lt_or_ge (f ks[j]) (f ks[i]) with g | g
    · have : (f ks[j] + 1) * n ≤ f ks[i] * n := Nat.mul_le_mul_right _ g
      rw [Nat.add_mul, Nat.one_mul] at this
      omega
    · exact g
theorem code_mod {n p s : Nat} (h : s < n) : (((p * n + s : Nat) : Nat) : Int) % (n : Int) = ((s : Nat) : Int) := by
  rw [← Int.natCast_emod, Nat.add_comm, Nat.add_mul_mod_self_right, Nat.mod_eq_of_lt h]
theorem code_div {n p s : Nat} (h : s < n) : (((p * n + s : Nat) : Nat) : Int) / (n : Int) = ((p : Nat) : Int) := by
  rw [← Int.natCast_ediv, Nat.mul_comm, Nat.mul_add_div (by omega), Nat.div_eq_of_lt h, Nat.add_zero]
theorem small_mul {a b : Nat} (h1 : a ≤ 1000) (h2 : b ≤ 1000) : a * b ≤ 1000000 := Nat.mul_le_mul h1 h2
def spSide : Sp := fun vs H Q _ => ∃ (a : Addr) (n : Nat) (po : Nat → Nat), vs = [.ref a] ∧ H a = some (.lst (nats n po)) ∧ n ≤ 1000 ∧ (∀ s < n, po s ≤ 1000) ∧
  ∀ (st : Nat → Nat) (p : Addr) (H' : Hp), Row n st → (∀ i j, i < j → j < n → po (st i) ≤ po (st j)) → Same H H' → H p = none → H' p = some (.lst (nats n st)) → Q (.ref p) H'
theorem cl_side (T : Txt K mg) : Cl P w K mg base "_side_by_side" ["part_of"] 1 spSide := cl_of T.a__side_by_side fun f fd F => by
  refine F.ok sc__side_by_side (fun vs H Q E h => ?_) (fun cdv A outer s H vs Q E hr h => ?_)
  · obtain ⟨a, n, po, rfl, _⟩ := h
    rfl
  · obtain ⟨a, n, po, rfl, ha, hn, hpo, q⟩ := h
    refine ⟨_, (pss_cons (ps_set (i := 1) sc__side_by_side.nd rfl (Or.inr rfl) (pe_callB (call_lenK (K := K) (by rfl)) (by rfl) T.m_len (by decide +kernel) (pa_cons (pv 0) pa_nil)))
      (pss_one (ps_ret (pe_lc (own := [("code", 2)]) (g := gName 2) (tt := tYes) (by rfl) sc__side_by_side.nd (pi_list (pe_callB cr_sortedI (by rfl) T.m_sorted (by decide +kernel) (pa_cons (pe_lc (own := [("state", 3), ("part", 4)]) (g := (gTup K 2 (gCons (gName 3) (gCons (gName 4) gNil)))) (tt := tYes) (by rfl) sc__side_by_side.nd (pi_enumK .l (K := K) (by rfl) (by rfl) T.m_enumerate (pa_cons (pv 0) pa_nil)) (blkOk_by (own := [("state", 3), ("part", 4)]) (N := n__side_by_side) (sc := defScope s__side_by_side) (by decide +kernel)) (fun _ _ _ _ _ => by exact (pg_tup rfl (pgs_cons (pg_name (i := 3) sc__side_by_side.nd rfl (by first | exact Or.inl rfl | exact Or.inr rfl)) (pgs_cons (pg_name (i := 4) sc__side_by_side.nd rfl (by first | exact Or.inl rfl | exact Or.inr rfl)) pgs_nil)))) (fun _ _ _ _ _ => pts_nil) (fun _ _ _ _ _ => (pe_callTy call_intI (by rfl) T.m_int (by decide +kernel) (pa_cons (pe_op op_add (pe_op op_mulW (pv 4) (pv 1)) (pv 3)) pa_nil)))) pa_nil))) (blkOk_by (own := [("code", 2)]) (N := n__side_by_side) (sc := defScope s__side_by_side) (by decide +kernel)) (fun _ _ _ _ _ => (pg_name (i := 2) sc__side_by_side.nd rfl (by first | exact Or.inl rfl | exact Or.inr rfl))) (fun _ _ _ _ _ => pts_nil) (fun _ _ _ _ _ => (pe_op op_mod (pv 2) (pv 1))))))), ?_⟩
    walk_at "rds"
    refine rd_lenL (SqL.of ha) ?_
    rw [nats_len]
    walk_at "rds"
    refine ⟨a, _, rfl, (show SqL K H a (nats n po) from SqL.of ha), fun e ne => lc_it walk_enumA (fun i H' => Same H H' ∧ H' e = some (.lst (nats i fun s => po s * n + s))) ⟨same_upd ne, upd_same⟩ (fun i H' _ h => SqL.of (h.1 _ _ ha)) ?_ ?_⟩
    · rintro i x H1 H2 hi ⟨s1, e1⟩ ⟨T, x1, x2, rfl, nT, rfl, h1, h2⟩
      cases h1
      obtain ⟨hin, rfl⟩ := nats_at h2
      have hpi := hpo i hin
      have heT : e ≠ T := ne_of_none e1 nT
      refine rd_gtup (SqT.of upd_same) rfl ?_
      walk_at "rds"
      refine ⟨rfl, ?_⟩
      walk_at "rds"
      refine rd_ite (fun _ => ?_) (fun h => by cases h)
      walk_at "rds"
      refine rd_I (mulW_of (by omega) (by omega)) ?_
      walk_at "rds"
      refine ⟨_, by rw [upd_ne heT]; exact e1, by rw [nats_len]; exact small1000 (by omega), same_mut (same_mut s1 (same_none s1 nT)) ne, ?_⟩
      rw [upd_same, nats_snoc, Int.natCast_add, Int.natCast_mul]
    · rintro H1 ⟨s1, e1⟩
      rw [nats_len] at e1
      walk_at "rds"
      refine ⟨e, (List.range n).map fun s => (((po s * n + s : Nat) : Nat) : Int), rfl, SqL.of (by rw [← nats_ints n fun s => po s * n + s]; exact e1), fun ns p hp hs np => ?_⟩
      obtain ⟨st, R, el, mono⟩ := sorted_row hp hs
      rw [el]
      have s2 : Same H1 (upd H1 p (.lst (nats n fun i => po (st i) * n + st i))) := same_upd np
      have e2 : upd H1 p (.lst (nats n fun i => po (st i) * n + st i)) p = some (.lst (nats n fun i => po (st i) * n + st i)) := upd_same
      generalize upd H1 p (.lst (nats n fun i => po (st i) * n + st i)) = H2 at s2 e2 ⊢
      refine ⟨p, rfl, ⟨_, SqL.of e2⟩, fun r nr => lc_it walk_list (fun i H' => Same H2 H' ∧ H' r = some (.lst (nats i st))) ⟨same_upd nr, upd_same⟩ (fun i H' _ h => SqL.of (h.1 _ _ e2)) ?_ ?_⟩
      · rintro i x H3 H4 hi ⟨s3, e3⟩ ⟨rfl, hx⟩
        obtain ⟨hin, rfl⟩ := nats_at hx
        walk_at "rds"
        refine ⟨rfl, ?_⟩
        walk_at "rds"
        refine rd_ite (fun _ => ?_) (fun h => by cases h)
        walk_at "rds"
        refine rd_I (by show (0 : Int) < (n : Int); omega) ?_
        rw [code_mod (R.lt i hin)]
        refine ⟨_, e3, by rw [nats_len]; exact small1000 (by omega), same_mut s3 nr, ?_⟩
        rw [upd_same, nats_snoc]
      · rintro H3 ⟨s3, e3⟩
        rw [nats_len] at e3
        exact q st r H3 R mono (same_trans (same_trans s1 s2) s3) (same_none (same_trans s1 s2) nr) e3
/-- the place of each state -/
def spPl : Sp := fun vs H Q _ => ∃ (a : Addr) (n : Nat) (st : Nat → Nat), vs = [.ref a] ∧ H a = some (.lst (nats n st)) ∧ n ≤ 1000 ∧ Row n st ∧
  ∀ (pl : Nat → Nat) (p : Addr) (H' : Hp), (∀ i < n, pl (st i) = i) → Same H H' → H p = none → H' p = some (.lst (nats n pl)) → Q (.ref p) H'
theorem cl_pl (T : Txt K mg) : Cl P w K mg base "_places" ["states"] 1 spPl := cl_of T.a__places fun f fd F => by
  refine F.ok sc__places (fun vs H Q E h => ?_) (fun cdv A outer s H vs Q E hr h => ?_)
  · obtain ⟨a, n, st, rfl, _⟩ := h
    rfl
  · obtain ⟨a, n, st, rfl, ha, hn, R, q⟩ := h
    refine ⟨_, (pss_cons (ps_setLc (i := 1) (own := [("_", 4)]) (g := gName 4) (tt := tYes) (by rfl) sc__places.nd rfl rfl (sw_true rfl rfl rfl (by decide +kernel)) (pi_list (pv 0)) (blkOk_by (own := [("_", 4)]) (N := n__places) (sc := defScope s__places) (by decide +kernel)) (fun _ _ _ _ _ => (pg_name (i := 4) sc__places.nd rfl (by first | exact Or.inl rfl | exact Or.inr rfl))) (fun _ _ _ _ _ => pts_nil) (fun _ _ _ _ _ => pe_int))
      (Evl.pss_cut (ps_for PassesOwn.never rfl (pi_enumK .l (K := K) (by rfl) (by rfl) T.m_enumerate (pa_cons (pv 0) pa_nil)) (pg_tup rfl (pgs_cons (pg_name (i := 2) sc__places.nd rfl (Or.inl rfl)) (pgs_cons (pg_name (i := 3) sc__places.nd rfl (Or.inl rfl)) pgs_nil)))
      (pss_one (ps_asg (pv 2) (pg_sub (pv 1) (pv 3) set_list))))
      (pss_one (ps_ret (pv 1))))), ?_⟩
    walk_at "rds"
    refine ⟨a, rfl, ⟨_, SqL.of ha⟩, fun d nd => lc_it walk_list (fun i H' => Same H H' ∧ H' d = some (.lst (nats i fun _ => 0))) ⟨same_upd nd, upd_same⟩ (fun i H' _ h => SqL.of (h.1 _ _ ha)) ?_ ?_⟩
    · rintro i x H1 H2 hi ⟨s1, e1⟩ ⟨rfl, hx⟩
      rw [nats_len] at hi
      walk_at "rds"
      refine ⟨rfl, ?_⟩
      walk_at "rds"
      refine rd_ite (fun _ => ?_) (fun h => by cases h)
      walk_at "rds"
      refine ⟨_, e1, by rw [nats_len]; exact small1000 (by omega), same_mut s1 nd, ?_⟩
      rw [upd_same, nats_snoc]
      rfl
    · rintro H1 ⟨s1, e1⟩
      rw [nats_len] at e1
      walk_at "rds"
      refine rd_cut (fun σ' H' => (∃ y z u, σ' = [some (.ref a), some (.ref d), y, z, u]) ∧ Same H H' ∧ ∃ pl, (∀ i < n, pl (st i) = i) ∧ H' d = some (.lst (nats n pl))) ?_ ?_
      · walk_at "rds"
        refine ⟨a, _, rfl, (show SqL K H1 a (nats n st) from SqL.of (s1 _ _ ha)), for_it walk_enumA (fun i σ' H' => (∃ y z u, σ' = [some (.ref a), some (.ref d), y, z, u]) ∧ Same H H' ∧ ∃ pl, (∀ j < i, pl (st j) = j) ∧ H' d = some (.lst (nats n pl)))
          ⟨⟨_, _, _, rfl⟩, s1, fun _ => 0, fun j hj => absurd hj (by omega), e1⟩ (fun i σ' H' _ h => SqL.of (h.2.1 _ _ ha)) ?_ ?_⟩
        · rintro i x σ' H2 H3 hi ⟨⟨y, z, u, rfl⟩, s2, pl, hpl, e2⟩ ⟨T, x1, x2, rfl, nT, rfl, h1, h2⟩
          cases h1
          obtain ⟨hin, rfl⟩ := nats_at h2
          have hdT : d ≠ T := ne_of_none e2 nT
          refine rd_gtup (SqT.of upd_same) rfl ?_
          walk_at "rds"
          have hsi := R.lt i hin
          refine rd_setL (by rw [upd_ne hdT]; exact e2) (n := st i) (by unfold ixN; rw [nats_len, if_pos (by omega), if_pos (by omega)]; rfl) ?_
          refine ⟨⟨_, _, _, rfl⟩, same_mut (same_mut s2 (same_none s2 nT)) nd, fset pl (st i) i, fun j hj => ?_, ?_⟩
          · rcases Nat.lt_or_ge j i with h | h
            · rw [fset_ne fun e => by have := R.inj j (by omega) i hin e; omega]
              exact hpl j h
            · have e : j = i := by omega
              rw [e, fset_same]
          · rw [upd_same, nats_set hsi]
        · rintro σ' H2 ⟨h1, s2, pl, hpl, e2⟩
          rw [nats_len] at hpl
          exact ⟨h1, s2, pl, hpl, e2⟩
      · rintro σ' H2 ⟨⟨y, z, u, rfl⟩, s2, pl, hpl, e2⟩
        walk_at "rds"
        exact q pl d H2 hpl s2 nd e2
end
section
variable {P : Program} {w : World} {K : PySem.W.Frag} {mg : Str → Option Value} {base : Heap}
def refs (n : Nat) (f : Nat → Addr) : List V := (List.range n).map fun i => V.ref (f i)
theorem refs_len (n : Nat) (f : Nat → Addr) : (refs n f).length = n := by simp [refs]
theorem refs_get {n i : Nat} {f : Nat → Addr} (h : i < n) : (refs n f)[i]? = some (.ref (f i)) := by simp [refs, h]
theorem refs_at {n i : Nat} {f : Nat → Addr} {x : V} (h : (refs n f)[i]? = some x) : i < n ∧ x = .ref (f i) := by
  have hi : i < n := by
    have := (List.getElem?_eq_some_iff.mp h).1
    rw [refs_len] at this
    exact this
  refine ⟨hi, ?_⟩
  rw [refs_get hi] at h
  exact (Option.some.inj h).symm
theorem refs_snoc (n : Nat) (f : Nat → Addr) : refs (n + 1) f = refs n f ++ [.ref (f n)] := by
  unfold refs
  rw [List.range_succ, List.map_append]
  rfl
theorem refs_congr {n : Nat} {f g : Nat → Addr} (h : ∀ i < n, f i = g i) : refs n f = refs n g := by
  unfold refs
  refine List.map_congr_left fun i hi => ?_
  rw [h i (List.mem_range.mp hi)]
theorem cutV_mid {n a b : Nat} {f : Nat → Nat} (h1 : a ≤ b) (h2 : b ≤ n) : cutV (nats n f) (some (a : Int)) (some (b : Int)) = nats (b - a) fun i => f (a + i) := by
  unfold cutV
  rw [HT.sIx_nat, HT.sIx_nat, nats_len, Nat.min_eq_left (show a ≤ n by omega), Nat.min_eq_left h2]
  refine List.ext_getElem? fun i => ?_
  rw [List.getElem?_take, List.getElem?_drop]
  by_cases hi : i < b - a
  · rw [if_pos hi, nats_get (by omega), nats_get hi]
  · rw [if_neg hi, List.getElem?_eq_none (by rw [nats_len]; omega)]
def gset {α : Type} (f : Nat → α) (i : Nat) (v : α) : Nat → α := fun j => if j = i then v else f j
theorem gset_same {α : Type} {f : Nat → α} {i : Nat} {v : α} : gset f i v i = v := if_pos rfl
theorem gset_ne {α : Type} {f : Nat → α} {i j : Nat} {v : α} (h : j ≠ i) : gset f i v j = f j := if_neg h
/-- a table: n rows of a label and m goals -/
def TabAt (H : Hp) (t : Addr) (n m : Nat) (lab : Nat → Bool) (to : Nat → Nat → Nat) : Prop :=
  ∃ rs ws : Nat → Addr, H t = some (.tup (refs n rs)) ∧ ∀ s < n, H (rs s) = some (.tup [.bl (lab s), .ref (ws s)]) ∧ H (ws s) = some (.tup (nats m (to s)))
theorem TabAt.same {H H' : Hp} {t : Addr} {n m : Nat} {lab : Nat → Bool} {to : Nat → Nat → Nat} (h : TabAt H t n m lab to) (s : Same H H') : TabAt H' t n m lab to := by
  obtain ⟨rs, ws, e, r⟩ := h
  exact ⟨rs, ws, s _ _ e, fun i hi => ⟨s _ _ (r i hi).1, s _ _ (r i hi).2⟩⟩
def SrcAt (B H : Hp) (p : Addr) (n a : Nat) (to : Nat → Nat → Nat) : Prop := ∃ (fs : Nat → Addr) (cnt : Nat → Nat) (src : Nat → Nat → Nat), Src n a to cnt src ∧ H p = some (.lst (refs n fs)) ∧ ∀ g < n, B (fs g) = none ∧ H (fs g) = some (.lst (nats (cnt g) (src g)))
def spSrc : Sp := fun vs H Q _ => ∃ (t : Addr) (n m a : Nat) (lab : Nat → Bool) (to : Nat → Nat → Nat), vs = [.ref t, .int ((a : Nat) : Int)] ∧ TabAt H t n m lab to ∧ Closed n m to ∧ a < m ∧ n ≤ 1000 ∧
  ∀ (p : Addr) (H' : Hp), SrcAt H H' p n a to → Same H H' → H p = none → Q (.ref p) H'
theorem cl_src (T : Txt K mg) : Cl P w K mg base "_sources" ["table", "letter_at"] 1 spSrc := cl_of T.a__sources fun f fd F => by
  refine F.ok sc__sources (fun vs H Q E h => ?_) (fun cdv A outer s H vs Q E hr h => ?_)
  · obtain ⟨t, n, m, a, lab, to, rfl, _⟩ := h
    rfl
  · obtain ⟨t, n, m, a, lab, to, rfl, ht, hc, ham, hn, q⟩ := h
    refine ⟨_, (pss_cons (ps_set (i := 2) sc__sources.nd rfl (Or.inr rfl) (pe_callB (call_lenK (K := K) (by rfl)) (by rfl) T.m_len (by decide +kernel) (pa_cons (pv 0) pa_nil)))
      (pss_cons (ps_set (i := 3) sc__sources.nd rfl (Or.inl rfl) (pe_callB cr_sortedI (by rfl) T.m_sorted (by decide +kernel) (pa_cons (pe_lc (own := [("state", 8), ("_", 9), ("way", 10)]) (g := (gTup K 2 (gCons (gName 8) (gCons (gTup K 2 (gCons (gName 9) (gCons (gName 10) gNil))) gNil)))) (tt := tYes) (by rfl) sc__sources.nd (pi_enumK .t (K := K) (by rfl) (by rfl) T.m_enumerate (pa_cons (pv 0) pa_nil)) (blkOk_by (own := [("state", 8), ("_", 9), ("way", 10)]) (N := n__sources) (sc := defScope s__sources) (by decide +kernel)) (fun _ _ _ _ _ => by exact (pg_tup rfl (pgs_cons (pg_name (i := 8) sc__sources.nd rfl (by first | exact Or.inl rfl | exact Or.inr rfl)) (pgs_cons (pg_tup rfl (pgs_cons (pg_name (i := 9) sc__sources.nd rfl (by first | exact Or.inl rfl | exact Or.inr rfl)) (pgs_cons (pg_name (i := 10) sc__sources.nd rfl (by first | exact Or.inl rfl | exact Or.inr rfl)) pgs_nil))) pgs_nil)))) (fun _ _ _ _ _ => pts_nil) (fun _ _ _ _ _ => (pe_callTy call_intI (by rfl) T.m_int (by decide +kernel) (pa_cons (pe_op op_add (pe_op op_mulW (pe_ix (ix_tupK (K := K) (by rfl)) (pv 10) (pv 1) (fun _ _ => rfl)) (pv 2)) (pv 8)) pa_nil)))) pa_nil)))
      (pss_cons (ps_set (i := 4) sc__sources.nd rfl (Or.inl rfl) (pe_lst pa_nil))
      (pss_cons (ps_set (i := 5) sc__sources.nd rfl (Or.inl rfl) pe_int)
      (Evl.pss_cut (ps_for PassesOwn.never rfl (pi_range1 (by rfl) T.m_range (pa_cons (pv 2) pa_nil)) (pg_name (i := 6) sc__sources.nd rfl (Or.inl rfl))
      (pss_cons (ps_set (i := 7) sc__sources.nd rfl (Or.inl rfl) (pv 5))
      (Evl.pss_cut (ps_while PassesOwn.never (PW.pt (pw_and (pt_cmpR op_lt (pv 5) (pv 2) (nomark _)) (pw_and1 (pt_cmpR op_eq (pe_op op_fdivW (pe_ix (ix_listK (K := K) (by rfl)) (pv 3) (pv 5) (fun _ _ => rfl)) (pv 2)) (pv 6) (nomark _)))))
      (pss_one (ps_aug (i := 5) sc__sources.nd rfl (Or.inl rfl) pe_int ip_add)))
      (pss_one (ps_expr (pe_bm PySem.F.plainAttrs_list PySem.F.slot_list_append PySem.F.type_list_append mt_append (pv 4) (pa_cons (pe_lc (own := [("code", 11)]) (g := gName 11) (tt := tYes) (by rfl) sc__sources.nd (pi_list (pe_slice sl_list (pv 3) (po_some (pv 7)) (po_some (pv 5)))) (blkOk_by (own := [("code", 11)]) (N := n__sources) (sc := defScope s__sources) (by decide +kernel)) (fun _ _ _ _ _ => (pg_name (i := 11) sc__sources.nd rfl (by first | exact Or.inl rfl | exact Or.inr rfl))) (fun _ _ _ _ _ => pts_nil) (fun _ _ _ _ _ => (pe_op op_mod (pv 11) (pv 2)))) pa_nil)))))))
      (pss_one (ps_ret (pv 4)))))))), ?_⟩
    obtain ⟨rs, ws, et, er⟩ := id ht
    walk_at "rds"
    refine rd_lenT (SqT.of et) ?_
    rw [refs_len]
    walk_at "rds"
    refine ⟨t, _, rfl, (show SqT K H t (refs n rs) from SqT.of et), fun e ne => lc_it walk_enumA (fun i H' => Same H H' ∧ H' e = some (.lst (nats i fun s => to s a * n + s))) ⟨same_upd ne, upd_same⟩ (fun i H' _ h => SqT.of (h.1 _ _ et)) ?_ ?_⟩
    · rintro i x H1 H2 hi ⟨s1, e1⟩ ⟨T, x1, x2, rfl, nT, rfl, h1, h2⟩
      cases h1
      obtain ⟨hin, rfl⟩ := refs_at h2
      have hto := hc i hin a ham
      have heT : e ≠ T := ne_of_none e1 nT
      have sT : Same H (upd H1 T (.tup [.int (i : Nat), .ref (rs i)])) := same_mut s1 (same_none s1 nT)
      refine rd_gtup (SqT.of upd_same) rfl ?_
      walk_at "rds"
      refine rd_gtup (SqT.of (sT _ _ (er i hin).1)) rfl ?_
      walk_at "rds"
      refine ⟨rfl, ?_⟩
      walk_at "rds"
      refine rd_ite (fun _ => ?_) (fun h => by cases h)
      walk_at "rds"
      refine rd_ixT (SqT.of (sT _ _ (er i hin).2)) (atI_nat (nats_get ham)) ?_
      walk_at "rds"
      refine rd_I (mulW_of (by omega) (by omega)) ?_
      walk_at "rds"
      refine ⟨_, by rw [upd_ne heT]; exact e1, by rw [nats_len]; exact small1000 (by rw [refs_len] at hi; omega), same_mut sT ne, ?_⟩
      rw [upd_same, nats_snoc, Int.natCast_add, Int.natCast_mul]
    rintro H1 ⟨s1, e1⟩
    rw [refs_len] at e1
    walk_at "rds"
    refine ⟨e, (List.range n).map fun s => (((to s a * n + s : Nat) : Nat) : Int), rfl, SqL.of (by rw [← nats_ints n fun s => to s a * n + s]; exact e1), fun ns p hp hs np => ?_⟩
    obtain ⟨st, R, el, mono⟩ := sorted_row (f := fun s => to s a) hp hs
    rw [el]
    have s2 : Same H1 (upd H1 p (.lst (nats n fun i => to (st i) a * n + st i))) := same_upd np
    have e2 : upd H1 p (.lst (nats n fun i => to (st i) a * n + st i)) p = some (.lst (nats n fun i => to (st i) a * n + st i)) := upd_same
    generalize upd H1 p (.lst (nats n fun i => to (st i) a * n + st i)) = H2 at s2 e2 ⊢
    have s02 := same_trans s1 s2
    walk_at "rds"
    refine ⟨by show 0 ≤ sizeLine; decide, fun d nd => ?_⟩
    have s3 : Same H2 (upd H2 d (.lst [])) := same_upd nd
    have e3 : upd H2 d (.lst []) d = some (.lst []) := upd_same
    have e2' := s3 _ _ e2
    have nd0 : H d = none := same_none s02 nd
    generalize hH3 : upd H2 d (.lst []) = H3 at s3 e3 e2' ⊢
    have s03 := same_trans s02 s3
    have hcode : ∀ i < n, (nats n fun i => to (st i) a * n + st i)[i]? = some (.int (((to (st i) a * n + st i : Nat) : Nat) : Int)) := fun i hi => nats_get hi
    walk_at "rds"
    refine rd_cut (fun σ' H' => (∃ y5 y6 y7 y8 y9 y10 y11, σ' = [some (.ref t), some (.int (a : Nat)), some (.int (n : Nat)), some (.ref p), some (.ref d), y5, y6, y7, y8, y9, y10, y11]) ∧ Same H H' ∧ SrcAt H H' d n a to) ?_ ?_
    rotate_left
    · rintro σ' H4 ⟨⟨y5, y6, y7, y8, y9, y10, y11, rfl⟩, s4, hS⟩
      walk_at "rds"
      exact q d H4 hS s4 nd0
    walk_at "rds"
    refine ⟨(n : Int), rfl, by omega, by omega, for_range (lo := 0) (n := ((n : Nat) : Int).toNat) (fun g σ' H' => (∃ at_ : Nat, ∃ y6 y7 y8 y9 y10 y11, σ' = [some (.ref t), some (.int (a : Nat)), some (.int (n : Nat)), some (.ref p), some (.ref d), some (.int (at_ : Nat)), y6, y7, y8, y9, y10, y11] ∧ at_ ≤ n ∧ (∀ i < at_, to (st i) a < g) ∧ ∀ i, at_ ≤ i → i < n → g ≤ to (st i) a) ∧
        Same H H' ∧ H' p = some (.lst (nats n fun i => to (st i) a * n + st i)) ∧ ∃ (fs : Nat → Addr) (cnt : Nat → Nat) (src : Nat → Nat → Nat), H' d = some (.lst (refs g fs)) ∧ (∀ g' < g, fs g' ≠ d ∧ H (fs g') = none ∧ H' (fs g') = some (.lst (nats (cnt g') (src g')))) ∧
        (∀ g' < g, (∀ i < cnt g', src g' i < n ∧ to (src g' i) a = g') ∧ ∀ i < cnt g', ∀ j < cnt g', src g' i = src g' j → i = j) ∧ ∀ s < n, to s a < g → ∃ i < cnt (to s a), src (to s a) i = s)
      ⟨⟨0, _, _, _, _, _, _, rfl, Nat.zero_le _, fun i hi => absurd hi (by omega), fun i _ _ => Nat.zero_le _⟩, s03, e2', fun _ => 0, fun _ => 0, fun _ _ => 0, e3, fun g' h => absurd h (by omega), fun g' h => absurd h (by omega), fun s _ h => absurd h (by omega)⟩ ?_ ?_⟩
    rotate_left
    · rintro σ' H4 ⟨⟨at_, y6, y7, y8, y9, y10, y11, rfl, h1, h2, h3⟩, s4, _, fs, cnt, src, k1, k2, k3, k4⟩
      rw [Int.toNat_natCast] at h2 h3 k1 k2 k3 k4
      exact ⟨⟨_, _, _, _, _, _, _, rfl⟩, s4, fs, cnt, src, ⟨fun g hg => (k3 g hg).1, fun g hg => (k3 g hg).2, fun s hs => k4 s hs (hc s hs a ham)⟩, k1, fun g hg => (k2 g hg).2⟩
    rintro g σ' H4 hg ⟨⟨at_, y6, y7, y8, y9, y10, y11, rfl, h1, h2, h3⟩, s4, e4, fs, cnt, src, k1, k2, k3, k4⟩
    rw [Int.toNat_natCast] at hg
    walk_at "rds"
    refine rd_cut (fun σ' H' => H' = H4 ∧ ∃ up : Nat, σ' = [some (.ref t), some (.int (a : Nat)), some (.int (n : Nat)), some (.ref p), some (.ref d), some (.int (up : Nat)), some (.int (0 + (g : Nat))), some (.int (at_ : Nat)), y8, y9, y10, y11] ∧ at_ ≤ up ∧ up ≤ n ∧ (∀ i, at_ ≤ i → i < up → to (st i) a = g) ∧ ∀ i, up ≤ i → i < n → g + 1 ≤ to (st i) a) ?_ ?_
    · refine rd_while (fun m σ' H' => H' = H4 ∧ ∃ up : Nat, σ' = [some (.ref t), some (.int (a : Nat)), some (.int (n : Nat)), some (.ref p), some (.ref d), some (.int (up : Nat)), some (.int (0 + (g : Nat))), some (.int (at_ : Nat)), y8, y9, y10, y11] ∧ m = n - up ∧ at_ ≤ up ∧ up ≤ n ∧ ∀ i, at_ ≤ i → i < up → to (st i) a = g) (n - at_) ⟨rfl, at_, rfl, rfl, Nat.le_refl _, h1, fun i i1 i2 => absurd i1 (by omega)⟩ ?_
      rintro m σ' H5 ⟨rfl, up, rfl, rfl, u1, u2, u3⟩
      walk_at "rds"
      refine rd_ite (fun h => ?_) (fun h => ?_)
      · have hup : up < n := by
          have := of_decide_eq_true h
          omega
        walk_at "rds"
        refine rd_ixL (SqL.of e4) (atI_nat (hcode up hup)) ?_
        walk_at "rds"
        have hn0 : (0 : Int) < (n : Int) := by omega
        refine rd_I (wide_div (b := 20) hn0 (by omega) (by decide) (by decide)) ?_
        rw [code_div (R.lt up hup)]
        walk_at "rds"
        refine rd_ite (fun h2 => ?_) (fun h2 => ?_)
        · have heq : to (st up) a = g := by
            have := of_decide_eq_true h2
            simp only [V.int.injEq] at this
            omega
          refine ⟨fun σ' H' => ∃ m', m' < n - up ∧ (H' = H5 ∧ ∃ up : Nat, σ' = [some (.ref t), some (.int (a : Nat)), some (.int (n : Nat)), some (.ref p), some (.ref d), some (.int (up : Nat)), some (.int (0 + (g : Nat))), some (.int (at_ : Nat)), y8, y9, y10, y11] ∧ m' = n - up ∧ at_ ≤ up ∧ up ≤ n ∧ ∀ i, at_ ≤ i → i < up → to (st i) a = g), fun _ _ h => h, ?_⟩
          walk_at "rds"
          refine ⟨n - (up + 1), by omega, rfl, up + 1, rfl, rfl, by omega, by omega, fun i i1 i2 => ?_⟩
          rcases Nat.lt_or_ge i up with h | h
          · exact u3 i i1 h
          · rw [show i = up by omega]
            exact heq
        · have hne : to (st up) a ≠ g := fun e => by
            have := of_decide_eq_false h2
            simp only [V.int.injEq] at this
            omega
          have hge := h3 up u1 hup
          refine ⟨rfl, up, rfl, u1, u2, u3, fun i i1 i2 => ?_⟩
          rcases Nat.lt_or_ge up i with h | h
          · have := mono up i h i2
            omega
          · rw [show i = up by omega]
            omega
      · have hup : up = n := by
          have := of_decide_eq_false h
          omega
        exact ⟨rfl, up, rfl, u1, u2, u3, fun i i1 i2 => absurd i1 (by omega)⟩
    rintro σ' H5 ⟨rfl, up, rfl, u1, u2, u3, u4⟩
    walk_at "rds"
    refine rd_tyL (SqL.of k1) ?_
    walk_at "rds"
    refine rd_slL (SqL.of e4) (fun r nr => ?_)
    rw [cutV_mid u1 u2]
    have s5 : Same H5 (upd H5 r (.lst (nats (up - at_) fun i => to (st (at_ + i)) a * n + st (at_ + i)))) := same_upd nr
    have e5 : upd H5 r (.lst (nats (up - at_) fun i => to (st (at_ + i)) a * n + st (at_ + i))) r = some (.lst (nats (up - at_) fun i => to (st (at_ + i)) a * n + st (at_ + i))) := upd_same
    generalize upd H5 r (.lst (nats (up - at_) fun i => to (st (at_ + i)) a * n + st (at_ + i))) = H6 at s5 e5 ⊢
    refine ⟨r, rfl, ⟨_, SqL.of e5⟩, fun f nf => lc_it walk_list (fun i H' => Same H6 H' ∧ H' f = some (.lst (nats i fun j => st (at_ + j)))) ⟨same_upd nf, upd_same⟩ (fun i H' _ h => SqL.of (h.1 _ _ e5)) ?_ ?_⟩
    · rintro i x H7 H8 hi ⟨s7, e7⟩ ⟨rfl, hx⟩
      obtain ⟨hin, rfl⟩ := nats_at hx
      walk_at "rds"
      refine ⟨rfl, ?_⟩
      walk_at "rds"
      refine rd_ite (fun _ => ?_) (fun h => by cases h)
      walk_at "rds"
      refine rd_I (by show (0 : Int) < (n : Int); omega) ?_
      rw [code_mod (R.lt (at_ + i) (by omega))]
      refine ⟨_, e7, by rw [nats_len]; exact small1000 (by omega), same_mut s7 nf, ?_⟩
      rw [upd_same, nats_snoc]
    rintro H7 ⟨s7, e7⟩
    rw [nats_len] at e7
    have s57 := same_trans s5 s7
    walk_at "rds"
    refine rd_app (s57 _ _ k1) (by rw [refs_len]; exact small1000 (by omega)) ?_
    have nf5 : H5 f = none := same_none s5 nf
    have hfd : f ≠ d := fun z => by
      rw [z, k1] at nf5
      cases nf5
    have hpd : p ≠ d := fun z => by
      rw [z, k1] at e4
      simp only [Option.some.injEq, HO.lst.injEq] at e4
      rw [z, nd] at e2
      cases e2
    refine ⟨⟨up, _, _, _, _, _, _, rfl, u2, fun i hi => ?_, fun i i1 i2 => u4 i i1 i2⟩, fun b o hb => ?_, by rw [upd_ne hpd]; exact s57 _ _ e4, fset fs g f, fset cnt g (up - at_), gset src g fun j => st (at_ + j), ?_, fun g' hg' => ?_, fun g' hg' => ?_, fun s hs hlt => ?_⟩
    · rcases Nat.lt_or_ge i at_ with h | h
      · have := h2 i h
        omega
      · have := u3 i h hi
        omega
    · rw [upd_ne (ne_of_none hb nd0)]
      exact s57 _ _ (s4 _ _ hb)
    · rw [upd_same, refs_snoc, fset_same]
      rw [refs_congr (f := fs) (g := fset fs g f) fun i hi => by rw [fset_ne (by omega)]]
    · rcases Nat.lt_or_ge g' g with h | h
      · rw [fset_ne (by omega), fset_ne (by omega), gset_ne (by omega), upd_ne (k2 g' h).1]
        exact ⟨(k2 g' h).1, (k2 g' h).2.1, s57 _ _ (k2 g' h).2.2⟩
      · have e : g' = g := by omega
        subst e
        rw [fset_same, fset_same, gset_same, upd_ne hfd]
        exact ⟨hfd, same_none s4 nf5, e7⟩
    · rcases Nat.lt_or_ge g' g with h | h
      · rw [fset_ne (by omega), gset_ne (by omega)]
        exact k3 g' h
      · have e : g' = g := by omega
        subst e
        rw [fset_same, gset_same]
        refine ⟨fun i hi => ⟨R.lt _ (by omega), u3 _ (by omega) (by omega)⟩, fun i hi j hj e => ?_⟩
        have := R.inj (at_ + i) (by omega) (at_ + j) (by omega) e
        omega
    · rcases Nat.lt_or_ge (to s a) g with h | h
      · rw [fset_ne (by omega), gset_ne (by omega)]
        exact k4 s hs h
      · have e : to s a = g := by omega
        rw [e, fset_same, gset_same]
        obtain ⟨j, hj, ej⟩ := R.sur s hs
        have j1 : at_ ≤ j := by
          rcases Nat.lt_or_ge j at_ with h | h
          · have := h2 j h
            rw [ej] at this
            omega
          · exact h
        have j2 : j < up := by
          rcases Nat.lt_or_ge j up with h | h
          · exact h
          · have := u4 j h hj
            rw [ej] at this
            omega
        exact ⟨j - at_, by omega, by rw [show at_ + (j - at_) = j by omega]; exact ej⟩
end
section
variable {P : Program} {w : World} {K : PySem.W.Frag} {mg : Str → Option Value} {base : Heap}
theorem bools_snoc (n : Nat) (f : Nat → Bool) : bools (n + 1) f = bools n f ++ [.bl (f n)] := by
  unfold bools
  rw [List.range_succ, List.map_append]
  rfl
theorem cutV_from1 {n : Nat} {f : Nat → Nat} (h : 1 ≤ n) : cutV (nats n f) (some 1) none = nats (n - 1) fun i => f (i + 1) := by
  show cutV (nats n f) (some ((1 : Nat) : Int)) none = _
  unfold cutV
  rw [HT.sIx_nat, HT.sIx_none, nats_len, Nat.min_eq_left h]
  refine List.ext_getElem? fun i => ?_
  rw [List.getElem?_take, List.getElem?_drop]
  by_cases hi : i < n - 1
  · rw [if_pos hi, nats_get (by omega), nats_get hi, Nat.add_comm]
  · rw [if_neg hi, List.getElem?_eq_none (by rw [nats_len]; omega)]
theorem lasts_of {k n : Nat} {fi : Nat → Nat} (h : 1 ≤ k) : (nats (k - 1) fun i => fi (i + 1)) ++ [.int ((n : Nat) : Int)] = nats k fun p => if p + 1 < k then fi (p + 1) else n := by
  obtain ⟨j, rfl⟩ : ∃ j, k = j + 1 := ⟨k - 1, by omega⟩
  rw [nats_snoc, if_neg (by omega), show j + 1 - 1 = j by omega, nats_congr (g := fun p => if p + 1 < j + 1 then fi (p + 1) else n) fun i hi => by rw [if_pos (by omega)]]
def nts (L : List Nat) : List V := L.map fun (x : Nat) => V.int (x : Int)
theorem nts_len (L : List Nat) : (nts L).length = L.length := List.length_map _
theorem nts_app (L M : List Nat) : nts (L ++ M) = nts L ++ nts M := List.map_append
theorem nts_nats (n : Nat) (f : Nat → Nat) : nats n f = nts ((List.range n).map f) := by
  unfold nats nts
  rw [List.map_map]
  rfl
theorem nts_at {L : List Nat} {i : Nat} {x : V} (h : (nts L)[i]? = some x) : ∃ y, L[i]? = some y ∧ x = .int (y : Nat) := by
  unfold nts at h
  rw [List.getElem?_map] at h
  cases e : L[i]? with
  | none => rw [e] at h; cases h
  | some y => rw [e] at h; exact ⟨y, rfl, (Option.some.inj h).symm⟩
/-- the dict of marks -/
def encM (ps : List Nat) (mid : Nat → Nat) : List (Key × V) := ps.map fun p => (Sum.inl ((p : Nat) : Int), V.int ((mid p : Nat) : Int))
theorem key_ne {p q : Nat} (h : p ≠ q) : ¬ ((Sum.inl ((p : Nat) : Int) : Key) = Sum.inl ((q : Nat) : Int)) := fun e => h (by
  have := Sum.inl.inj e
  omega)
theorem encM_val (mid : Nat → Nat) (p : Nat) : ∀ ps : List Nat, valV (encM ps mid) (Sum.inl ((p : Nat) : Int)) = if p ∈ ps then some (.int ((mid p : Nat) : Int)) else none
  | [] => rfl
  | q :: r => by
    show valV ((Sum.inl ((q : Nat) : Int), V.int ((mid q : Nat) : Int)) :: encM r mid) _ = _
    by_cases e : q = p
    · subst e
      rw [valV_pos rfl, if_pos List.mem_cons_self]
    · rw [valV_neg (key_ne e), encM_val mid p r]
      by_cases h : p ∈ r
      · rw [if_pos h, if_pos (List.mem_cons_of_mem _ h)]
      · rw [if_neg h, if_neg (fun z => by
          rcases List.mem_cons.mp z with z | z
          · exact e z.symm
          · exact h z)]
theorem encM_put {ps : List Nat} {mid : Nat → Nat} {p v : Nat} : putK (encM ps mid) (Sum.inl ((p : Nat) : Int)) (.int ((v : Nat) : Int)) = encM (if p ∈ ps then ps else ps ++ [p]) (fset mid p v) := by
  unfold putK
  rw [valV_any, encM_val]
  by_cases h : p ∈ ps
  · rw [if_pos h, if_pos (by rfl), if_pos h]
    unfold encM
    rw [List.map_map]
    refine List.map_congr_left fun q hq => ?_
    show (if (Sum.inl ((q : Nat) : Int) : Key) = Sum.inl ((p : Nat) : Int) then _ else _) = _
    by_cases e : q = p
    · subst e
      rw [if_pos rfl, fset_same]
    · rw [if_neg (key_ne e), fset_ne e]
  · rw [if_neg h, if_neg (by simp), if_neg h]
    unfold encM
    rw [List.map_append]
    congr 1
    · refine List.map_congr_left fun q hq => ?_
      rw [fset_ne fun e => h (by rw [← e]; exact hq)]
    · show _ = [(Sum.inl ((p : Nat) : Int), V.int ((fset mid p v p : Nat) : Int))]
      rw [fset_same]
theorem encM_len (ps : List Nat) (mid : Nat → Nat) : (encM ps mid).length = ps.length := List.length_map _
theorem encM_at {ps : List Nat} {mid : Nat → Nat} {i p : Nat} (h : ps[i]? = some p) : (encM ps mid)[i]? = some (Sum.inl ((p : Nat) : Int), V.int ((mid p : Nat) : Int)) := by
  unfold encM
  rw [List.getElem?_map, h]
  rfl
theorem last_nats {k : Nat} {f : Nat → Nat} : (nats (k + 1) f).getLast? = some (.int ((f k : Nat) : Int)) := by
  rw [nats_snoc]
  simp
def glL (st : Nat → Nat) (o i : Nat) : List Nat := (List.range i).map fun j => st (o + j)
theorem glL_succ (st : Nat → Nat) (o i : Nat) : glL st o (i + 1) = glL st o i ++ [st (o + i)] := by
  unfold glL
  rw [List.range_succ, List.map_append]
  rfl
theorem mem_glL {st : Nat → Nat} {o i y : Nat} : y ∈ glL st o i ↔ ∃ j < i, y = st (o + j) := by
  unfold glL
  rw [List.mem_map]
  constructor
  · rintro ⟨j, hj, rfl⟩
    exact ⟨j, List.mem_range.mp hj, rfl⟩
  · rintro ⟨j, hj, rfl⟩
    exact ⟨j, List.mem_range.mpr hj, rfl⟩
theorem glL_nodup {n o i : Nat} {st pl : Nat → Nat} (h : ∀ j < n, st j < n ∧ pl (st j) = j) (hl : o + i ≤ n) : (glL st o i).Nodup :=
  List.pairwise_map.mpr (List.Pairwise.imp_of_mem (fun {x y} hx hy hne e => hne (by
    have h1 := (h (o + x) (by have := List.mem_range.mp hx; omega)).2
    have h2 := (h (o + y) (by have := List.mem_range.mp hy; omega)).2
    rw [e, h2] at h1
    omega)) List.nodup_range)
theorem ixN_n {n i : Nat} (h : i < n) : ixN n ((i : Nat) : Int) = some i := by
  unfold ixN
  rw [if_pos (by omega), if_pos (by omega)]
  rfl
/-- the six lists that the refining writes -/
structure Six where
  a1 : Addr
  a2 : Addr
  a3 : Addr
  a4 : Addr
  a5 : Addr
  a7 : Addr
structure Dis (A : Six) : Prop where
  n12 : A.a1 ≠ A.a2
  n13 : A.a1 ≠ A.a3
  n14 : A.a1 ≠ A.a4
  n15 : A.a1 ≠ A.a5
  n17 : A.a1 ≠ A.a7
  n23 : A.a2 ≠ A.a3
  n24 : A.a2 ≠ A.a4
  n25 : A.a2 ≠ A.a5
  n27 : A.a2 ≠ A.a7
  n34 : A.a3 ≠ A.a4
  n35 : A.a3 ≠ A.a5
  n37 : A.a3 ≠ A.a7
  n45 : A.a4 ≠ A.a5
  n47 : A.a4 ≠ A.a7
  n57 : A.a5 ≠ A.a7
structure Off (A : Six) (b : Addr) : Prop where
  o1 : b ≠ A.a1
  o2 : b ≠ A.a2
  o3 : b ≠ A.a3
  o4 : b ≠ A.a4
  o5 : b ≠ A.a5
  o7 : b ≠ A.a7
/-- all but the six stay -/
def Fr6 (A : Six) (H H' : Hp) : Prop := ∀ b o, H b = some o → Off A b → H' b = some o
theorem Fr6.refl (A : Six) (H : Hp) : Fr6 A H H := fun _ _ h _ => h
theorem Fr6.trans {A : Six} {H H1 H2 : Hp} (a : Fr6 A H H1) (b : Fr6 A H1 H2) : Fr6 A H H2 := fun c o h f => b c o (a c o h f) f
theorem Fr6.of {A : Six} {H H' : Hp} (s : Same H H') : Fr6 A H H' := fun b o h _ => s b o h
theorem Fr6.u1 {A : Six} {H : Hp} {o : HO} : Fr6 A H (upd H A.a1 o) := fun b u h f => by rw [upd_ne f.o1]; exact h
theorem Fr6.u2 {A : Six} {H : Hp} {o : HO} : Fr6 A H (upd H A.a2 o) := fun b u h f => by rw [upd_ne f.o2]; exact h
theorem Fr6.u3 {A : Six} {H : Hp} {o : HO} : Fr6 A H (upd H A.a3 o) := fun b u h f => by rw [upd_ne f.o3]; exact h
theorem Fr6.u4 {A : Six} {H : Hp} {o : HO} : Fr6 A H (upd H A.a4 o) := fun b u h f => by rw [upd_ne f.o4]; exact h
theorem Fr6.u5 {A : Six} {H : Hp} {o : HO} : Fr6 A H (upd H A.a5 o) := fun b u h f => by rw [upd_ne f.o5]; exact h
theorem Fr6.u7 {A : Six} {H : Hp} {o : HO} : Fr6 A H (upd H A.a7 o) := fun b u h f => by rw [upd_ne f.o7]; exact h
theorem none_of6 {A : Six} {H H' : Hp} (f : Fr6 A H H') {b : Addr} (ob : Off A b) (nb : H' b = none) : H b = none := by
  cases e : H b with
  | none => rfl
  | some o => exact absurd (f b o e ob) (by rw [nb]; intro z; cases z)
theorem rd_nx {t : TS} {D : Ends} {σ : L2.St} {H : Hp} (Mid : L2.St → Hp → Prop) (j : ∀ σ' H', Mid σ' H' → D.nx σ' H') (h : ∀ nx : L2.St → Hp → Prop, (∀ σ' H', Mid σ' H' → nx σ' H') → t { D with nx := nx } σ H) : t D σ H := h D.nx j
theorem nats_push (k v : Nat) (f : Nat → Nat) : nats k f ++ [.int ((v : Nat) : Int)] = nats (k + 1) (fset f k v) := by
  rw [nats_snoc, fset_same, nats_congr (f := fset f k v) (g := f) fun j hj => fset_ne (by omega)]
structure PHp (A : Six) (n k4 k5 : Nat) (po st pl fi la : Nat → Nat) (W : List Nat) (H : Hp) : Prop where
  e1 : H A.a1 = some (.lst (nats n po))
  e2 : H A.a2 = some (.lst (nats n st))
  e3 : H A.a3 = some (.lst (nats n pl))
  e4 : H A.a4 = some (.lst (nats k4 fi))
  e5 : H A.a5 = some (.lst (nats k5 la))
  e7 : H A.a7 = some (.lst (nts W))
section
variable {A : Six} {n k4 k5 : Nat} {po st pl fi la : Nat → Nat} {W : List Nat} {H H' : Hp}
theorem PHp.same (h : PHp A n k4 k5 po st pl fi la W H) (s : Same H H') : PHp A n k4 k5 po st pl fi la W H' := ⟨s _ _ h.e1, s _ _ h.e2, s _ _ h.e3, s _ _ h.e4, s _ _ h.e5, s _ _ h.e7⟩
theorem PHp.off (h : PHp A n k4 k5 po st pl fi la W H) {b : Addr} (nb : H b = none) : Off A b :=
  ⟨(ne_of_none h.e1 nb).symm, (ne_of_none h.e2 nb).symm, (ne_of_none h.e3 nb).symm, (ne_of_none h.e4 nb).symm, (ne_of_none h.e5 nb).symm, (ne_of_none h.e7 nb).symm⟩
theorem PHp.aside (h : PHp A n k4 k5 po st pl fi la W H) {b : Addr} {o : HO} (f : Off A b) : PHp A n k4 k5 po st pl fi la W (upd H b o) :=
  ⟨by rw [upd_ne f.o1.symm]; exact h.e1, by rw [upd_ne f.o2.symm]; exact h.e2, by rw [upd_ne f.o3.symm]; exact h.e3, by rw [upd_ne f.o4.symm]; exact h.e4, by rw [upd_ne f.o5.symm]; exact h.e5, by rw [upd_ne f.o7.symm]; exact h.e7⟩
theorem PHp.u1 {po' : Nat → Nat} (h : PHp A n k4 k5 po st pl fi la W H) (D : Dis A) : PHp A n k4 k5 po' st pl fi la W (upd H A.a1 (.lst (nats n po'))) :=
  ⟨upd_same, by rw [upd_ne D.n12.symm]; exact h.e2, by rw [upd_ne D.n13.symm]; exact h.e3, by rw [upd_ne D.n14.symm]; exact h.e4, by rw [upd_ne D.n15.symm]; exact h.e5, by rw [upd_ne D.n17.symm]; exact h.e7⟩
theorem PHp.u2 {st' : Nat → Nat} (h : PHp A n k4 k5 po st pl fi la W H) (D : Dis A) : PHp A n k4 k5 po st' pl fi la W (upd H A.a2 (.lst (nats n st'))) :=
  ⟨by rw [upd_ne D.n12]; exact h.e1, upd_same, by rw [upd_ne D.n23.symm]; exact h.e3, by rw [upd_ne D.n24.symm]; exact h.e4, by rw [upd_ne D.n25.symm]; exact h.e5, by rw [upd_ne D.n27.symm]; exact h.e7⟩
theorem PHp.u3 {pl' : Nat → Nat} (h : PHp A n k4 k5 po st pl fi la W H) (D : Dis A) : PHp A n k4 k5 po st pl' fi la W (upd H A.a3 (.lst (nats n pl'))) :=
  ⟨by rw [upd_ne D.n13]; exact h.e1, by rw [upd_ne D.n23]; exact h.e2, upd_same, by rw [upd_ne D.n34.symm]; exact h.e4, by rw [upd_ne D.n35.symm]; exact h.e5, by rw [upd_ne D.n37.symm]; exact h.e7⟩
theorem PHp.u4 {k : Nat} {fi' : Nat → Nat} (h : PHp A n k4 k5 po st pl fi la W H) (D : Dis A) : PHp A n k k5 po st pl fi' la W (upd H A.a4 (.lst (nats k fi'))) :=
  ⟨by rw [upd_ne D.n14]; exact h.e1, by rw [upd_ne D.n24]; exact h.e2, by rw [upd_ne D.n34]; exact h.e3, upd_same, by rw [upd_ne D.n45.symm]; exact h.e5, by rw [upd_ne D.n47.symm]; exact h.e7⟩
theorem PHp.u5 {k : Nat} {la' : Nat → Nat} (h : PHp A n k4 k5 po st pl fi la W H) (D : Dis A) : PHp A n k4 k po st pl fi la' W (upd H A.a5 (.lst (nats k la'))) :=
  ⟨by rw [upd_ne D.n15]; exact h.e1, by rw [upd_ne D.n25]; exact h.e2, by rw [upd_ne D.n35]; exact h.e3, by rw [upd_ne D.n45]; exact h.e4, upd_same, by rw [upd_ne D.n57.symm]; exact h.e7⟩
theorem PHp.u7 {W' : List Nat} (h : PHp A n k4 k5 po st pl fi la W H) (D : Dis A) : PHp A n k4 k5 po st pl fi la W' (upd H A.a7 (.lst (nts W'))) :=
  ⟨by rw [upd_ne D.n17]; exact h.e1, by rw [upd_ne D.n27]; exact h.e2, by rw [upd_ne D.n37]; exact h.e3, by rw [upd_ne D.n47]; exact h.e4, by rw [upd_ne D.n57]; exact h.e5, upd_same⟩
end
/-- the slots -/
def sg (t : Addr) (A : Six) (A6 : Addr) (y4 y9 y10 y11 y12 y13 y14 y15 y16 y17 y18 y19 y20 : Option V) : L2.St :=
  [some (.ref t), some (.ref A.a1), some (.ref A.a2), some (.ref A.a3), y4, some (.ref A.a4), some (.ref A.a5), some (.ref A6), some (.ref A.a7), y9, y10, y11, y12, y13, y14, y15, y16, y17, y18, y19, y20]
def IsSg (t : Addr) (A : Six) (A6 : Addr) (σ : L2.St) : Prop := ∃ y4 y9 y10 y11 y12 y13 y14 y15 y16 y17 y18 y19 y20, σ = sg t A A6 y4 y9 y10 y11 y12 y13 y14 y15 y16 y17 y18 y19 y20
theorem rd_listRg {te : L2.St → Hp → (Int → Int → Hp → Prop) → Prop} {σ : L2.St} {H : Hp} {Q : VK} (h : te σ H fun a b H1 => RgOk a b ∧ ∀ q, H1 q = none → Q (.ref q) (upd H1 q (.lst (rgV a b)))) : tLstRg te σ H Q := h
theorem rd_rg1 {ta : TE} {σ : L2.St} {H : Hp} {Q : Int → Int → Hp → Prop} (h : ta σ H fun x H1 => ∃ n, x = .int n ∧ Q 0 n H1) : tRg1 ta σ H Q := h
theorem rgV_nats (c : Nat) : rgV 0 (c : Int) = nts (List.range c) := by
  unfold rgV nts
  rw [show ((c : Int) - 0).toNat = c by omega]
  refine List.map_congr_left fun i hi => ?_
  rw [Int.zero_add]
def spParts : Sp := fun vs H Q _ => ∃ (t : Addr) (n m : Nat) (lab : Nat → Bool) (to : Nat → Nat → Nat), vs = [.ref t] ∧ TabAt H t n m lab to ∧ Closed n m to ∧ 1 ≤ n ∧ n ≤ 1000 ∧ m ≤ 10 ∧
  ∀ (k : Nat) (po : Nat → Nat) (p : Addr) (H' : Hp), (∀ s < n, ∀ t < n, (po s = po t ↔ Eqv m lab to s t)) → (∀ s < n, po s < k) → (∀ q < k, ∃ s < n, po s = q) → k ≤ n → Same H H' → H p = none → H' p = some (.lst (nats n po)) → Q (.ref p) H'
set_option maxHeartbeats 4000000 in
theorem cl_parts (T : Txt K mg) : Cl P w K mg base "_parts" ["table"] 2 spParts := cl_of T.a__parts fun f fd F => by
  have C_numbered := cl_numd (P := P) (w := w) (base := base) T
  have C__side_by_side := cl_side (P := P) (w := w) (base := base) T
  have C__places := cl_pl (P := P) (w := w) (base := base) T
  have C__sources := cl_src (P := P) (w := w) (base := base) T
  refine F.ok sc__parts (fun vs H Q E h => ?_) (fun cdv A outer s H vs Q E hr h => ?_)
  · obtain ⟨t, n, m, lab, to, rfl, _⟩ := h
    rfl
  · obtain ⟨t, n, m, lab, to, rfl, ht, hc, hn1, hn, hm, q⟩ := h
    refine ⟨_, (pss_cons (ps_set (i := 1) sc__parts.nd rfl (Or.inr rfl) (pe_callTy call_listQ (by rfl) T.m_list (by decide +kernel) (pa_cons (pe_cl C_numbered (hr.mono (by decide)) (by rfl) (pa_cons (pe_lc (own := [("label", 17), ("_", 18)]) (g := (gTup K 2 (gCons (gName 17) (gCons (gName 18) gNil)))) (tt := tYes) (by rfl) sc__parts.nd (pi_tup (pv 0)) (blkOk_by (own := [("label", 17), ("_", 18)]) (N := n__parts) (sc := defScope s__parts) (by decide +kernel)) (fun _ _ _ _ _ => by exact (pg_tup rfl (pgs_cons (pg_name (i := 17) sc__parts.nd rfl (by first | exact Or.inl rfl | exact Or.inr rfl)) (pgs_cons (pg_name (i := 18) sc__parts.nd rfl (by first | exact Or.inl rfl | exact Or.inr rfl)) pgs_nil)))) (fun _ _ _ _ _ => pts_nil) (fun _ _ _ _ _ => (pv 17))) pa_nil)) pa_nil)))
      (pss_cons (ps_set (i := 2) sc__parts.nd rfl (Or.inr rfl) (pe_callTy call_listQ (by rfl) T.m_list (by decide +kernel) (pa_cons (pe_cl C__side_by_side (hr.mono (by decide)) (by rfl) (pa_cons (pv 1) pa_nil)) pa_nil)))
      (pss_cons (ps_set (i := 3) sc__parts.nd rfl (Or.inl rfl) (pe_callTy call_listQ (by rfl) T.m_list (by decide +kernel) (pa_cons (pe_cl C__places (hr.mono (by decide)) (by rfl) (pa_cons (pv 2) pa_nil)) pa_nil)))
      (pss_cons (ps_setLc (i := 5) (own := [("at", 16), ("state", 4)]) (g := (gTup K 2 (gCons (gName 16) (gCons (gName 4) gNil)))) (by rfl) sc__parts.nd rfl rfl (sw_true rfl rfl rfl (by decide +kernel)) (pi_enumK .l (K := K) (by rfl) (by rfl) T.m_enumerate (pa_cons (pv 2) pa_nil)) (blkOk_by (own := [("at", 16), ("state", 4)]) (N := n__parts) (sc := defScope s__parts) (by decide +kernel)) (fun _ _ _ _ _ => by exact (pg_tup rfl (pgs_cons (pg_name (i := 16) sc__parts.nd rfl (by first | exact Or.inl rfl | exact Or.inr rfl)) (pgs_cons (pg_name (i := 4) sc__parts.nd rfl (by first | exact Or.inl rfl | exact Or.inr rfl)) pgs_nil)))) (fun _ _ _ _ _ => (pts_one (PW.pt (pw_or (pt_cmpR op_eq (pv 16) pe_int (nomark _)) (pw_or1 (pt_cmpR op_ne (pe_ix (ix_listK (K := K) (by rfl)) (pv 1) (pv 4) (fun _ _ => rfl)) (pe_ix (ix_listK (K := K) (by rfl)) (pv 1) (pe_ix (ix_listK (K := K) (by rfl)) (pv 2) (pe_op op_sub (pv 16) pe_int) (fun _ _ => rfl)) (fun _ _ => rfl)) (nomark _))))))) (fun _ _ _ _ _ => (pv 16)))
      (pss_cons (ps_set (i := 6) sc__parts.nd rfl (Or.inl rfl) (pe_callTy call_listQ (by rfl) T.m_list (by decide +kernel) (pa_cons (pe_op op_cat (pe_slice sl_list (pv 5) (po_some pe_int) po_none) (pe_lst (pa_cons (pe_callB (call_lenK (K := K) (by rfl)) (by rfl) T.m_len (by decide +kernel) (pa_cons (pv 2) pa_nil)) pa_nil))) pa_nil)))
      (pss_cons (ps_setLc (i := 7) (own := [("at", 16)]) (g := gName 16) (tt := tYes) (by rfl) sc__parts.nd rfl rfl (sw_true rfl rfl rfl (by decide +kernel)) (pi_range1 (by rfl) T.m_range (pa_cons (pe_callB (call_lenK (K := K) (by rfl)) (by rfl) T.m_len (by decide +kernel) (pa_cons (pe_ix (ix_tupK (K := K) (by rfl)) (pe_ix (ix_tupK (K := K) (by rfl)) (pv 0) pe_int (fun _ _ => rfl)) pe_int (fun _ _ => rfl)) pa_nil)) pa_nil)) (blkOk_by (own := [("at", 16)]) (N := n__parts) (sc := defScope s__parts) (by decide +kernel)) (fun _ _ _ _ _ => (pg_name (i := 16) sc__parts.nd rfl (by first | exact Or.inl rfl | exact Or.inr rfl))) (fun _ _ _ _ _ => pts_nil) (fun _ _ _ _ _ => (pe_cl C__sources (hr.mono (by decide)) (by rfl) (pa_cons (pv 0) (pa_cons (pv 16) pa_nil)))))
      (pss_cons (ps_set (i := 8) sc__parts.nd rfl (Or.inl rfl) (pe_listRg (by rfl) (by rfl) T.m_list (prg_1 (by rfl) T.m_range (pe_callB (call_lenK (K := K) (by rfl)) (by rfl) T.m_len (by decide +kernel) (pa_cons (pv 5) pa_nil)))))
      (Evl.pss_cut (ps_while PassesOwn.never (pt_truth (pv 8) (by intro _; rfl))
      (pss_cons (ps_set (i := 9) sc__parts.nd rfl (Or.inl rfl) (pe_bm0 PySem.F.plainAttrs_list PySem.F.slot_list_pop PySem.F.type_list_pop mt_pop (pv 8)))
      (pss_cons (ps_set (i := 10) sc__parts.nd rfl (Or.inl rfl) (pe_slice sl_list (pv 2) (po_some (pe_ix (ix_listK (K := K) (by rfl)) (pv 5) (pv 9) (fun _ _ => rfl))) (po_some (pe_ix (ix_listK (K := K) (by rfl)) (pv 6) (pv 9) (fun _ _ => rfl)))))
      (pss_one (ps_for PassesOwn.never rfl (pi_list (pv 7)) (pg_name (i := 11) sc__parts.nd rfl (Or.inr rfl))
      (pss_cons (ps_set (i := 12) sc__parts.nd rfl (Or.inl rfl) pe_dnewK)
      (Evl.pss_cut (ps_for PassesOwn.never rfl (pi_list (pe_lc2 (own := [("goal", 19), ("source", 20)]) (vs1 := [20]) (g := gName 19) (g1 := gName 20) (tt := tYes) (tt1 := tYes) (by rfl) sc__parts.nd (pi_list (pv 10)) (blkOk_by (own := [("goal", 19), ("source", 20)]) (N := n__parts) (sc := defScope s__parts) (by decide +kernel)) (by decide) (fun _ _ _ _ _ => (pg_name (i := 19) sc__parts.nd rfl (by first | exact Or.inl rfl | exact Or.inr rfl))) (fun _ _ _ _ _ => pts_nil) (fun _ _ _ _ _ => (pi_listK (K := K) (by rfl) (pe_ix (ix_listK (K := K) (by rfl)) (pv 11) (pv 19) (fun _ _ => rfl)))) (fun _ _ _ _ _ => (pg_name (i := 20) sc__parts.nd rfl (by first | exact Or.inl rfl | exact Or.inr rfl))) (fun _ _ _ _ _ => pts_nil) (fun _ _ _ _ _ => (pv 20)))) (pg_name (i := 4) sc__parts.nd rfl (Or.inl rfl))
      (pss_cons (ps_set (i := 13) sc__parts.nd rfl (Or.inl rfl) (pe_dget2 (by exact hu_of hr) (pv 12) (pe_ix (ix_listK (K := K) (by rfl)) (pv 1) (pv 4) (fun _ _ => rfl)) (pe_ix (ix_listK (K := K) (by rfl)) (pv 5) (pe_ix (ix_listK (K := K) (by rfl)) (pv 1) (pv 4) (fun _ _ => rfl)) (fun _ _ => rfl)) ⟨rfl, rfl, rfl, rfl⟩))
      (pss_cons (ps_dput (by exact hu_of hr) (pv 12) (pe_ix (ix_listK (K := K) (by rfl)) (pv 1) (pv 4) (fun _ _ => rfl)) (pe_op op_add (pv 13) pe_int) rfl)
      (pss_cons (ps_asg (pe_ix (ix_listK (K := K) (by rfl)) (pv 2) (pv 13) (fun _ _ => rfl)) (pg_sub (pv 2) (pe_ix (ix_listK (K := K) (by rfl)) (pv 3) (pv 4) (fun _ _ => rfl)) set_list))
      (pss_cons (ps_asg (pe_ix (ix_listK (K := K) (by rfl)) (pv 3) (pv 4) (fun _ _ => rfl)) (pg_sub (pv 3) (pe_ix (ix_listK (K := K) (by rfl)) (pv 2) (pv 13) (fun _ _ => rfl)) set_list))
      (pss_cons (ps_asg (pv 4) (pg_sub (pv 2) (pv 13) set_list))
      (pss_one (ps_asg (pv 13) (pg_sub (pv 3) (pv 4) set_list)))))))))
      (pss_one (ps_lock (ps_for PassesOwn.never rfl (pi_items (pv 12)) (pg_tup rfl (pgs_cons (pg_name (i := 14) sc__parts.nd rfl (Or.inl rfl)) (pgs_cons (pg_name (i := 15) sc__parts.nd rfl (Or.inl rfl)) pgs_nil)))
      (pss_one (ps_if (pt_cmpR op_lt (pv 15) (pe_ix (ix_listK (K := K) (by rfl)) (pv 6) (pv 14) (fun _ _ => rfl)) (nomark _))
      (pss_cons (ps_expr (pe_bm PySem.F.plainAttrs_list PySem.F.slot_list_append PySem.F.type_list_append mt_append (pv 8) (pa_cons (pe_callB (call_lenK (K := K) (by rfl)) (by rfl) T.m_len (by decide +kernel) (pa_cons (pv 5) pa_nil)) pa_nil)))
      (pss_cons (ps_if (pt_cmpR op_le (pe_op op_sub (pv 15) (pe_ix (ix_listK (K := K) (by rfl)) (pv 5) (pv 14) (fun _ _ => rfl))) (pe_op op_sub (pe_ix (ix_listK (K := K) (by rfl)) (pv 6) (pv 14) (fun _ _ => rfl)) (pv 15)) (nomark _))
      (pss_cons (ps_expr (pe_bm PySem.F.plainAttrs_list PySem.F.slot_list_append PySem.F.type_list_append mt_append (pv 5) (pa_cons (pe_ix (ix_listK (K := K) (by rfl)) (pv 5) (pv 14) (fun _ _ => rfl)) pa_nil)))
      (pss_cons (ps_expr (pe_bm PySem.F.plainAttrs_list PySem.F.slot_list_append PySem.F.type_list_append mt_append (pv 6) (pa_cons (pv 15) pa_nil)))
      (pss_one (ps_asg (pv 15) (pg_sub (pv 5) (pv 14) set_list)))))
      (pss_cons (ps_expr (pe_bm PySem.F.plainAttrs_list PySem.F.slot_list_append PySem.F.type_list_append mt_append (pv 5) (pa_cons (pv 15) pa_nil)))
      (pss_cons (ps_expr (pe_bm PySem.F.plainAttrs_list PySem.F.slot_list_append PySem.F.type_list_append mt_append (pv 6) (pa_cons (pe_ix (ix_listK (K := K) (by rfl)) (pv 6) (pv 14) (fun _ _ => rfl)) pa_nil)))
      (pss_one (ps_asg (pv 15) (pg_sub (pv 6) (pv 14) set_list))))))
      (pss_one (ps_for PassesOwn.never rfl (pi_list (pe_slice sl_list (pv 2) (po_some (pe_ix (ix_listK (K := K) (by rfl)) (pv 5) (pe_un un_neg pe_int) (fun _ _ => rfl))) (po_some (pe_ix (ix_listK (K := K) (by rfl)) (pv 6) (pe_un un_neg pe_int) (fun _ _ => rfl))))) (pg_name (i := 4) sc__parts.nd rfl (Or.inl rfl))
      (pss_one (ps_asg (pe_op op_sub (pe_callB (call_lenK (K := K) (by rfl)) (by rfl) T.m_len (by decide +kernel) (pa_cons (pv 5) pa_nil)) pe_int) (pg_sub (pv 1) (pv 4) set_list)))))))
      pss_nil))))))))))))
      (pss_one (ps_ret (pv 1))))))))))), ?_⟩
    obtain ⟨rs, ws, et, er⟩ := id ht
    walk_at "rds"
    refine ⟨t, rfl, ⟨_, SqT.of et⟩, fun e0 ne0 => lc_it walk_tup (fun i H' => Same H H' ∧ H' e0 = some (.lst (bools i lab))) ⟨same_upd ne0, upd_same⟩ (fun i H' _ h => SqT.of (h.1 _ _ et)) ?_ ?_⟩
    · rintro i x H1 H2 hi ⟨s1, e1⟩ ⟨rfl, hx⟩
      obtain ⟨hin, rfl⟩ := refs_at hx
      refine rd_gtup (SqT.of (s1 _ _ (er i hin).1)) rfl ?_
      walk_at "rds"
      refine ⟨rfl, ?_⟩
      walk_at "rds"
      refine rd_ite (fun _ => ?_) (fun h => by cases h)
      walk_at "rds"
      refine ⟨_, e1, by rw [bools_len]; exact small1000 (by omega), same_mut s1 ne0, ?_⟩
      rw [upd_same, bools_snoc]
    rintro H1 ⟨s1, e1⟩
    rw [refs_len] at e1
    walk_at "rds"
    refine ⟨e0, n, lab, rfl, e1, hn, fun k po p0 H2 hk2 hpo hk hused s2 n2 e2 => ?_⟩
    walk_at "rds"
    refine ⟨p0, _, rfl, .inl (SqL.of e2), fun A1 nA1 => ?_⟩
    have s3 : Same H (upd H2 A1 (.lst (nats n po))) := same_trans (same_trans s1 s2) (same_upd nA1)
    have a1 : upd H2 A1 (.lst (nats n po)) A1 = some (.lst (nats n po)) := upd_same
    have nA1' := same_none (same_trans s1 s2) nA1
    generalize upd H2 A1 (.lst (nats n po)) = H3 at s3 a1 ⊢
    clear s1 e1 s2 n2 e2 nA1
    walk_at "rds"
    refine ⟨A1, n, po, rfl, a1, hn, fun s hs => by have := hk s hs; omega, fun st p1 H4 R mono s4 n4 e4 => ?_⟩
    walk_at "rds"
    refine ⟨p1, _, rfl, .inl (SqL.of e4), fun A2 nA2 => ?_⟩
    have s5 : Same H3 (upd H4 A2 (.lst (nats n st))) := same_trans s4 (same_upd nA2)
    have a2 : upd H4 A2 (.lst (nats n st)) A2 = some (.lst (nats n st)) := upd_same
    have nA2' := same_none s4 nA2
    generalize upd H4 A2 (.lst (nats n st)) = H5 at s5 a2 ⊢
    clear s4 n4 e4 nA2
    walk_at "rds"
    refine ⟨A2, n, st, rfl, a2, hn, R, fun pl p2 H6 hpl s6 n6 e6 => ?_⟩
    walk_at "rds"
    refine ⟨p2, _, rfl, .inl (SqL.of e6), fun A3 nA3 => ?_⟩
    have s7 : Same H5 (upd H6 A3 (.lst (nats n pl))) := same_trans s6 (same_upd nA3)
    have a3 : upd H6 A3 (.lst (nats n pl)) A3 = some (.lst (nats n pl)) := upd_same
    have nA3' := same_none s6 nA3
    generalize upd H6 A3 (.lst (nats n pl)) = H7 at s7 a3 ⊢
    clear s6 n6 e6 nA3
    have b1 := s7 _ _ (s5 _ _ a1)
    have b2 := s7 _ _ a2
    walk_at "rds"
    -- where the parts begin
    refine ⟨A2, _, rfl, (show SqL K H7 A2 (nats n st) from SqL.of b2), fun A4 nA4 => lc_it walk_enumA (fun i H' => Same H7 H' ∧ ∃ c fi, Fst i c po st fi ∧ H' A4 = some (.lst (nats c fi))) ⟨same_upd nA4, 0, fun _ => 0, Fst.start, upd_same⟩ (fun i H' _ h => SqL.of (h.1 _ _ b2)) ?_ ?_⟩
    · rintro i x H1 H2 hi ⟨s1, c, fi, hF, e1⟩ ⟨T, x1, x2, rfl, nT, rfl, h1, h2⟩
      cases h1
      obtain ⟨hin, rfl⟩ := nats_at h2
      have heT : A4 ≠ T := ne_of_none e1 nT
      have sT : Same H7 (upd H1 T (.tup [.int (i : Nat), .int (st i : Nat)])) := same_mut s1 (same_none s1 nT)
      have eT : upd H1 T (.tup [.int (i : Nat), .int (st i : Nat)]) A4 = some (.lst (nats c fi)) := by rw [upd_ne heT]; exact e1
      have hlen := hF.le
      refine rd_gtup (SqT.of upd_same) rfl ?_
      generalize upd H1 T (.tup [.int (i : Nat), .int (st i : Nat)]) = HT at sT eT ⊢
      walk_at "rds"
      refine ⟨rfl, ?_⟩
      have take : (i = 0 ∨ po (st i) ≠ po (st (i - 1))) → ∃ acc, HT A4 = some (.lst acc) ∧ acc.length < sizeLine ∧ Same H7 (upd HT A4 (.lst (acc ++ [.int (i : Nat)]))) ∧ ∃ c fi, Fst (i + 1) c po st fi ∧ upd HT A4 (.lst (acc ++ [.int (i : Nat)])) A4 = some (.lst (nats c fi)) := fun h =>
        ⟨_, eT, by rw [nats_len]; exact small1000 (by omega), same_mut sT nA4, c + 1, fset fi c i, hF.new R mono hused hk hin h, by rw [upd_same, nats_snoc, fset_same, nats_congr (f := fset fi c i) (g := fi) fun j hj => fset_ne (by omega)]⟩
      walk_at "rds"
      refine rd_ite (fun h => ?_) (fun h => ?_)
      · have h0 : i = 0 := by
          have := of_decide_eq_true h
          simp only [V.int.injEq] at this
          omega
        refine rd_ite (fun _ => ?_) (fun h => by cases h)
        walk_at "rds"
        exact take (.inl h0)
      · have h0 : i ≠ 0 := fun e => by
          have := of_decide_eq_false h
          simp only [V.int.injEq] at this
          omega
        walk_at "rds"
        refine rd_ixL (SqL.of (sT _ _ b1)) (atI_nat (nats_get (R.lt i hin))) ?_
        walk_at "rds"
        rw [show ((i : Nat) : Int) - 1 = ((i - 1 : Nat) : Int) by omega]
        refine rd_ixL (SqL.of (sT _ _ b2)) (atI_nat (nats_get (show i - 1 < n by omega))) ?_
        walk_at "rds"
        refine rd_ixL (SqL.of (sT _ _ b1)) (atI_nat (nats_get (R.lt (i - 1) (by omega)))) ?_
        walk_at "rds"
        refine rd_ite (fun h2 => ?_) (fun h2 => ?_)
        · walk_at "rds"
          refine take (.inr fun e => ?_)
          rw [e] at h2
          simp at h2
        · refine ⟨sT, c, fi, hF.old h0 ?_, eT⟩
          simp at h2
          omega
    rintro H8 ⟨s8, c, fi, hF, a4⟩
    rw [nats_len] at hF
    obtain ⟨rfl, hB⟩ := hF.blk R hpl mono hused hk hn1
    have hc1 : 1 ≤ c := by
      have := (hB.hpo 0 (by omega)).1
      omega
    have hck := hB.k_le
    clear hF mono
    walk_at "rds"
    refine rd_slL (SqL.of a4) (fun r1 nr1 => ?_)
    rw [cutV_from1 hc1]
    walk_at "rds"
    refine rd_lenL (SqL.of (by rw [upd_ne (ne_of_none (s8 _ _ b2) nr1)]; exact s8 _ _ b2)) ?_
    rw [nats_len]
    walk_at "rds"
    refine ⟨by show 1 ≤ sizeLine; decide, fun r2 nr2 => ?_⟩
    have hr12 : r1 ≠ r2 := ne_of_none upd_same nr2
    have nr2' : H8 r2 = none := same_none (same_upd nr1) nr2
    refine rd_cat (by rw [upd_ne hr12]; exact upd_same) upd_same (by rw [nats_len]; exact Nat.le_of_lt (small1000 (by show c - 1 + 1 ≤ 1000; omega))) (fun r3 nr3 => ?_)
    rw [lasts_of hc1]
    have s9 : Same H8 (upd (upd (upd H8 r1 (.lst (nats (c - 1) fun i => fi (i + 1)))) r2 (.lst [.int (n : Nat)])) r3 (.lst (nats c fun p => if p + 1 < c then fi (p + 1) else n))) := same_trans (same_trans (same_upd nr1) (same_upd nr2)) (same_upd nr3)
    have e9 : upd (upd (upd H8 r1 (.lst (nats (c - 1) fun i => fi (i + 1)))) r2 (.lst [.int (n : Nat)])) r3 (.lst (nats c fun p => if p + 1 < c then fi (p + 1) else n)) r3 = some (.lst (nats c fun p => if p + 1 < c then fi (p + 1) else n)) := upd_same
    generalize upd (upd (upd H8 r1 (.lst (nats (c - 1) fun i => fi (i + 1)))) r2 (.lst [.int (n : Nat)])) r3 (.lst (nats c fun p => if p + 1 < c then fi (p + 1) else n)) = H9 at s9 e9 ⊢
    clear nr1 nr2 nr2' hr12 nr3
    generalize hla : (fun p => if p + 1 < c then fi (p + 1) else n) = la at hB e9 ⊢
    walk_at "rds"
    refine ⟨r3, _, rfl, .inl (SqL.of e9), fun A5 nA5 => ?_⟩
    have s10 : Same H7 (upd H9 A5 (.lst (nats c la))) := same_trans (same_trans s8 s9) (same_upd nA5)
    have a5 : upd H9 A5 (.lst (nats c la)) A5 = some (.lst (nats c la)) := upd_same
    have nA5' : H8 A5 = none := same_none s9 nA5
    have a4' : upd H9 A5 (.lst (nats c la)) A4 = some (.lst (nats c fi)) := (same_trans s9 (same_upd nA5)) _ _ a4
    generalize upd H9 A5 (.lst (nats c la)) = H10 at s10 a5 a4' ⊢
    have n45 : A4 ≠ A5 := ne_of_none a4 nA5'
    clear s9 e9 nA5
    have s010 := same_trans (same_trans s3 s5) (same_trans s7 s10)
    walk_at "rds"
    refine rd_ixT (SqT.of (s010 _ _ et)) (show atI (refs n rs) ((0 : Nat) : Int) = _ from atI_nat (refs_get (by omega))) ?_
    walk_at "rds"
    refine rd_ixT (SqT.of (s010 _ _ (er 0 (by omega)).1)) (show atI [V.bl (lab 0), V.ref (ws 0)] ((1 : Nat) : Int) = some (.ref (ws 0)) from atI_nat rfl) ?_
    walk_at "rds"
    refine rd_lenT (SqT.of (s010 _ _ (er 0 (by omega)).2)) ?_
    rw [nats_len]
    walk_at "rds"
    refine ⟨(m : Int), rfl, by omega, by omega, fun A6 nA6 => lc_range (lo := 0) (n := ((m : Nat) : Int).toNat) (fun i H' => Same H10 H' ∧ ∃ xs : Nat → Addr, H' A6 = some (.lst (refs i xs)) ∧ ∀ a < i, H10 (xs a) = none ∧ xs a ≠ A6 ∧ ∃ (fs : Nat → Addr) (cnt : Nat → Nat) (src : Nat → Nat → Nat), Src n a to cnt src ∧ H' (xs a) = some (.lst (refs n fs)) ∧ ∀ g < n, H10 (fs g) = none ∧ fs g ≠ A6 ∧ H' (fs g) = some (.lst (nats (cnt g) (src g))))
      ⟨same_upd nA6, fun _ => 0, upd_same, fun a h => absurd h (by omega)⟩ ?_ ?_⟩
    · rintro i H11 hi ⟨s11, xs, e11, g11⟩
      rw [Int.toNat_natCast] at hi
      walk_at "rds"
      refine ⟨rfl, ?_⟩
      walk_at "rds"
      refine rd_ite (fun _ => ?_) (fun h => by cases h)
      walk_at "rds"
      rw [show (0 : Int) + (i : Nat) = ((i : Nat) : Int) by omega]
      refine ⟨t, n, m, i, lab, to, rfl, ht.same (same_trans s010 s11), hc, hi, hn, fun p12 H12 hS s12 n12 => ?_⟩
      obtain ⟨fs, cnt, src, hs1, hs2, hs3⟩ := hS
      have n6 : ∀ {b : Addr}, H11 b = none → b ≠ A6 := fun {b} h z => by
        rw [z, e11] at h
        cases h
      walk_at "rds"
      refine ⟨_, s12 _ _ e11, by rw [refs_len]; exact small1000 (by omega), same_mut (same_trans s11 s12) nA6, gset xs i p12, by rw [upd_same, refs_snoc, gset_same, refs_congr (f := gset xs i p12) (g := xs) fun j hj => gset_ne (by omega)], fun a ha => ?_⟩
      rcases Nat.lt_or_ge a i with h | h
      · rw [gset_ne (by omega)]
        obtain ⟨g1, g2, fs', cnt', src', g3, g4, g5⟩ := g11 a h
        refine ⟨g1, g2, fs', cnt', src', g3, by rw [upd_ne g2]; exact s12 _ _ g4, fun g hg => ⟨(g5 g hg).1, (g5 g hg).2.1, ?_⟩⟩
        rw [upd_ne (g5 g hg).2.1]
        exact s12 _ _ (g5 g hg).2.2
      · have e : a = i := by omega
        subst e
        rw [gset_same]
        refine ⟨same_none s11 n12, n6 n12, fs, cnt, src, hs1, by rw [upd_ne (n6 n12)]; exact hs2, fun g hg => ⟨same_none s11 (hs3 g hg).1, n6 (hs3 g hg).1, ?_⟩⟩
        rw [upd_ne (n6 (hs3 g hg).1)]
        exact (hs3 g hg).2
    rintro H11 ⟨s11, xs, e11, g11⟩
    rw [Int.toNat_natCast] at e11 g11
    walk_at "rds"
    refine rd_listRg (rd_rg1 (rd_cb (rd_cons (rd_var rfl (rd_nil (rd_lenL (SqL.of (s11 _ _ a4')) ?_))))))
    rw [nats_len]
    refine ⟨_, rfl, .of_le (by omega) (by omega) (by omega) (by omega), fun A7 nA7 => ?_⟩
    rw [rgV_nats]
    -- the heap ahead of the loop
    have s12 : Same H11 (upd H11 A7 (.lst (nts (List.range c)))) := same_upd nA7
    have w1 := s12 _ _ (s11 _ _ (s10 _ _ b1))
    have w2 := s12 _ _ (s11 _ _ (s10 _ _ b2))
    have w3 := s12 _ _ (s11 _ _ (s10 _ _ a3))
    have w4 := s12 _ _ (s11 _ _ a4')
    have w5 := s12 _ _ (s11 _ _ a5)
    have w7 : upd H11 A7 (.lst (nts (List.range c))) A7 = some (.lst (nts (List.range c))) := upd_same
    have n12 : A1 ≠ A2 := ne_of_none a1 nA2'
    have n13 : A1 ≠ A3 := ne_of_none (s5 _ _ a1) nA3'
    have n23 : A2 ≠ A3 := ne_of_none a2 nA3'
    have n14 : A1 ≠ A4 := ne_of_none b1 nA4
    have n24 : A2 ≠ A4 := ne_of_none b2 nA4
    have n34 : A3 ≠ A4 := ne_of_none a3 nA4
    have n15 : A1 ≠ A5 := ne_of_none (s8 _ _ b1) nA5'
    have n25 : A2 ≠ A5 := ne_of_none (s8 _ _ b2) nA5'
    have n35 : A3 ≠ A5 := ne_of_none (s8 _ _ a3) nA5'
    have n17 : A1 ≠ A7 := ne_of_none (s11 _ _ (s10 _ _ b1)) nA7
    have n27 : A2 ≠ A7 := ne_of_none (s11 _ _ (s10 _ _ b2)) nA7
    have n37 : A3 ≠ A7 := ne_of_none (s11 _ _ (s10 _ _ a3)) nA7
    have n47 : A4 ≠ A7 := ne_of_none (s11 _ _ a4') nA7
    have n57 : A5 ≠ A7 := ne_of_none (s11 _ _ a5) nA7
    -- the sources stand aside
    have aside : ∀ {b : Addr} {o : HO}, H10 b = none → H11 b = some o → b ≠ A1 ∧ b ≠ A2 ∧ b ≠ A3 ∧ b ≠ A4 ∧ b ≠ A5 ∧ b ≠ A7 := fun {b o} h1 h2 =>
      ⟨(ne_of_none (s10 _ _ b1) h1).symm, (ne_of_none (s10 _ _ b2) h1).symm, (ne_of_none (s10 _ _ a3) h1).symm, (ne_of_none a4' h1).symm, (ne_of_none a5 h1).symm, ne_of_none h2 nA7⟩
    -- six are new
    have sH12 : Same H (upd H11 A7 (.lst (nts (List.range c)))) := same_trans s010 (same_trans s11 s12)
    have new6 : ∀ b o, H b = some o → b ≠ A1 ∧ b ≠ A2 ∧ b ≠ A3 ∧ b ≠ A4 ∧ b ≠ A5 ∧ b ≠ A7 := fun b o h =>
      ⟨ne_of_none h nA1', ne_of_none (s3 _ _ h) nA2', ne_of_none (s5 _ _ (s3 _ _ h)) nA3', ne_of_none (s7 _ _ (s5 _ _ (s3 _ _ h))) nA4, ne_of_none (s8 _ _ (s7 _ _ (s5 _ _ (s3 _ _ h)))) nA5', ne_of_none (s11 _ _ (s010 _ _ h)) nA7⟩
    have hS6 : ∀ H' : Hp, (∀ b o, upd H11 A7 (.lst (nts (List.range c))) b = some o → b ≠ A1 → b ≠ A2 → b ≠ A3 → b ≠ A4 → b ≠ A5 → b ≠ A7 → H' b = some o) →
        H' A6 = some (.lst (refs m xs)) ∧ ∀ a < m, ∃ (fs : Nat → Addr) (cnt : Nat → Nat) (src : Nat → Nat → Nat), Src n a to cnt src ∧ H' (xs a) = some (.lst (refs n fs)) ∧ ∀ g < n, H' (fs g) = some (.lst (nats (cnt g) (src g))) := fun H' k6 => by
      have keep : ∀ {b : Addr} {o : HO}, H10 b = none → H11 b = some o → H' b = some o := fun {b o} h1 h2 => by
        obtain ⟨q1, q2, q3, q4, q5, q7⟩ := aside h1 h2
        exact k6 b o (s12 _ _ h2) q1 q2 q3 q4 q5 q7
      refine ⟨keep nA6 e11, fun a ha => ?_⟩
      obtain ⟨g1, g2, fs, cnt, src, g3, g4, g5⟩ := g11 a ha
      exact ⟨fs, cnt, src, g3, keep g1 g4, fun g hg => keep (g5 g hg).1 (g5 g hg).2.2⟩
    have hI : PInv n m c lab to po st pl fi la (List.range c) := ⟨hB, hop_all hc hk fun p hp => List.mem_range.mpr hp, fun s hs t ht e => (hpo s hs t ht).mp e, fun s hs t ht h => (hpo s hs t ht).mpr h.here, fun p hp => List.mem_range.mp hp, List.nodup_range⟩
    generalize upd H11 A7 (.lst (nts (List.range c))) = HB at *
    clear aside g11 e11 s12 s11 s10 s8 s7 s5 s3 s010
    have hDis : Dis ⟨A1, A2, A3, A4, A5, A7⟩ := ⟨n12, n13, n14, n15, n17, n23, n24, n25, n27, n34, n35, n37, n45, n47, n57⟩
    have hP : PHp ⟨A1, A2, A3, A4, A5, A7⟩ n c c po st pl fi la (List.range c) HB := ⟨w1, w2, w3, w4, w5, w7⟩
    generalize hA : (⟨A1, A2, A3, A4, A5, A7⟩ : Six) = S6 at hDis hP
    have hSrc : ∀ H' : Hp, Fr6 S6 HB H' → H' A6 = some (.lst (refs m xs)) ∧ ∀ a < m, ∃ (fs : Nat → Addr) (cnt : Nat → Nat) (src : Nat → Nat → Nat), Src n a to cnt src ∧ H' (xs a) = some (.lst (refs n fs)) ∧ ∀ g < n, H' (fs g) = some (.lst (nats (cnt g) (src g))) := fun H' k6 => by
      subst hA
      exact hS6 H' fun b o h h1 h2 h3 h4 h5 h7 => k6 b o h ⟨h1, h2, h3, h4, h5, h7⟩
    have hNew : ∀ H' : Hp, Fr6 S6 HB H' → Same H H' := fun H' k6 b o h => by
      subst hA
      obtain ⟨h1, h2, h3, h4, h5, h7⟩ := new6 b o h
      exact k6 b o (sH12 b o h) ⟨h1, h2, h3, h4, h5, h7⟩
    have hq : ∀ (k : Nat) (po st pl fi la : Nat → Nat) (H' : Hp), PHp S6 n k k po st pl fi la [] H' → PInv n m k lab to po st pl fi la [] → Fr6 S6 HB H' → Q (.ref S6.a1) H' := fun k po st pl fi la H' p i k6 => by
      obtain ⟨d1, d2, d3, d4⟩ := i.done hc
      exact q k po S6.a1 H' d1 d2 d3 d4 (hNew H' k6) (by subst hA; exact nA1') p.e1
    have hσ : IsSg t S6 A6 (((((((List.set (L2.start n__parts [V.ref t]) 1 (some (V.ref A1))).set 2 (some (V.ref A2))).set 3 (some (V.ref A3))).set 5 (some (V.ref A4))).set 6 (some (V.ref A5))).set 7 (some (V.ref A6))).set 8 (some (V.ref A7))) := by
      subst hA
      exact ⟨_, _, _, _, _, _, _, _, _, _, _, _, _, rfl⟩
    clear hS6 new6 w1 w2 w3 w4 w5 w7 n12 n13 n14 n15 n17 n23 n24 n25 n27 n34 n35 n37 n45 n47 n57 b1 b2 a1 a2 a3 a4 a4' a5 nA1' nA2' nA3' nA4 nA5' nA6 nA7 hpl hused hk hpo hck hc1 R hB ne0 q sH12
    walk_at "rd"
    refine rd_cut (fun σ' H' => IsSg t S6 A6 σ' ∧ ∃ k po st pl fi la, PHp S6 n k k po st pl fi la [] H' ∧ PInv n m k lab to po st pl fi la [] ∧ Fr6 S6 HB H') ?_ ?_
    rotate_left
    · rintro σ' H1 ⟨⟨y4, y9, y10, y11, y12, y13, y14, y15, y16, y17, y18, y19, y20, rfl⟩, k, po, st, pl, fi, la, hp, hi, hf⟩
      walk_at "rds"
      exact hq k po st pl fi la H1 hp hi hf
    refine rd_while (fun μ σ' H' => IsSg t S6 A6 σ' ∧ ∃ k po st pl fi la W, μ = 2 * (n - k) + W.length ∧ PHp S6 n k k po st pl fi la W H' ∧ PInv n m k lab to po st pl fi la W ∧ Fr6 S6 HB H') _ ⟨hσ, c, po, st, pl, fi, la, _, rfl, hP, hI, Fr6.refl _ _⟩ ?_
    clear hP hI hσ hq hNew hla
    clear po st pl fi la
    rintro μ σ' H1 ⟨⟨y4, y9, y10, y11, y12, y13, y14, y15, y16, y17, y18, y19, y20, rfl⟩, k, P0, st, pl, fi, la, W, rfl, hp, hi, hf⟩
    refine rd_var rfl ⟨_, .inl ⟨_, SqL.of hp.e7, rfl⟩, ?_⟩
    rcases List.eq_nil_or_concat W with rfl | ⟨W', S, rfl⟩
    · rw [if_neg (by simp [nts])]
      exact ⟨⟨_, _, _, _, _, _, _, _, _, _, _, _, _, rfl⟩, k, P0, st, pl, fi, la, hp, hi, hf⟩
    rw [if_pos (by simp [nts])]
    rw [List.concat_eq_append] at hp hi ⊢
    refine ⟨fun σ' H' => ∃ μ', μ' < 2 * (n - k) + (W' ++ [S]).length ∧ (IsSg t S6 A6 σ' ∧ ∃ k po st pl fi la W, μ' = 2 * (n - k) + W.length ∧ PHp S6 n k k po st pl fi la W H' ∧ PInv n m k lab to po st pl fi la W ∧ Fr6 S6 HB H'), fun _ _ h => h, ?_⟩
    have hSk : S < k := hi.wl S (by simp)
    obtain ⟨v1, v2, v3⟩ := hi.B.hiv S hSk
    have hkn := hi.B.k_le
    walk_at "rds"
    refine ⟨.inl ⟨rfl, _, SqL.of hp.e7⟩, rd_pop (xs := nts W') (v := .int ((S : Nat) : Int)) (by have e := hp.e7; rw [nts_app] at e; exact e) ?_⟩
    have hp2 := hp.u7 (W' := W') hDis
    have f2 : Fr6 S6 HB (upd H1 S6.a7 (.lst (nts W'))) := hf.trans Fr6.u7
    generalize upd H1 S6.a7 (.lst (nts W')) = H2 at hp2 f2 ⊢
    clear hp hf
    walk_at "rds"
    refine rd_ixL (SqL.of hp2.e4) (atI_nat (nats_get hSk)) ?_
    walk_at "rds"
    refine rd_ixL (SqL.of hp2.e5) (atI_nat (nats_get hSk)) ?_
    walk_at "rds"
    refine rd_slL (SqL.of hp2.e2) (fun Ag nAg => ?_)
    rw [cutV_mid (Nat.le_of_lt v1) v2]
    have s3 : Same H2 (upd H2 Ag (.lst (nats (la S - fi S) fun i => st (fi S + i)))) := same_upd nAg
    have eg : upd H2 Ag (.lst (nats (la S - fi S) fun i => st (fi S + i))) Ag = some (.lst (nats (la S - fi S) fun i => st (fi S + i))) := upd_same
    have og := hp2.off nAg
    generalize upd H2 Ag (.lst (nats (la S - fi S) fun i => st (fi S + i))) = H3 at s3 eg ⊢
    have hp3 := hp2.same s3
    have f3 := f2.trans (Fr6.of s3)
    clear hp2 f2 s3 nAg H2
    obtain ⟨eS, _⟩ := hSrc H3 f3
    -- the states of the part that was taken
    have hG : ∀ y < n, ((∃ j < la S - fi S, y = st (fi S + j)) ↔ P0 y = S) := fun y hy => by
      constructor
      · rintro ⟨j, hj, rfl⟩
        exact v3 _ (by omega) (by omega)
      · intro e
        obtain ⟨_, h2, h3⟩ := hi.B.hpo y hy
        rw [e] at h2 h3
        exact ⟨pl y - fi S, by omega, by rw [show fi S + (pl y - fi S) = pl y by omega, (hi.B.hpl y hy).2]⟩
    walk_at "rds"
    refine ⟨A6, rfl, ⟨_, SqL.of eS⟩, for_it walk_list (fun a σ' H' => (∃ y4 y11 y12 y13 y14 y15 y16 y17 y18 y19 y20, σ' = sg t S6 A6 y4 (some (.int (S : Nat))) (some (.ref Ag)) y11 y12 y13 y14 y15 y16 y17 y18 y19 y20) ∧ ∃ kc po' st' pl' fi' la', PHp S6 n kc kc po' st' pl' fi' la' (W' ++ newN k kc) H' ∧ PLet n m k kc a S lab to P0 po' st' pl' fi' la' ∧ Fr6 S6 H3 H')
      ⟨⟨_, _, _, _, _, _, _, _, _, _, _, rfl⟩, k, P0, st, pl, fi, la, by rw [newN_self, List.append_nil]; exact hp3, PLet.start hi, Fr6.refl _ _⟩ (fun a σ' H' _ h => by
        obtain ⟨_, kc, po', st', pl', fi', la', _, _, f⟩ := h
        exact SqL.of (hSrc H' (f3.trans f)).1) ?_ ?_⟩
    rotate_left
    · rintro σ' H4 ⟨⟨y4, y11, y12, y13, y14, y15, y16, y17, y18, y19, y20, rfl⟩, kc, po', st', pl', fi', la', hp4, hL, f4⟩
      rw [refs_len] at hL
      have hk2 := hL.kk
      have hk3 := hL.B.k_le
      refine ⟨2 * (n - kc) + (W' ++ newN k kc).length, ?_, ⟨_, _, _, _, _, _, _, _, _, _, _, _, _, rfl⟩, kc, po', st', pl', fi', la', _, rfl, hp4, PLet.fin hc hi hL, f3.trans f4⟩
      rw [List.length_append, List.length_append, newN_len]
      show _ < 2 * (n - k) + (W'.length + 1)
      omega
    rintro a x σ' H4 H5 ha ⟨⟨y4, y11, y12, y13, y14, y15, y16, y17, y18, y19, y20, rfl⟩, kc, po, st', pl', fi', la', hp4, hL, f4⟩ ⟨rfl, hx⟩
    rw [refs_len] at ha
    obtain ⟨_, rfl⟩ := refs_at hx
    obtain ⟨_, hSr⟩ := hSrc H5 (f3.trans f4)
    obtain ⟨fs, cnt, src, hsrc, ef, eg'⟩ := hSr a ha
    have eg5 := f4 _ _ eg og
    walk_at "rds"
    refine fun Ad nAd => ?_
    have s6 : Same H5 (upd H5 Ad (.dK [])) := same_upd nAd
    have ed : upd H5 Ad (.dK []) Ad = some (.dK []) := upd_same
    have od := hp4.off nAd
    have nd3 : H3 Ad = none := none_of6 f4 od nAd
    have hp5 := hp4.same s6
    have f5 := f4.trans (Fr6.of s6)
    have eg6 := s6 _ _ eg5
    have ef6 := s6 _ _ ef
    have eg6' := fun g hg => s6 _ _ (eg' g hg)
    have kn3 := hL.B.k_le
    generalize upd H5 Ad (.dK []) = H6 at s6 ed hp5 f5 eg6 ef6 eg6' ⊢
    clear hp4 f4 ef eg' eg5 nAd s6
    walk_at "rds"
    refine rd_cut (fun σ' H' => (∃ y4 y11 y13 y14 y15 y16 y17 y18 y19 y20, σ' = sg t S6 A6 y4 (some (.int (S : Nat))) (some (.ref Ag)) y11 (some (.ref Ad)) y13 y14 y15 y16 y17 y18 y19 y20) ∧ ∃ st2 pl2 mid ps, PHp S6 n kc kc po st2 pl2 fi' la' (W' ++ newN k kc) H' ∧ Mkd n kc po st2 pl2 fi' la' mid (fun s => P0 (to s a) = S) ∧
      H' Ad = some (.dK (encM ps mid)) ∧ ps.Nodup ∧ (∀ p ∈ ps, p < kc) ∧ (∀ p < kc, (p ∈ ps ↔ fi' p < mid p)) ∧ Fr6 S6 H3 H') ?_ ?_
    · walk_at "rds"
      have glt : ∀ i ≤ la S - fi S, ∀ g ∈ glL st (fi S) i, g < n := fun i hi' g hg => by
        obtain ⟨j, hj, rfl⟩ := mem_glL.mp hg
        exact (hi.B.hst _ (by omega)).1
      have gnd : ∀ i ≤ la S - fi S, (gaths cnt src (glL st (fi S) i)).Nodup := fun i hi' => gaths_nodup hsrc (glt i hi') (glL_nodup hi.B.hst (by omega))
      have gle : ∀ i ≤ la S - fi S, (gaths cnt src (glL st (fi S) i)).length ≤ n := fun i hi' => short_of (gnd i hi') fun x hx => ((mem_gaths hsrc (glt i hi')).mp hx).1
      refine ⟨Ag, rfl, ⟨_, SqL.of eg6⟩, fun Am nAm => lc2_it walk_list (fun i H' => Same H6 H' ∧ H' Am = some (.lst (nts (gaths cnt src (glL st (fi S) i))))) ⟨same_upd nAm, upd_same⟩ (fun i H' _ h => SqL.of (h.1 _ _ eg6)) ?_ ?_⟩
      · rintro i x H7 H8 hi' ⟨s7, e7⟩ ⟨rfl, hx⟩
        obtain ⟨hin, rfl⟩ := nats_at hx
        have hgl : st (fi S + i) < n := (hi.B.hst _ (by omega)).1
        walk_at "rds"
        refine ⟨rfl, ?_⟩
        walk_at "rds"
        refine rd_ite (fun _ => ?_) (fun h => by cases h)
        walk_at "rds"
        refine rd_ixL (SqL.of (s7 _ _ ef6)) (atI_nat (refs_get hgl)) ?_
        refine ⟨_, rfl, ⟨_, SqL.of (s7 _ _ (eg6' _ hgl))⟩, in_it walk_list (fun j H' => Same H6 H' ∧ H' Am = some (.lst (nts (gaths cnt src (glL st (fi S) i) ++ (gath cnt src (st (fi S + i))).take j)))) ⟨s7, by rw [List.take_zero, List.append_nil]; exact e7⟩ (fun j H' _ h => SqL.of (h.1 _ _ (eg6' _ hgl))) ?_ ?_⟩
        · rintro j x H9 H10' hj ⟨s9, e9⟩ ⟨rfl, hx⟩
          obtain ⟨hjn, rfl⟩ := nats_at hx
          walk_at "rds"
          refine ⟨rfl, ?_⟩
          walk_at "rds"
          refine rd_ite (fun _ => ?_) (fun h => by cases h)
          walk_at "rds"
          have hz := gle (i + 1) (by omega)
          rw [glL_succ, gaths_snoc, List.length_append, gath_len] at hz
          refine ⟨_, e9, by rw [nts_len, List.length_append, List.length_take, gath_len]; exact small1000 (by omega), same_mut s9 nAm, ?_⟩
          rw [upd_same, gath_take _ _ hjn, ← List.append_assoc, nts_app (_ ++ _) [_]]
          rfl
        · rintro H9 ⟨s9, e9⟩
          rw [nats_len, List.take_of_length_le (by rw [gath_len]; exact Nat.le_refl _), ← gaths_snoc, ← glL_succ] at e9
          exact ⟨s9, e9⟩
      rintro H7 ⟨s7, e7⟩
      rw [nats_len] at e7
      have hms : ∀ x, x ∈ gaths cnt src (glL st (fi S) (la S - fi S)) ↔ x < n ∧ P0 (to x a) = S := fun x => by
        rw [mem_gaths hsrc (glt _ (Nat.le_refl _)), mem_glL]
        constructor
        · rintro ⟨h1, h2⟩
          exact ⟨h1, (hG _ (hc x h1 a ha)).mp h2⟩
        · rintro ⟨h1, h2⟩
          exact ⟨h1, (hG _ (hc x h1 a ha)).mpr h2⟩
      have hnd := gnd _ (Nat.le_refl _)
      have hle := gle _ (Nat.le_refl _)
      have nAmd : Am ≠ Ad := (ne_of_none ed nAm).symm
      have oAm := hp5.off nAm
      have hp7 := hp5.same s7
      have f7 := f5.trans (Fr6.of s7)
      have ed7 := s7 _ _ ed
      generalize gaths cnt src (glL st (fi S) (la S - fi S)) = ms at e7 hms hnd hle
      clear glt gnd gle hp5 f5 s7 nAm
      walk_at "rds"
      refine ⟨Am, rfl, ⟨_, SqL.of e7⟩, for_it walk_list (fun i σ' H' => (∃ y4 y11 y13 y14 y15 y16 y17 y18 y19 y20, σ' = sg t S6 A6 y4 (some (.int (S : Nat))) (some (.ref Ag)) y11 (some (.ref Ad)) y13 y14 y15 y16 y17 y18 y19 y20) ∧ H' Am = some (.lst (nts ms)) ∧ ∃ st2 pl2 mid ps, PHp S6 n kc kc po st2 pl2 fi' la' (W' ++ newN k kc) H' ∧ Mkd n kc po st2 pl2 fi' la' mid (fun s => s ∈ ms.take i) ∧
        H' Ad = some (.dK (encM ps mid)) ∧ ps.Nodup ∧ (∀ p ∈ ps, p < kc) ∧ (∀ p < kc, (p ∈ ps ↔ fi' p < mid p)) ∧ Fr6 S6 H3 H')
        ⟨⟨_, _, _, _, _, _, _, _, _, _, rfl⟩, e7, st', pl', fi', [], hp7, (Mkd.start hL.B).congr (fun _ _ => rfl) (fun s _ => by simp), ed7, List.nodup_nil, (fun p h => by cases h), (fun p _ => ⟨(fun h => by cases h), fun h => absurd h (Nat.lt_irrefl _)⟩), f7⟩ (fun i σ' H' _ h => SqL.of h.2.1) ?_ ?_⟩
      rotate_left
      · rintro σ' H8 ⟨h1, _, st2, pl2, mid, ps, q1, q2, q3, q4, q5, q6, q7⟩
        rw [nts_len, List.take_length] at q2
        exact ⟨h1, st2, pl2, mid, ps, q1, q2.congr (fun _ _ => rfl) fun s hs => ⟨fun h => (hms s).mpr ⟨hs, h⟩, fun h => ((hms s).mp h).2⟩, q3, q4, q5, q6, q7⟩
      rintro i x σ' H8 H9 hil ⟨⟨y4, y11, y13, y14, y15, y16, y17, y18, y19, y20, rfl⟩, em, st2, pl2, mid, ps, q1, q2, q3, q4, q5, q6, q7⟩ ⟨rfl, hx⟩
      obtain ⟨y, hy, rfl⟩ := nts_at hx
      obtain ⟨hyn, _⟩ := (hms y).mp (List.mem_of_getElem? hy)
      have hyM : ¬ y ∈ ms.take i := not_before hnd hy
      have hpk := (q2.hpo y hyn).1
      obtain ⟨hmn, hsn, mk⟩ := q2.mark hyn hyM
      obtain ⟨m1, m2, _, _⟩ := q2.hmid _ hpk
      have hpl := (q2.hpl y hyn).1
      have hpsl : ps.length ≤ n := Nat.le_trans (short_of q4 q5) kn3
      walk_at "rds"
      refine ⟨Ad, rfl, .inl ⟨_, .inl q3⟩, ?_⟩
      walk_at "rds"
      refine rd_ixL (SqL.of q1.e1) (atI_nat (nats_get hyn)) ?_
      walk_at "rds"
      refine rd_ixL (SqL.of q1.e1) (atI_nat (nats_get hyn)) ?_
      walk_at "rds"
      refine rd_ixL (SqL.of q1.e4) (atI_nat (nats_get hpk)) ?_
      refine ⟨_, .k (k := Sum.inl ((po y : Nat) : Int)) q3, ?_⟩
      have hget : (valV (encM ps mid) (Sum.inl ((po y : Nat) : Int))).getD (.int ((fi' (po y) : Nat) : Int)) = .int ((mid (po y) : Nat) : Int) := by
        rw [encM_val]
        by_cases h : po y ∈ ps
        · rw [if_pos h]
          rfl
        · rw [if_neg h]
          have : ¬ fi' (po y) < mid (po y) := fun z => h ((q6 _ hpk).mpr z)
          rw [show fi' (po y) = mid (po y) by omega]
          rfl
      rw [hget]
      clear hget
      walk_at "rds"
      refine rd_ixL (SqL.of q1.e1) (atI_nat (nats_get hyn)) ?_
      refine ⟨Ad, _, rfl, .k (k := Sum.inl ((po y : Nat) : Int)) q3 (by rw [encM_len]; exact small1000 (by omega)), ?_⟩
      rw [show ((mid (po y) : Nat) : Int) + 1 = ((mid (po y) + 1 : Nat) : Int) by omega, encM_put]
      have q1' := q1.aside (o := .dK (encM (if po y ∈ ps then ps else ps ++ [po y]) (fset mid (po y) (mid (po y) + 1)))) od
      have em' : upd H9 Ad (.dK (encM (if po y ∈ ps then ps else ps ++ [po y]) (fset mid (po y) (mid (po y) + 1)))) Am = some (.lst (nts ms)) := by rw [upd_ne nAmd]; exact em
      have q3' : upd H9 Ad (.dK (encM (if po y ∈ ps then ps else ps ++ [po y]) (fset mid (po y) (mid (po y) + 1)))) Ad = some (.dK (encM (if po y ∈ ps then ps else ps ++ [po y]) (fset mid (po y) (mid (po y) + 1)))) := upd_same
      have q7' : Fr6 S6 H3 (upd H9 Ad (.dK (encM (if po y ∈ ps then ps else ps ++ [po y]) (fset mid (po y) (mid (po y) + 1))))) := fun b o hb ho => by
        rw [upd_ne (ne_of_none hb nd3)]
        exact q7 b o hb ho
      generalize upd H9 Ad (.dK (encM (if po y ∈ ps then ps else ps ++ [po y]) (fset mid (po y) (mid (po y) + 1)))) = H10 at q1' em' q3' q7' ⊢
      clear q1 em q3 q7
      walk_at "rds"
      refine rd_ixL (SqL.of q1'.e2) (atI_nat (nats_get hmn)) ?_
      walk_at "rds"
      refine rd_ixL (SqL.of q1'.e3) (atI_nat (nats_get hyn)) ?_
      walk_at "rds"
      refine rd_setL q1'.e2 (by rw [nats_len]; exact ixN_n hpl) ?_
      rw [nats_set hpl]
      have q1 := q1'.u2 (st' := fset st2 (pl2 y) (st2 (mid (po y)))) hDis
      have em := (upd_ne (o := .lst (nats n (fset st2 (pl2 y) (st2 (mid (po y)))))) oAm.o2).trans em'
      have q3 := (upd_ne (o := .lst (nats n (fset st2 (pl2 y) (st2 (mid (po y)))))) od.o2).trans q3'
      have q7 : Fr6 S6 H3 (upd H10 S6.a2 (.lst (nats n (fset st2 (pl2 y) (st2 (mid (po y))))))) := q7'.trans Fr6.u2
      generalize upd H10 S6.a2 (.lst (nats n (fset st2 (pl2 y) (st2 (mid (po y)))))) = H11 at q1 em q3 q7 ⊢
      clear q1' em' q3' q7'
      have hst1 : fset st2 (pl2 y) (st2 (mid (po y))) (mid (po y)) = st2 (mid (po y)) := by
        by_cases h : mid (po y) = pl2 y
        · rw [h, fset_same]
        · rw [fset_ne h]
      walk_at "rds"
      refine rd_ixL (SqL.of q1.e3) (atI_nat (nats_get hyn)) ?_
      walk_at "rds"
      refine rd_ixL (SqL.of q1.e2) (atI_nat (nats_get hmn)) ?_
      rw [hst1]
      walk_at "rds"
      refine rd_setL q1.e3 (by rw [nats_len]; exact ixN_n hsn) ?_
      rw [nats_set hsn]
      have q1' := q1.u3 (pl' := fset pl2 (st2 (mid (po y))) (pl2 y)) hDis
      have em' := (upd_ne (o := .lst (nats n (fset pl2 (st2 (mid (po y))) (pl2 y)))) oAm.o3).trans em
      have q3' := (upd_ne (o := .lst (nats n (fset pl2 (st2 (mid (po y))) (pl2 y)))) od.o3).trans q3
      have q7' : Fr6 S6 H3 (upd H11 S6.a3 (.lst (nats n (fset pl2 (st2 (mid (po y))) (pl2 y))))) := q7.trans Fr6.u3
      generalize upd H11 S6.a3 (.lst (nats n (fset pl2 (st2 (mid (po y))) (pl2 y)))) = H12 at q1' em' q3' q7' ⊢
      clear q1 em q3 q7
      walk_at "rds"
      refine rd_setL q1'.e2 (by rw [nats_len]; exact ixN_n hmn) ?_
      rw [nats_set hmn]
      have q1 := q1'.u2 (st' := fset (fset st2 (pl2 y) (st2 (mid (po y)))) (mid (po y)) y) hDis
      have em := (upd_ne (o := .lst (nats n (fset (fset st2 (pl2 y) (st2 (mid (po y)))) (mid (po y)) y))) oAm.o2).trans em'
      have q3 := (upd_ne (o := .lst (nats n (fset (fset st2 (pl2 y) (st2 (mid (po y)))) (mid (po y)) y))) od.o2).trans q3'
      have q7 : Fr6 S6 H3 (upd H12 S6.a2 (.lst (nats n (fset (fset st2 (pl2 y) (st2 (mid (po y)))) (mid (po y)) y)))) := q7'.trans Fr6.u2
      generalize upd H12 S6.a2 (.lst (nats n (fset (fset st2 (pl2 y) (st2 (mid (po y)))) (mid (po y)) y))) = H13 at q1 em q3 q7 ⊢
      clear q1' em' q3' q7'
      walk_at "rds"
      refine rd_setL q1.e3 (by rw [nats_len]; exact ixN_n hyn) ?_
      rw [nats_set hyn]
      refine ⟨⟨_, _, _, _, _, _, _, _, _, _, rfl⟩, (upd_ne oAm.o3).trans em, _, _, _, _, q1.u3 hDis, mk.congr (fun _ _ => rfl) (fun s hs => ?_), (upd_ne od.o3).trans q3, ?_, ?_, ?_, q7.trans Fr6.u3⟩
      · rw [List.take_add_one, hy]
        show s ∈ ms.take i ++ [y] ↔ _
        rw [List.mem_append, List.mem_singleton]
      · by_cases h : po y ∈ ps
        · rw [if_pos h]
          exact q4
        · rw [if_neg h]
          exact List.nodup_append.mpr ⟨q4, List.nodup_cons.mpr ⟨(fun z => by cases z), List.nodup_nil⟩, fun a ha b hb e => h (by rw [← List.mem_singleton.mp hb, ← e]; exact ha)⟩
      · intro p hp
        by_cases h : po y ∈ ps
        · rw [if_pos h] at hp
          exact q5 p hp
        · rw [if_neg h] at hp
          rcases List.mem_append.mp hp with z | z
          · exact q5 p z
          · rw [List.mem_singleton.mp z]
            exact hpk
      · intro p hp
        by_cases e : p = po y
        · subst e
          rw [fset_same]
          refine ⟨fun _ => by omega, fun _ => ?_⟩
          by_cases h : po y ∈ ps
          · rw [if_pos h]
            exact h
          · rw [if_neg h]
            exact List.mem_append_right _ (List.mem_singleton.mpr rfl)
        · rw [fset_ne e, ← q6 p hp]
          by_cases h : po y ∈ ps
          · rw [if_pos h]
          · rw [if_neg h, List.mem_append, List.mem_singleton]
            exact ⟨fun z => z.resolve_right e, .inl⟩
    · rintro σ' H7 ⟨⟨y4, y11, y13, y14, y15, y16, y17, y18, y19, y20, rfl⟩, st2, pl2, mid, ps, q1, q2, q3, q4, q5, q6, q7⟩
      clear hp5 f5 eg6 ef6 eg6' ed H6
      walk_at "rds"
      refine ⟨Ad, _, q3, trivial, fun od' => ?_⟩
      have z3 : upd H7 Ad (.frz od' (.dK (encM ps mid))) Ad = some (.frz od' (.dK (encM ps mid))) := upd_same
      have z1 := q1.aside (o := .frz od' (.dK (encM ps mid))) od
      have z7 : Fr6 S6 H3 (upd H7 Ad (.frz od' (.dK (encM ps mid)))) := fun b o hb ho => by
        rw [upd_ne (ne_of_none hb nd3)]
        exact q7 b o hb ho
      generalize upd H7 Ad (.frz od' (.dK (encM ps mid))) = H8 at z1 z3 z7 ⊢
      clear q1 q3 q7
      walk_at "rds"
      refine rd_var rfl ⟨Ad, od', encM ps mid, rfl, z3, for_it walk_items (fun i σ' H' => (∃ y4 y11 y13 y14 y15 y16 y17 y18 y19 y20, σ' = sg t S6 A6 y4 (some (.int (S : Nat))) (some (.ref Ag)) y11 (some (.ref Ad)) y13 y14 y15 y16 y17 y18 y19 y20) ∧ H' Ad = some (.frz od' (.dK (encM ps mid))) ∧ ∃ kd po2 fi2 la2, PHp S6 n kd kd po2 st2 pl2 fi2 la2 (W' ++ newN k kd) H' ∧ Cut n kc kd po po2 st2 pl2 fi' la' fi2 la2 (fun s => P0 (to s a) = S) (ps.take i).reverse ∧ Fr6 S6 H3 H')
        ⟨⟨_, _, _, _, _, _, _, _, _, _, rfl⟩, z3, kc, po, fi', la', z1, Cut.start q2, z7⟩ (fun i σ' H' _ h => h.2.1) ?_ ?_⟩
      rotate_left
      · rintro σ' H9 ⟨⟨y4, y11, y13, y14, y15, y16, y17, y18, y19, y20, rfl⟩, e3, kd, po2, fi2, la2, r1, C, r7⟩
        rw [encM_len, List.take_length] at C
        refine ⟨e3, ⟨_, _, _, _, _, _, _, _, _, _, _, rfl⟩, kd, po2, st2, pl2, fi2, la2, r1.aside od, PLet.next hc hi.eq hL ha q2 C (fun p hp hn => ?_) (fun s _ => Iff.rfl), fun b o hb ho => ?_⟩
        · have h1 : ¬ fi' p < mid p := fun z => hn (List.mem_reverse.mpr ((q6 p hp).mpr z))
          have h2 := (q2.hmid p hp).1
          omega
        · rw [upd_ne (ne_of_none hb nd3)]
          exact r7 b o hb ho
      clear z1 z3 z7
      rintro i x σ' H9 H10 hil ⟨⟨y4, y11, y13, y14, y15, y16, y17, y18, y19, y20, rfl⟩, z3, kd, po2, fi2, la2, r1, C, r7⟩ ⟨Tp, x1, x2, rfl, nT, rfl, h1, h2⟩
      rw [encM_len] at hil
      obtain ⟨p, hpi⟩ : ∃ p, ps[i]? = some p := ⟨_, List.getElem?_eq_getElem hil⟩
      replace h1 : ((encM ps mid)[i]?).map (fun kv : Key × V => kV kv.1) = some x1 := h1
      replace h2 : ((encM ps mid)[i]?).map Prod.snd = some x2 := h2
      rw [encM_at hpi] at h1 h2
      cases h1
      cases h2
      have hpk := q5 p (List.mem_of_getElem? hpi)
      have hpD : p ∉ (ps.take i).reverse := fun h => not_before q4 hpi (List.mem_reverse.mp h)
      have hpm := (q6 p hpk).mp (List.mem_of_getElem? hpi)
      obtain ⟨g1, g2, g3⟩ := C.far p hpk hpD
      obtain ⟨_, m2, _⟩ := q2.hmid p hpk
      obtain ⟨_, u2, _⟩ := q2.hiv p hpk
      have hpd := Nat.lt_of_lt_of_le hpk C.kk
      have hkdn := C.B.k_le
      have hD1 : (ps.take (i + 1)).reverse = p :: (ps.take i).reverse := by
        rw [List.take_add_one, hpi]
        simp
      have sT : Same H9 (upd H9 Tp (.tup [kV (Sum.inl ((p : Nat) : Int)), .int ((mid p : Nat) : Int)])) := same_upd nT
      have zT := sT _ _ z3
      have rT := r1.same sT
      have fT := r7.trans (Fr6.of sT)
      refine rd_gtup (SqT.of upd_same) rfl ?_
      generalize upd H9 Tp (.tup [kV (Sum.inl ((p : Nat) : Int)), .int ((mid p : Nat) : Int)]) = H10 at sT zT rT fT ⊢
      clear sT r1 z3 r7 nT H9
      walk_at "rds"
      refine rd_ixL (SqL.of rT.e5) (atI_nat (nats_get hpd)) ?_
      walk_at "rds"
      refine rd_ite (fun hb => ?_) (fun hb => ?_)
      rotate_left
      · have hml : mid p = la' p := by
          have := of_decide_eq_false hb
          omega
        refine ⟨⟨_, _, _, _, _, _, _, _, _, _, rfl⟩, zT, kd, po2, fi2, la2, rT, ?_, fT⟩
        rw [hD1]
        exact C.whole q2 hpk hml
      have hml : mid p < la' p := by
        have := of_decide_eq_true hb
        omega
      have hWl : (W' ++ newN k kd).length ≤ kd := by
        rw [List.length_append, newN_len]
        have h1 := short_of (List.nodup_append.mp hi.wn).1 (fun x hx => hi.wl x (List.mem_append_left _ hx))
        have h2 := hL.kk
        have h3 := C.kk
        omega
      walk_at "rds"
      refine rd_tyL (SqL.of rT.e7) ?_
      walk_at "rds"
      refine rd_lenL (SqL.of rT.e4) ?_
      rw [nats_len]
      walk_at "rds"
      refine rd_app rT.e7 (by rw [nts_len]; exact small1000 (by omega)) ?_
      have hw : nts (W' ++ newN k kd) ++ [.int ((kd : Nat) : Int)] = nts (W' ++ newN k (kd + 1)) := by
        rw [newN_succ (Nat.le_trans hL.kk C.kk), ← List.append_assoc, nts_app (_ ++ _) [_]]
        rfl
      rw [hw]
      have r1 := rT.u7 (W' := W' ++ newN k (kd + 1)) hDis
      have z1 := (upd_ne (o := .lst (nts (W' ++ newN k (kd + 1)))) od.o7).trans zT
      have f1 : Fr6 S6 H3 (upd H10 S6.a7 (.lst (nts (W' ++ newN k (kd + 1))))) := fT.trans Fr6.u7
      generalize upd H10 S6.a7 (.lst (nts (W' ++ newN k (kd + 1)))) = H11 at r1 z1 f1 ⊢
      clear rT zT fT hw hWl hb
      dsimp only
      refine rd_seq (rd_nx (t := tIfS _ _ _) (fun σ' H' => (∃ y4 y11 y13 y14 y15 y16 y17 y18 y19 y20, σ' = sg t S6 A6 y4 (some (.int (S : Nat))) (some (.ref Ag)) y11 (some (.ref Ad)) y13 y14 y15 y16 y17 y18 y19 y20) ∧ H' Ad = some (.frz od' (.dK (encM ps mid))) ∧ ∃ (fi3 la3 : Nat → Nat) (x y x' y' : Nat), ((x = fi' p ∧ y = mid p ∧ x' = mid p ∧ y' = la' p) ∨ (x = mid p ∧ y = la' p ∧ x' = fi' p ∧ y' = mid p)) ∧ (∀ q < kd, q ≠ p → fi3 q = fi2 q ∧ la3 q = la2 q) ∧ (fi3 kd = x ∧ la3 kd = y) ∧ (fi3 p = x' ∧ la3 p = y') ∧ PHp S6 n (kd + 1) (kd + 1) po2 st2 pl2 fi3 la3 (W' ++ newN k (kd + 1)) H' ∧ Fr6 S6 H3 H') ?_ (fun nx J => ?_))
      · rintro σ' H12 ⟨⟨y4, y11, y13, y14, y15, y16, y17, y18, y19, y20, rfl⟩, z2, fi3, la3, x, y, x', y', hxy, hf, hk, hpp, r2, f2⟩
        clear r1 z1 f1
        walk_at "rds"
        refine rd_ixL (SqL.of r2.e4) (atI_last1 last_nats) ?_
        walk_at "rds"
        refine rd_ixL (SqL.of r2.e5) (atI_last1 last_nats) ?_
        walk_at "rds"
        refine rd_slL (SqL.of r2.e2) (fun rr nrr => ?_)
        rw [hk.1, hk.2, cutV_mid (show x ≤ y by omega) (show y ≤ n by omega)]
        have s4 : Same H12 (upd H12 rr (.lst (nats (y - x) fun i => st2 (x + i)))) := same_upd nrr
        have e4 : upd H12 rr (.lst (nats (y - x) fun i => st2 (x + i))) rr = some (.lst (nats (y - x) fun i => st2 (x + i))) := upd_same
        have orr := r2.off nrr
        have r3 := r2.same s4
        have z3 := s4 _ _ z2
        have f3' := f2.trans (Fr6.of s4)
        generalize upd H12 rr (.lst (nats (y - x) fun i => st2 (x + i))) = H13 at s4 e4 r3 z3 f3' ⊢
        clear r2 z2 f2 s4 nrr
        refine ⟨rr, rfl, ⟨_, SqL.of e4⟩, for_it walk_list (fun j σ' H' => (∃ y4 y11 y13 y14 y15 y16 y17 y18 y19 y20, σ' = sg t S6 A6 y4 (some (.int (S : Nat))) (some (.ref Ag)) y11 (some (.ref Ad)) y13 y14 y15 y16 y17 y18 y19 y20) ∧ H' Ad = some (.frz od' (.dK (encM ps mid))) ∧ H' rr = some (.lst (nats (y - x) fun i => st2 (x + i))) ∧ ∃ po3 : Nat → Nat, (∀ s < n, po3 s = if x ≤ pl2 s ∧ pl2 s < x + j then kd else po2 s) ∧ PHp S6 n (kd + 1) (kd + 1) po3 st2 pl2 fi3 la3 (W' ++ newN k (kd + 1)) H' ∧ Fr6 S6 H3 H')
          ⟨⟨_, _, _, _, _, _, _, _, _, _, rfl⟩, z3, e4, po2, (fun s _ => by rw [if_neg (by omega)]), r3, f3'⟩ (fun j σ' H' _ h => SqL.of h.2.2.1) ?_ ?_⟩
        rotate_left
        · rintro σ' H14 ⟨⟨y4, y11, y13, y14, y15, y16, y17, y18, y19, y20, rfl⟩, z4, _, po3, ho, r4, f4⟩
          rw [nats_len, show x + (y - x) = y by omega] at ho
          refine ⟨⟨_, _, _, _, _, _, _, _, _, _, rfl⟩, z4, kd + 1, po3, fi3, la3, r4, ?_, f4⟩
          rw [hD1]
          exact Cut.split q2 C hpk hpD hxy hpm hml hf hk hpp ho
        clear r3 z3 f3' e4
        rintro j x1 σ' H14 H15 hj ⟨⟨y4, y11, y13, y14, y15, y16, y17, y18, y19, y20, rfl⟩, z4, e4, po3, ho, r4, f4⟩ ⟨rfl, hx⟩
        obtain ⟨hjn, rfl⟩ := nats_at hx
        have hxj : x + j < n := by omega
        obtain ⟨hs1, hs2⟩ := q2.hst _ hxj
        walk_at "rds"
        refine rd_lenL (SqL.of r4.e4) ?_
        rw [nats_len]
        walk_at "rds"
        rw [show ((kd + 1 : Nat) : Int) - 1 = ((kd : Nat) : Int) by omega]
        refine rd_setL r4.e1 (by rw [nats_len]; exact ixN_n hs1) ?_
        rw [nats_set hs1]
        refine ⟨⟨_, _, _, _, _, _, _, _, _, _, rfl⟩, (upd_ne od.o1).trans z4, (upd_ne orr.o1).trans e4, fset po3 (st2 (x + j)) kd, fun s hs => ?_, r4.u1 hDis, f4.trans Fr6.u1⟩
        by_cases e : s = st2 (x + j)
        · rw [e, fset_same, hs2, if_pos (by omega)]
        · have hne : pl2 s ≠ x + j := fun h => e (by rw [← h, (q2.hpl s hs).2])
          rw [fset_ne e, ho s hs]
          by_cases c : x ≤ pl2 s ∧ pl2 s < x + j
          · rw [if_pos c, if_pos (by omega)]
          · rw [if_neg c, if_neg (by omega)]
      · walk_at "rds"
        refine rd_ixL (SqL.of r1.e4) (atI_nat (nats_get hpd)) ?_
        walk_at "rds"
        refine rd_ixL (SqL.of r1.e5) (atI_nat (nats_get hpd)) ?_
        walk_at "rds"
        refine rd_ite (fun _ => ?_) (fun _ => ?_)
        · walk_at "rds"
          refine rd_tyL (SqL.of r1.e4) ?_
          walk_at "rds"
          refine rd_ixL (SqL.of r1.e4) (atI_nat (nats_get hpd)) ?_
          walk_at "rds"
          refine rd_app r1.e4 (by rw [nats_len]; exact small1000 (by omega)) ?_
          rw [nats_push]
          have r2 := r1.u4 (k := kd + 1) (fi' := fset fi2 kd (fi2 p)) hDis
          have z2 := (upd_ne (o := .lst (nats (kd + 1) (fset fi2 kd (fi2 p)))) od.o4).trans z1
          have f2 : Fr6 S6 H3 (upd H11 S6.a4 (.lst (nats (kd + 1) (fset fi2 kd (fi2 p))))) := f1.trans Fr6.u4
          generalize upd H11 S6.a4 (.lst (nats (kd + 1) (fset fi2 kd (fi2 p)))) = H12 at r2 z2 f2 ⊢
          clear r1 z1 f1
          walk_at "rds"
          refine rd_tyL (SqL.of r2.e5) ?_
          walk_at "rds"
          refine rd_app r2.e5 (by rw [nats_len]; exact small1000 (by omega)) ?_
          rw [nats_push]
          have r3 := r2.u5 (k := kd + 1) (la' := fset la2 kd (mid p)) hDis
          have z3 := (upd_ne (o := .lst (nats (kd + 1) (fset la2 kd (mid p)))) od.o5).trans z2
          have f3' : Fr6 S6 H3 (upd H12 S6.a5 (.lst (nats (kd + 1) (fset la2 kd (mid p))))) := f2.trans Fr6.u5
          generalize upd H12 S6.a5 (.lst (nats (kd + 1) (fset la2 kd (mid p)))) = H13 at r3 z3 f3' ⊢
          clear r2 z2 f2
          walk_at "rds"
          refine rd_setL r3.e4 (by rw [nats_len]; exact ixN_n (show p < kd + 1 by omega)) ?_
          rw [nats_set (show p < kd + 1 by omega)]
          refine J _ _ ⟨⟨_, _, _, _, _, _, _, _, _, _, rfl⟩, (upd_ne od.o4).trans z3, fset (fset fi2 kd (fi2 p)) p (mid p), fset la2 kd (mid p), fi' p, mid p, mid p, la' p, .inl ⟨rfl, rfl, rfl, rfl⟩, fun q hq hne => ⟨?_, ?_⟩, ⟨?_, fset_same⟩, ⟨fset_same, ?_⟩, r3.u4 hDis, f3'.trans Fr6.u4⟩
          · rw [fset_ne hne, fset_ne (by omega)]
          · rw [fset_ne (by omega)]
          · rw [fset_ne (by omega), fset_same, g1]
          · rw [fset_ne (by omega), g2]
        · walk_at "rds"
          refine rd_tyL (SqL.of r1.e4) ?_
          walk_at "rds"
          refine rd_app r1.e4 (by rw [nats_len]; exact small1000 (by omega)) ?_
          rw [nats_push]
          have r2 := r1.u4 (k := kd + 1) (fi' := fset fi2 kd (mid p)) hDis
          have z2 := (upd_ne (o := .lst (nats (kd + 1) (fset fi2 kd (mid p)))) od.o4).trans z1
          have f2 : Fr6 S6 H3 (upd H11 S6.a4 (.lst (nats (kd + 1) (fset fi2 kd (mid p))))) := f1.trans Fr6.u4
          generalize upd H11 S6.a4 (.lst (nats (kd + 1) (fset fi2 kd (mid p)))) = H12 at r2 z2 f2 ⊢
          clear r1 z1 f1
          walk_at "rds"
          refine rd_tyL (SqL.of r2.e5) ?_
          walk_at "rds"
          refine rd_ixL (SqL.of r2.e5) (atI_nat (nats_get hpd)) ?_
          walk_at "rds"
          refine rd_app r2.e5 (by rw [nats_len]; exact small1000 (by omega)) ?_
          rw [nats_push]
          have r3 := r2.u5 (k := kd + 1) (la' := fset la2 kd (la2 p)) hDis
          have z3 := (upd_ne (o := .lst (nats (kd + 1) (fset la2 kd (la2 p)))) od.o5).trans z2
          have f3' : Fr6 S6 H3 (upd H12 S6.a5 (.lst (nats (kd + 1) (fset la2 kd (la2 p))))) := f2.trans Fr6.u5
          generalize upd H12 S6.a5 (.lst (nats (kd + 1) (fset la2 kd (la2 p)))) = H13 at r3 z3 f3' ⊢
          clear r2 z2 f2
          walk_at "rds"
          refine rd_setL r3.e5 (by rw [nats_len]; exact ixN_n (show p < kd + 1 by omega)) ?_
          rw [nats_set (show p < kd + 1 by omega)]
          refine J _ _ ⟨⟨_, _, _, _, _, _, _, _, _, _, rfl⟩, (upd_ne od.o5).trans z3, fset fi2 kd (mid p), fset (fset la2 kd (la2 p)) p (mid p), mid p, la' p, fi' p, mid p, .inr ⟨rfl, rfl, rfl, rfl⟩, fun q hq hne => ⟨?_, ?_⟩, ⟨fset_same, ?_⟩, ⟨?_, fset_same⟩, r3.u5 hDis, f3'.trans Fr6.u5⟩
          · rw [fset_ne (by omega)]
          · rw [fset_ne hne, fset_ne (by omega)]
          · rw [fset_ne (by omega), fset_same, g2]
          · rw [fset_ne (by omega), g1]
end
section
variable {P : Program} {w : World} {K : PySem.W.Frag} {mg : Str → Option Value} {base : Heap}
theorem mets_push (c x : Nat) (f : Nat → Nat) : (List.range c).map f ++ [x] = (List.range (c + 1)).map (fset f c x) := by
  rw [List.range_succ, List.map_append]
  show _ = _ ++ [fset f c x c]
  rw [fset_same]
  congr 1
  exact List.map_congr_left fun i hi => (fset_ne (by have := List.mem_range.mp hi; omega)).symm
def spMet : Sp := fun vs H Q _ => ∃ (a b : Addr) (xs ys : List V) (n m start : Nat) (lab : Nat → Bool) (ws : Nat → Addr) (to : Nat → Nat → Nat), vs = [.ref a, .ref b, .int ((start : Nat) : Int)] ∧ H a = some (.lst xs) ∧ H b = some (.lst ys) ∧
  (∀ s < n, xs[s]? = some (.bl (lab s)) ∧ ys[s]? = some (.ref (ws s)) ∧ H (ws s) = some (.tup (nats m (to s)))) ∧ Closed n m to ∧ start < n ∧ n ≤ 1000 ∧ m ≤ 10 ∧
  ∀ (k : Nat) (met : Nat → Nat) (t : Nat → Nat → Nat) (p : Addr) (H' : Hp), MetOf n m to start k met t → Same H H' → TabAt H' p k m (fun i => lab (met i)) t → Q (.ref p) H'
set_option maxHeartbeats 4000000 in
theorem cl_met (T : Txt K mg) : Cl P w K mg base "met_table" ["labels", "ways", "start"] 1 spMet := cl_of T.a_met_table fun f fd F => by
  refine F.ok sc_met_table (fun vs H Q E h => ?_) (fun cdv A outer s H vs Q E hr h => ?_)
  · obtain ⟨a, b, xs, ys, n, m, start, lab, ws, to, rfl, _⟩ := h
    rfl
  · obtain ⟨a, b, xs, ys, n, m, start, lab, ws, to, rfl, ea, eb, hr', hc, hs, hn, hm, q⟩ := h
    refine ⟨_, (pss_cons (ps_set (i := 3) sc_met_table.nd rfl (Or.inl rfl) (pe_lst (pa_cons (pv 2) pa_nil)))
      (pss_cons (ps_set (i := 4) sc_met_table.nd rfl (Or.inr rfl) (pe_disp (pps_cons (pv 2) pe_int pps_nil) (by rfl) rfl (fun h => by cases h) (by decide)))
      (pss_cons (ps_set (i := 5) sc_met_table.nd rfl (Or.inl rfl) pe_int)
      (Evl.pss_cut (ps_while PassesOwn.never (pt_cmpR op_lt (pv 5) (pe_callB (call_lenK (K := K) (by rfl)) (by rfl) T.m_len (by decide +kernel) (pa_cons (pv 3) pa_nil)) (nomark _))
      (pss_cons (ps_set (i := 6) sc_met_table.nd rfl (Or.inl rfl) (pe_ix (ix_listK (K := K) (by rfl)) (pv 3) (pv 5) (fun _ _ => rfl)))
      (Evl.pss_cut (ps_for PassesOwn.never rfl (pi_tup (pe_ix (ix_listK (K := K) (by rfl)) (pv 1) (pv 6) (fun _ _ => rfl))) (pg_name (i := 7) sc_met_table.nd rfl (Or.inl rfl))
      (pss_one (ps_if (pt_cmp (pc_dnotin (by exact hu_of hr) (pv 7) (pv 4)))
      (pss_cons (ps_dput (by exact hu_of hr) (pv 4) (pv 7) (pe_callB (call_lenK (K := K) (by rfl)) (by rfl) T.m_len (by decide +kernel) (pa_cons (pv 3) pa_nil)) rfl)
      (pss_one (ps_expr (pe_bm PySem.F.plainAttrs_list PySem.F.slot_list_append PySem.F.type_list_append mt_append (pv 3) (pa_cons (pv 7) pa_nil)))))
      pss_nil)))
      (pss_one (ps_aug (i := 5) sc_met_table.nd rfl (Or.inl rfl) pe_int ip_add)))))
      (pss_one (ps_ret (pe_tupleOf (by rfl) T.m_tuple (pe_lc (own := [("old", 8)]) (g := gName 8) (tt := tYes) (by rfl) sc_met_table.nd (pi_list (pv 3)) (blkOk_by (own := [("old", 8)]) (N := n_met_table) (sc := defScope s_met_table) (by decide +kernel)) (fun _ _ _ _ _ => (pg_name (i := 8) sc_met_table.nd rfl (by first | exact Or.inl rfl | exact Or.inr rfl))) (fun _ _ _ _ _ => pts_nil) (fun _ _ _ _ _ => (pe_tup (pa_cons (pe_ix (ix_listK (K := K) (by rfl)) (pv 0) (pv 8) (fun _ _ => rfl)) (pa_cons (pe_tupleOfK (K := K) (by rfl) (by rfl) T.m_tuple (by exact pe_lc (own := [("goal", 9)]) (g := gName 9) (tt := tYes) (by rfl) sc_met_table.nd (pi_tupK (K := K) (by rfl) (pe_ix (ix_listK (K := K) (by rfl)) (pv 1) (pv 8) (fun _ _ => rfl))) (blkOk_by (own := [("goal", 9)]) (N := n_met_table) (sc := _) (by rfl)) (fun _ _ _ _ _ => (pg_name (i := 9) sc_met_table.nd rfl (by first | exact Or.inl rfl | exact Or.inr rfl))) (fun _ _ _ _ _ => pts_nil) (fun _ _ _ _ _ => (pe_dget (by exact hu_of hr) (pv 4) (pv 9) (fun _ _ => rfl))))) pa_nil)))))))))))), ?_⟩
    walk_at "rds"
    refine ⟨by show 1 ≤ sizeLine; decide, fun M nM => ?_⟩
    have s1 : Same H (upd H M (.lst [.int ((start : Nat) : Int)])) := same_upd nM
    have e1 : upd H M (.lst [.int ((start : Nat) : Int)]) M = some (.lst (nats 1 fun _ => start)) := upd_same
    generalize upd H M (.lst [.int ((start : Nat) : Int)]) = H1 at s1 e1 ⊢
    walk_at "rds"
    refine fun D nD => ?_
    walk_at "rds"
    refine ⟨upd_same, [(Sum.inl ((start : Nat) : Int), .int 0)], rfl, by show 1 ≤ 15; decide, ?_⟩
    have hMD : M ≠ D := ne_of_none e1 nD
    have s2 : Same H1 (upd (upd H1 D (.dK [])) D (.dK (mergeK [] [(Sum.inl ((start : Nat) : Int), .int 0)]))) := fun x o hx => by
      rw [upd_ne (ne_of_none hx nD), upd_ne (ne_of_none hx nD)]
      exact hx
    have d2 : upd (upd H1 D (.dK [])) D (.dK (mergeK [] [(Sum.inl ((start : Nat) : Int), .int 0)])) D = some (.dK (encM ((List.range 1).map fun _ => start) fun _ => 0)) := upd_same
    generalize upd (upd H1 D (.dK [])) D (.dK (mergeK [] [(Sum.inl ((start : Nat) : Int), .int 0)])) = H2 at s2 d2 ⊢
    have m2 := s2 _ _ e1
    have s02 := same_trans s1 s2
    have nD0 := same_none s1 nD
    clear e1 s1 s2 nD
    walk_at "rds"
    refine rd_cut (fun σ' H' => ∃ (c : Nat) (met num : Nat → Nat) (t : Nat → Nat → Nat) (y6 y7 y8 y9 : Option V), σ' = [some (.ref a), some (.ref b), some (.int ((start : Nat) : Int)), some (.ref M), some (.ref D), some (.int ((c : Nat) : Int)), y6, y7, y8, y9] ∧ Bfs n m c c 0 to start met num t ∧ Same H H' ∧ H' M = some (.lst (nats c met)) ∧ H' D = some (.dK (encM ((List.range c).map met) num))) ?_ ?_
    rotate_left
    · rintro σ' H3 ⟨c, met, num, t, y6, y7, y8, y9, rfl, B, s3, m3, d3⟩
      have hcn := B.le_n
      walk_at "rds"
      refine ⟨M, rfl, ⟨_, SqL.of m3⟩, fun L nL => lc_it walk_list (fun i H' => Same H3 H' ∧ ∃ rs vs : Nat → Addr, H' L = some (.lst (refs i rs)) ∧ ∀ s < i, H' (rs s) = some (.tup [.bl (lab (met s)), .ref (vs s)]) ∧ H' (vs s) = some (.tup (nats m (t s)))) ⟨same_upd nL, fun _ => 0, fun _ => 0, upd_same, fun s h => absurd h (by omega)⟩ (fun i H' _ h => SqL.of (h.1 _ _ m3)) ?_ ?_⟩
      rotate_left
      · rintro H4 ⟨s4, rs, vs, eL, h4⟩
        rw [nats_len] at eL h4
        refine rd_kTup eL fun R nR => ?_
        have s5 : Same H4 (upd H4 R (.tup (refs c rs))) := same_upd nR
        exact q c met t R _ B.done (same_trans (same_trans s3 s4) s5) ⟨rs, vs, upd_same, fun s hs => ⟨s5 _ _ (h4 s hs).1, s5 _ _ (h4 s hs).2⟩⟩
      rintro i x H4 H5 hi ⟨s4, rs, vs, eL, h4⟩ ⟨rfl, hx⟩
      obtain ⟨hic, rfl⟩ := nats_at hx
      obtain ⟨r1, r2, r3⟩ := hr' _ (B.mn i hic)
      have s34 := same_trans s3 s4
      walk_at "rds"
      refine ⟨rfl, ?_⟩
      walk_at "rds"
      refine rd_ite (fun _ => ?_) (fun h => by cases h)
      walk_at "rds"
      refine rd_ixL (SqL.of (s34 _ _ ea)) (atI_nat r1) ?_
      walk_at "rds"
      refine rd_ixL (SqL.of (s34 _ _ eb)) (atI_nat r2) ?_
      refine ⟨_, rfl, ⟨_, SqT.of (s34 _ _ r3)⟩, fun L2 nL2 => lc_it walk_tup (fun j H' => Same H5 H' ∧ H' L2 = some (.lst (nats j (t i)))) ⟨same_upd nL2, upd_same⟩ (fun j H' _ h => SqT.of (h.1 _ _ (s34 _ _ r3))) ?_ ?_⟩
      · rintro j x H6 H7 hj ⟨s6, e6⟩ ⟨rfl, hx⟩
        obtain ⟨hjm, rfl⟩ := nats_at hx
        obtain ⟨k1, k2, _⟩ := B.known i j (.inl ⟨hic, hjm⟩)
        have hval : valV (encM ((List.range c).map met) num) (Sum.inl ((to (met i) j : Nat) : Int)) = some (.int ((t i j : Nat) : Int)) := by
          rw [encM_val, if_pos (List.mem_map.mpr ⟨t i j, List.mem_range.mpr k1, k2⟩), ← k2, B.nm _ k1]
        walk_at "rds"
        refine ⟨rfl, ?_⟩
        walk_at "rds"
        refine rd_ite (fun _ => ?_) (fun h => by cases h)
        walk_at "rds"
        refine ⟨D, _, rfl, by rw [← hval]; exact .k (k := Sum.inl ((to (met i) j : Nat) : Int)) (s6 _ _ (s4 _ _ d3)), ?_⟩
        refine ⟨_, e6, by rw [nats_len]; exact small1000 (by omega), same_mut s6 nL2, ?_⟩
        rw [upd_same, nats_snoc]
      rintro H6 ⟨s6, e6⟩
      rw [nats_len] at e6
      refine rd_kTup e6 fun T2 nT2 => ?_
      have s7 : Same H6 (upd H6 T2 (.tup (nats m (t i)))) := same_upd nT2
      have e7 : upd H6 T2 (.tup (nats m (t i))) T2 = some (.tup (nats m (t i))) := upd_same
      generalize upd H6 T2 (.tup (nats m (t i))) = H7 at s7 e7 ⊢
      walk_at "rds"
      refine ⟨by show 2 ≤ sizeLine; decide, fun T1 nT1 => ?_⟩
      have s8 : Same H7 (upd H7 T1 (.tup [.bl (lab (met i)), .ref T2])) := same_upd nT1
      have e8 : upd H7 T1 (.tup [.bl (lab (met i)), .ref T2]) T1 = some (.tup [.bl (lab (met i)), .ref T2]) := upd_same
      generalize upd H7 T1 (.tup [.bl (lab (met i)), .ref T2]) = H8 at s8 e8 ⊢
      have e78 := s8 _ _ e7
      have s58 := same_trans s6 (same_trans s7 s8)
      have eL8 := s58 _ _ eL
      have nT : ∀ {b : Addr} {xs : List V}, H8 b = some (.tup xs) → b ≠ L := fun {b xs} h z => by
        rw [z, eL8] at h
        cases h
      refine ⟨_, eL8, by rw [refs_len]; exact small1000 (by omega), same_mut (same_trans s4 s58) nL, gset rs i T1, gset vs i T2, by rw [upd_same, refs_snoc, gset_same, refs_congr (f := gset rs i T1) (g := rs) fun j hj => gset_ne (by omega)], fun s hs => ?_⟩
      rcases Nat.lt_or_ge s i with h | h
      · rw [gset_ne (by omega), gset_ne (by omega)]
        obtain ⟨g1, g2⟩ := h4 s h
        exact ⟨by rw [upd_ne (nT (s58 _ _ g1))]; exact s58 _ _ g1, by rw [upd_ne (nT (s58 _ _ g2))]; exact s58 _ _ g2⟩
      · rw [show s = i by omega, gset_same, gset_same]
        exact ⟨by rw [upd_ne (nT e8)]; exact e8, by rw [upd_ne (nT e78)]; exact e78⟩
    refine rd_while (fun μ σ' H' => ∃ (at_ c : Nat) (met num : Nat → Nat) (t : Nat → Nat → Nat) (y6 y7 y8 y9 : Option V), σ' = [some (.ref a), some (.ref b), some (.int ((start : Nat) : Int)), some (.ref M), some (.ref D), some (.int ((at_ : Nat) : Int)), y6, y7, y8, y9] ∧ μ = n - at_ ∧ at_ ≤ c ∧ Bfs n m c at_ 0 to start met num t ∧ Same H H' ∧ H' M = some (.lst (nats c met)) ∧ H' D = some (.dK (encM ((List.range c).map met) num))) n
      ⟨0, 1, _, _, _, _, _, _, _, rfl, rfl, by omega, Bfs.begin hs, s02, m2, d2⟩ ?_
    clear m2 d2 s02
    rintro μ σ' H3 ⟨at_, c, met, num, t, y6, y7, y8, y9, rfl, rfl, hac, B, s3, m3, d3⟩
    have hcn := B.le_n
    walk_at "rds"
    refine rd_lenL (SqL.of m3) ?_
    rw [nats_len]
    walk_at "rds"
    refine rd_ite (fun h => ?_) (fun h => ?_)
    rotate_left
    · have e : at_ = c := by
        have := of_decide_eq_false h
        omega
      subst e
      exact ⟨at_, met, num, t, _, _, _, _, rfl, B, s3, m3, d3⟩
    have hlt : at_ < c := by
      have := of_decide_eq_true h
      omega
    have hmn := B.mn at_ hlt
    obtain ⟨_, r2, r3⟩ := hr' _ hmn
    refine ⟨fun σ' H' => ∃ μ', μ' < n - at_ ∧ ∃ (at_ c : Nat) (met num : Nat → Nat) (t : Nat → Nat → Nat) (y6 y7 y8 y9 : Option V), σ' = [some (.ref a), some (.ref b), some (.int ((start : Nat) : Int)), some (.ref M), some (.ref D), some (.int ((at_ : Nat) : Int)), y6, y7, y8, y9] ∧ μ' = n - at_ ∧ at_ ≤ c ∧ Bfs n m c at_ 0 to start met num t ∧ Same H H' ∧ H' M = some (.lst (nats c met)) ∧ H' D = some (.dK (encM ((List.range c).map met) num)), fun _ _ h => h, ?_⟩
    walk_at "rds"
    refine rd_ixL (SqL.of m3) (atI_nat (nats_get hlt)) ?_
    walk_at "rds"
    refine rd_cut (fun σ' H' => ∃ (c : Nat) (met num : Nat → Nat) (t : Nat → Nat → Nat) (y6 y7 y8 y9 : Option V), σ' = [some (.ref a), some (.ref b), some (.int ((start : Nat) : Int)), some (.ref M), some (.ref D), some (.int ((at_ : Nat) : Int)), y6, y7, y8, y9] ∧ at_ < c ∧ Bfs n m c at_ m to start met num t ∧ at_ < totC m t at_ ∧ Same H H' ∧ H' M = some (.lst (nats c met)) ∧ H' D = some (.dK (encM ((List.range c).map met) num))) ?_ ?_
    rotate_left
    · rintro σ' H4 ⟨c, met, num, t, y6, y7, y8, y9, rfl, h1, B, h2, s4, m4, d4⟩
      walk_at "rds"
      exact ⟨n - (at_ + 1), by have := B.le_n; omega, at_ + 1, c, met, num, t, _, _, _, _, rfl, rfl, by omega, B.row h2, s4, m4, d4⟩
    walk_at "rds"
    refine rd_ixL (SqL.of (s3 _ _ eb)) (atI_nat r2) ?_
    refine ⟨_, rfl, ⟨_, SqT.of (s3 _ _ r3)⟩, for_it walk_tup (fun j σ' H' => ∃ (c : Nat) (met' num : Nat → Nat) (t : Nat → Nat → Nat) (y7 : Option V), σ' = [some (.ref a), some (.ref b), some (.int ((start : Nat) : Int)), some (.ref M), some (.ref D), some (.int ((at_ : Nat) : Int)), some (.int ((met at_ : Nat) : Int)), y7, y8, y9] ∧ at_ < c ∧ met' at_ = met at_ ∧ Bfs n m c at_ j to start met' num t ∧ at_ < totC m t at_ ∧ Same H H' ∧ H' M = some (.lst (nats c met')) ∧ H' D = some (.dK (encM ((List.range c).map met') num)))
      ⟨c, met, num, t, _, rfl, hlt, rfl, B, by have := B.tot; unfold rowC at this; omega, s3, m3, d3⟩ (fun j σ' H' _ h => by
        obtain ⟨_, _, _, _, _, _, _, _, _, _, s, _⟩ := h
        exact SqT.of (s _ _ r3)) ?_ ?_⟩
    rotate_left
    · rintro σ' H4 ⟨c, met', num, t, y7, rfl, h1, _, B, h2, s4, m4, d4⟩
      rw [nats_len] at B
      exact ⟨c, met', num, t, _, _, _, _, rfl, h1, B, h2, s4, m4, d4⟩
    clear B hac m3 d3 s3
    rintro j x σ' H4 H5 hj ⟨c, met', num, t, y7, rfl, h1, hme, B, h2, s4, m4, d4⟩ ⟨rfl, hx⟩
    obtain ⟨hjm, rfl⟩ := nats_at hx
    have hcn' := B.le_n
    walk_at "rds"
    refine ⟨D, _, rfl, .k (k := Sum.inl ((to (met at_) j : Nat) : Int)) d4, ?_⟩
    rw [encM_val]
    by_cases hin : to (met at_) j ∈ (List.range c).map met'
    · rw [if_pos hin]
      obtain ⟨v, hv, ev⟩ := List.mem_map.mp hin
      have hv := List.mem_range.mp hv
      refine ⟨_, rfl, ?_⟩
      refine rd_ite (fun h => by simp at h) (fun _ => ?_)
      exact ⟨c, met', num, _, _, rfl, h1, hme, B.old hv (by rw [ev, hme]), by rw [set_tot (Nat.le_refl _)]; exact h2, s4, m4, d4⟩
    · rw [if_neg hin]
      refine ⟨_, rfl, ?_⟩
      refine rd_ite (fun _ => ?_) (fun h => by simp at h)
      walk_at "rds"
      refine rd_lenL (SqL.of m4) ?_
      rw [nats_len]
      walk_at "rds"
      refine ⟨D, _, rfl, .k (k := Sum.inl ((to (met at_) j : Nat) : Int)) d4 (by rw [encM_len, List.length_map, List.length_range]; exact small1000 (by omega)), ?_⟩
      rw [encM_put, if_neg hin]
      have s5 : Same H (upd H5 D (.dK (encM ((List.range c).map met' ++ [to (met at_) j]) (fset num (to (met at_) j) c)))) := same_mut s4 nD0
      have m5 := (upd_ne (o := .dK (encM ((List.range c).map met' ++ [to (met at_) j]) (fset num (to (met at_) j) c))) hMD).trans m4
      have d5 : upd H5 D (.dK (encM ((List.range c).map met' ++ [to (met at_) j]) (fset num (to (met at_) j) c))) D = some (.dK (encM ((List.range (c + 1)).map (fset met' c (to (met at_) j))) (fset num (to (met at_) j) c))) := by
        rw [upd_same, mets_push]
      generalize upd H5 D (.dK (encM ((List.range c).map met' ++ [to (met at_) j]) (fset num (to (met at_) j) c))) = H6 at s5 m5 d5 ⊢
      walk_at "rds"
      refine rd_tyL (SqL.of m5) ?_
      walk_at "rds"
      refine rd_app m5 (by rw [nats_len]; exact small1000 (by omega)) ?_
      rw [nats_push]
      refine ⟨c + 1, fset met' c (to (met at_) j), fset num (to (met at_) j) c, _, _, rfl, by omega, by rw [fset_ne (by omega)]; exact hme, B.new h1 (hc _ hmn j hjm) (by rw [hme]) (fun i hi e => hin (List.mem_map.mpr ⟨i, List.mem_range.mpr hi, e⟩)), by rw [set_tot (Nat.le_refl _)]; exact h2, same_mut s5 nM, upd_same, (upd_ne hMD.symm).trans d5⟩
end
section
variable {P : Program} {w : World} {K : PySem.W.Frag} {mg : Str → Option Value} {base : Heap}
/-- a machine in two lists: its labels, its ways; there may be more behind -/
def MachAt (H : Hp) (a b : Addr) (n m : Nat) (lab : Nat → Bool) (to : Nat → Nat → Nat) : Prop :=
  ∃ (xs ys : List V) (ws : Nat → Addr), H a = some (.lst xs) ∧ H b = some (.lst ys) ∧ ∀ s < n, xs[s]? = some (.bl (lab s)) ∧ ys[s]? = some (.ref (ws s)) ∧ H (ws s) = some (.tup (nats m (to s)))
def spLeast : Sp := fun vs H Q _ => ∃ (a b : Addr) (n m : Nat) (lab : Nat → Bool) (to : Nat → Nat → Nat), vs = [.ref a, .ref b] ∧ MachAt H a b n m lab to ∧ Closed n m to ∧ 0 < n ∧ n ≤ 1000 ∧ m ≤ 10 ∧
  ∀ (k : Nat) (lab' : Nat → Bool) (t : Nat → Nat → Nat) (p : Addr) (H' : Hp), LeastOf n m lab to k lab' t → Same H H' → TabAt H' p k m lab' t → Q (.ref p) H'
set_option maxHeartbeats 4000000 in
theorem cl_least (T : Txt K mg) : Cl P w K mg base "least_table" ["labels", "ways"] 3 spLeast := cl_of T.a_least_table fun f fd F => by
  have C_met_table := cl_met (P := P) (w := w) (base := base) T
  have C__parts := cl_parts (P := P) (w := w) (base := base) T
  refine F.ok sc_least_table (fun vs H Q E h => ?_) (fun cdv A outer s H vs Q E hr h => ?_)
  · obtain ⟨a, b, n, m, lab, to, rfl, _⟩ := h
    rfl
  · obtain ⟨a, b, n, m, lab, to, rfl, ⟨xs, ys, ws, ea, eb, hr'⟩, hc, hn0, hn, hm, q⟩ := h
    refine ⟨_, (pss_cons (ps_set (i := 2) sc_least_table.nd rfl (Or.inl rfl) (pe_cl C_met_table (hr.mono (by decide)) (by rfl) (pa_cons (pv 0) (pa_cons (pv 1) (pa_cons pe_int pa_nil)))))
      (pss_cons (ps_set (i := 3) sc_least_table.nd rfl (Or.inr rfl) (pe_cl C__parts (hr.mono (by decide)) (by rfl) (pa_cons (pv 2) pa_nil)))
      (pss_cons (ps_setLc (i := 4) (own := [("_", 9)]) (g := gName 9) (tt := tYes) (by rfl) sc_least_table.nd rfl rfl (sw_true rfl rfl rfl (by decide +kernel)) (pi_tup (pv 2)) (blkOk_by (own := [("_", 9)]) (N := n_least_table) (sc := defScope s_least_table) (by decide +kernel)) (fun _ _ _ _ _ => (pg_name (i := 9) sc_least_table.nd rfl (by first | exact Or.inl rfl | exact Or.inr rfl))) (fun _ _ _ _ _ => pts_nil) (fun _ _ _ _ _ => pe_non))
      (pss_cons (ps_setLc (i := 5) (own := [("_", 9)]) (g := gName 9) (tt := tYes) (by rfl) sc_least_table.nd rfl rfl (sw_true rfl rfl rfl (by decide +kernel)) (pi_tup (pv 2)) (blkOk_by (own := [("_", 9)]) (N := n_least_table) (sc := defScope s_least_table) (by decide +kernel)) (fun _ _ _ _ _ => (pg_name (i := 9) sc_least_table.nd rfl (by first | exact Or.inl rfl | exact Or.inr rfl))) (fun _ _ _ _ _ => pts_nil) (fun _ _ _ _ _ => (pe_tup pa_nil)))
      (Evl.pss_cut (ps_for PassesOwn.never rfl (pi_zipK .l .t (K := K) (by rfl) (by rfl) T.m_zip (pa_cons (pv 3) (pa_cons (pv 2) pa_nil))) (pg_tup rfl (pgs_cons (pg_name (i := 6) sc_least_table.nd rfl (Or.inl rfl)) (pgs_cons (pg_tup rfl (pgs_cons (pg_name (i := 7) sc_least_table.nd rfl (Or.inl rfl)) (pgs_cons (pg_name (i := 8) sc_least_table.nd rfl (Or.inl rfl)) pgs_nil))) pgs_nil)))
      (pss_cons (ps_asg (pv 7) (pg_sub (pv 4) (pv 6) set_list))
      (pss_one (ps_asg (pe_tupleOf (by rfl) T.m_tuple (pe_lc (own := [("to", 10)]) (g := gName 10) (tt := tYes) (by rfl) sc_least_table.nd (pi_tup (pv 8)) (blkOk_by (own := [("to", 10)]) (N := n_least_table) (sc := defScope s_least_table) (by decide +kernel)) (fun _ _ _ _ _ => (pg_name (i := 10) sc_least_table.nd rfl (by first | exact Or.inl rfl | exact Or.inr rfl))) (fun _ _ _ _ _ => pts_nil) (fun _ _ _ _ _ => (pe_ix (ix_listK (K := K) (by rfl)) (pv 3) (pv 10) (fun _ _ => rfl))))) (pg_sub (pv 5) (pv 6) set_list)))))
      (pss_one (ps_ret (pe_cl C_met_table (hr.mono (by decide)) (by rfl) (pa_cons (pv 4) (pa_cons (pv 5) (pa_cons (pe_ix (ix_listK (K := K) (by rfl)) (pv 3) pe_int (fun _ _ => rfl)) pa_nil))))))))))), ?_⟩
    walk_at "rds"
    refine ⟨a, b, xs, ys, n, m, 0, lab, ws, to, rfl, ea, eb, hr', hc, hn0, hn, hm, fun k1 met1 t1 pT H1 M1 s1 tT => ?_⟩
    have hkn := M1.kn
    have hk0 := M1.k0
    have hc1 := M1.closed
    walk_at "rds"
    refine ⟨pT, k1, m, fun i => lab (met1 i), t1, rfl, tT, hc1, hk0, by omega, hm, fun k2 po pP H2 hpo hlt used hk s2 nP eP => ?_⟩
    obtain ⟨plab, pto, hl, hto⟩ := quot_of hc1 hpo
    walk_at "rds"
    obtain ⟨rs, vs, eT, hT⟩ := tT.same s2
    have s02 := same_trans s1 s2
    refine ⟨pT, rfl, ⟨_, SqT.of eT⟩, fun A4 nA4 => lc_it walk_tup (fun i H' => Same H2 H' ∧ H' A4 = some (.lst (List.replicate i .non))) ⟨same_upd nA4, upd_same⟩ (fun i H' _ h => SqT.of (h.1 _ _ eT)) ?_ ?_⟩
    · rintro i x H3 H4 hi ⟨s3, e3⟩ ⟨rfl, hx⟩
      obtain ⟨hin, rfl⟩ := refs_at hx
      walk_at "rds"
      refine ⟨rfl, ?_⟩
      walk_at "rds"
      refine rd_ite (fun _ => ?_) (fun h => by cases h)
      walk_at "rds"
      refine ⟨_, e3, by rw [List.length_replicate]; exact small1000 (by omega), same_mut s3 nA4, ?_⟩
      rw [upd_same, List.replicate_succ']
    rintro H3 ⟨s3, e4⟩
    rw [refs_len] at e4
    walk_at "rds"
    refine ⟨pT, rfl, ⟨_, SqT.of (s3 _ _ eT)⟩, fun A5 nA5 => lc_it walk_tup (fun i H' => Same H3 H' ∧ ∃ us, us.length = i ∧ H' A5 = some (.lst us)) ⟨same_upd nA5, [], rfl, upd_same⟩ (fun i H' _ h => SqT.of (h.1 _ _ (s3 _ _ eT))) ?_ ?_⟩
    · rintro i x H4 H5 hi ⟨s4, us, hu, e5⟩ ⟨rfl, hx⟩
      obtain ⟨hin, rfl⟩ := refs_at hx
      walk_at "rds"
      refine ⟨rfl, ?_⟩
      walk_at "rds"
      refine rd_ite (fun _ => ?_) (fun h => by cases h)
      walk_at "rds"
      refine ⟨by show 0 ≤ sizeLine; decide, fun p0 n0 => ?_⟩
      have h5 : A5 ≠ p0 := ne_of_none e5 n0
      exact ⟨_, (upd_ne h5).trans e5, by rw [hu]; exact small1000 (by omega), same_mut (same_trans s4 (same_upd n0)) nA5, us ++ [.ref p0], by rw [List.length_append, hu]; rfl, upd_same⟩
    rintro H4 ⟨s4, us, hu, e5⟩
    rw [refs_len] at hu
    have e4' := s4 _ _ e4
    have n45 : A4 ≠ A5 := ne_of_none e4 nA5
    have s24 := same_trans s3 s4
    have nA5' := same_none s3 nA5
    clear e4 nA5 s4 s3
    walk_at "rds"
    refine rd_cut (fun σ' H' => (∃ y6 y7 y8 y9 y10, σ' = [some (.ref a), some (.ref b), some (.ref pT), some (.ref pP), some (.ref A4), some (.ref A5), y6, y7, y8, y9, y10]) ∧ Same H2 H' ∧ ∃ (zs us : List V) (qs : Nat → Addr), H' A4 = some (.lst zs) ∧ H' A5 = some (.lst us) ∧ ∀ s < k1, zs[po s]? = some (.bl (plab (po s))) ∧ us[po s]? = some (.ref (qs (po s))) ∧ H' (qs (po s)) = some (.tup (nats m (pto (po s))))) ?_ ?_
    rotate_left
    · rintro σ' H5 ⟨⟨y6, y7, y8, y9, y10, rfl⟩, s5, zs, us, qs, f4, f5, hq⟩
      walk_at "rds"
      refine rd_ixL (SqL.of (s5 _ _ eP)) (show atI (nats k1 po) ((0 : Nat) : Int) = _ from atI_nat (nats_get hk0)) ?_
      refine ⟨A4, A5, zs, us, k2, m, po 0, plab, qs, pto, rfl, f4, f5, fun q hq' => ?_, fun q hq' a ha => ?_, hlt 0 hk0, by omega, hm, fun k met t p H6 M2 s6 tab => ?_⟩
      · obtain ⟨s, hs, rfl⟩ := used q hq'
        exact hq s hs
      · obtain ⟨s, hs, rfl⟩ := used q hq'
        rw [hto s hs a ha]
        exact hlt _ (hc1 s hs a ha)
      · exact q k _ t p H6 (leastT_of M1 hpo hlt used hk hl hto M2) (same_trans s02 (same_trans s5 s6)) tab
    walk_at "rds"
    refine ⟨pP, pT, _, _, rfl, SqL.of (s24 _ _ eP), SqT.of (s24 _ _ eT), for_it walk_zipA (fun i σ' H' => (∃ y6 y7 y8 y9 y10, σ' = [some (.ref a), some (.ref b), some (.ref pT), some (.ref pP), some (.ref A4), some (.ref A5), y6, y7, y8, y9, y10]) ∧ Same H2 H' ∧ ∃ (zs us : List V) (qs : Nat → Addr), zs.length = k1 ∧ us.length = k1 ∧ H' A4 = some (.lst zs) ∧ H' A5 = some (.lst us) ∧ ∀ s < i, zs[po s]? = some (.bl (plab (po s))) ∧ us[po s]? = some (.ref (qs (po s))) ∧ H' (qs (po s)) = some (.tup (nats m (pto (po s)))))
      ⟨⟨_, _, _, _, _, rfl⟩, s24, _, us, fun _ => 0, List.length_replicate, hu, e4', e5, fun s h => absurd h (by omega)⟩ (fun i σ' H' _ h => ⟨SqL.of (h.2.1 _ _ eP), SqT.of (h.2.1 _ _ eT)⟩) ?_ ?_⟩
    rotate_left
    · rintro σ' H5 ⟨hσ, s5, zs, us, qs, _, _, f4, f5, hq⟩
      rw [nats_len, refs_len, Nat.min_self] at hq
      exact ⟨hσ, s5, zs, us, qs, f4, f5, hq⟩
    clear e4' e5 hu us s24
    rintro i x σ' H5 H6 hi ⟨⟨y6, y7, y8, y9, y10, rfl⟩, s5, zs, us, qs, l4, l5, f4, f5, hq⟩ ⟨T0, x1, x2, rfl, nT, rfl, h1, h2⟩
    rw [nats_len, refs_len, Nat.min_self] at hi
    obtain ⟨_, rfl⟩ := nats_at h1
    obtain ⟨_, rfl⟩ := refs_at h2
    obtain ⟨hT1, hT2⟩ := hT i hi
    have hpi := hlt i hi
    have sT : Same H5 (upd H5 T0 (.tup [.int ((po i : Nat) : Int), .ref (rs i)])) := same_upd nT
    refine rd_gtup (SqT.of upd_same) rfl ?_
    generalize upd H5 T0 (.tup [.int ((po i : Nat) : Int), .ref (rs i)]) = H6 at sT ⊢
    have s6 := same_trans s5 sT
    have g4 := sT _ _ f4
    have g5 := sT _ _ f5
    have gq := fun s hs => (⟨(hq s hs).1, (hq s hs).2.1, sT _ _ (hq s hs).2.2⟩ : zs[po s]? = some (.bl (plab (po s))) ∧ us[po s]? = some (.ref (qs (po s))) ∧ H6 (qs (po s)) = some (.tup (nats m (pto (po s)))))
    clear hq f4 f5 s5 nT sT
    walk_at "rds"
    refine rd_gtup (SqT.of (s6 _ _ hT1)) rfl ?_
    walk_at "rds"
    refine rd_setL g4 (by rw [l4]; exact ixN_n (show po i < k1 by omega)) ?_
    have s7 := same_mut (o := .lst (zs.set (po i) (.bl (lab (met1 i))))) s6 nA4
    have k4 : upd H6 A4 (.lst (zs.set (po i) (.bl (lab (met1 i))))) A4 = some (.lst (zs.set (po i) (.bl (lab (met1 i))))) := upd_same
    have k5 := (upd_ne (o := .lst (zs.set (po i) (.bl (lab (met1 i))))) n45.symm).trans g5
    have kq := fun s hs => (upd_ne (o := .lst (zs.set (po i) (.bl (lab (met1 i))))) (show qs (po s) ≠ A4 from fun z => by
      have := (gq s hs).2.2
      rw [z, g4] at this
      cases this)).trans (gq s hs).2.2
    generalize upd H6 A4 (.lst (zs.set (po i) (.bl (lab (met1 i))))) = H7 at s7 k4 k5 kq ⊢
    walk_at "rds"
    refine ⟨vs i, rfl, ⟨_, SqT.of (s7 _ _ hT2)⟩, fun L nL => lc_it walk_tup (fun j H' => Same H7 H' ∧ H' L = some (.lst (nats j fun a => po (t1 i a)))) ⟨same_upd nL, upd_same⟩ (fun j H' _ h => SqT.of (h.1 _ _ (s7 _ _ hT2))) ?_ ?_⟩
    · rintro j x H8 H9 hj ⟨s8, e8⟩ ⟨rfl, hx⟩
      obtain ⟨hjm, rfl⟩ := nats_at hx
      walk_at "rds"
      refine ⟨rfl, ?_⟩
      walk_at "rds"
      refine rd_ite (fun _ => ?_) (fun h => by cases h)
      walk_at "rds"
      refine rd_ixL (SqL.of (s8 _ _ (s7 _ _ eP))) (atI_nat (nats_get (hc1 i hi j hjm))) ?_
      refine ⟨_, e8, by rw [nats_len]; exact small1000 (by omega), same_mut s8 nL, ?_⟩
      rw [upd_same, nats_snoc]
    rintro H8 ⟨s8, e8⟩
    rw [nats_len, nats_congr (g := pto (po i)) fun a ha => (hto i hi a ha).symm] at e8
    refine rd_kTup e8 fun T2 nT2 => ?_
    have s9 : Same H8 (upd H8 T2 (.tup (nats m (pto (po i))))) := same_upd nT2
    have e9 : upd H8 T2 (.tup (nats m (pto (po i)))) T2 = some (.tup (nats m (pto (po i)))) := upd_same
    generalize upd H8 T2 (.tup (nats m (pto (po i)))) = H9 at s9 e9 ⊢
    have s79 := same_trans s8 s9
    have j4 := s79 _ _ k4
    have j5 := s79 _ _ k5
    walk_at "rds"
    refine rd_setL j5 (by rw [l5]; exact ixN_n (show po i < k1 by omega)) ?_
    have nT5 : ∀ {b : Addr} {xs : List V}, H9 b = some (.tup xs) → b ≠ A5 := fun {b xs} h z => by
      rw [z, j5] at h
      cases h
    refine ⟨⟨_, _, _, _, _, rfl⟩, same_mut (same_trans s7 s79) nA5', zs.set (po i) (.bl (lab (met1 i))), us.set (po i) (.ref T2), gset qs (po i) T2, by rw [List.length_set]; exact l4, by rw [List.length_set]; exact l5, (upd_ne n45).trans j4, upd_same, fun s hs => ?_⟩
    by_cases e : po s = po i
    · rw [e, gset_same, List.getElem?_set_self (by omega), List.getElem?_set_self (by omega), hl i hi]
      exact ⟨rfl, rfl, (upd_ne (nT5 e9)).trans e9⟩
    · have hsi : s < i := by
        rcases Nat.lt_or_ge s i with h | h
        · exact h
        · exact absurd (by rw [show s = i by omega]) e
      obtain ⟨q1, q2, _⟩ := gq s hsi
      have q3 := s79 _ _ (kq s hsi)
      rw [gset_ne e, List.getElem?_set_ne (fun z => e z.symm), List.getElem?_set_ne (fun z => e z.symm)]
      exact ⟨q1, q2, (upd_ne (nT5 q3)).trans q3⟩
end
section
variable {P : Program} {w : World} {K : PySem.W.Frag} {mg : Str → Option Value} {base : Heap}
def spSpread : Sp := fun vs H Q _ => ∃ (l : List Nat) (d : Addr) (kvs : List (List Key × V)) (many : Nat) (go : Nat → Nat → Nat), vs = [.str (tx l), .ref d, .int ((many : Nat) : Int)] ∧ H d = some (.dT kvs) ∧
  (∀ s ≤ many, ∀ (a c : Nat), l[a]? = some c → (valV kvs [Sum.inl ((s : Nat) : Int), Sum.inr (tx [c])]).getD (.int ((many : Nat) : Int)) = .int ((go s a : Nat) : Int)) ∧ many < 1000 ∧ l.length ≤ 10 ∧
  ∀ (ws : Nat → Addr) (p : Addr) (H' : Hp), Same H H' → H' p = some (.lst (refs (many + 1) ws)) → (∀ s ≤ many, H' (ws s) = some (.tup (nats l.length (go s)))) → Q (.ref p) H'
theorem cl_spread (T : Txt K mg) : Cl P w K mg base "spread" ["letters", "steps", "many"] 1 spSpread := cl_of T.a_spread fun f fd F => by
  refine F.ok sc_spread (fun vs H Q E h => ?_) (fun cdv A outer s H vs Q E hr h => ?_)
  · obtain ⟨l, d, kvs, many, go, rfl, _⟩ := h
    rfl
  · obtain ⟨l, d, kvs, many, go, rfl, ed, hgo, hn, hl, q⟩ := h
    refine ⟨_, (pss_one (ps_ret (pe_lc (own := [("state", 3)]) (g := gName 3) (tt := tYes) (by rfl) sc_spread.nd (pi_range1 (by rfl) T.m_range (pa_cons (pe_op op_add (pv 2) pe_int) pa_nil)) (blkOk_by (own := [("state", 3)]) (N := n_spread) (sc := defScope s_spread) (by decide +kernel)) (fun _ _ _ _ _ => (pg_name (i := 3) sc_spread.nd rfl (by first | exact Or.inl rfl | exact Or.inr rfl))) (fun _ _ _ _ _ => pts_nil) (fun _ _ _ _ _ => (pe_tupleOfK (K := K) (by rfl) (by rfl) T.m_tuple (by exact pe_lc (own := [("letter", 4)]) (g := gName 4) (tt := tYes) (by rfl) sc_spread.nd (pi_str (pv 0)) (blkOk_by (own := [("letter", 4)]) (N := n_spread) (sc := _) (by rfl)) (fun _ _ _ _ _ => (pg_name (i := 4) sc_spread.nd rfl (by first | exact Or.inl rfl | exact Or.inr rfl))) (fun _ _ _ _ _ => pts_nil) (fun _ _ _ _ _ => (pe_dget2 (by exact hu_of hr) (pv 1) (pe_tup (pa_cons (pv 3) (pa_cons (pv 4) pa_nil))) (pv 2) ⟨rfl, rfl, rfl, rfl⟩)))))))), ?_⟩
    walk_at "rds"
    refine ⟨((many + 1 : Nat) : Int), rfl, by omega, by omega, fun L nL => lc_range (lo := 0) (n := ((many + 1 : Nat) : Int).toNat) (fun i H' => Same H H' ∧ ∃ ws : Nat → Addr, H' L = some (.lst (refs i ws)) ∧ ∀ s < i, H' (ws s) = some (.tup (nats l.length (go s)))) ⟨same_upd nL, fun _ => 0, upd_same, fun s h => absurd h (by omega)⟩ ?_ ?_⟩
    · rintro i H1 hi ⟨s1, ws, e1, h1⟩
      rw [Int.toNat_natCast] at hi
      walk_at "rds"
      refine ⟨rfl, ?_⟩
      walk_at "rds"
      refine rd_ite (fun _ => ?_) (fun h => by cases h)
      walk_at "rds"
      rw [show (0 : Int) + (i : Nat) = ((i : Nat) : Int) by omega]
      refine fun L2 nL2 => lc_text (fun j H' => Same H1 H' ∧ H' L2 = some (.lst (nats j (go i)))) ⟨same_upd nL2, upd_same⟩ (fun j c H2 hj h2 => ?_) (fun H2 h2 => ?_)
      · obtain ⟨s2, e2⟩ := h2
        have hjl : j < l.length := (List.getElem?_eq_some_iff.mp hj).1
        walk_at "rds"
        refine ⟨rfl, ?_⟩
        walk_at "rds"
        refine rd_ite (fun _ => ?_) (fun h => by cases h)
        walk_at "rds"
        have ed2 := s2 _ _ (s1 _ _ ed)
        refine ⟨d, rfl, .inr ⟨_, .inl ed2⟩, ?_⟩
        walk_at "rds"
        refine ⟨by show 2 ≤ sizeLine; decide, fun p0 n0 => ?_⟩
        walk_at "rds"
        refine ⟨_, .t (k := [Sum.inl ((i : Nat) : Int), Sum.inr (tx [c])]) (same_upd n0 _ _ ed2) upd_same, ?_⟩
        rw [hgo i (by omega) j c hj]
        refine ⟨_, (upd_ne (ne_of_none e2 n0)).trans e2, by rw [nats_len]; exact small1000 (by omega), same_mut (same_trans s2 (same_upd n0)) nL2, ?_⟩
        rw [upd_same, nats_snoc]
      obtain ⟨s2, e2⟩ := h2
      refine rd_kTup e2 fun T2 nT2 => ?_
      have s12 := same_trans s2 (same_upd (o := .tup (nats l.length (go i))) nT2)
      have e12 : upd H2 T2 (.tup (nats l.length (go i))) T2 = some (.tup (nats l.length (go i))) := upd_same
      generalize upd H2 T2 (.tup (nats l.length (go i))) = H3 at s12 e12 ⊢
      have eL := s12 _ _ e1
      have nT : ∀ {b : Addr} {xs : List V}, H3 b = some (.tup xs) → b ≠ L := fun {b xs} h z => by
        rw [z, eL] at h
        cases h
      refine ⟨_, eL, by rw [refs_len]; exact small1000 (by omega), same_mut (same_trans s1 s12) nL, gset ws i T2, by rw [upd_same, refs_snoc, gset_same, refs_congr (f := gset ws i T2) (g := ws) fun j hj => gset_ne (by omega)], fun s hs => ?_⟩
      rcases Nat.lt_or_ge s i with h | h
      · rw [gset_ne (by omega)]
        have := s12 _ _ (h1 s h)
        exact (upd_ne (nT this)).trans this
      · rw [show s = i by omega, gset_same]
        exact (upd_ne (nT e12)).trans e12
    · rintro H1 ⟨s1, ws, e1, h1⟩
      rw [Int.toNat_natCast] at e1 h1
      walk_at "rds"
      exact q ws L H1 s1 e1 fun s hs => h1 s (by omega)
end
section
variable {P : Program} {w : World} {K : PySem.W.Frag} {mg : Str → Option Value} {base : Heap}
/-- the dict of the steps -/
def keyT (x : Nat × Nat) : List Key := [Sum.inl ((x.1 : Nat) : Int), Sum.inr (tx [x.2])]
def encF (i : Nat) : List (Nat × Nat) → List (List Key × V)
  | [] => []
  | x :: r => (keyT x, .int ((i + 1 : Nat) : Int)) :: encF (i + 1) r
theorem keyT_inj {x y : Nat × Nat} (h : keyT x = keyT y) : x = y := by
  unfold keyT at h
  simp only [List.cons.injEq, Sum.inl.injEq, Sum.inr.injEq, and_true] at h
  obtain ⟨h1, h2⟩ := h
  have h3 : x.2 = y.2 := by
    have := congrArg (fun z : Str => z.cps.toList) h2
    simpa [tx] using this
  exact Prod.ext (by omega) h3
theorem encF_none {x : Nat × Nat} : ∀ {T : List (Nat × Nat)} {i : Nat}, x ∉ T → valV (encF i T) (keyT x) = none
  | [], _, _ => rfl
  | y :: r, i, h => by
    show valV ((keyT y, V.int ((i + 1 : Nat) : Int)) :: encF (i + 1) r) _ = _
    rw [valV_neg (fun e => h (by rw [keyT_inj e]; exact List.mem_cons_self)), encF_none fun z => h (List.mem_cons_of_mem _ z)]
theorem encF_at {x : Nat × Nat} : ∀ {T : List (Nat × Nat)} {i j : Nat}, T.Nodup → T[j]? = some x → valV (encF i T) (keyT x) = some (.int ((i + j + 1 : Nat) : Int))
  | [], _, _, _, h => by simp at h
  | y :: r, i, 0, _, h => by
    simp only [List.getElem?_cons_zero, Option.some.injEq] at h
    subst h
    exact valV_pos rfl
  | y :: r, i, j + 1, nd, h => by
    obtain ⟨h1, h2⟩ := List.nodup_cons.mp nd
    rw [List.getElem?_cons_succ] at h
    show valV ((keyT y, V.int ((i + 1 : Nat) : Int)) :: encF (i + 1) r) _ = _
    rw [valV_neg (fun e => h1 (by rw [keyT_inj e]; exact List.mem_of_getElem? h)), encF_at (i := i + 1) h2 h, show i + 1 + j + 1 = i + (j + 1) + 1 by omega]
theorem encF_push {x : Nat × Nat} : ∀ {T : List (Nat × Nat)} {i : Nat}, encF i (T ++ [x]) = encF i T ++ [(keyT x, .int ((i + T.length + 1 : Nat) : Int))]
  | [], i => rfl
  | y :: r, i => by
    show (keyT y, V.int ((i + 1 : Nat) : Int)) :: encF (i + 1) (r ++ [x]) = (keyT y, V.int ((i + 1 : Nat) : Int)) :: encF (i + 1) r ++ [_]
    rw [encF_push, List.length_cons, show i + 1 + r.length + 1 = i + (r.length + 1) + 1 by omega]
    rfl
theorem encF_put {T : List (Nat × Nat)} {x : Nat × Nat} (h : x ∉ T) : putK (encF 0 T) (keyT x) (.int ((T.length + 1 : Nat) : Int)) = encF 0 (T ++ [x]) := by
  unfold putK
  rw [valV_any, encF_none h, if_neg (by simp), encF_push, show 0 + T.length + 1 = T.length + 1 by omega]
def goF (T : List (Nat × Nat)) (l : List Nat) (s a : Nat) : Nat :=
  match (valV (encF 0 T) (keyT (s, l.getD a 0))).getD (.int ((T.length + 1 : Nat) : Int)) with
  | .int i => i.toNat
  | _ => 0
theorem bools_get {n i : Nat} {f : Nat → Bool} (h : i < n) : (bools n f)[i]? = some (.bl (f i)) := by simp [bools, h]
theorem encF_len : ∀ (T : List (Nat × Nat)) (i : Nat), (encF i T).length = T.length
  | [], _ => rfl
  | y :: r, i => by
    show (encF (i + 1) r).length + 1 = _
    rw [encF_len r, List.length_cons]
/-- a table that says of each word over m letters what it should -/
structure Good (m k : Nat) (lab : Nat → Bool) (t : Nat → Nat → Nat) (says : List Nat → Bool) : Prop where
  k0 : 1 ≤ k
  kn : k ≤ 1000
  cl : Closed k m t
  num : Num k m t
  least : ∀ i < k, ∀ j < k, Eqv m lab t i j → i = j
  run : ∀ w : List Nat, (∀ a ∈ w, a < m) → lab (runW t 0 w) = says w
def spTabOf : Sp := fun vs H Q _ => ∃ (l : List Nat) (ns : List (List Nat)) (b : Addr), vs = [.str (tx l), .ref b] ∧ H b = some (.lst (ns.map fun n => V.str (tx n))) ∧ l.Nodup ∧ l.length ≤ 10 ∧ (∀ n ∈ ns, ∀ c ∈ n, c ∈ l) ∧ (ns.map List.length).sum ≤ 900 ∧ ns.length ≤ 900 ∧
  ∀ (k : Nat) (lab : Nat → Bool) (t : Nat → Nat → Nat) (p : Addr) (H' : Hp), Good l.length k lab t (fun w => decide ((w.map fun a => l.getD a 0) ∈ ns)) → Same H H' → TabAt H' p k l.length lab t → Q (.ref p) H'
set_option maxHeartbeats 4000000 in
theorem cl_tabof (T : Txt K mg) : Cl P w K mg base "table_of" ["letters", "names"] 4 spTabOf := cl_of T.a_table_of fun f fd F => by
  have C_spread := cl_spread (P := P) (w := w) (base := base) T
  have C_least_table := cl_least (P := P) (w := w) (base := base) T
  refine F.ok sc_table_of (fun vs H Q E h => ?_) (fun cdv A outer s H vs Q E hr h => ?_)
  · obtain ⟨l, ns, b, rfl, _⟩ := h
    rfl
  · obtain ⟨l, ns, b, rfl, eb, hl, hm, hch, hsum, hns, q⟩ := h
    refine ⟨_, (pss_cons (ps_set (i := 2) sc_table_of.nd rfl (Or.inl rfl) pe_dnewT)
      (pss_cons (ps_set (i := 3) sc_table_of.nd rfl (Or.inr rfl) pe_dnewK)
      (pss_cons (ps_set (i := 4) sc_table_of.nd rfl (Or.inl rfl) pe_int)
      (Evl.pss_cut (ps_for PassesOwn.never rfl (pi_list (pv 1)) (pg_name (i := 5) sc_table_of.nd rfl (Or.inl rfl))
      (pss_cons (ps_set (i := 6) sc_table_of.nd rfl (Or.inl rfl) pe_int)
      (Evl.pss_cut (ps_for PassesOwn.never rfl (pi_str (pv 5)) (pg_name (i := 7) sc_table_of.nd rfl (Or.inl rfl))
      (pss_cons (ps_if (pt_cmp (pc_dnotin (by exact hu_of hr) (pe_tup (pa_cons (pv 6) (pa_cons (pv 7) pa_nil))) (pv 2)))
      (pss_cons (ps_dput (by exact hu_of hr) (pv 2) (pe_tup (pa_cons (pv 6) (pa_cons (pv 7) pa_nil))) (pv 4) rfl)
      (pss_one (ps_aug (i := 4) sc_table_of.nd rfl (Or.inl rfl) pe_int ip_add)))
      pss_nil)
      (pss_one (ps_set (i := 6) sc_table_of.nd rfl (Or.inl rfl) (pe_dget (by exact hu_of hr) (pv 2) (pe_tup (pa_cons (pv 6) (pa_cons (pv 7) pa_nil))) (fun _ _ => rfl))))))
      (pss_one (ps_dput (by exact hu_of hr) (pv 3) (pv 6) pe_bl rfl)))))
      (pss_one (ps_ret (pe_cl C_least_table (hr.mono (by decide)) (by rfl) (pa_cons (pe_lc (own := [("state", 6)]) (g := gName 6) (tt := tYes) (by rfl) sc_table_of.nd (pi_range1 (by rfl) T.m_range (pa_cons (pe_op op_add (pv 4) pe_int) pa_nil)) (blkOk_by (own := [("state", 6)]) (N := n_table_of) (sc := defScope s_table_of) (by decide +kernel)) (fun _ _ _ _ _ => (pg_name (i := 6) sc_table_of.nd rfl (by first | exact Or.inl rfl | exact Or.inr rfl))) (fun _ _ _ _ _ => pts_nil) (fun _ _ _ _ _ => (pe_cmp (pc_din (by exact hu_of hr) (pv 6) (pv 3))))) (pa_cons (pe_cl C_spread (hr.mono (by decide)) (by rfl) (pa_cons (pv 0) (pa_cons (pv 2) (pa_cons (pv 4) pa_nil)))) pa_nil))))))))), ?_⟩
    walk_at "rds"
    refine fun D nD => ?_
    walk_at "rds"
    refine fun Ed nE => ?_
    have s0 : Same H (upd (upd H D (.dT [])) Ed (.dK [])) := same_trans (same_upd nD) (same_upd nE)
    have hDE : D ≠ Ed := ne_of_none upd_same nE
    have d0 : upd (upd H D (.dT [])) Ed (.dK []) D = some (.dT (encF 0 [])) := (upd_ne hDE).trans upd_same
    have e0 : upd (upd H D (.dT [])) Ed (.dK []) Ed = some (.dK []) := upd_same
    have nE' := same_none (same_upd nD) nE
    generalize upd (upd H D (.dT [])) Ed (.dK []) = H0 at s0 d0 e0 ⊢
    walk_at "rds"
    refine rd_cut (fun σ' H' => ∃ (Tr : List (Nat × Nat)) (ends : List Nat) (kvs : List (Key × V)) (y5 y6 y7 : Option V), σ' = [some (.str (tx l)), some (.ref b), some (.ref D), some (.ref Ed), some (.int ((Tr.length + 1 : Nat) : Int)), y5, y6, y7] ∧ Trie Tr ends ns ∧ Same H H' ∧ H' D = some (.dT (encF 0 Tr)) ∧ H' Ed = some (.dK kvs) ∧ (∀ s : Nat, (valV kvs (Sum.inl ((s : Nat) : Int))).isSome = true ↔ s ∈ ends) ∧ Tr.length ≤ 900) ?_ ?_
    rotate_left
    · rintro σ' H1 ⟨Tr, ends, kvs, y5, y6, y7, rfl, tr, s1, d1, e1, hk, hlen⟩
      walk_at "rds"
      refine ⟨_, rfl, by omega, by omega, fun L nL => lc_range (lo := 0) (n := (((Tr.length + 1 : Nat) : Int) + 1).toNat) (fun i H' => Same H1 H' ∧ H' L = some (.lst (bools i fun s => (valV kvs (Sum.inl ((s : Nat) : Int))).isSome))) ⟨same_upd nL, upd_same⟩ ?_ ?_⟩
      · rintro i H2 hi ⟨s2, e2⟩
        rw [show (((Tr.length + 1 : Nat) : Int) + 1).toNat = Tr.length + 2 by omega] at hi
        walk_at "rds"
        refine ⟨rfl, ?_⟩
        walk_at "rds"
        refine rd_ite (fun _ => ?_) (fun h => by cases h)
        walk_at "rds"
        rw [show (0 : Int) + (i : Nat) = ((i : Nat) : Int) by omega]
        refine ⟨Ed, _, rfl, .k (k := Sum.inl ((i : Nat) : Int)) (s2 _ _ e1), ?_⟩
        refine ⟨_, e2, by rw [bools_len]; exact small1000 (by omega), same_mut s2 nL, ?_⟩
        rw [upd_same, bools_snoc]
      rintro H2 ⟨s2, e2⟩
      rw [show (((Tr.length + 1 : Nat) : Int) + 1).toNat = Tr.length + 2 by omega] at e2
      have hc : ∀ (a c : Nat), l[a]? = some c → l.getD a 0 = c := fun a c h => by
        rw [List.getD_eq_getElem?_getD, h]
        rfl
      have hin : ∀ (s a j : Nat), Tr[j]? = some (s, l.getD a 0) → goF Tr l s a = j + 1 := fun s a j h => by
        unfold goF
        rw [encF_at tr.nd h]
        show (((0 + j + 1 : Nat) : Int)).toNat = _
        omega
      have hout : ∀ (s a : Nat), (s, l.getD a 0) ∉ Tr → goF Tr l s a = Tr.length + 1 := fun s a h => by
        unfold goF
        rw [encF_none h]
        show (((Tr.length + 1 : Nat) : Int)).toNat = _
        omega
      walk_at "rds"
      refine ⟨l, D, encF 0 Tr, Tr.length + 1, goF Tr l, rfl, s2 _ _ d1, fun s hs a c h => ?_, by omega, hm, fun ws p H3 s3 e3 h3 => ?_⟩
      · rw [show [Sum.inl ((s : Nat) : Int), Sum.inr (tx [c])] = keyT (s, l.getD a 0) by rw [hc a c h]; rfl]
        by_cases g : (s, l.getD a 0) ∈ Tr
        · obtain ⟨j, hj⟩ := List.mem_iff_getElem?.mp g
          rw [hin s a j hj, encF_at tr.nd hj, show 0 + j + 1 = j + 1 by omega]
          rfl
        · rw [hout s a g, encF_none g]
          rfl
      have hcl : Closed (Tr.length + 2) l.length (goF Tr l) := fun s hs a ha => by
        by_cases g : (s, l.getD a 0) ∈ Tr
        · obtain ⟨j, hj⟩ := List.mem_iff_getElem?.mp g
          rw [hin s a j hj]
          have := (List.getElem?_eq_some_iff.mp hj).1
          omega
        · rw [hout s a g]
          omega
      walk_at "rds"
      refine ⟨L, p, Tr.length + 2, l.length, fun s => (valV kvs (Sum.inl ((s : Nat) : Int))).isSome, goF Tr l, rfl, ⟨_, _, ws, s3 _ _ e2, e3, fun s hs => ⟨bools_get hs, refs_get hs, h3 s (by omega)⟩⟩, hcl, by omega, by omega, hm, fun k lab' t p' H4 M s4 tab => ?_⟩
      refine q k lab' t p' H4 ⟨M.k0, by have := M.kn; omega, M.cl, M.num, M.least, fun w hw => ?_⟩ (same_trans s1 (same_trans s2 (same_trans s3 s4))) tab
      rw [M.run w hw]
      have hs := tr.says (l := l) (to := goF Tr l) (fun s hs a c h => ⟨fun j hj => hin s a j (by rw [hc a c h]; exact hj), fun g => hout s a (by rw [hc a c h]; exact g)⟩) (fun a ha => hout _ a fun g => by
        have := tr.par _ g
        simp at this
        omega) hw
      by_cases g : runW (goF Tr l) 0 w ∈ ends
      · rw [decide_eq_true (hs.mp g)]
        exact (hk _).mpr g
      · rw [decide_eq_false fun z => g (hs.mpr z)]
        cases z : (valV kvs (Sum.inl ((runW (goF Tr l) 0 w : Nat) : Int))).isSome with
        | false => rfl
        | true => exact absurd ((hk _).mp z) g
    walk_at "rds"
    refine ⟨b, rfl, ⟨_, SqL.of (s0 _ _ eb)⟩, for_it walk_list (fun i σ' H' => ∃ (Tr : List (Nat × Nat)) (ends : List Nat) (kvs : List (Key × V)) (y5 y6 y7 : Option V), σ' = [some (.str (tx l)), some (.ref b), some (.ref D), some (.ref Ed), some (.int ((Tr.length + 1 : Nat) : Int)), y5, y6, y7] ∧ Trie Tr ends (ns.take i) ∧ Same H H' ∧ H' D = some (.dT (encF 0 Tr)) ∧ H' Ed = some (.dK kvs) ∧ (∀ s : Nat, (valV kvs (Sum.inl ((s : Nat) : Int))).isSome = true ↔ s ∈ ends) ∧ Tr.length ≤ ((ns.take i).map List.length).sum ∧ kvs.length ≤ i)
      ⟨[], [], [], _, _, _, rfl, Trie.start, s0, d0, e0, fun s => ⟨(fun h => by cases h), (fun h => by cases h)⟩, Nat.zero_le _, Nat.zero_le _⟩ (fun i σ' H' _ h => by
        obtain ⟨_, _, _, _, _, _, _, _, s, _⟩ := h
        exact SqL.of (s _ _ eb)) ?_ ?_⟩
    rotate_left
    · rintro σ' H1 ⟨Tr, ends, kvs, y5, y6, y7, rfl, tr, s1, d1, e1, hk, hlen, _⟩
      rw [List.length_map, List.take_length] at tr hlen
      exact ⟨Tr, ends, kvs, _, _, _, rfl, tr, s1, d1, e1, hk, by omega⟩
    clear d0 e0 s0
    rintro i x σ' H1 H2 hi ⟨Tr, ends, kvs, y5, y6, y7, rfl, tr, s1, d1, e1, hk, hlen, hkl⟩ ⟨rfl, hx⟩
    rw [List.length_map] at hi
    rw [List.getElem?_map] at hx
    obtain ⟨n, hn, rfl⟩ : ∃ n, ns[i]? = some n ∧ V.str (tx n) = x := by
      cases e : ns[i]? with
      | none => rw [e] at hx; cases hx
      | some n => rw [e] at hx; exact ⟨n, rfl, Option.some.inj hx⟩
    have hi' : i < ns.length := (List.getElem?_eq_some_iff.mp hn).1
    have htake : ns.take (i + 1) = ns.take i ++ [n] := by
      rw [List.take_add_one, hn]
      rfl
    have hsn : ((ns.take i).map List.length).sum + n.length ≤ 900 := by
      have h1 : ((ns.take (i + 1)).map List.length).sum = ((ns.take i).map List.length).sum + n.length := by
        rw [htake]
        simp
      have h2 : (ns.map List.length).sum = ((ns.take (i + 1)).map List.length).sum + ((ns.drop (i + 1)).map List.length).sum := by
        rw [← List.sum_append_nat, ← List.map_append, List.take_append_drop]
      omega
    walk_at "rds"
    refine rd_cut (fun σ' H' => ∃ (Tr : List (Nat × Nat)) (s : Nat) (y7 : Option V), σ' = [some (.str (tx l)), some (.ref b), some (.ref D), some (.ref Ed), some (.int ((Tr.length + 1 : Nat) : Int)), some (.str (tx n)), some (.int ((s : Nat) : Int)), y7] ∧ Trie Tr ends (ns.take i) ∧ Path Tr s n ∧ Same H H' ∧ H' D = some (.dT (encF 0 Tr)) ∧ H' Ed = some (.dK kvs) ∧ Tr.length ≤ ((ns.take i).map List.length).sum + n.length) ?_ ?_
    rotate_left
    · rintro σ' H3 ⟨Tr, s, y7, rfl, tr, hp, s3, d3, e3, hlen⟩
      walk_at "rds"
      refine ⟨Ed, _, rfl, .k (k := Sum.inl ((s : Nat) : Int)) e3 (small1000 (by omega)), ?_⟩
      refine ⟨Tr, ends ++ [s], _, _, _, _, rfl, ?_, same_mut s3 nE', (upd_ne hDE).trans d3, upd_same, fun x => ?_, ?_, ?_⟩
      · rw [htake]
        exact tr.done hp fun x => by rw [List.mem_append, List.mem_singleton]
      · rw [valV_put, List.mem_append, List.mem_singleton]
        by_cases e : x = s
        · subst e
          rw [if_pos rfl]
          exact ⟨fun _ => .inr rfl, fun _ => rfl⟩
        · rw [if_neg (key_ne e), hk]
          exact ⟨.inl, fun h => h.resolve_right e⟩
      · rw [htake]
        simp only [List.map_append, List.map_cons, List.map_nil, List.sum_append_nat, List.sum_cons, List.sum_nil]
        omega
      · have := length_putK kvs (Sum.inl ((s : Nat) : Int)) (V.bl true)
        omega
    walk_at "rds"
    refine for_text (l := n) (fun j σ' H' => ∃ (Tr : List (Nat × Nat)) (s : Nat) (y7 : Option V), σ' = [some (.str (tx l)), some (.ref b), some (.ref D), some (.ref Ed), some (.int ((Tr.length + 1 : Nat) : Int)), some (.str (tx n)), some (.int ((s : Nat) : Int)), y7] ∧ Trie Tr ends (ns.take i) ∧ Path Tr s (n.take j) ∧ Same H H' ∧ H' D = some (.dT (encF 0 Tr)) ∧ H' Ed = some (.dK kvs) ∧ Tr.length ≤ ((ns.take i).map List.length).sum + j)
      ⟨Tr, 0, _, rfl, tr, Path.nil, s1, d1, e1, hlen⟩ ?_ ?_
    rotate_left
    · rintro σ' H3 ⟨Tr, s, y7, rfl, tr, hp, rest⟩
      rw [List.take_length] at hp
      exact ⟨Tr, s, _, rfl, tr, hp, rest⟩
    clear tr s1 d1 e1 hlen Tr
    rintro j c σ' H3 hj ⟨Tr, s, y7, rfl, tr, hp, s3, d3, e3, hlen⟩
    have hjn : j < n.length := (List.getElem?_eq_some_iff.mp hj).1
    have hps := hp.lt
    have htj : n.take (j + 1) = n.take j ++ [c] := by
      rw [List.take_add_one, hj]
      rfl
    walk_at "rds"
    refine ⟨by show 2 ≤ sizeLine; decide, fun p0 n0 => ?_⟩
    have s4 : Same H3 (upd H3 p0 (.tup [.int ((s : Nat) : Int), .str (tx [c])])) := same_upd n0
    have k4 : upd H3 p0 (.tup [.int ((s : Nat) : Int), .str (tx [c])]) p0 = some (.tup ((keyT (s, c)).map kV)) := upd_same
    generalize upd H3 p0 (.tup [.int ((s : Nat) : Int), .str (tx [c])]) = H4 at s4 k4 ⊢
    have d4 := s4 _ _ d3
    have e4 := s4 _ _ e3
    have s04 := same_trans s3 s4
    walk_at "rds"
    refine ⟨D, _, rfl, .t (k := keyT (s, c)) d4 k4, ?_⟩
    refine ⟨_, rfl, ?_⟩
    by_cases hin : (s, c) ∈ Tr
    · obtain ⟨j', hj'⟩ := List.mem_iff_getElem?.mp hin
      have hval := encF_at (i := 0) tr.nd hj'
      rw [show 0 + j' + 1 = j' + 1 by omega] at hval
      rw [hval]
      refine rd_ite (fun h => by simp at h) (fun _ => ?_)
      walk_at "rds"
      refine ⟨by show 2 ≤ sizeLine; decide, fun p1 n1 => ?_⟩
      walk_at "rds"
      refine ⟨D, .int ((j' + 1 : Nat) : Int), rfl, by rw [← hval]; exact .t (k := keyT (s, c)) (same_upd n1 _ _ d4) upd_same, ?_⟩
      refine ⟨Tr, j' + 1, _, rfl, tr, by rw [htj]; exact .snoc hp hj', same_trans s04 (same_upd n1), same_upd n1 _ _ d4, same_upd n1 _ _ e4, by omega⟩
    · rw [encF_none hin]
      refine rd_ite (fun _ => ?_) (fun h => by simp at h)
      walk_at "rds"
      refine ⟨by show 2 ≤ sizeLine; decide, fun p2 n2 => ?_⟩
      have s5 : Same H4 (upd H4 p2 (.tup [.int ((s : Nat) : Int), .str (tx [c])])) := same_upd n2
      have k5 : upd H4 p2 (.tup [.int ((s : Nat) : Int), .str (tx [c])]) p2 = some (.tup ((keyT (s, c)).map kV)) := upd_same
      generalize upd H4 p2 (.tup [.int ((s : Nat) : Int), .str (tx [c])]) = H5 at s5 k5 ⊢
      have d5 := s5 _ _ d4
      have e5 := s5 _ _ e4
      have s05 := same_trans s04 s5
      refine ⟨D, _, rfl, .t (k := keyT (s, c)) d5 k5 (by rw [encF_len]; exact small1000 (by omega)), ?_⟩
      rw [encF_put hin]
      have d6 : upd H5 D (.dT (encF 0 (Tr ++ [(s, c)]))) D = some (.dT (encF 0 (Tr ++ [(s, c)]))) := upd_same
      have e6 := (upd_ne (o := .dT (encF 0 (Tr ++ [(s, c)]))) hDE.symm).trans e5
      have s6 : Same H (upd H5 D (.dT (encF 0 (Tr ++ [(s, c)])))) := same_mut s05 nD
      generalize upd H5 D (.dT (encF 0 (Tr ++ [(s, c)]))) = H6 at d6 e6 s6 ⊢
      have tr' := tr.grow hin hps
      have hlast : (Tr ++ [(s, c)])[Tr.length]? = some (s, c) := by simp
      have hval := encF_at (i := 0) tr'.nd hlast
      rw [show 0 + Tr.length + 1 = Tr.length + 1 by omega] at hval
      walk_at "rds"
      refine ⟨by show 2 ≤ sizeLine; decide, fun p1 n1 => ?_⟩
      walk_at "rds"
      refine ⟨D, .int ((Tr.length + 1 : Nat) : Int), rfl, by rw [← hval]; exact .t (k := keyT (s, c)) (same_upd n1 _ _ d6) upd_same, ?_⟩
      refine ⟨Tr ++ [(s, c)], Tr.length + 1, some (.str (tx [c])), ?_, tr', by rw [htj]; exact hp.last (x := (s, c)), same_trans s6 (same_upd n1), same_upd n1 _ _ d6, same_upd n1 _ _ e6, by rw [List.length_append]; show Tr.length + 1 ≤ _; omega⟩
      rw [List.length_append]
      rfl
end
section
variable {P : Program} {w : World} {K : PySem.W.Frag} {mg : Str → Option Value} {base : Heap}
theorem rowC_zero (c : Nat) (h : 1 ≤ c) : ∀ a, rowC (fun _ => 0) c a = c
  | 0 => rfl
  | a + 1 => by
    show (if rowC (fun _ => 0) c a ≤ 0 then _ else _) = _
    rw [rowC_zero c h a, if_neg (by omega)]
theorem good_const (m : Nat) (b : Bool) : Good m 1 (fun _ => b) (fun _ _ => 0) fun _ => b :=
  ⟨Nat.le_refl _, by decide, fun _ _ _ _ => Nat.one_pos, ⟨fun i hi => by
    rw [show i = 0 by omega]
    exact Nat.one_pos, fun _ _ _ _ => Nat.zero_le _, rowC_zero 1 (Nat.le_refl _) m⟩, fun i hi j hj _ => by omega, fun _ _ => rfl⟩
def spConst : Sp := fun vs H Q _ => ∃ (l : List Nat) (b : Bool), vs = [.str (tx l), .bl b] ∧ l.length ≤ 10 ∧
  ∀ (p : Addr) (H' : Hp), Same H H' → TabAt H' p 1 l.length (fun _ => b) (fun _ _ => 0) → Q (.ref p) H'
theorem cl_const (T : Txt K mg) : Cl P w K mg base "_constant" ["letters", "is_in"] 1 spConst := cl_of T.a__constant fun f fd F => by
  refine F.ok sc__constant (fun vs H Q E h => ?_) (fun cdv A outer s H vs Q E hr h => ?_)
  · obtain ⟨l, b, rfl, _⟩ := h
    rfl
  · obtain ⟨l, b, rfl, hl, q⟩ := h
    refine ⟨_, (pss_one (ps_ret (pe_tup (pa_cons (pe_tup (pa_cons (pv 1) (pa_cons (pe_tupleOf (by rfl) T.m_tuple (pe_lc (own := [("_", 2)]) (g := gName 2) (tt := tYes) (by rfl) sc__constant.nd (pi_str (pv 0)) (blkOk_by (own := [("_", 2)]) (N := n__constant) (sc := defScope s__constant) (by decide +kernel)) (fun _ _ _ _ _ => (pg_name (i := 2) sc__constant.nd rfl (by first | exact Or.inl rfl | exact Or.inr rfl))) (fun _ _ _ _ _ => pts_nil) (fun _ _ _ _ _ => pe_int))) pa_nil))) pa_nil)))), ?_⟩
    walk_at "rds"
    refine fun L nL => lc_text (fun j H' => Same H H' ∧ H' L = some (.lst (nats j fun _ => 0))) ⟨same_upd nL, upd_same⟩ (fun j c H2 hj h2 => ?_) (fun H2 h2 => ?_)
    · obtain ⟨s2, e2⟩ := h2
      have hjl : j < l.length := (List.getElem?_eq_some_iff.mp hj).1
      walk_at "rds"
      refine ⟨rfl, ?_⟩
      walk_at "rds"
      refine rd_ite (fun _ => ?_) (fun h => by cases h)
      walk_at "rds"
      refine ⟨_, e2, by rw [nats_len]; exact small1000 (by omega), same_mut s2 nL, ?_⟩
      rw [upd_same, nats_snoc]
      rfl
    obtain ⟨s2, e2⟩ := h2
    refine rd_kTup e2 fun T2 nT2 => ?_
    have s3 := same_trans s2 (same_upd (o := .tup (nats l.length fun _ => 0)) nT2)
    have e3 : upd H2 T2 (.tup (nats l.length fun _ => 0)) T2 = some (.tup (nats l.length fun _ => 0)) := upd_same
    generalize upd H2 T2 (.tup (nats l.length fun _ => 0)) = H3 at s3 e3 ⊢
    walk_at "rds"
    refine ⟨by show 2 ≤ sizeLine; decide, fun T1 nT1 => ?_⟩
    have s4 : Same H3 (upd H3 T1 (.tup [.bl b, .ref T2])) := same_upd nT1
    have e4 : upd H3 T1 (.tup [.bl b, .ref T2]) T1 = some (.tup [.bl b, .ref T2]) := upd_same
    generalize upd H3 T1 (.tup [.bl b, .ref T2]) = H4 at s4 e4 ⊢
    walk_at "rds"
    refine ⟨by show 1 ≤ sizeLine; decide, fun T0 nT0 => ?_⟩
    have s5 : Same H4 (upd H4 T0 (.tup [.ref T1])) := same_upd nT0
    exact q T0 _ (same_trans s3 (same_trans s4 s5)) ⟨fun _ => T1, fun _ => T2, upd_same, fun s hs => ⟨s5 _ _ e4, s5 _ _ (s4 _ _ e3)⟩⟩
def spBehind : Sp := fun vs H Q _ => ∃ (l : List Nat) (p : Addr) (n : Nat) (lab : Nat → Bool) (to : Nat → Nat → Nat) (s : Nat) (ws : List Nat), vs = [.str (tx l), .ref p, .int ((s : Nat) : Int), .str (tx (ws.map fun a => l.getD a 0))] ∧ TabAt H p n l.length lab to ∧ Closed n l.length to ∧ s < n ∧ l.Nodup ∧ (∀ a ∈ ws, a < l.length) ∧ l.length ≤ 10 ∧
  Q (.int ((runW to s ws : Nat) : Int)) H
theorem cl_behind (T : Txt K mg) : Cl P w K mg base "state_behind" ["letters", "table", "state", "text"] 1 spBehind := cl_of T.a_state_behind fun f fd F => by
  refine F.ok sc_state_behind (fun vs H Q E h => ?_) (fun cdv A outer s H vs Q E hr h => ?_)
  · obtain ⟨l, p, n, lab, to, s, ws, rfl, _⟩ := h
    rfl
  · obtain ⟨l, p, n, lab, to, s, ws, rfl, ⟨rs, vs, et, er⟩, hc, hs, nd, hw, hl, q⟩ := h
    refine ⟨_, (Evl.pss_cut (ps_for PassesOwn.never rfl (pi_str (pv 3)) (pg_name (i := 4) sc_state_behind.nd rfl (Or.inl rfl))
      (pss_one (ps_set (i := 2) sc_state_behind.nd rfl (Or.inl rfl) (pe_ix (ix_tupK (K := K) (by rfl)) (pe_ix (ix_tupK (K := K) (by rfl)) (pe_ix (ix_tupK (K := K) (by rfl)) (pv 1) (pv 2) (fun _ _ => rfl)) pe_int (fun _ _ => rfl)) (pe_bm PySem.F.plainAttrs_str PySem.F.slot_str_index PySem.F.type_str_index mt_indexT (pv 0) (pa_cons (pv 4) pa_nil)) (fun _ _ => rfl)))))
      (pss_one (ps_ret (pv 2)))), ?_⟩
    walk_at "rds"
    have hlt : ∀ j, runW to s (ws.take j) < n := fun j => by
      have go : ∀ (u : List Nat) (x : Nat), x < n → (∀ a ∈ u, a < l.length) → runW to x u < n := fun u => by
        induction u with
        | nil => exact fun x hx _ => hx
        | cons a u ih => exact fun x hx hu => ih (to x a) (hc x hx a (hu a List.mem_cons_self)) fun b hb => hu b (List.mem_cons_of_mem _ hb)
      exact go _ s hs fun a ha => hw a (List.mem_of_mem_take ha)
    refine rd_cut (fun σ' H' => (∃ y4, σ' = [some (.str (tx l)), some (.ref p), some (.int ((runW to s ws : Nat) : Int)), some (.str (tx (ws.map fun a => l.getD a 0))), y4]) ∧ H' = H) ?_ ?_
    rotate_left
    · rintro σ' H1 ⟨⟨y4, rfl⟩, rfl⟩
      walk_at "rds"
      exact q
    walk_at "rds"
    refine for_text (l := ws.map fun a => l.getD a 0) (fun j σ' H' => (∃ y4, σ' = [some (.str (tx l)), some (.ref p), some (.int ((runW to s (ws.take j) : Nat) : Int)), some (.str (tx (ws.map fun a => l.getD a 0))), y4]) ∧ H' = H) ⟨⟨none, rfl⟩, rfl⟩ ?_ ?_
    rotate_left
    · rintro σ' H1 ⟨⟨y4, rfl⟩, rfl⟩
      rw [List.length_map, List.take_length]
      exact ⟨⟨_, rfl⟩, rfl⟩
    rintro j c σ' H1 hj ⟨⟨y4, rfl⟩, rfl⟩
    rw [List.getElem?_map] at hj
    obtain ⟨a, ha, rfl⟩ : ∃ a, ws[j]? = some a ∧ l.getD a 0 = c := by
      cases e : ws[j]? with
      | none => rw [e] at hj; cases hj
      | some a => rw [e] at hj; exact ⟨a, rfl, Option.some.inj hj⟩
    have hal := hw a (List.mem_of_getElem? ha)
    have hla : l[a]? = some (l.getD a 0) := by
      rw [List.getD_eq_getElem?_getD, List.getElem?_eq_getElem hal]
      rfl
    walk_at "rds"
    refine rd_ixT (SqT.of et) (atI_nat (refs_get (hlt j))) ?_
    walk_at "rds"
    refine rd_ixT (SqT.of (er _ (hlt j)).1) (show atI [V.bl (lab (runW to s (ws.take j))), V.ref (vs (runW to s (ws.take j)))] ((1 : Nat) : Int) = some (.ref (vs (runW to s (ws.take j)))) from atI_nat rfl) ?_
    walk_at "rds"
    refine rd_indexX nd hla ?_
    walk_at "rds"
    refine rd_ixT (SqT.of (er _ (hlt j)).2) (atI_nat (nats_get hal)) ?_
    refine ⟨⟨some (.str (tx [l.getD a 0])), ?_⟩, rfl⟩
    rw [List.take_add_one, ha, runW_app]
    rfl
end
section
variable {P : Program} {w : World} {K : PySem.W.Frag} {mg : Str → Option Value} {base : Heap}
theorem sz_of' {n : Nat} (h : n ≤ 1000) : n ≤ sizeLine := Nat.le_of_lt (small1000 h)
def spShared : Sp := fun vs H Q _ => ∃ u t : List Nat, vs = [.str (tx u), .str (tx t)] ∧ u ≠ [] ∧ u.length ≤ 100 ∧ t.length ≤ 100 ∧ ∀ H' : Hp, Same H H' → Q (.int (follows (per u) t 0 : Nat)) H'
theorem per_ix {u : List Nat} (h : u ≠ []) (i : Nat) : u[i % u.length]? = some (per u i) := by
  rw [per_get (Nat.mod_lt _ (List.length_pos_iff.mpr h)), per_mod]
theorem cl_shared (T : Txt K mg) : Cl P w K mg base "shared" ["word", "name"] 1 spShared := cl_of T.a_shared fun f fd F => by
  refine F.ok sc_shared (fun vs H Q E h => ?_) (fun cdv A outer s H vs Q E hr h => ?_)
  · obtain ⟨u, k, rfl, _⟩ := h
    rfl
  · obtain ⟨u, t, rfl, hu, hul, htl, q⟩ := h
    have hpos : 0 < u.length := List.length_pos_iff.mpr hu
    refine ⟨_, (Evl.pss_cut (ps_for PassesOwn.never rfl (pi_enumX (by rfl) T.m_enumerate (pa_cons (pv 1) pa_nil)) (pg_tup rfl (pgs_cons (pg_name (i := 2) sc_shared.nd rfl (Or.inl rfl)) (pgs_cons (pg_name (i := 3) sc_shared.nd rfl (Or.inl rfl)) pgs_nil)))
      (pss_one (ps_if (pt_cmpR op_ne (pv 3) (pe_ix ix_strX (pv 0) (pe_op op_mod (pv 2) (pe_callB call_lenX (by rfl) T.m_len (by decide +kernel) (pa_cons (pv 0) pa_nil))) (fun _ _ => rfl)) (nomark _))
      (pss_one (ps_ret (pv 2)))
      pss_nil)))
      (pss_one (ps_ret (pe_callB call_lenX (by rfl) T.m_len (by decide +kernel) (pa_cons (pv 1) pa_nil))))), ?_⟩
    refine rd_cut (fun σ' H' => Same H H' ∧ (∀ m d, m < t.length → t[m]? = some d → d = per u m) ∧ ∃ y z, σ' = [some (.str (tx u)), some (.str (tx t)), y, z]) ?_ ?_
    · walk_at "rds"
      refine ⟨t, rfl, for_enumX (l := t) (fun i σ' H' => Same H H' ∧ (∀ m d, m < i → t[m]? = some d → d = per u m) ∧ ∃ y z, σ' = [some (.str (tx u)), some (.str (tx t)), y, z]) ⟨same_refl H, (fun m d h => by omega), none, none, rfl⟩ ?_ (fun _ _ h => h)⟩
      rintro i c σ' H' Tp hc ⟨sH, hb, y, z, rfl⟩ nT
      have hi : i < t.length := (List.getElem?_eq_some_iff.mp hc).1
      have s2 : Same H (upd H' Tp (.tup [.int (i : Nat), .str (tx [c])])) := same_trans sH (same_upd nT)
      refine rd_gtup (SqT.of upd_same) rfl ?_
      walk_at "rds"
      refine rd_lenX (sz_of' (by omega)) ?_
      walk_at "rds"
      refine rd_I (by omega) ?_
      rw [← Int.natCast_emod]
      refine rd_ixX (sz_of' (by omega)) (atI_nat (per_ix hu i)) ?_
      walk_at "rds"
      refine rd_ite (fun he => ?_) (fun he => ?_)
      · have hn : c ≠ per u i := fun e => by
          rw [e] at he
          simp at he
        walk_at "rds"
        have e := follows_stop (per u) t 0 i c (fun m d hm hd => by rw [Nat.zero_add]; exact hb m d hm hd) hc (by rw [Nat.zero_add]; exact hn)
        have q' := q _ s2
        rw [e] at q'
        exact q'
      · have hn : c = per u i := by
          simp at he
          have := tx_inj he
          injection this
        refine ⟨s2, fun m d hm hd => ?_, _, _, rfl⟩
        rcases Nat.lt_or_eq_of_le (Nat.le_of_lt_succ hm) with g | g
        · exact hb m d g hd
        · subst g
          rw [hc] at hd
          rw [← Option.some.inj hd]
          exact hn
    · rintro σ' H' ⟨sH, hb, y, z, rfl⟩
      walk_at "rds"
      refine rd_lenX (sz_of' (by omega)) ?_
      have e := follows_all (per u) t 0 (fun m d hm hd => by rw [Nat.zero_add]; exact hb m d hm hd)
      have q' := q _ sH
      rw [e] at q'
      exact q'
end
section
variable {P : Program} {w : World} {K : PySem.W.Frag} {mg : Str → Option Value} {base : Heap}
theorem follows_is (f : Nat → Nat) : ∀ (t : List Nat) (i j : Nat), j < follows f t i → t[j]? = some (f (i + j))
  | [], _, _, h => by simp [follows] at h
  | c :: r, i, j, h => by
    unfold follows at h
    split at h
    · rename_i e
      cases j with
      | zero => rw [e]; rfl
      | succ j =>
        rw [List.getElem?_cons_succ, follows_is f r (i + 1) j (by omega), show i + 1 + j = i + (j + 1) by omega]
    · omega
theorem follows_off (f : Nat → Nat) : ∀ (t : List Nat) (i c : Nat), t[follows f t i]? = some c → c ≠ f (i + follows f t i)
  | [], _, _, h => by simp [follows] at h
  | a :: r, i, c, h => by
    unfold follows at h ⊢
    split at h
    · rename_i e
      rw [if_pos e]
      rw [List.getElem?_cons_succ] at h
      have := follows_off f r (i + 1) c h
      rw [show i + (follows f r (i + 1) + 1) = i + 1 + follows f r (i + 1) by omega]
      exact this
    · rename_i e
      rw [if_neg e]
      simp only [List.getElem?_cons_zero, Option.some.injEq] at h
      rw [← h]
      exact e
def famNext (turn size s : Nat) : Nat := if s + 1 < size then s + 1 else turn
/-- the state that the tail's j-th letter leaves -/
def famAt (turn L j : Nat) : Nat := if j = 0 then turn else turn + L + j - 1
structure FamKv (u : List Nat) (turn : Nat) (d : List Nat) (j : Nat) (kvs : List (List Key × V)) : Prop where
  len : kvs.length ≤ turn + u.length + j
  h1 : ∀ s < turn + u.length, valV kvs (keyT (s, per u s)) = some (.int ((famNext turn (turn + u.length) s : Nat) : Int))
  h2 : ∀ i < j, ∀ c, d[i]? = some c → valV kvs (keyT (famAt turn u.length i, c)) = some (.int ((turn + u.length + i : Nat) : Int))
  h3 : ∀ s c, ¬ (s < turn + u.length ∧ c = per u s) → (∀ i < j, d[i]? = some c → s ≠ famAt turn u.length i) → valV kvs (keyT (s, c)) = none
theorem FamKv.push {u d : List Nat} {turn j c : Nat} {kvs : List (List Key × V)} (F : FamKv u turn d j kvs) (hU : 1 ≤ u.length) (hoff : ∀ c, d[0]? = some c → c ≠ per u turn) (hj : d[j]? = some c) :
    FamKv u turn d (j + 1) (putK kvs (keyT (famAt turn u.length j, c)) (.int ((turn + u.length + j : Nat) : Int))) := by
  refine ⟨?_, fun s hs => ?_, fun i hi e he => ?_, fun s e h1 h2 => ?_⟩
  · have := length_putK kvs (keyT (famAt turn u.length j, c)) (V.int ((turn + u.length + j : Nat) : Int))
    have := F.len
    omega
  · rw [valV_put, if_neg (fun z => by
      have z' := keyT_inj z
      have e1 : s = famAt turn u.length j := congrArg Prod.fst z'
      have e2 : per u s = c := congrArg Prod.snd z'
      unfold famAt at e1
      split at e1
      · rename_i g
        subst g
        exact hoff c hj (by rw [← e2, e1])
      · omega)]
    exact F.h1 s hs
  · rw [valV_put]
    by_cases g : i = j
    · subst g
      rw [hj] at he
      rw [← Option.some.inj he, if_pos rfl]
    · rw [if_neg (fun z => by
        have e1 : famAt turn u.length i = famAt turn u.length j := congrArg Prod.fst (keyT_inj z)
        unfold famAt at e1
        split at e1 <;> split at e1 <;> omega)]
      exact F.h2 i (by omega) e he
  · rw [valV_put, if_neg (fun z => by
      have z' := keyT_inj z
      have e1 : s = famAt turn u.length j := congrArg Prod.fst z'
      have e2 : e = c := congrArg Prod.snd z'
      exact h2 j (by omega) (by rw [e2]; exact hj) e1)]
    exact F.h3 s e h1 fun i hi => h2 i (by omega)
theorem cut_from {l : List Nat} {k : Nat} (h : k ≤ l.length) : cutL l (some ((k : Nat) : Int)) none = l.drop k := by
  unfold cutL
  rw [HT.sIx_none, HT.sIx_nat, Nat.min_eq_left h]
  exact List.take_of_length_le (by rw [List.length_drop]; exact Nat.le_refl _)
def goK (kvs : List (List Key × V)) (N s c : Nat) : Nat :=
  match (valV kvs (keyT (s, c))).getD (.int ((N : Nat) : Int)) with
  | .int i => i.toNat
  | _ => 0
theorem goK_some {kvs : List (List Key × V)} {N s c v : Nat} (h : valV kvs (keyT (s, c)) = some (.int ((v : Nat) : Int))) : goK kvs N s c = v := by
  unfold goK
  rw [h]
  show (((v : Nat) : Int)).toNat = v
  omega
theorem goK_none {kvs : List (List Key × V)} {N s c : Nat} (h : valV kvs (keyT (s, c)) = none) : goK kvs N s c = N := by
  unfold goK
  rw [h]
  show (((N : Nat) : Int)).toNat = N
  omega
theorem FamKv.fam {u d : List Nat} {turn : Nat} {kvs : List (List Key × V)} (F : FamKv u turn d d.length kvs) (hU : 1 ≤ u.length) (hoff : ∀ c, d[0]? = some c → c ≠ per u turn) : Fam (per u) turn u.length d (goK kvs (turn + u.length + d.length)) :=
  ⟨hU, per_add_len u, hoff, fun i hi => goK_some (F.h1 i hi), fun i c h => goK_some (F.h2 i (List.getElem?_eq_some_iff.mp h).1 c h), fun s c h1 h2 => goK_none (F.h3 s c h1 fun i _ h => h2 i h)⟩
theorem FamKv.val {u d : List Nat} {turn : Nat} {kvs : List (List Key × V)} (F : FamKv u turn d d.length kvs) (s c : Nat) : (∃ v : Nat, valV kvs (keyT (s, c)) = some (.int ((v : Nat) : Int)) ∧ v ≤ turn + u.length + d.length) ∨ valV kvs (keyT (s, c)) = none := by
  by_cases h1 : s < turn + u.length ∧ c = per u s
  · rw [h1.2]
    refine .inl ⟨_, F.h1 s h1.1, ?_⟩
    unfold famNext
    split <;> omega
  · by_cases h2 : ∃ i, i < d.length ∧ d[i]? = some c ∧ s = famAt turn u.length i
    · obtain ⟨i, hi, hc, rfl⟩ := h2
      exact .inl ⟨_, F.h2 i hi c hc, by omega⟩
    · exact .inr (F.h3 s c h1 fun i hi hc e => h2 ⟨i, hi, hc, e⟩)
theorem runC_of {kvs : List (List Key × V)} {N : Nat} {l : List Nat} : ∀ (w : List Nat) {s : Nat}, runW (fun s a => goK kvs N s (l.getD a 0)) s w = runC (goK kvs N) s (w.map fun a => l.getD a 0)
  | [], _ => rfl
  | a :: w, s => runC_of w
def spFam : Sp := fun vs H Q _ => ∃ (l u r : List Nat) (cnt : Nat), vs = [.str (tx l), .str (tx u), .str (tx r), .int ((cnt : Nat) : Int)] ∧ l.Nodup ∧ l.length ≤ 10 ∧ u ≠ [] ∧ u.length ≤ 100 ∧ r.length ≤ 100 ∧ (∀ c ∈ u, c ∈ l) ∧ (∀ c ∈ r, c ∈ l) ∧ cnt ≤ 6 ∧
  ∀ (k : Nat) (lab : Nat → Bool) (t : Nat → Nat → Nat) (p : Addr) (H' : Hp) (says : List Nat → Bool), (∀ w : List Nat, says w = true ↔ FamW (per u) (cnt * u.length + follows (per u) r 0) u.length (r.drop (follows (per u) r 0)) (w.map fun a => l.getD a 0)) → Good l.length k lab t says → Same H H' → TabAt H' p k l.length lab t → Q (.ref p) H'
set_option maxHeartbeats 4000000 in
theorem cl_fam (T : Txt K mg) : Cl P w K mg base "table_of_family" ["letters", "word", "rest", "count"] 4 spFam := cl_of T.a_table_of_family fun f fd F => by
  have C_spread := cl_spread (P := P) (w := w) (base := base) T
  have C_least_table := cl_least (P := P) (w := w) (base := base) T
  have C_shared := cl_shared (P := P) (w := w) (base := base) T
  refine F.ok sc_table_of_family (fun vs H Q E h => ?_) (fun cdv A outer s H vs Q E hr h => ?_)
  · obtain ⟨l, u, r, cnt, rfl, _⟩ := h
    rfl
  · obtain ⟨l, u, r, cnt, rfl, hl, hm, hu, hul, hrl, hcu, hcr, hcnt, q⟩ := h
    refine ⟨_, (pss_cons (ps_set (i := 4) sc_table_of_family.nd rfl (Or.inl rfl) (pe_cl C_shared (hr.mono (by decide)) (by rfl) (pa_cons (pv 1) (pa_cons (pv 2) pa_nil))))
      (pss_cons (ps_set (i := 5) sc_table_of_family.nd rfl (Or.inl rfl) (pe_op op_add (pe_op op_mulW (pv 3) (pe_callB call_lenX (by rfl) T.m_len (by decide +kernel) (pa_cons (pv 1) pa_nil))) (pv 4)))
      (pss_cons (ps_set (i := 6) sc_table_of_family.nd rfl (Or.inl rfl) (pe_op op_add (pv 5) (pe_callB call_lenX (by rfl) T.m_len (by decide +kernel) (pa_cons (pv 1) pa_nil))))
      (pss_cons (ps_set (i := 7) sc_table_of_family.nd rfl (Or.inl rfl) pe_dnewT)
      (Evl.pss_cut (ps_for PassesOwn.never rfl (pi_range1 (by rfl) T.m_range (pa_cons (pv 6) pa_nil)) (pg_name (i := 8) sc_table_of_family.nd rfl (Or.inl rfl))
      (pss_one (ps_dput (by exact hu_of hr) (pv 7) (pe_tup (pa_cons (pv 8) (pa_cons (pe_ix ix_strX (pv 1) (pe_op op_mod (pv 8) (pe_callB call_lenX (by rfl) T.m_len (by decide +kernel) (pa_cons (pv 1) pa_nil))) (fun _ _ => rfl)) pa_nil))) (pe_ifExp (pt_cmpR op_lt (pe_op op_add (pv 8) pe_int) (pv 6) (nomark _)) (pe_op op_add (pv 8) pe_int) (pv 5)) rfl)))
      (pss_cons (ps_set (i := 9) sc_table_of_family.nd rfl (Or.inr rfl) (pv 5))
      (pss_cons (ps_set (i := 10) sc_table_of_family.nd rfl (Or.inl rfl) (pv 6))
      (Evl.pss_cut (ps_for PassesOwn.never rfl (pi_str (pe_slice sl_strX (pv 2) (po_some (pv 4)) po_none)) (pg_name (i := 11) sc_table_of_family.nd rfl (Or.inl rfl))
      (pss_cons (ps_dput (by exact hu_of hr) (pv 7) (pe_tup (pa_cons (pv 9) (pa_cons (pv 11) pa_nil))) (pv 10) rfl)
      (pss_cons (ps_set (i := 9) sc_table_of_family.nd rfl (Or.inr rfl) (pv 10))
      (pss_one (ps_aug (i := 10) sc_table_of_family.nd rfl (Or.inl rfl) pe_int ip_add)))))
      (pss_one (ps_ret (pe_cl C_least_table (hr.mono (by decide)) (by rfl) (pa_cons (pe_lc (own := [("state", 12)]) (g := gName 12) (tt := tYes) (by rfl) sc_table_of_family.nd (pi_range1 (by rfl) T.m_range (pa_cons (pe_op op_add (pv 10) pe_int) pa_nil)) (blkOk_by (own := [("state", 12)]) (N := n_table_of_family) (sc := defScope s_table_of_family) (by decide +kernel)) (fun _ _ _ _ _ => (pg_name (i := 12) sc_table_of_family.nd rfl (by first | exact Or.inl rfl | exact Or.inr rfl))) (fun _ _ _ _ _ => pts_nil) (fun _ _ _ _ _ => (pe_cmpR op_eq (pv 12) (pv 9) (nomark _)))) (pa_cons (pe_cl C_spread (hr.mono (by decide)) (by rfl) (pa_cons (pv 0) (pa_cons (pv 7) (pa_cons (pv 10) pa_nil)))) pa_nil))))))))))))), ?_⟩
    walk_at "rds"
    refine ⟨u, r, rfl, hu, hul, hrl, fun H1 s1 => ?_⟩
    have hA1 := follows_le (per u) r 0
    have hA2 := follows_is (per u) r 0
    have hA3 := follows_off (per u) r 0
    have hU : 1 ≤ u.length := List.length_pos_iff.mpr hu
    generalize follows (per u) r 0 = A at hA1 hA2 hA3 q ⊢
    have hcu6 : cnt * u.length ≤ 600 := Nat.le_trans (Nat.mul_le_mul_right _ hcnt) (by omega)
    walk_at "rds"
    refine rd_lenX (sz_of' (by omega)) ?_
    refine rd_I (mulW_of (by omega) (by omega)) ?_
    walk_at "rds"
    refine rd_lenX (sz_of' (by omega)) ?_
    walk_at "rds"
    rw [show ((cnt : Nat) : Int) * ((u.length : Nat) : Int) + ((A : Nat) : Int) = ((cnt * u.length + A : Nat) : Int) by rw [Int.natCast_add, Int.natCast_mul]]
    generalize hturn : cnt * u.length + A = turn at q ⊢
    rw [show ((turn : Nat) : Int) + ((u.length : Nat) : Int) = ((turn + u.length : Nat) : Int) by omega]
    refine fun D nD => ?_
    have s2 : Same H (upd H1 D (.dT [])) := same_trans s1 (same_upd nD)
    have d2 : upd H1 D (.dT []) D = some (.dT []) := upd_same
    have nD' := same_none s1 nD
    generalize upd H1 D (.dT []) = H2 at s2 d2 ⊢
    clear s1 nD
    walk_at "rds"
    refine rd_cut (fun σ' H' => (∃ y8, σ' = [some (.str (tx l)), some (.str (tx u)), some (.str (tx r)), some (.int ((cnt : Nat) : Int)), some (.int ((A : Nat) : Int)), some (.int ((turn : Nat) : Int)), some (.int ((turn + u.length : Nat) : Int)), some (.ref D), y8, none, none, none, none]) ∧ Same H H' ∧ ∃ kvs, H' D = some (.dT kvs) ∧ kvs.length ≤ turn + u.length ∧ (∀ s < turn + u.length, valV kvs (keyT (s, per u s)) = some (.int ((famNext turn (turn + u.length) s : Nat) : Int))) ∧ ∀ s c, ¬ (s < turn + u.length ∧ c = per u s) → valV kvs (keyT (s, c)) = none) ?_ ?_
    · walk_at "rds"
      refine ⟨((turn + u.length : Nat) : Int), rfl, by omega, by omega, for_range (lo := 0) (n := ((turn + u.length : Nat) : Int).toNat) (fun i σ' H' => (∃ y8, σ' = [some (.str (tx l)), some (.str (tx u)), some (.str (tx r)), some (.int ((cnt : Nat) : Int)), some (.int ((A : Nat) : Int)), some (.int ((turn : Nat) : Int)), some (.int ((turn + u.length : Nat) : Int)), some (.ref D), y8, none, none, none, none]) ∧ Same H H' ∧ ∃ kvs, H' D = some (.dT kvs) ∧ kvs.length ≤ i ∧ (∀ s < i, valV kvs (keyT (s, per u s)) = some (.int ((famNext turn (turn + u.length) s : Nat) : Int))) ∧ ∀ s c, ¬ (s < i ∧ c = per u s) → valV kvs (keyT (s, c)) = none)
        ⟨⟨none, rfl⟩, s2, [], d2, Nat.le_refl _, fun s h => absurd h (by omega), fun _ _ _ => rfl⟩ ?_ ?_⟩
      rotate_left
      · rintro σ' H3 ⟨hσ, s3, kvs, d3, hk, h1, h2⟩
        rw [Int.toNat_natCast] at hk h1 h2
        exact ⟨hσ, s3, kvs, d3, hk, h1, h2⟩
      rintro i σ' H3 hi ⟨⟨y8, rfl⟩, s3, kvs, d3, hk, h1, h2⟩
      rw [Int.toNat_natCast] at hi
      walk_at "rds"
      simp only [Int.zero_add]
      have fin : ∀ p0 : Addr, H3 p0 = none → (∃ y8, [some (V.str (tx l)), some (.str (tx u)), some (.str (tx r)), some (.int ((cnt : Nat) : Int)), some (.int ((A : Nat) : Int)), some (.int ((turn : Nat) : Int)), some (.int ((turn + u.length : Nat) : Int)), some (.ref D), some (.int ((i : Nat) : Int)), none, none, none, none] = [some (.str (tx l)), some (.str (tx u)), some (.str (tx r)), some (.int ((cnt : Nat) : Int)), some (.int ((A : Nat) : Int)), some (.int ((turn : Nat) : Int)), some (.int ((turn + u.length : Nat) : Int)), some (.ref D), y8, none, none, none, none]) ∧
          Same H (upd (upd H3 p0 (.tup [.int ((i : Nat) : Int), .str (tx [per u i])])) D (.dT (putK kvs (keyT (i, per u i)) (.int ((famNext turn (turn + u.length) i : Nat) : Int))))) ∧ ∃ kvs', upd (upd H3 p0 (.tup [.int ((i : Nat) : Int), .str (tx [per u i])])) D (.dT (putK kvs (keyT (i, per u i)) (.int ((famNext turn (turn + u.length) i : Nat) : Int)))) D = some (.dT kvs') ∧ kvs'.length ≤ i + 1 ∧ (∀ s < i + 1, valV kvs' (keyT (s, per u s)) = some (.int ((famNext turn (turn + u.length) s : Nat) : Int))) ∧ ∀ s c, ¬ (s < i + 1 ∧ c = per u s) → valV kvs' (keyT (s, c)) = none := fun p0 n0 => by
        refine ⟨⟨_, rfl⟩, same_mut (same_trans s3 (same_upd n0)) nD', _, upd_same, ?_, fun s hs => ?_, fun s c h => ?_⟩
        · have := length_putK kvs (keyT (i, per u i)) (V.int ((famNext turn (turn + u.length) i : Nat) : Int))
          omega
        · rw [valV_put]
          by_cases e : s = i
          · subst e
            rw [if_pos rfl]
          · rw [if_neg (fun z => e (congrArg Prod.fst (keyT_inj z)))]
            exact h1 s (by omega)
        · rw [valV_put, if_neg (fun z => by
            have z' := keyT_inj z
            have e1 : s = i := congrArg Prod.fst z'
            have e2 : c = per u i := congrArg Prod.snd z'
            exact h ⟨by omega, by rw [e2, e1]⟩)]
          exact h2 s c fun z => h ⟨by omega, z.2⟩
      refine rd_ite (fun hb => ?_) (fun hb => ?_)
      · have e : ((i : Nat) : Int) + 1 = ((famNext turn (turn + u.length) i : Nat) : Int) := by
          have := of_decide_eq_true hb
          unfold famNext
          rw [if_pos (by omega)]
          omega
        walk_at "rds"
        refine rd_lenX (sz_of' (by omega)) ?_
        refine rd_I (by omega) ?_
        rw [← Int.natCast_emod]
        refine rd_ixX (sz_of' (by omega)) (atI_nat (per_ix hu i)) ?_
        walk_at "rds"
        refine ⟨by show 2 ≤ sizeLine; decide, fun p0 n0 => ?_⟩
        rw [e]
        refine ⟨D, _, rfl, .t (k := keyT (i, per u i)) ((upd_ne (ne_of_none d3 n0)).trans d3) upd_same (small1000 (by omega)), ?_⟩
        exact fin p0 n0
      · have e : ((turn : Nat) : Int) = ((famNext turn (turn + u.length) i : Nat) : Int) := by
          have := of_decide_eq_false hb
          unfold famNext
          rw [if_neg (by omega)]
        walk_at "rds"
        refine rd_lenX (sz_of' (by omega)) ?_
        refine rd_I (by omega) ?_
        rw [← Int.natCast_emod]
        refine rd_ixX (sz_of' (by omega)) (atI_nat (per_ix hu i)) ?_
        walk_at "rds"
        refine ⟨by show 2 ≤ sizeLine; decide, fun p0 n0 => ?_⟩
        refine ⟨D, _, rfl, .t (k := keyT (i, per u i)) (v := .int ((turn : Nat) : Int)) ((upd_ne (ne_of_none d3 n0)).trans d3) upd_same (small1000 (by omega)), ?_⟩
        have := fin p0 n0
        rw [← e] at this
        exact this
    rintro σ' H3 ⟨⟨y8, rfl⟩, s3, kvs, d3, hk, h1, h2⟩
    clear s2 d2
    have hoff : ∀ c, (r.drop A)[0]? = some c → c ≠ per u turn := fun c h => by
      rw [List.getElem?_drop, Nat.add_zero] at h
      have := hA3 c h
      rw [Nat.zero_add] at this
      rw [← hturn, Nat.add_comm, Nat.mul_comm, per_add_mul]
      exact this
    have hcut : cutL r (some ((A : Nat) : Int)) none = r.drop A := cut_from hA1
    have hdl : (r.drop A).length ≤ 100 := by
      rw [List.length_drop]
      omega
    generalize r.drop A = d at hoff hcut hdl q
    walk_at "rds"
    refine rd_cut (fun σ' H' => (∃ y8 y11, σ' = [some (.str (tx l)), some (.str (tx u)), some (.str (tx r)), some (.int ((cnt : Nat) : Int)), some (.int ((A : Nat) : Int)), some (.int ((turn : Nat) : Int)), some (.int ((turn + u.length : Nat) : Int)), some (.ref D), y8, some (.int ((famAt turn u.length d.length : Nat) : Int)), some (.int ((turn + u.length + d.length : Nat) : Int)), y11, none]) ∧ Same H H' ∧ ∃ kvs, H' D = some (.dT kvs) ∧ FamKv u turn d d.length kvs) ?_ ?_
    rotate_left
    · rintro σ' H4 ⟨⟨y8, y11, rfl⟩, s4, kvs, d4, K4⟩
      have hF := K4.fam hU hoff
      have hval := K4.val
      have hN : turn + u.length + d.length ≤ 900 := by omega
      generalize hNN : turn + u.length + d.length = N at hF hval hN ⊢
      walk_at "rds"
      refine ⟨_, rfl, by omega, by omega, fun L nL => lc_range (lo := 0) (n := (((N : Nat) : Int) + 1).toNat) (fun i H' => Same H4 H' ∧ H' L = some (.lst (bools i fun s => decide (s = famAt turn u.length d.length)))) ⟨same_upd nL, upd_same⟩ ?_ ?_⟩
      · rintro i H5 hi ⟨s5, e5⟩
        rw [show (((N : Nat) : Int) + 1).toNat = N + 1 by omega] at hi
        walk_at "rds"
        refine ⟨rfl, ?_⟩
        walk_at "rds"
        refine rd_ite (fun _ => ?_) (fun h => by cases h)
        walk_at "rds"
        refine ⟨_, e5, by rw [bools_len]; exact small1000 (by omega), same_mut s5 nL, ?_⟩
        rw [upd_same, bools_snoc]
        congr 4
        refine congrArg V.bl (decide_eq_decide.mpr ?_)
        simp only [V.int.injEq]
        omega
      rintro H5 ⟨s5, e5⟩
      rw [show (((N : Nat) : Int) + 1).toNat = N + 1 by omega] at e5
      have hc : ∀ (a c : Nat), l[a]? = some c → l.getD a 0 = c := fun a c h => by
        rw [List.getD_eq_getElem?_getD, h]
        rfl
      walk_at "rds"
      refine ⟨l, D, kvs, N, fun s a => goK kvs N s (l.getD a 0), rfl, s5 _ _ d4, fun s hs a c h => ?_, by omega, hm, fun ws p H6 s6 e6 h6 => ?_⟩
      · rw [show [Sum.inl ((s : Nat) : Int), Sum.inr (tx [c])] = keyT (s, l.getD a 0) by rw [hc a c h]; rfl]
        show _ = V.int ((goK kvs N s (l.getD a 0) : Nat) : Int)
        rcases hval s (l.getD a 0) with ⟨v, hv, _⟩ | hv
        · rw [goK_some hv, hv]
          rfl
        · rw [goK_none hv, hv]
          rfl
      have hcl : Closed (N + 1) l.length (fun s a => goK kvs N s (l.getD a 0)) := fun s hs a ha => by
        show goK kvs N s (l.getD a 0) < N + 1
        rcases hval s (l.getD a 0) with ⟨v, hv, hv2⟩ | hv
        · rw [goK_some hv]
          omega
        · rw [goK_none hv]
          omega
      walk_at "rds"
      refine ⟨L, p, N + 1, l.length, fun s => decide (s = famAt turn u.length d.length), fun s a => goK kvs N s (l.getD a 0), rfl, ⟨_, _, ws, s6 _ _ e5, e6, fun s hs => ⟨bools_get hs, refs_get hs, h6 s (by omega)⟩⟩, hcl, by omega, by omega, hm, fun k lab' t p' H7 M s7 tab => ?_⟩
      refine q k lab' t p' H7 (fun w => decide (runC (goK kvs N) 0 (w.map fun a => l.getD a 0) = famAt turn u.length d.length)) (fun w => ?_) ⟨M.k0, by have := M.kn; omega, M.cl, M.num, M.least, fun w hw => ?_⟩ (same_trans s4 (same_trans s5 (same_trans s6 s7))) tab
      · rw [decide_eq_true_iff, ← hF.takes]
        rw [show famAt turn u.length d.length = if d = [] then turn else turn + u.length + d.length - 1 by
          unfold famAt
          by_cases z : d = []
          · rw [if_pos z, if_pos (by rw [z]; rfl)]
          · rw [if_neg z, if_neg (fun h => z (List.length_eq_zero_iff.mp h))]]
      · rw [M.run w hw, runC_of]
    walk_at "rds"
    refine rd_slX (sz_of' (by omega)) ?_
    rw [hcut]
    refine ⟨tx d, rfl, ?_⟩
    refine for_text (l := d) (fun j σ' H' => (∃ y8 y11, σ' = [some (.str (tx l)), some (.str (tx u)), some (.str (tx r)), some (.int ((cnt : Nat) : Int)), some (.int ((A : Nat) : Int)), some (.int ((turn : Nat) : Int)), some (.int ((turn + u.length : Nat) : Int)), some (.ref D), y8, some (.int ((famAt turn u.length j : Nat) : Int)), some (.int ((turn + u.length + j : Nat) : Int)), y11, none]) ∧ Same H H' ∧ ∃ kvs, H' D = some (.dT kvs) ∧ FamKv u turn d j kvs)
      ⟨⟨_, none, rfl⟩, s3, kvs, d3, hk, h1, fun i h => absurd h (by omega), fun s c h _ => h2 s c h⟩ ?_ ?_
    rotate_left
    · exact fun _ _ h => h
    clear h1 h2 hk s3 d3
    rintro j c σ' H4 hj ⟨⟨y8, y11, rfl⟩, s4, kvs, d4, K4⟩
    have hjd : j < d.length := (List.getElem?_eq_some_iff.mp hj).1
    have hkl := K4.len
    walk_at "rds"
    refine ⟨by show 2 ≤ sizeLine; decide, fun p0 n0 => ?_⟩
    refine ⟨D, _, rfl, .t (k := keyT (famAt turn u.length j, c)) ((upd_ne (ne_of_none d4 n0)).trans d4) upd_same (small1000 (by omega)), ?_⟩
    walk_at "rds"
    refine ⟨⟨y8, some (.str (tx [c])), ?_⟩, same_mut (same_trans s4 (same_upd n0)) nD', _, upd_same, K4.push hU hoff hj⟩
    rw [show famAt turn u.length (j + 1) = turn + u.length + j by unfold famAt; rw [if_neg (by omega)]; omega]
    rfl
end
section
variable {P : Program} {w : World} {K : PySem.W.Frag} {mg : Str → Option Value} {base : Heap}
def consB (cs u : List Nat) : Bool := u.all fun c => decide (c ∈ cs)
def spCons : Sp := fun vs H Q _ => ∃ cs u : List Nat, vs = [.str (tx cs), .str (tx u)] ∧ u.length ≤ 1000 ∧ ∀ H', Same H H' → Q (.bl (consB cs u)) H'
theorem cl_cons (T : Txt K mg) : Cl P w K mg base "_consists_of" ["characters", "text"] 1 spCons := cl_of T.a__consists_of fun f fd F => by
  refine F.ok sc__consists_of (fun vs H Q E h => ?_) (fun cdv A outer s H vs Q E hr h => ?_)
  · obtain ⟨cs, u, rfl, _⟩ := h
    rfl
  · obtain ⟨cs, u, rfl, hl, q⟩ := h
    refine ⟨_, (pss_one (ps_ret (pe_callB (cr_all rfl) (by rfl) T.m_all (by decide +kernel) (pa_cons (pe_lc (own := [("character", 2)]) (g := gName 2) (tt := tYes) (by rfl) sc__consists_of.nd (pi_str (pv 1)) (blkOk_by (own := [("character", 2)]) (N := n__consists_of) (sc := defScope s__consists_of) (by decide +kernel)) (fun _ _ _ _ _ => (pg_name (i := 2) sc__consists_of.nd rfl (by first | exact Or.inl rfl | exact Or.inr rfl))) (fun _ _ _ _ _ => pts_nil) (fun _ _ _ _ _ => (pe_cmpR op_inX (pv 2) (pv 0) (by rfl)))) pa_nil)))), ?_⟩
    walk_at "rds"
    refine fun e ne => lc_text (l := u) (fun i H' => Same H H' ∧ H' e = some (.lst (((u.take i).map fun c => decide (c ∈ cs)).map V.bl))) ⟨same_upd ne, upd_same⟩ ?_ ?_
    · rintro i c H' hc ⟨sH, he⟩
      have hi : i < u.length := (List.getElem?_eq_some_iff.mp hc).1
      walk_at "rds"
      refine ⟨rfl, ?_⟩
      walk_at "rds"
      refine rd_ite (fun _ => ?_) (fun h => by cases h)
      walk_at "rds"
      refine ⟨_, he, by rw [List.length_map, List.length_map, List.length_take]; exact small1000 (by omega), same_mut sH ne, ?_⟩
      rw [upd_same, take_snoc _ hc, List.map_append]
      rfl
    · rintro H' ⟨sH, he⟩
      rw [List.take_length] at he
      walk_at "rds"
      refine rd_all (SqL.of he) ?_
      have e1 : (u.map fun c => decide (c ∈ cs)).all id = consB cs u := by unfold consB; rw [List.all_map]; rfl
      rw [e1]
      exact q _ sH
def NotStr (K : PySem.W.Frag) (H : Hp) (x : V) : Prop := (∃ t, TyX K H x t ∧ PySem.W.kitOne K t (.type "str") = some false) ∧ ∀ z, x ≠ .str z
def TxtOr (K : PySem.W.Frag) (H : Hp) (x : V) : Prop := (∃ u, x = .str (tx u) ∧ u.length ≤ 1000) ∨ NotStr K H x
def isTxtB (ls : List Nat) : V → Bool
  | .str z => consB ls z.cps.toList
  | _ => false
theorem isTxt_not {ls : List Nat} {x : V} (h : ∀ z, x ≠ .str z) : isTxtB ls x = false := by
  cases x with
  | str z => exact (h z rfl).elim
  | _ => rfl
def spIsTxt (K : PySem.W.Frag) : Sp := fun vs H Q _ => ∃ (ls : List Nat) (x : V), vs = [.str (tx ls), x] ∧ TxtOr K H x ∧ ∀ H', Same H H' → Q (.bl (isTxtB ls x)) H'
theorem cl_is_text (T : Txt K mg) : Cl P w K mg base "is_text" ["letters", "value"] 2 (spIsTxt K) := cl_of T.a_is_text fun f fd F => by
  have C__consists_of := cl_cons (P := P) (w := w) (base := base) T
  refine F.ok sc_is_text (fun vs H Q E h => ?_) (fun cdv A outer s H vs Q E hr h => ?_)
  · obtain ⟨ls, x, rfl, _⟩ := h
    rfl
  · obtain ⟨ls, x, rfl, hx, q⟩ := h
    refine ⟨_, (pss_one (ps_ret (pe_and (pe_callB call_isi (by rfl) T.m_isinstance (by decide +kernel) (pa_cons (pv 1) (pa_cons (pe_bltn (v := .ty "str") (by rfl) T.m_str (by decide +kernel) rfl) pa_nil))) (pe_one (pe_cl C__consists_of (hr.mono (by decide)) (by rfl) (pa_cons (pv 0) (pa_cons (pv 1) pa_nil))))))), ?_⟩
    walk_at "rds"
    rcases hx with ⟨u, rfl, hl⟩ | ⟨⟨t, ty, k⟩, hn⟩
    · refine rd_isi (b := true) (.base (.str _)) (kit_ty (by decide +kernel)) ?_
      walk_at "rds"
      refine rd_ite (fun _ => ?_) (fun h => by cases h)
      walk_at "rds"
      exact ⟨ls, u, rfl, hl, q⟩
    · rw [isTxt_not hn] at q
      refine rd_isi ty k ?_
      walk_at "rds"
      refine rd_ite (fun h => by cases h) (fun _ => ?_)
      exact q _ (same_refl _)
end
section
variable {P : Program} {w : World} {K : PySem.W.Frag} {mg : Str → Option Value} {base : Heap}
theorem walk_enumX {l : List Nat} : Walk (ItEX (tx l)) l.length (fun _ => True) (YPair (fun i => some (.int (i : Nat))) fun i => l[i]?.map fun c => V.str (tx [c])) := by
  have hsz : (tx l).cps.size = l.length := by simp [tx]
  refine ⟨fun i H hi _ => show i < (tx l).cps.size by rw [hsz]; exact hi, fun H _ => show l.length = (tx l).cps.size from hsz.symm, fun i H x H' hi _ y => ?_⟩
  obtain ⟨T, c, rfl, hT, hc, rfl⟩ := y
  refine ⟨T, _, _, rfl, hT, rfl, rfl, ?_⟩
  show l[i]?.map (fun c => V.str (tx [c])) = _
  rw [show l[i]? = some c by simpa [tx] using hc]
  rfl
/-- the steps of a word -/
def along (u : List Nat) (i : Nat) : List (Nat × Nat) := (List.range i).map fun j => (j, u.getD j 0)
theorem along_len (u : List Nat) (i : Nat) : (along u i).length = i := by simp [along]
theorem along_snoc (u : List Nat) (i : Nat) : along u (i + 1) = along u i ++ [(i, u.getD i 0)] := by
  unfold along
  rw [List.range_succ, List.map_append]
  rfl
theorem along_mem {u : List Nat} {i : Nat} {x : Nat × Nat} : x ∈ along u i ↔ x.1 < i ∧ x.2 = u.getD x.1 0 := by
  unfold along
  rw [List.mem_map]
  constructor
  · rintro ⟨j, hj, rfl⟩
    exact ⟨List.mem_range.mp hj, rfl⟩
  · rintro ⟨h1, h2⟩
    exact ⟨x.1, List.mem_range.mpr h1, Prod.ext rfl h2.symm⟩
theorem along_nodup (u : List Nat) (i : Nat) : (along u i).Nodup := by
  induction i with
  | zero => exact List.nodup_nil
  | succ i ih =>
    rw [along_snoc]
    refine List.nodup_append.mpr ⟨ih, by simp, fun a ha b hb => ?_⟩
    rw [List.mem_singleton.mp hb]
    rintro rfl
    exact absurd (along_mem.mp ha).1 (Nat.lt_irrefl _)
theorem along_get {u : List Nat} {i j : Nat} (h : j < i) : (along u i)[j]? = some (j, u.getD j 0) := by simp [along, h]
def frontTo (U n : Nat) (ws : List Nat) (to : Nat → Nat → Nat) (s a : Nat) : Nat := if s < U then (if a = ws.getD s 0 then s + 1 else U + n) else if s < U + n then U + to (s - U) a else U + n
def frontLab (U n : Nat) (lab : Nat → Bool) (s : Nat) : Bool := if s < U then false else if s < U + n then lab (s - U) else false
theorem front_of {n m : Nat} {ws : List Nat} {lab : Nat → Bool} {to : Nat → Nat → Nat} (n0 : 0 < n) (cl : Closed n m to) : Front n m ws (frontLab ws.length n lab) lab (frontTo ws.length n ws to) to where
  n0 := n0
  cl := cl
  f1 := fun s b hb a ha => by
    have hs := (List.getElem?_eq_some_iff.mp hb).1
    unfold frontTo
    rw [if_pos hs, show ws.getD s 0 = b by rw [List.getD_eq_getElem?_getD, hb]; rfl]
  f2 := fun s hs a ha => by
    unfold frontTo
    rw [if_neg (by omega), if_pos (by omega), Nat.add_sub_cancel_left]
  f3 := fun a ha => by
    unfold frontTo
    rw [if_neg (by omega), if_neg (by omega)]
  l1 := fun s hs => if_pos hs
  l2 := fun s hs => by
    unfold frontLab
    rw [if_neg (by omega), if_pos (by omega), Nat.add_sub_cancel_left]
  l3 := by
    unfold frontLab
    rw [if_neg (by omega), if_neg (by omega)]
theorem front_closed {n m : Nat} {ws : List Nat} {to : Nat → Nat → Nat} (cl : Closed n m to) : Closed (ws.length + n + 1) m (frontTo ws.length n ws to) := fun s hs a ha => by
  unfold frontTo
  split
  · split <;> omega
  · split
    · have := cl (s - ws.length) (by omega) a ha
      omega
    · omega
def spFront : Sp := fun vs H Q _ => ∃ (l ws : List Nat) (p : Addr) (n : Nat) (lab : Nat → Bool) (to : Nat → Nat → Nat), vs = [.str (tx l), .str (tx (ws.map fun a => l.getD a 0)), .ref p] ∧ TabAt H p n l.length lab to ∧ Closed n l.length to ∧ 0 < n ∧ ws.length + n ≤ 900 ∧ l.Nodup ∧ l.length ≤ 10 ∧ (∀ a ∈ ws, a < l.length) ∧
  ∀ (k : Nat) (lab' : Nat → Bool) (t : Nat → Nat → Nat) (p' : Addr) (H' : Hp), Good l.length k lab' t (fun w => decide (w.take ws.length = ws) && lab (runW to 0 (w.drop ws.length))) → Same H H' → TabAt H' p' k l.length lab' t → Q (.ref p') H'
set_option maxHeartbeats 4000000 in
theorem cl_front (T : Txt K mg) : Cl P w K mg base "table_in_front" ["letters", "text", "table"] 4 spFront := cl_of T.a_table_in_front fun f fd F => by
  have C_least_table := cl_least (P := P) (w := w) (base := base) T
  refine F.ok sc_table_in_front (fun vs H Q E h => ?_) (fun cdv A outer s H vs Q E hr h => ?_)
  · obtain ⟨l, ws, p, n, lab, to, rfl, _⟩ := h
    rfl
  · obtain ⟨l, ws, p, n, lab, to, rfl, tab, hc, n0, hn, nd, hl, hw, q⟩ := h
    refine ⟨_, (pss_cons (ps_set (i := 3) sc_table_in_front.nd rfl (Or.inr rfl) (pe_callB call_lenX (by rfl) T.m_len (by decide +kernel) (pa_cons (pv 1) pa_nil)))
      (pss_cons (ps_set (i := 4) sc_table_in_front.nd rfl (Or.inr rfl) (pe_dcT (own := [("at", 8), ("letter", 9)]) (g := (gTup K 2 (gCons (gName 8) (gCons (gName 9) gNil)))) (tt := tYes) (by exact hu_of hr) (by rfl) sc_table_in_front.nd (pi_enumX (by rfl) T.m_enumerate (pa_cons (pv 1) pa_nil)) (blkOk_by (own := [("at", 8), ("letter", 9)]) (N := n_table_in_front) (sc := defScope s_table_in_front) (by decide +kernel)) (fun _ _ _ _ _ => by exact (pg_tup rfl (pgs_cons (pg_name (i := 8) sc_table_in_front.nd rfl (by first | exact Or.inl rfl | exact Or.inr rfl)) (pgs_cons (pg_name (i := 9) sc_table_in_front.nd rfl (by first | exact Or.inl rfl | exact Or.inr rfl)) pgs_nil)))) (fun _ _ _ _ _ => pts_nil) (fun _ _ _ _ _ => (pe_tup (pa_cons (pv 8) (pa_cons (pv 9) pa_nil)))) (fun _ _ _ _ _ => (pe_op op_add (pv 8) pe_int))))
      (pss_cons (ps_set (i := 5) sc_table_in_front.nd rfl (Or.inr rfl) (pe_op op_add (pv 3) (pe_callB (call_lenK (K := K) (by rfl)) (by rfl) T.m_len (by decide +kernel) (pa_cons (pv 2) pa_nil))))
      (pss_cons (ps_setLc (i := 6) (own := [("at", 8)]) (g := gName 8) (tt := tYes) (by rfl) sc_table_in_front.nd rfl rfl (sw_true rfl rfl rfl (by decide +kernel)) (pi_range1 (by rfl) T.m_range (pa_cons (pv 3) pa_nil)) (blkOk_by (own := [("at", 8)]) (N := n_table_in_front) (sc := defScope s_table_in_front) (by decide +kernel)) (fun _ _ _ _ _ => (pg_name (i := 8) sc_table_in_front.nd rfl (by first | exact Or.inl rfl | exact Or.inr rfl))) (fun _ _ _ _ _ => pts_nil) (fun _ _ _ _ _ => (pe_tupleOfK (K := K) (by rfl) (by rfl) T.m_tuple (by exact pe_lc (own := [("letter", 9)]) (g := gName 9) (tt := tYes) (by rfl) sc_table_in_front.nd (pi_str (pv 0)) (blkOk_by (own := [("letter", 9)]) (N := n_table_in_front) (sc := _) (by rfl)) (fun _ _ _ _ _ => (pg_name (i := 9) sc_table_in_front.nd rfl (by first | exact Or.inl rfl | exact Or.inr rfl))) (fun _ _ _ _ _ => pts_nil) (fun _ _ _ _ _ => (pe_dget2 (by exact hu_of hr) (pv 4) (pe_tup (pa_cons (pv 8) (pa_cons (pv 9) pa_nil))) (pv 5) ⟨rfl, rfl, rfl, rfl⟩))))))
      (pss_cons (ps_set (i := 7) sc_table_in_front.nd rfl (Or.inl rfl) (pe_op op_cat (pe_op op_cat (pv 6) (pe_lc (own := [("_", 10), ("way", 11)]) (g := (gTup K 2 (gCons (gName 10) (gCons (gName 11) gNil)))) (tt := tYes) (by rfl) sc_table_in_front.nd (pi_tup (pv 2)) (blkOk_by (own := [("_", 10), ("way", 11)]) (N := n_table_in_front) (sc := defScope s_table_in_front) (by decide +kernel)) (fun _ _ _ _ _ => by exact (pg_tup rfl (pgs_cons (pg_name (i := 10) sc_table_in_front.nd rfl (by first | exact Or.inl rfl | exact Or.inr rfl)) (pgs_cons (pg_name (i := 11) sc_table_in_front.nd rfl (by first | exact Or.inl rfl | exact Or.inr rfl)) pgs_nil)))) (fun _ _ _ _ _ => pts_nil) (fun _ _ _ _ _ => (pe_tupleOfK (K := K) (by rfl) (by rfl) T.m_tuple (by exact pe_lc (own := [("to", 13)]) (g := gName 13) (tt := tYes) (by rfl) sc_table_in_front.nd (pi_tupK (K := K) (by rfl) (pv 11)) (blkOk_by (own := [("to", 13)]) (N := n_table_in_front) (sc := _) (by rfl)) (fun _ _ _ _ _ => (pg_name (i := 13) sc_table_in_front.nd rfl (by first | exact Or.inl rfl | exact Or.inr rfl))) (fun _ _ _ _ _ => pts_nil) (fun _ _ _ _ _ => (pe_op op_add (pv 13) (pv 3)))))))) (pe_lst (pa_cons (pe_tupleOf (by rfl) T.m_tuple (pe_lc (own := [("_", 10)]) (g := gName 10) (tt := tYes) (by rfl) sc_table_in_front.nd (pi_str (pv 0)) (blkOk_by (own := [("_", 10)]) (N := n_table_in_front) (sc := defScope s_table_in_front) (by decide +kernel)) (fun _ _ _ _ _ => (pg_name (i := 10) sc_table_in_front.nd rfl (by first | exact Or.inl rfl | exact Or.inr rfl))) (fun _ _ _ _ _ => pts_nil) (fun _ _ _ _ _ => (pv 5)))) pa_nil))))
      (pss_one (ps_ret (pe_cl C_least_table (hr.mono (by decide)) (by rfl) (pa_cons (pe_op op_cat (pe_op op_cat (pe_lc (own := [("_", 10)]) (g := gName 10) (tt := tYes) (by rfl) sc_table_in_front.nd (pi_list (pv 6)) (blkOk_by (own := [("_", 10)]) (N := n_table_in_front) (sc := defScope s_table_in_front) (by decide +kernel)) (fun _ _ _ _ _ => (pg_name (i := 10) sc_table_in_front.nd rfl (by first | exact Or.inl rfl | exact Or.inr rfl))) (fun _ _ _ _ _ => pts_nil) (fun _ _ _ _ _ => pe_bl)) (pe_lc (own := [("is_in", 12), ("_", 10)]) (g := (gTup K 2 (gCons (gName 12) (gCons (gName 10) gNil)))) (tt := tYes) (by rfl) sc_table_in_front.nd (pi_tup (pv 2)) (blkOk_by (own := [("is_in", 12), ("_", 10)]) (N := n_table_in_front) (sc := defScope s_table_in_front) (by decide +kernel)) (fun _ _ _ _ _ => by exact (pg_tup rfl (pgs_cons (pg_name (i := 12) sc_table_in_front.nd rfl (by first | exact Or.inl rfl | exact Or.inr rfl)) (pgs_cons (pg_name (i := 10) sc_table_in_front.nd rfl (by first | exact Or.inl rfl | exact Or.inr rfl)) pgs_nil)))) (fun _ _ _ _ _ => pts_nil) (fun _ _ _ _ _ => (pv 12)))) (pe_lst (pa_cons pe_bl pa_nil))) (pa_cons (pv 7) pa_nil)))))))))), ?_⟩
    walk_at "rds"
    obtain ⟨rs, vs, et, er⟩ := tab
    have hU : (ws.map fun a => l.getD a 0).length = ws.length := List.length_map _
    have huw : ∀ s, s < ws.length → (ws.map fun a => l.getD a 0)[s]? = some (l.getD (ws.getD s 0) 0) := fun s hs => by
      rw [List.getElem?_map, show ws[s]? = some (ws.getD s 0) by rw [List.getD_eq_getElem?_getD, List.getElem?_eq_getElem hs]; rfl]
      rfl
    generalize (ws.map fun a => l.getD a 0) = u at hU huw ⊢
    have hug : ∀ s, s < ws.length → u.getD s 0 = l.getD (ws.getD s 0) 0 := fun s hs => by
      rw [List.getD_eq_getElem?_getD, huw s hs]
      rfl
    refine rd_lenX (by rw [hU]; exact sz_of' (by omega)) ?_
    rw [hU]
    walk_at "rds"
    refine ⟨u, rfl, fun D nD => dcT_it walk_enumX (fun i H' => Same H H' ∧ H' D = some (.dT (encF 0 (along u i)))) ⟨same_upd nD, upd_same⟩ (fun _ _ _ _ => trivial) ?_ ?_⟩
    · rintro i x H1 H2 hi ⟨s1, d1⟩ ⟨T0, x1, x2, rfl, nT, rfl, h1, h2⟩
      rw [hU] at hi
      cases h1
      have h2' : u[i]?.map (fun c => V.str (tx [c])) = some x2 := h2
      rw [show u[i]? = some (u.getD i 0) by rw [huw i hi, hug i hi]] at h2'
      cases h2'
      have s2 : Same H1 (upd H1 T0 (.tup [.int ((i : Nat) : Int), .str (tx [u.getD i 0])])) := same_upd nT
      refine rd_gtup (SqT.of upd_same) rfl ?_
      generalize upd H1 T0 (.tup [.int ((i : Nat) : Int), .str (tx [u.getD i 0])]) = H2 at s2 ⊢
      walk_at "rds"
      refine ⟨rfl, ?_⟩
      walk_at "rds"
      refine rd_ite (fun _ => ?_) (fun h => by cases h)
      walk_at "rds"
      refine ⟨by show 2 ≤ sizeLine; decide, fun p0 n0 => ?_⟩
      walk_at "rds"
      have e := encF_put (T := along u i) (x := (i, u.getD i 0)) fun h => Nat.lt_irrefl _ (along_mem.mp h).1
      rw [along_len] at e
      refine ⟨encF 0 (along u i), keyT (i, u.getD i 0), p0, rfl, upd_same, (upd_ne (ne_of_none (s2 _ _ d1) n0)).trans (s2 _ _ d1), by rw [encF_len, along_len]; exact small1000 (by omega), same_mut (same_trans s1 (same_trans s2 (same_upd n0))) nD, ?_⟩
      rw [upd_same, along_snoc, ← e]
      rfl
    rintro H1 ⟨s1, d1⟩
    rw [hU] at d1
    have et1 := s1 _ _ et
    walk_at "rds"
    refine rd_lenT (SqT.of et1) ?_
    rw [refs_len]
    walk_at "rds"
    rw [show ((ws.length : Nat) : Int) + ((n : Nat) : Int) = ((ws.length + n : Nat) : Int) by omega]
    generalize hTo : frontTo ws.length n ws to = go
    have hsteps : ∀ s < ws.length, ∀ (a c : Nat), l[a]? = some c → (valV (encF 0 (along u ws.length)) (keyT (s, c))).getD (.int ((ws.length + n : Nat) : Int)) = .int ((go s a : Nat) : Int) := fun s hs a c ha => by
      rw [← hTo]
      unfold frontTo
      rw [if_pos hs]
      have hal := (List.getElem?_eq_some_iff.mp ha).1
      have hwl := hw (ws.getD s 0) (by
        rw [List.getD_eq_getElem?_getD, List.getElem?_eq_getElem hs]
        exact List.getElem_mem hs)
      by_cases g : a = ws.getD s 0
      · rw [if_pos g, encF_at (x := (s, c)) (along_nodup u ws.length) (by rw [along_get hs, hug s hs, ← g, List.getD_eq_getElem?_getD, ha]; rfl), show 0 + s + 1 = s + 1 by omega]
        rfl
      · rw [if_neg g, encF_none fun h => g ?_]
        · rfl
        · have h2 : c = l.getD (ws.getD s 0) 0 := (along_mem.mp h).2.trans (hug s hs)
          refine (List.getElem?_inj hal nd).mp ?_
          rw [ha, h2, List.getD_eq_getElem?_getD, List.getElem?_eq_getElem hwl]
          rfl
    refine ⟨_, rfl, by omega, by omega, fun C nC => lc_range (lo := 0) (n := ((ws.length : Nat) : Int).toNat) (fun i H' => Same H1 H' ∧ ∃ cs : Nat → Addr, H' C = some (.lst (refs i cs)) ∧ ∀ s < i, H' (cs s) = some (.tup (nats l.length (go s)))) ⟨same_upd nC, fun _ => 0, upd_same, fun s h => absurd h (by omega)⟩ ?_ ?_⟩
    · rintro i H2 hi ⟨s2, cs, e2, h2⟩
      rw [Int.toNat_natCast] at hi
      walk_at "rds"
      refine ⟨rfl, ?_⟩
      walk_at "rds"
      refine rd_ite (fun _ => ?_) (fun h => by cases h)
      walk_at "rds"
      rw [show (0 : Int) + (i : Nat) = ((i : Nat) : Int) by omega]
      refine fun L2 nL2 => lc_text (fun j H' => Same H2 H' ∧ H' L2 = some (.lst (nats j (go i)))) ⟨same_upd nL2, upd_same⟩ (fun j c H3 hj h3 => ?_) (fun H3 h3 => ?_)
      · obtain ⟨s3, e3⟩ := h3
        have hjl : j < l.length := (List.getElem?_eq_some_iff.mp hj).1
        walk_at "rds"
        refine ⟨rfl, ?_⟩
        walk_at "rds"
        refine rd_ite (fun _ => ?_) (fun h => by cases h)
        walk_at "rds"
        have d3 := s3 _ _ (s2 _ _ d1)
        refine ⟨D, rfl, .inr ⟨_, .inl d3⟩, ?_⟩
        walk_at "rds"
        refine ⟨by show 2 ≤ sizeLine; decide, fun p0 n0 => ?_⟩
        walk_at "rds"
        refine ⟨_, .t (k := keyT (i, c)) (same_upd n0 _ _ d3) upd_same, ?_⟩
        rw [hsteps i hi j c hj]
        refine ⟨_, (upd_ne (ne_of_none e3 n0)).trans e3, by rw [nats_len]; exact small1000 (by omega), same_mut (same_trans s3 (same_upd n0)) nL2, ?_⟩
        rw [upd_same, nats_snoc]
      obtain ⟨s3, e3⟩ := h3
      refine rd_kTup e3 fun T2 nT2 => ?_
      have s23 := same_trans s3 (same_upd (o := .tup (nats l.length (go i))) nT2)
      have e23 : upd H3 T2 (.tup (nats l.length (go i))) T2 = some (.tup (nats l.length (go i))) := upd_same
      generalize upd H3 T2 (.tup (nats l.length (go i))) = H4 at s23 e23 ⊢
      have eC := s23 _ _ e2
      have nT : ∀ {b : Addr} {xs : List V}, H4 b = some (.tup xs) → b ≠ C := fun {b xs} h z => by
        rw [z, eC] at h
        cases h
      refine ⟨_, eC, by rw [refs_len]; exact small1000 (by omega), same_mut (same_trans s2 s23) nC, gset cs i T2, by rw [upd_same, refs_snoc, gset_same, refs_congr (f := gset cs i T2) (g := cs) fun j hj => gset_ne (by omega)], fun s hs => ?_⟩
      rcases Nat.lt_or_ge s i with h | h
      · rw [gset_ne (by omega)]
        have := s23 _ _ (h2 s h)
        exact (upd_ne (nT this)).trans this
      · rw [show s = i by omega, gset_same]
        exact (upd_ne (nT e23)).trans e23
    rintro H2 ⟨s2, cs, eC, hC⟩
    rw [Int.toNat_natCast] at eC hC
    walk_at "rds"
    have et2 := s2 _ _ et1
    refine ⟨p, rfl, ⟨_, SqT.of et2⟩, fun M nM => lc_it walk_tup (fun i H' => Same H2 H' ∧ ∃ ds : Nat → Addr, H' M = some (.lst (refs i ds)) ∧ ∀ s < i, H' (ds s) = some (.tup (nats l.length (go (ws.length + s))))) ⟨same_upd nM, fun _ => 0, upd_same, fun s h => absurd h (by omega)⟩ (fun i H' _ h => SqT.of (h.1 _ _ et2)) ?_ ?_⟩
    · rintro i x H3 H4 hi ⟨s3, ds, e3, h3⟩ ⟨rfl, hx⟩
      obtain ⟨hin, rfl⟩ := refs_at hx
      obtain ⟨r1, r2⟩ := er i hin
      refine rd_gtup (SqT.of (s3 _ _ (s2 _ _ (s1 _ _ r1)))) rfl ?_
      walk_at "rds"
      refine ⟨rfl, ?_⟩
      walk_at "rds"
      refine rd_ite (fun _ => ?_) (fun h => by cases h)
      walk_at "rds"
      have r2' := s3 _ _ (s2 _ _ (s1 _ _ r2))
      refine ⟨vs i, rfl, ⟨_, SqT.of r2'⟩, fun L nL => lc_it walk_tup (fun j H' => Same H4 H' ∧ H' L = some (.lst (nats j (go (ws.length + i))))) ⟨same_upd nL, upd_same⟩ (fun j H' _ h => SqT.of (h.1 _ _ r2')) ?_ ?_⟩
      · rintro j x H4 H5 hj ⟨s4, e4⟩ ⟨rfl, hx⟩
        obtain ⟨hjm, rfl⟩ := nats_at hx
        walk_at "rds"
        refine ⟨rfl, ?_⟩
        walk_at "rds"
        refine rd_ite (fun _ => ?_) (fun h => by cases h)
        walk_at "rds"
        refine ⟨_, e4, by rw [nats_len]; exact small1000 (by omega), same_mut s4 nL, ?_⟩
        rw [upd_same, nats_snoc]
        congr 4
        rw [← hTo]
        unfold frontTo
        rw [if_neg (by omega), if_pos (by omega), Nat.add_sub_cancel_left, Nat.add_comm]
        exact congrArg V.int (Int.natCast_add _ _).symm
      rintro H4 ⟨s4, e4⟩
      rw [nats_len] at e4
      refine rd_kTup e4 fun T2 nT2 => ?_
      have s34 := same_trans s4 (same_upd (o := .tup (nats l.length (go (ws.length + i)))) nT2)
      have e34 : upd H4 T2 (.tup (nats l.length (go (ws.length + i)))) T2 = some (.tup (nats l.length (go (ws.length + i)))) := upd_same
      generalize upd H4 T2 (.tup (nats l.length (go (ws.length + i)))) = H5 at s34 e34 ⊢
      have eM := s34 _ _ e3
      have nT : ∀ {b : Addr} {xs : List V}, H5 b = some (.tup xs) → b ≠ M := fun {b xs} h z => by
        rw [z, eM] at h
        cases h
      refine ⟨_, eM, by rw [refs_len]; exact small1000 (by omega), same_mut (same_trans s3 s34) nM, gset ds i T2, by rw [upd_same, refs_snoc, gset_same, refs_congr (f := gset ds i T2) (g := ds) fun j hj => gset_ne (by omega)], fun s hs => ?_⟩
      rcases Nat.lt_or_ge s i with h | h
      · rw [gset_ne (by omega)]
        have := s34 _ _ (h3 s h)
        exact (upd_ne (nT this)).trans this
      · rw [show s = i by omega, gset_same]
        exact (upd_ne (nT e34)).trans e34
    rintro H3 ⟨s3, ds, eM, hM⟩
    rw [refs_len] at eM hM
    have d3 := s3 _ _ (s2 _ _ d1)
    have s03 := same_trans s1 (same_trans s2 s3)
    have eC3 := s3 _ _ eC
    have hC3 := fun s hs => s3 _ _ (hC s hs)
    clear hC eC d1 s1 s2 s3 et1 et2 nC nM
    refine rd_cat eC3 eM (by rw [refs_len, refs_len]; exact sz_of' (by omega)) fun A1 nA1 => ?_
    have s4 : Same H3 (upd H3 A1 (.lst (refs ws.length cs ++ refs n ds))) := same_upd nA1
    have e4 : upd H3 A1 (.lst (refs ws.length cs ++ refs n ds)) A1 = some (.lst (refs ws.length cs ++ refs n ds)) := upd_same
    generalize upd H3 A1 (.lst (refs ws.length cs ++ refs n ds)) = H4 at s4 e4 ⊢
    walk_at "rds"
    refine fun L nL => lc_text (fun j H' => Same H4 H' ∧ H' L = some (.lst (nats j fun _ => ws.length + n))) ⟨same_upd nL, upd_same⟩ (fun j c H5 hj h5 => ?_) (fun H5 h5 => ?_)
    · obtain ⟨s5, e5⟩ := h5
      have hjl : j < l.length := (List.getElem?_eq_some_iff.mp hj).1
      walk_at "rds"
      refine ⟨rfl, ?_⟩
      walk_at "rds"
      refine rd_ite (fun _ => ?_) (fun h => by cases h)
      walk_at "rds"
      refine ⟨_, e5, by rw [nats_len]; exact small1000 (by omega), same_mut s5 nL, ?_⟩
      rw [upd_same, nats_snoc]
    obtain ⟨s5, e5⟩ := h5
    refine rd_kTup e5 fun T2 nT2 => ?_
    have s6 := same_trans s5 (same_upd (o := .tup (nats l.length fun _ => ws.length + n)) nT2)
    have e6 : upd H5 T2 (.tup (nats l.length fun _ => ws.length + n)) T2 = some (.tup (nats l.length fun _ => ws.length + n)) := upd_same
    generalize upd H5 T2 (.tup (nats l.length fun _ => ws.length + n)) = H6 at s6 e6 ⊢
    walk_at "rds"
    refine ⟨by show 1 ≤ sizeLine; decide, fun A2 nA2 => ?_⟩
    have s7 : Same H6 (upd H6 A2 (.lst [.ref T2])) := same_upd nA2
    have e7 : upd H6 A2 (.lst [.ref T2]) A2 = some (.lst [.ref T2]) := upd_same
    generalize upd H6 A2 (.lst [.ref T2]) = H7 at s7 e7 ⊢
    have s47 := same_trans s6 s7
    refine rd_cat (s47 _ _ e4) e7 (by rw [List.length_append, refs_len, refs_len]; exact sz_of' (by show ws.length + n + 1 ≤ 1000; omega)) fun W nW => ?_
    have s8 : Same H7 (upd H7 W (.lst (refs ws.length cs ++ refs n ds ++ [.ref T2]))) := same_upd nW
    have e8 : upd H7 W (.lst (refs ws.length cs ++ refs n ds ++ [.ref T2])) W = some (.lst (refs ws.length cs ++ refs n ds ++ [.ref T2])) := upd_same
    generalize upd H7 W (.lst (refs ws.length cs ++ refs n ds ++ [.ref T2])) = H8 at s8 e8 ⊢
    have s38 := same_trans s4 (same_trans s47 s8)
    have s08 := same_trans s03 s38
    have hC8 := fun s hs => s38 _ _ (hC3 s hs)
    have hM8 := fun s hs => s38 _ _ (hM s hs)
    have eT8 := s8 _ _ (s7 _ _ e6)
    have eC8 := s38 _ _ eC3
    clear hC3 hM e4 e5 e6 e7 s4 s5 s6 s7 s47 s8 s38 s03 nL nW nA1 nA2 nT2 eC3 d3 eM
    walk_at "rds"
    refine ⟨C, rfl, ⟨_, SqL.of eC8⟩, fun B1 nB1 => lc_it walk_list (fun i H' => Same H8 H' ∧ H' B1 = some (.lst (bools i fun _ => false))) ⟨same_upd nB1, upd_same⟩ (fun i H' _ h => SqL.of (h.1 _ _ eC8)) ?_ ?_⟩
    · rintro i x H9 H10 hi ⟨s9, e9⟩ ⟨rfl, hx⟩
      rw [refs_len] at hi
      walk_at "rds"
      refine ⟨rfl, ?_⟩
      walk_at "rds"
      refine rd_ite (fun _ => ?_) (fun h => by cases h)
      walk_at "rds"
      refine ⟨_, e9, by rw [bools_len]; exact small1000 (by omega), same_mut s9 nB1, ?_⟩
      rw [upd_same, bools_snoc]
    rintro H9 ⟨s9, e9⟩
    rw [refs_len] at e9
    walk_at "rds"
    have et9 := s9 _ _ (s08 _ _ et)
    refine ⟨p, rfl, ⟨_, SqT.of et9⟩, fun B2 nB2 => lc_it walk_tup (fun i H' => Same H9 H' ∧ H' B2 = some (.lst (bools i lab))) ⟨same_upd nB2, upd_same⟩ (fun i H' _ h => SqT.of (h.1 _ _ et9)) ?_ ?_⟩
    · rintro i x H10 H11 hi ⟨s10, e10⟩ ⟨rfl, hx⟩
      obtain ⟨hin, rfl⟩ := refs_at hx
      refine rd_gtup (SqT.of (s10 _ _ (s9 _ _ (s08 _ _ (er i hin).1)))) rfl ?_
      walk_at "rds"
      refine ⟨rfl, ?_⟩
      walk_at "rds"
      refine rd_ite (fun _ => ?_) (fun h => by cases h)
      walk_at "rds"
      refine ⟨_, e10, by rw [bools_len]; exact small1000 (by omega), same_mut s10 nB2, ?_⟩
      rw [upd_same, bools_snoc]
    rintro H10 ⟨s10, e10⟩
    rw [refs_len] at e10
    refine rd_cat (s10 _ _ e9) e10 (by rw [bools_len, bools_len]; exact sz_of' (by omega)) fun A3 nA3 => ?_
    have s11 : Same H10 (upd H10 A3 (.lst (bools ws.length (fun _ => false) ++ bools n lab))) := same_upd nA3
    have e11 : upd H10 A3 (.lst (bools ws.length (fun _ => false) ++ bools n lab)) A3 = some (.lst (bools ws.length (fun _ => false) ++ bools n lab)) := upd_same
    generalize upd H10 A3 (.lst (bools ws.length (fun _ => false) ++ bools n lab)) = H11 at s11 e11 ⊢
    walk_at "rds"
    refine ⟨by show 1 ≤ sizeLine; decide, fun A4 nA4 => ?_⟩
    have s12 : Same H11 (upd H11 A4 (.lst [.bl false])) := same_upd nA4
    have e12 : upd H11 A4 (.lst [.bl false]) A4 = some (.lst [.bl false]) := upd_same
    generalize upd H11 A4 (.lst [.bl false]) = H12 at s12 e12 ⊢
    refine rd_cat (s12 _ _ e11) e12 (by rw [List.length_append, bools_len, bools_len]; exact sz_of' (by show ws.length + n + 1 ≤ 1000; omega)) fun B nB => ?_
    have s13 : Same H12 (upd H12 B (.lst (bools ws.length (fun _ => false) ++ bools n lab ++ [.bl false]))) := same_upd nB
    have e13 : upd H12 B (.lst (bools ws.length (fun _ => false) ++ bools n lab ++ [.bl false])) B = some (.lst (bools ws.length (fun _ => false) ++ bools n lab ++ [.bl false])) := upd_same
    generalize upd H12 B (.lst (bools ws.length (fun _ => false) ++ bools n lab ++ [.bl false])) = H13 at s13 e13 ⊢
    have s813 : Same H8 H13 := same_trans s9 (same_trans s10 (same_trans s11 (same_trans s12 s13)))
    walk_at "rds"
    have Fr := front_of (ws := ws) (lab := lab) n0 hc
    have hcl := front_closed (ws := ws) (n := n) hc
    rw [hTo] at Fr hcl
    refine ⟨B, W, ws.length + n + 1, l.length, frontLab ws.length n lab, go, rfl, ⟨_, _, fun s => if s < ws.length then cs s else if s < ws.length + n then ds (s - ws.length) else T2, e13, s813 _ _ e8, fun s hs => ?_⟩, hcl, by omega, by omega, hl, fun k lab' t p' H14 M s14 tab => ?_⟩
    · rcases Nat.lt_or_ge s ws.length with h1 | h1
      · have e1 : frontLab ws.length n lab s = false := if_pos h1
        simp only [if_pos h1]
        rw [e1]
        refine ⟨?_, ?_, s813 _ _ (hC8 s h1)⟩
        · rw [List.append_assoc, List.getElem?_append_left (by rw [bools_len]; exact h1)]
          exact bools_get h1
        · rw [List.append_assoc, List.getElem?_append_left (by rw [refs_len]; exact h1)]
          exact refs_get h1
      · rcases Nat.lt_or_ge s (ws.length + n) with h2 | h2
        · have e1 : frontLab ws.length n lab s = lab (s - ws.length) := by
            unfold frontLab
            rw [if_neg (by omega), if_pos h2]
          simp only [if_neg (show ¬ s < ws.length by omega), if_pos h2]
          have hM' := hM8 (s - ws.length) (by omega)
          rw [show ws.length + (s - ws.length) = s by omega] at hM'
          rw [e1]
          refine ⟨?_, ?_, s813 _ _ hM'⟩
          · rw [List.getElem?_append_left (by rw [List.length_append, bools_len, bools_len]; exact h2), List.getElem?_append_right (by rw [bools_len]; exact h1), bools_len]
            exact bools_get (by omega)
          · rw [List.getElem?_append_left (by rw [List.length_append, refs_len, refs_len]; exact h2), List.getElem?_append_right (by rw [refs_len]; exact h1), refs_len]
            exact refs_get (by omega)
        · have hs' : s = ws.length + n := by omega
          subst hs'
          have e1 : frontLab ws.length n lab (ws.length + n) = false := Fr.l3
          simp only [if_neg (show ¬ ws.length + n < ws.length by omega), if_neg (Nat.lt_irrefl (ws.length + n))]
          have eT := s813 _ _ eT8
          rw [nats_congr (g := go (ws.length + n)) fun a ha => (Fr.f3 a ha).symm] at eT
          rw [e1]
          refine ⟨?_, ?_, eT⟩
          · rw [List.getElem?_append_right (by rw [List.length_append, bools_len, bools_len]; exact Nat.le_refl _), List.length_append, bools_len, bools_len, Nat.sub_self]
            rfl
          · rw [List.getElem?_append_right (by rw [List.length_append, refs_len, refs_len]; exact Nat.le_refl _), List.length_append, refs_len, refs_len, Nat.sub_self]
            rfl
    · refine q k lab' t p' H14 ⟨M.k0, by have := M.kn; omega, M.cl, M.num, M.least, fun w hw => ?_⟩ (same_trans s08 (same_trans s813 s14)) tab
      rw [M.run w hw, Bool.eq_iff_iff, Fr.says hw, Bool.and_eq_true, decide_eq_true_eq]
end
section
variable {P : Program} {w : World} {K : PySem.W.Frag} {mg : Str → Option Value} {base : Heap}
abbrev NC (mg : Str → Option Value) : Addr := ca mg "Names"
abbrev CT (mg : Str → Option Value) : Addr := ca mg "NoText"
theorem mk_NoText (T : Txt K mg) : Mk P w K mg base "NoText" "value" (ca mg "NoText") := Un.mk_of T.e_NoText fun fI fd F => by
  refine F.ok sc_NoText (fun vs H Q E h => ?_) (fun cdv A outer s H vs Q E hr h => ?_)
  · obtain ⟨a, v, C, rfl, _⟩ := h
    rfl
  · obtain ⟨a, v, C, rfl, T', hno, ea, q⟩ := h
    refine ⟨_, (pss_one (ps_oxt (pv 0) (pv 1))), ?_⟩
    exact ⟨v, rfl, .ref a, rfl, a, C, rfl, T', hno, ea, fun dx h1 h2 => q dx h1 h2⟩
theorem TxtOr.ext {H H' : Hp} {x : V} (h : TxtOr K H x) (s : ExtN H H') : TxtOr K H' x := by
  rcases h with ⟨u, rfl, hl⟩ | ⟨⟨t, ty, k⟩, hn⟩
  · exact .inl ⟨u, rfl, hl⟩
  · exact .inr ⟨⟨t, tyX_ext s ty, k⟩, hn⟩
def Err1 (C : Addr) (n : Str) (x : V) (H : Hp) (E : XK) : Prop := ∀ d H', Same H H' → H' d = some (.xd [(n, x)]) → E (.ref C) (some d) H'
theorem Err1.same {C : Addr} {n : Str} {x : V} {H H' : Hp} {E : XK} (h : Err1 C n x H E) (s : Same H H') : Err1 C n x H' E := fun d H'' s' e => h d H'' (same_trans s s') e
def spChkT (K : PySem.W.Frag) (C : Addr) : Sp := fun vs H Q E => ∃ (ls : List Nat) (x : V), vs = [.str (tx ls), x] ∧ TxtOr K H x ∧ (isTxtB ls x = true → ∀ H', Same H H' → Q .non H') ∧ (isTxtB ls x = false → Err1 C "value" x H E)
theorem clx_chkT (T : Txt K mg) : ClX P w K mg base "_check_text" ["letters", "value"] 3 (spChkT K (CT mg)) := clX_of T.a__check_text fun f fd F => by
  have C_is_text := cl_is_text (P := P) (w := w) (base := base) T
  have E_NoText := mk_NoText (P := P) (w := w) (base := base) T
  refine F.okX sc__check_text (fun vs H Q E h => ?_) (fun cdv A outer s H vs Q E hr h => ?_)
  · obtain ⟨ls, x, rfl, _⟩ := h
    rfl
  · obtain ⟨ls, x, rfl, hx, q1, q2⟩ := h
    refine ⟨_, (pss_one (ps_if (pt_not (pt_val (pe_cl C_is_text (hr.mono (by decide)) (by rfl) (pa_cons (pv 0) (pa_cons (pv 1) pa_nil)))))
      (pss_one (ps_raise rfl (takes_of rfl rfl rfl rfl) (pmk_G E_NoText hr (by decide) (by rfl) (pv 1))))
      pss_nil)), ?_⟩
    walk_at "rds"
    refine ⟨ls, x, rfl, hx, fun H1 s1 => ?_⟩
    walk_at "rds"
    refine rd_ite (fun h => ?_) (fun h => ?_)
    · have h' : isTxtB ls x = false := by simpa using h
      walk_at "rds"
      exact fun d hd => q2 h' d _ (same_trans s1 (same_upd hd)) upd_same
    · have h' : isTxtB ls x = true := by simpa using h
      walk_at "rds"
      exact q1 h' _ s1
/-- a set's slots -/
def NmF (l : List Nat) (p : Addr) : List (Str × V) := [("letters", .str (tx l)), ("table", .ref p)]
/-- a set of names at a: its letters, its table -/
def NmAt (C : Addr) (H : Hp) (a : Addr) (l : List Nat) (k : Nat) (lab : Nat → Bool) (t : Nat → Nat → Nat) : Prop := ∃ dx p, H a = some (.ins C dx (NmF l p)) ∧ TabAt H p k l.length lab t
theorem NmAt.same {C : Addr} {H H' : Hp} {a : Addr} {l : List Nat} {k : Nat} {lab : Nat → Bool} {t : Nat → Nat → Nat} (h : NmAt C H a l k lab t) (s : Same H H') : NmAt C H' a l k lab t := by
  obtain ⟨dx, p, e, tab⟩ := h
  exact ⟨dx, p, s _ _ e, tab.same s⟩
def Keep1 (d : Addr) (H H' : Hp) : Prop := ∀ b o, H b = some o → b ≠ d → H' b = some o
def spInitN (C : Addr) : Sp := fun vs H Q _ => ∃ (a dx p : Addr) (l : List Nat), vs = [.ref a, .str (tx l), .ref p] ∧ H a = some (.ins C dx []) ∧ ∀ H', Keep1 a H H' → H' a = some (.ins C dx (NmF l p)) → Q .non H'
theorem mk_Names_2 (T : Txt K mg) : MakD P w K mg base "Names" (NC mg) 1 (spInitN (NC mg)) [] := by
  obtain ⟨f, fd, F, M, b⟩ := T.a_Names___init__
  refine ⟨f, fd, _, [], M, ?_, T.g_Names, b, .nil⟩
  refine F.ok sc_Names___init__ (fun vs H Q E h => ?_) (fun cdv A outer s H vs Q E hr h => ?_)
  · obtain ⟨a, dx, p, l, rfl, _⟩ := h
    rfl
  · obtain ⟨a, dx, p, l, rfl, ha, q⟩ := h
    refine ⟨_, (pss_cons (ps_fld (pv 0) (pv 1) rfl)
      (pss_one (ps_fld (pv 0) (pv 2) rfl))), ?_⟩
    walk_at "rds"
    refine ⟨a, _, dx, [], rfl, ha, T.k_Names, T.n_Names_letters, by show 0 < 1000; decide, ?_⟩
    walk_at "rds"
    refine ⟨a, _, dx, _, rfl, upd_same, T.k_Names, T.n_Names_table, by show 1 < 1000; decide, ?_⟩
    refine q _ (fun b o hb hne => ?_) upd_same
    rw [upd_ne hne, upd_ne hne]
    exact hb
theorem make_nm {C p : Addr} {H : Hp} {l : List Nat} {k : Nat} {lab : Nat → Bool} {t : Nat → Nat → Nat} {Q : Addr → Hp → Prop} {E : XK} (tab : TabAt H p k l.length lab t) (q : ∀ x H', Same H H' → H x = none → NmAt C H' x l k lab t → Q x H') :
    ∀ x dx, H x = none → H dx = none → dx ≠ x → spInitN C [.ref x, .str (tx l), .ref p] (upd (upd H dx (.own x)) x (.ins C dx [])) (fun v H2 => v = .non ∧ Q x H2) E := by
  intro x dx hx hdx hne
  refine ⟨x, dx, p, l, rfl, upd_same, fun H' k1 e1 => ⟨rfl, ?_⟩⟩
  have s1 : Same H H' := fun b o hb => by
    have h1 : b ≠ x := ne_of_none hb hx
    refine k1 _ _ ?_ h1
    rw [upd_ne h1, upd_ne (ne_of_none hb hdx)]
    exact hb
  exact q x H' s1 hx ⟨dx, p, e1, tab.same s1⟩
def spConstN (C : Addr) (b : Bool) : Sp := fun vs H Q _ => ∃ l : List Nat, vs = [.ref C, .str (tx l)] ∧ l.length ≤ 10 ∧ ∀ a H', Same H H' → H a = none → NmAt C H' a l 1 (fun _ => b) (fun _ _ => 0) → Q (.ref a) H'
theorem cm_none (T : Txt K mg) : CmG P w K mg base CX0 (NC mg) "none" 3 (spConstN (NC mg) false) := cmG_of (ps := ["cls", "letters"]) T.c_Names_none (fun _ _ _ _ _ _ us hl => match us, hl with | [_, _], _ => rfl) fun f fd F => by
  have C__constant := cl_const (P := P) (w := w) (base := base) T
  have C_Names_2 := mk_Names_2 (P := P) (w := w) (base := base) T
  refine F.ok sc_Names_none (fun vs H Q E h => ?_) (fun cdv A outer s H vs Q E hr h => ?_)
  · obtain ⟨l, rfl, _⟩ := h
    rfl
  · obtain ⟨l, rfl, hl, q⟩ := h
    refine ⟨_, (pss_one (ps_ret (pe_mkL (i := 0) C_Names_2 hr (by decide) rfl (by first | exact Or.inl rfl | exact Or.inr (Or.inl rfl) | exact Or.inr (Or.inr rfl)) (pa_cons (pv 1) (pa_cons (pe_cl C__constant (hr.mono (by decide)) (by rfl) (pa_cons (pv 1) (pa_cons pe_bl pa_nil))) pa_nil))))), ?_⟩
    walk_at "rds"
    refine rd_makeL rfl (rd_make ?_)
    walk_at "rds"
    refine ⟨l, false, rfl, hl, fun p H1 s1 tab => ?_⟩
    walk_at "rds"
    exact make_nm tab fun x H2 s2 hx nm => q x H2 (same_trans s1 s2) (same_none s1 hx) nm
theorem cm_every (T : Txt K mg) : CmG P w K mg base CX0 (NC mg) "every" 3 (spConstN (NC mg) true) := cmG_of (ps := ["cls", "letters"]) T.c_Names_every (fun _ _ _ _ _ _ us hl => match us, hl with | [_, _], _ => rfl) fun f fd F => by
  have C__constant := cl_const (P := P) (w := w) (base := base) T
  have C_Names_2 := mk_Names_2 (P := P) (w := w) (base := base) T
  refine F.ok sc_Names_every (fun vs H Q E h => ?_) (fun cdv A outer s H vs Q E hr h => ?_)
  · obtain ⟨l, rfl, _⟩ := h
    rfl
  · obtain ⟨l, rfl, hl, q⟩ := h
    refine ⟨_, (pss_one (ps_ret (pe_mkL (i := 0) C_Names_2 hr (by decide) rfl (by first | exact Or.inl rfl | exact Or.inr (Or.inl rfl) | exact Or.inr (Or.inr rfl)) (pa_cons (pv 1) (pa_cons (pe_cl C__constant (hr.mono (by decide)) (by rfl) (pa_cons (pv 1) (pa_cons pe_bl pa_nil))) pa_nil))))), ?_⟩
    walk_at "rds"
    refine rd_makeL rfl (rd_make ?_)
    walk_at "rds"
    refine ⟨l, true, rfl, hl, fun p H1 s1 tab => ?_⟩
    walk_at "rds"
    exact make_nm tab fun x H2 s2 hx nm => q x H2 (same_trans s1 s2) (same_none s1 hx) nm
end
section
variable {P : Program} {w : World} {K : PySem.W.Frag} {mg : Str → Option Value} {base : Heap}
theorem words_of {l : List Nat} : ∀ {u : List Nat}, (∀ c ∈ u, c ∈ l) → ∃ ws : List Nat, u = ws.map (fun a => l.getD a 0) ∧ ∀ a ∈ ws, a < l.length
  | [], _ => ⟨[], rfl, fun a h => by cases h⟩
  | c :: u, h => by
    obtain ⟨ws, e, hw⟩ := words_of (u := u) fun d hd => h d (List.mem_cons_of_mem _ hd)
    obtain ⟨a, ha⟩ := List.mem_iff_getElem?.mp (h c List.mem_cons_self)
    refine ⟨a :: ws, ?_, fun b hb => ?_⟩
    · rw [List.map_cons, ← e, List.getD_eq_getElem?_getD, ha]
      rfl
    · rcases List.mem_cons.mp hb with rfl | hb
      · exact (List.getElem?_eq_some_iff.mp ha).1
      · exact hw b hb
theorem isTxt_words {l ws : List Nat} (hw : ∀ a ∈ ws, a < l.length) : isTxtB l (.str (tx (ws.map fun a => l.getD a 0))) = true := by
  show consB l (tx (ws.map fun a => l.getD a 0)).cps.toList = true
  rw [tx_cps]
  unfold consB
  rw [List.all_eq_true]
  intro c hc
  obtain ⟨a, ha, rfl⟩ := List.mem_map.mp hc
  refine decide_eq_true ?_
  rw [List.getD_eq_getElem?_getD, List.getElem?_eq_getElem (hw a ha)]
  exact List.getElem_mem (hw a ha)
theorem isTxt_tx {l u : List Nat} (h : ∀ c ∈ u, c ∈ l) : isTxtB l (.str (tx u)) = true := by
  show consB l (tx u).cps.toList = true
  rw [tx_cps]
  unfold consB
  rw [List.all_eq_true]
  exact fun c hc => decide_eq_true (h c hc)
def spOfN (K : PySem.W.Frag) (C CT : Addr) : Sp := fun vs H Q E => ∃ (l : List Nat) (b : Addr) (xs : List V), vs = [.ref C, .str (tx l), .ref b] ∧ H b = some (.lst xs) ∧ (∀ x ∈ xs, TxtOr K H x) ∧
  ((∃ ns : List (List Nat), xs = ns.map (fun n => V.str (tx n)) ∧ l.Nodup ∧ l.length ≤ 10 ∧ (∀ n ∈ ns, ∀ c ∈ n, c ∈ l) ∧ (ns.map List.length).sum ≤ 900 ∧ ns.length ≤ 900 ∧
    ∀ (k : Nat) (lab : Nat → Bool) (t : Nat → Nat → Nat) (a : Addr) (H' : Hp), Good l.length k lab t (fun w => decide ((w.map fun a => l.getD a 0) ∈ ns)) → Same H H' → H a = none → NmAt C H' a l k lab t → Q (.ref a) H') ∨
   ∃ (i : Nat) (x : V), xs[i]? = some x ∧ (∀ j < i, ∀ y, xs[j]? = some y → isTxtB l y = true) ∧ isTxtB l x = false ∧ Err1 CT "value" x H E)
theorem cm_of (T : Txt K mg) : CmG P w K mg base (L2.CX P w) (NC mg) "of" 5 (spOfN K (NC mg) (CT mg)) := cmG_of (ps := ["cls", "letters", "some"]) T.c_Names_of (fun _ _ _ _ _ _ us hl => match us, hl with | [_, _, _], _ => rfl) fun f fd F => by
  have C__check_text := clx_chkT (P := P) (w := w) (base := base) T
  have C_table_of := cl_tabof (P := P) (w := w) (base := base) T
  have C_Names_2 := mk_Names_2 (P := P) (w := w) (base := base) T
  refine F.ok sc_Names_of (fun vs H Q E h => ?_) (fun cdv A outer s H vs Q E hr h => ?_)
  · obtain ⟨l, b, xs, rfl, _⟩ := h
    rfl
  · obtain ⟨l, b, xs, rfl, eb, htx, q⟩ := h
    refine ⟨_, (Evl.pss_cut (ps_for (passes_of rfl) rfl (pi_list (pv 2)) (pg_name (i := 3) sc_Names_of.nd rfl (Or.inl rfl))
      (pss_one (ps_expr (pe_clX C__check_text (hr.mono (by decide)) (by rfl) (takes_of rfl rfl rfl rfl) (pa_cons (pv 1) (pa_cons (pv 3) pa_nil))))))
      (pss_one (ps_ret (pe_mkL (i := 0) C_Names_2 hr (by decide) rfl (by first | exact Or.inl rfl | exact Or.inr (Or.inl rfl) | exact Or.inr (Or.inr rfl)) (pa_cons (pv 1) (pa_cons (pe_cl C_table_of (hr.mono (by decide)) (by rfl) (pa_cons (pv 1) (pa_cons (pv 2) pa_nil))) pa_nil)))))), ?_⟩
    refine rd_cut (fun σ' H' => (∃ y, σ' = [some (.ref (NC mg)), some (.str (tx l)), some (.ref b), y]) ∧ Same H H' ∧ ∀ j < xs.length, ∀ y, xs[j]? = some y → isTxtB l y = true) ?_ ?_
    · walk_at "rds"
      refine ⟨b, rfl, ⟨_, SqL.of eb⟩, for_it walk_list (fun i σ' H' => (∃ y, σ' = [some (.ref (NC mg)), some (.str (tx l)), some (.ref b), y]) ∧ Same H H' ∧ ∀ j < i, ∀ y, xs[j]? = some y → isTxtB l y = true) ⟨⟨_, rfl⟩, same_refl H, fun j h => absurd h (by omega)⟩ (fun i σ' H' _ h => SqL.of (h.2.1 _ _ eb)) ?_ fun _ _ h => h⟩
      rintro i x σ' H1 H2 hi ⟨⟨y, rfl⟩, s1, hv⟩ ⟨rfl, hx⟩
      walk_at "rds"
      refine ⟨l, x, rfl, (htx x (List.mem_of_getElem? hx)).ext (Same.ext s1), fun hb H3 s3 => ?_, fun hb => ?_⟩
      · refine ⟨⟨_, rfl⟩, same_trans s1 s3, fun j hj z hz => ?_⟩
        rcases Nat.lt_or_ge j i with h | h
        · exact hv j h z hz
        · rw [show j = i by omega, hx] at hz
          rw [← Option.some.inj hz]
          exact hb
      · rcases q with ⟨ns, rfl, _, _, hch, _⟩ | ⟨i', x', hx', hlt, hf, er⟩
        · obtain ⟨n, hn, rfl⟩ := get_map hx
          rw [isTxt_tx (hch n (List.mem_of_getElem? hn))] at hb
          cases hb
        · have e : i = i' := by
            rcases Nat.lt_trichotomy i i' with h | h | h
            · rw [hlt i h x hx] at hb
              cases hb
            · exact h
            · rw [hv i' h x' hx'] at hf
              cases hf
          subst e
          rw [hx] at hx'
          rw [← Option.some.inj hx'] at er
          exact er.same s1
    rintro σ' H1 ⟨⟨y, rfl⟩, s1, hv⟩
    rcases q with ⟨ns, rfl, nd, hl, hch, hsum, hns, q⟩ | ⟨i', x', hx', _, hf, _⟩
    rotate_left
    · rw [hv i' (List.getElem?_eq_some_iff.mp hx').1 x' hx'] at hf
      cases hf
    walk_at "rds"
    refine rd_makeL rfl (rd_make ?_)
    walk_at "rds"
    refine ⟨l, ns, b, rfl, s1 _ _ eb, nd, hl, hch, hsum, hns, fun k lab t p H2 G s2 tab => ?_⟩
    walk_at "rds"
    have s12 := same_trans s1 s2
    exact make_nm tab fun x H3 s3 hx nm => q k lab t x H3 G (same_trans s12 s3) (same_none s12 hx) nm
def spBegN (K : PySem.W.Frag) (C CT : Addr) : Sp := fun vs H Q E => ∃ (l : List Nat) (x : V), vs = [.ref C, .str (tx l), x] ∧ TxtOr K H x ∧
  ((∃ ws : List Nat, x = .str (tx (ws.map fun a => l.getD a 0)) ∧ l.Nodup ∧ l.length ≤ 10 ∧ (∀ a ∈ ws, a < l.length) ∧ ws.length ≤ 800 ∧
    ∀ (k : Nat) (lab : Nat → Bool) (t : Nat → Nat → Nat) (a : Addr) (H' : Hp), Good l.length k lab t (fun w => decide (w.take ws.length = ws)) → Same H H' → H a = none → NmAt C H' a l k lab t → Q (.ref a) H') ∨
   (isTxtB l x = false ∧ Err1 CT "value" x H E))
theorem cm_beg (T : Txt K mg) : CmG P w K mg base (L2.CX P w) (NC mg) "beginning" 5 (spBegN K (NC mg) (CT mg)) := cmG_of (ps := ["cls", "letters", "text"]) T.c_Names_beginning (fun _ _ _ _ _ _ us hl => match us, hl with | [_, _, _], _ => rfl) fun f fd F => by
  have C__check_text := clx_chkT (P := P) (w := w) (base := base) T
  have C_table_in_front := cl_front (P := P) (w := w) (base := base) T
  have C__constant := cl_const (P := P) (w := w) (base := base) T
  have C_Names_2 := mk_Names_2 (P := P) (w := w) (base := base) T
  refine F.ok sc_Names_beginning (fun vs H Q E h => ?_) (fun cdv A outer s H vs Q E hr h => ?_)
  · obtain ⟨l, x, rfl, _⟩ := h
    rfl
  · obtain ⟨l, x, rfl, hx, q⟩ := h
    refine ⟨_, (pss_cons (ps_expr (pe_clX C__check_text (hr.mono (by decide)) (by rfl) (takes_of rfl rfl rfl rfl) (pa_cons (pv 1) (pa_cons (pv 2) pa_nil))))
      (pss_one (ps_ret (pe_mkL (i := 0) C_Names_2 hr (by decide) rfl (by first | exact Or.inl rfl | exact Or.inr (Or.inl rfl) | exact Or.inr (Or.inr rfl)) (pa_cons (pv 1) (pa_cons (pe_cl C_table_in_front (hr.mono (by decide)) (by rfl) (pa_cons (pv 1) (pa_cons (pv 2) (pa_cons (pe_cl C__constant (hr.mono (by decide)) (by rfl) (pa_cons (pv 1) (pa_cons pe_bl pa_nil))) pa_nil)))) pa_nil)))))), ?_⟩
    walk_at "rds"
    refine ⟨l, x, rfl, hx, fun hb H1 s1 => ?_, fun hb => ?_⟩
    · rcases q with ⟨ws, rfl, nd, hl, hw, hws, q⟩ | ⟨hf, _⟩
      rotate_left
      · rw [hb] at hf
        cases hf
      walk_at "rds"
      refine rd_makeL rfl (rd_make ?_)
      walk_at "rds"
      refine ⟨l, true, rfl, hl, fun p H2 s2 tab => ?_⟩
      walk_at "rds"
      refine ⟨l, ws, p, 1, fun _ => true, fun _ _ => 0, rfl, tab, fun _ _ _ _ => Nat.one_pos, Nat.one_pos, by omega, nd, hl, hw, fun k lab t p' H3 G s3 tab' => ?_⟩
      simp only [Bool.and_true] at G
      walk_at "rds"
      have s13 := same_trans s1 (same_trans s2 s3)
      exact make_nm tab' fun x H4 s4 hx nm => q k lab t x H4 G (same_trans s13 s4) (same_none s13 hx) nm
    · rcases q with ⟨ws, rfl, _, _, hw, _⟩ | ⟨_, er⟩
      · rw [isTxt_words hw] at hb
        cases hb
      · exact er
def spFamN (K : PySem.W.Frag) (C CT : Addr) : Sp := fun vs H Q E => ∃ (l : List Nat) (x y : V) (cnt : Nat), vs = [.ref C, .str (tx l), x, y, .int ((cnt : Nat) : Int)] ∧ TxtOr K H x ∧ TxtOr K H y ∧
  ((∃ u r : List Nat, x = .str (tx u) ∧ y = .str (tx r) ∧ l.Nodup ∧ l.length ≤ 10 ∧ u ≠ [] ∧ u.length ≤ 100 ∧ r.length ≤ 100 ∧ (∀ c ∈ u, c ∈ l) ∧ (∀ c ∈ r, c ∈ l) ∧ cnt ≤ 6 ∧
    ∀ (k : Nat) (lab : Nat → Bool) (t : Nat → Nat → Nat) (a : Addr) (H' : Hp) (says : List Nat → Bool), (∀ w : List Nat, says w = true ↔ FamW (per u) (cnt * u.length + follows (per u) r 0) u.length (r.drop (follows (per u) r 0)) (w.map fun a => l.getD a 0)) → Good l.length k lab t says → Same H H' → H a = none → NmAt C H' a l k lab t → Q (.ref a) H') ∨
   (isTxtB l x = false ∧ Err1 CT "value" x H E) ∨ (isTxtB l x = true ∧ isTxtB l y = false ∧ Err1 CT "value" y H E))
theorem ok_famN (T : Txt K mg) {dvs : List V} {f : Addr} {fd : FuncData} (F : FunD K "family" "Names.family" (defArgs s_Names_family) (defBody s_Names_family) (defScope s_Names_family) dvs [] f fd) : FnOk P w K mg base (L2.CX P w) 5 f fd ["cls", "letters", "word", "rest", "count"] (spFamN K (NC mg) (CT mg)) := by
  have C__check_text := clx_chkT (P := P) (w := w) (base := base) T
  have C_table_of_family := cl_fam (P := P) (w := w) (base := base) T
  have C_Names_2 := mk_Names_2 (P := P) (w := w) (base := base) T
  refine F.ok sc_Names_family (fun vs H Q E h => ?_) (fun cdv A outer s H vs Q E hr h => ?_)
  · obtain ⟨l, x, y, cnt, rfl, _⟩ := h
    rfl
  · obtain ⟨l, x, y, cnt, rfl, hx, hy, q⟩ := h
    refine ⟨_, (pss_cons (ps_expr (pe_clX C__check_text (hr.mono (by decide)) (by rfl) (takes_of rfl rfl rfl rfl) (pa_cons (pv 1) (pa_cons (pv 2) pa_nil))))
      (pss_cons (ps_expr (pe_clX C__check_text (hr.mono (by decide)) (by rfl) (takes_of rfl rfl rfl rfl) (pa_cons (pv 1) (pa_cons (pv 3) pa_nil))))
      (pss_one (ps_ret (pe_mkL (i := 0) C_Names_2 hr (by decide) rfl (by first | exact Or.inl rfl | exact Or.inr (Or.inl rfl) | exact Or.inr (Or.inr rfl)) (pa_cons (pv 1) (pa_cons (pe_cl C_table_of_family (hr.mono (by decide)) (by rfl) (pa_cons (pv 1) (pa_cons (pv 2) (pa_cons (pv 3) (pa_cons (pv 4) pa_nil))))) pa_nil))))))), ?_⟩
    walk_at "rds"
    refine ⟨l, x, rfl, hx, fun hb H1 s1 => ?_, fun hb => ?_⟩
    · walk_at "rds"
      refine ⟨l, y, rfl, hy.ext (Same.ext s1), fun hb2 H2 s2 => ?_, fun hb2 => ?_⟩
      · rcases q with ⟨u, r, rfl, rfl, nd, hl, hu, hul, hrl, hcu, hcr, hcnt, q⟩ | ⟨hf, _⟩ | ⟨_, hf, _⟩
        rotate_left
        · rw [hb] at hf
          cases hf
        · rw [hb2] at hf
          cases hf
        walk_at "rds"
        refine rd_makeL rfl (rd_make ?_)
        walk_at "rds"
        refine ⟨l, u, r, cnt, rfl, nd, hl, hu, hul, hrl, hcu, hcr, hcnt, fun k lab t p H3 says hs G s3 tab => ?_⟩
        walk_at "rds"
        have s13 := same_trans s1 (same_trans s2 s3)
        exact make_nm tab fun x H4 s4 hx nm => q k lab t x H4 says hs G (same_trans s13 s4) (same_none s13 hx) nm
      · rcases q with ⟨u, r, rfl, rfl, _, _, _, _, _, _, hcr, _⟩ | ⟨hf, _⟩ | ⟨_, _, er⟩
        · rw [isTxt_tx hcr] at hb2
          cases hb2
        · rw [hb] at hf
          cases hf
        · exact er.same s1
    · rcases q with ⟨u, r, rfl, rfl, _, _, _, _, _, hcu, _⟩ | ⟨_, er⟩ | ⟨hf, _, _⟩
      · rw [isTxt_tx hcu] at hb
        cases hb
      · exact er
      · rw [hb] at hf
        cases hf
theorem cm_fam4 (T : Txt K mg) : CmG P w K mg base (L2.CX P w) (NC mg) "family" 5 (fun vs H Q E => spFamN K (NC mg) (CT mg) (vs ++ [V.int 0].drop 1) H Q E) :=
  cmG_ofD T.c_Names_family 5 1 rfl (fun T kV doc pm an cdv ct us its h1 h2 => match us, its, h1, h2 with | [_, _, _, _, _], [_], _, _ => ⟨_, rfl, rfl⟩) fun f fd F => ok_famN T F
theorem cm_fam3 (T : Txt K mg) : CmG P w K mg base (L2.CX P w) (NC mg) "family" 5 (fun vs H Q E => spFamN K (NC mg) (CT mg) (vs ++ [V.int 0].drop 0) H Q E) :=
  cmG_ofD T.c_Names_family 4 0 rfl (fun T kV doc pm an cdv ct us its h1 h2 => match us, its, h1, h2 with | [_, _, _, _], [_], _, _ => ⟨_, rfl, rfl⟩) fun f fd F => ok_famN T F
def spHas (K : PySem.W.Frag) (C : Addr) : Sp := fun vs H Q _ => ∃ (a : Addr) (x : V) (l : List Nat) (k : Nat) (lab : Nat → Bool) (t : Nat → Nat → Nat), vs = [.ref a, x] ∧ NmAt C H a l k lab t ∧ Closed k l.length t ∧ 0 < k ∧ l.Nodup ∧ l.length ≤ 10 ∧ TxtOr K H x ∧
  (isTxtB l x = false → ∀ H', Same H H' → Q (.bl false) H') ∧ ∀ ws : List Nat, x = .str (tx (ws.map fun a => l.getD a 0)) → (∀ a ∈ ws, a < l.length) → ∀ H', Same H H' → Q (.bl (lab (runW t 0 ws))) H'
theorem met_has (T : Txt K mg) : MetG P w K mg base CX0 (NC mg) "__contains__" ["self", "x"] 3 (spHas K (NC mg)) := metG_of T.k_Names T.a_Names___contains__ fun f fd F => by
  have C_is_text := cl_is_text (P := P) (w := w) (base := base) T
  have C_state_behind := cl_behind (P := P) (w := w) (base := base) T
  refine F.ok sc_Names___contains__ (fun vs H Q E h => ?_) (fun cdv A outer s H vs Q E hr h => ?_)
  · obtain ⟨a, x, l, k, lab, t, rfl, _⟩ := h
    rfl
  · obtain ⟨a, x, l, k, lab, t, rfl, ⟨dx, p, ea, tab⟩, hc, hk, nd, hl, hx, q1, q2⟩ := h
    refine ⟨_, (pss_cons (ps_if (pt_not (pt_val (pe_cl C_is_text (hr.mono (by decide)) (by rfl) (pa_cons (pe_fldK (K := K) (by rfl) (pv 0) (by rfl)) (pa_cons (pv 1) pa_nil)))))
      (pss_one (ps_ret pe_bl))
      pss_nil)
      (pss_one (ps_ret (pe_ix (ix_tupK (K := K) (by rfl)) (pe_ix (ix_tupK (K := K) (by rfl)) (pe_fldK (K := K) (by rfl) (pv 0) (by rfl)) (pe_cl C_state_behind (hr.mono (by decide)) (by rfl) (pa_cons (pe_fldK (K := K) (by rfl) (pv 0) (by rfl)) (pa_cons (pe_fldK (K := K) (by rfl) (pv 0) (by rfl)) (pa_cons pe_int (pa_cons (pv 1) pa_nil))))) (fun _ _ => rfl)) pe_int (fun _ _ => rfl))))), ?_⟩
    walk_at "rds"
    refine ⟨a, _, dx, _, _, rfl, ea, T.k_Names, T.n_Names_letters, rfl, ?_⟩
    walk_at "rds"
    refine ⟨l, x, rfl, hx, fun H1 s1 => ?_⟩
    walk_at "rds"
    have ea1 := s1 _ _ ea
    have tab1 := tab.same s1
    refine rd_ite (fun h => ?_) (fun h => ?_)
    · have h' : isTxtB l x = false := by simpa using h
      walk_at "rds"
      exact q1 h' _ s1
    · have h' : isTxtB l x = true := by simpa using h
      obtain ⟨u, rfl⟩ : ∃ u, x = .str (tx u) := by
        cases x with
        | str z => exact ⟨z.cps.toList, by rw [tx_of]⟩
        | _ => cases h'
      have hu : ∀ c ∈ u, c ∈ l := fun c hc => by
        have h2 : consB l (tx u).cps.toList = true := h'
        rw [tx_cps] at h2
        unfold consB at h2
        exact of_decide_eq_true (List.all_eq_true.mp h2 c hc)
      obtain ⟨ws, rfl, hw⟩ := words_of hu
      walk_at "rds"
      refine ⟨a, _, dx, _, _, rfl, ea1, T.k_Names, T.n_Names_table, rfl, ?_⟩
      walk_at "rds"
      refine ⟨a, _, dx, _, _, rfl, ea1, T.k_Names, T.n_Names_letters, rfl, ?_⟩
      walk_at "rds"
      refine ⟨a, _, dx, _, _, rfl, ea1, T.k_Names, T.n_Names_table, rfl, ?_⟩
      walk_at "rds"
      refine ⟨l, p, k, lab, t, 0, ws, rfl, tab1, hc, hk, nd, hw, hl, ?_⟩
      obtain ⟨rs, vs, et, er⟩ := tab1
      have hlt : ∀ (u : List Nat) (s : Nat), s < k → (∀ a ∈ u, a < l.length) → runW t s u < k := fun u => by
        induction u with
        | nil => exact fun s hs _ => hs
        | cons a u ih => exact fun s hs hu => ih (t s a) (hc s hs a (hu a List.mem_cons_self)) fun b hb => hu b (List.mem_cons_of_mem _ hb)
      have hr := hlt ws 0 hk hw
      walk_at "rds"
      refine rd_ixT (SqT.of et) (atI_nat (refs_get hr)) ?_
      walk_at "rds"
      refine rd_ixT (SqT.of (er _ hr).1) (show atI [V.bl (lab (runW t 0 ws)), V.ref (vs (runW t 0 ws))] ((0 : Nat) : Int) = some (.bl (lab (runW t 0 ws))) from atI_nat rfl) ?_
      exact q2 ws rfl hw _ s1
end
section
variable {P : Program} {w : World} {K : PySem.W.Frag} {mg : Str → Option Value} {base : Heap}
/-! ### tables as data -/
theorem eqvAll_by {α : Type} [DecidableEq α] {f : α → PyData} (h : ∀ a b, PyData.eqv (f a) (f b) = decide (a = b)) : ∀ xs ys : List α, PyData.eqvAll (xs.map f) (ys.map f) = decide (xs = ys)
  | [], [] => by simp [PyData.eqvAll]
  | [], y :: ys => by simp [PyData.eqvAll]
  | x :: xs, [] => by simp [PyData.eqvAll]
  | x :: xs, y :: ys => by
    simp only [List.map_cons, PyData.eqvAll]
    rw [h, eqvAll_by h xs ys, Bool.eq_iff_iff, Bool.and_eq_true, decide_eq_true_eq, decide_eq_true_eq, decide_eq_true_eq, List.cons.injEq]
def intsD (l : List Int) : PyData := .tuple (l.map PyData.int)
def rowD (x : Bool × List Int) : PyData := .tuple [.bool x.1, intsD x.2]
def tabD (L : List (Bool × List Int)) : PyData := .tuple (L.map rowD)
def tabL (k m : Nat) (lab : Nat → Bool) (t : Nat → Nat → Nat) : List (Bool × List Int) := (List.range k).map fun s => (lab s, (List.range m).map fun a => ((t s a : Nat) : Int))
theorem eqv_intsD (a b : List Int) : PyData.eqv (intsD a) (intsD b) = decide (a = b) := by
  unfold intsD
  simp only [PyData.eqv]
  refine eqvAll_by (fun a b => ?_) a b
  simp only [PyData.eqv]
  rw [Bool.eq_iff_iff, beq_iff_eq, decide_eq_true_eq]
theorem eqv_rowD (a b : Bool × List Int) : PyData.eqv (rowD a) (rowD b) = decide (a = b) := by
  unfold rowD
  simp only [PyData.eqv, PyData.eqvAll, eqv_intsD, Bool.and_true]
  rw [Bool.eq_iff_iff, Bool.and_eq_true, beq_iff_eq, decide_eq_true_eq, decide_eq_true_eq, Prod.ext_iff]
theorem eqv_tabD (a b : List (Bool × List Int)) : PyData.eqv (tabD a) (tabD b) = decide (a = b) := by
  unfold tabD
  simp only [PyData.eqv]
  exact eqvAll_by eqv_rowD a b
theorem depthAll_by {n : Nat} : ∀ {ds : List PyData}, (∀ d ∈ ds, d.depth ≤ n) → PyData.depthAll ds ≤ n
  | [], _ => by simp [PyData.depthAll]
  | d :: r, h => by
    simp only [PyData.depthAll]
    exact Nat.max_le.mpr ⟨h d List.mem_cons_self, depthAll_by fun e he => h e (List.mem_cons_of_mem _ he)⟩
theorem intsD_lay (l : List Int) : (intsD l).canLay0 = true := lay_tup fun d hd => by
  obtain ⟨i, _, rfl⟩ := List.mem_map.mp hd
  simp only [PyData.canLay0]
theorem intsD_depth (l : List Int) : (intsD l).depth ≤ 1 := by
  unfold intsD
  simp only [PyData.depth]
  refine Nat.succ_le_succ (depthAll_by fun d hd => ?_)
  obtain ⟨i, _, rfl⟩ := List.mem_map.mp hd
  simp only [PyData.depth]
  exact Nat.le_refl _
theorem rowD_lay (x : Bool × List Int) : (rowD x).canLay0 = true := lay_tup (two_mem (by simp only [PyData.canLay0]) (intsD_lay _))
theorem rowD_depth (x : Bool × List Int) : (rowD x).depth ≤ 2 := by
  unfold rowD
  simp only [PyData.depth]
  exact Nat.succ_le_succ (depthAll_by (two_mem (by simp [PyData.depth]) (intsD_depth _)))
theorem tabD_shaped (L : List (Bool × List Int)) : SeqAt.shaped (tabD L) = true := by
  unfold SeqAt.shaped
  rw [Bool.and_eq_true]
  refine ⟨lay_tup fun d hd => ?_, decide_eq_true ?_⟩
  · obtain ⟨x, _, rfl⟩ := List.mem_map.mp hd
    exact rowD_lay x
  · unfold tabD
    simp only [PyData.depth]
    refine Nat.le_trans (Nat.succ_le_succ (depthAll_by (n := 2) fun d hd => ?_)) (by decide)
    obtain ⟨x, _, rfl⟩ := List.mem_map.mp hd
    exact rowD_depth x
theorem dpAll_by {α : Type} {H : Hp} {f : α → V} {g : α → PyData} : ∀ {l : List α}, (∀ x ∈ l, Dp K H (f x) (g x)) → DpAll K H (l.map f) (l.map g)
  | [], _ => .nil
  | x :: l, h => .cons (h x List.mem_cons_self) (dpAll_by fun y hy => h y (List.mem_cons_of_mem _ hy))
theorem dp_nats {H : Hp} {q : Addr} {m : Nat} {f : Nat → Nat} (e : H q = some (.tup (nats m f))) : Dp K H (.ref q) (intsD ((List.range m).map fun a => ((f a : Nat) : Int))) := by
  unfold intsD
  refine .tup (SqT.of e) ?_
  rw [List.map_map]
  exact dpAll_by fun x _ => .int _
theorem dp_tab {H : Hp} {p : Addr} {k m : Nat} {lab : Nat → Bool} {t : Nat → Nat → Nat} (tab : TabAt H p k m lab t) : Dp K H (.ref p) (tabD (tabL k m lab t)) := by
  obtain ⟨rs, ws, e, er⟩ := tab
  unfold tabD tabL
  refine .tup (SqT.of e) ?_
  rw [List.map_map]
  exact dpAll_by fun s hs => .tup (SqT.of (er s (List.mem_range.mp hs)).1) (.cons (.bl _) (.cons (dp_nats (er s (List.mem_range.mp hs)).2) .nil))
theorem tabL_const {k m : Nat} {lab : Nat → Bool} {t : Nat → Nat → Nat} (hc : Closed k m t) (b : Bool) : tabL k m lab t = tabL 1 m (fun _ => b) (fun _ _ => 0) ↔ k = 1 ∧ lab 0 = b := by
  constructor
  · intro h
    have hk : k = 1 := by
      have := congrArg List.length h
      unfold tabL at this
      simpa using this
    subst hk
    refine ⟨rfl, ?_⟩
    unfold tabL at h
    simp only [List.range_one, List.map_cons, List.map_nil, List.cons.injEq, and_true, Prod.mk.injEq] at h
    exact h.1
  · rintro ⟨rfl, h⟩
    unfold tabL
    simp only [List.range_one, List.map_cons, List.map_nil, List.cons.injEq, and_true, Prod.mk.injEq]
    refine ⟨h, List.map_congr_left fun a ha => ?_⟩
    have := hc 0 Nat.one_pos a (List.mem_range.mp ha)
    rw [show t 0 a = 0 by omega]
def spBoolN (C : Addr) : Sp := fun vs H Q _ => ∃ (a : Addr) (l : List Nat) (k : Nat) (lab : Nat → Bool) (t : Nat → Nat → Nat), vs = [.ref a] ∧ NmAt C H a l k lab t ∧ Closed k l.length t ∧ l.length ≤ 10 ∧ ∀ H', Same H H' → Q (.bl (!decide (k = 1 ∧ lab 0 = false))) H'
theorem met_bool (T : Txt K mg) : MetG P w K mg base CX0 (NC mg) "__bool__" ["self"] 2 (spBoolN (NC mg)) := metG_of T.k_Names T.a_Names___bool__ fun f fd F => by
  have C__constant := cl_const (P := P) (w := w) (base := base) T
  refine F.ok sc_Names___bool__ (fun vs H Q E h => ?_) (fun cdv A outer s H vs Q E hr h => ?_)
  · obtain ⟨a, l, k, lab, t, rfl, _⟩ := h
    rfl
  · obtain ⟨a, l, k, lab, t, rfl, ⟨dx, p, ea, tab⟩, hc, hl, q⟩ := h
    refine ⟨_, (pss_one (ps_ret (pe_callTy call_boolB (by rfl) T.m_bool (by decide +kernel) (pa_cons (pe_cmpR (op_neD hr.units) (pe_fldK (K := K) (by rfl) (pv 0) (by rfl)) (pe_cl C__constant (hr.mono (by decide)) (by rfl) (pa_cons (pe_fldK (K := K) (by rfl) (pv 0) (by rfl)) (pa_cons pe_bl pa_nil))) (nomark _)) pa_nil)))), ?_⟩
    walk_at "rds"
    refine ⟨a, _, dx, _, _, rfl, ea, T.k_Names, T.n_Names_table, rfl, ?_⟩
    walk_at "rds"
    refine ⟨a, _, dx, _, _, rfl, ea, T.k_Names, T.n_Names_letters, rfl, ?_⟩
    walk_at "rds"
    refine ⟨l, false, rfl, hl, fun p2 H1 s1 tab2 => ?_⟩
    refine ⟨_, _, dp_tab (tab.same s1), dp_tab tab2, tabD_shaped _, tabD_shaped _, ?_⟩
    rw [eqv_tabD, decide_eq_decide.mpr (tabL_const hc false)]
    walk_at "rds"
    exact q _ s1
end
def alphabet : List Nat := [45, 46, 47, 48, 49, 50, 51, 52, 53, 54, 55, 56, 57, 95, 97, 98, 99, 100, 101, 102, 103, 104, 105, 106, 107, 108, 109, 110, 111, 112, 113, 114, 115, 116, 117, 118, 119, 120, 121, 122]
--C _law_name.if:_law_word
section
variable {P : Program} {w : World} {K : PySem.W.Frag} {mg : Str → Option Value} {base : Heap}
/-- the source of draws stands at D, its great cells at L -/
def Deal (D L : Addr) (H : Hp) : Prop := ∃ (cs : List Int) (m : Int), H D = some (.lst [.ref L, .int m]) ∧ H L = some (.lst (cs.map V.int)) ∧ 0 ≤ m ∧ m < 2147483647 ∧ cs.length ≤ 63
theorem Deal.ne {D L : Addr} {H : Hp} (d : Deal D L H) : D ≠ L := by
  obtain ⟨cs, m, h1, h2, _⟩ := d
  refine ne_of h1 h2 fun z => ?_
  have e : [V.ref L, V.int m] = cs.map V.int := by injection z
  cases cs with
  | nil => simp at e
  | cons c r => simp at e
theorem Deal.keep {D L : Addr} {H H' : Hp} (d : Deal D L H) (s : Same H H') : Deal D L H' := by
  obtain ⟨cs, m, h1, h2, h⟩ := d
  exact ⟨cs, m, s _ _ h1, s _ _ h2, h⟩
theorem Deal.new {D L p : Addr} {H : Hp} (d : Deal D L H) (h : H p = none) : p ≠ D ∧ p ≠ L := by
  obtain ⟨cs, m, h1, h2, _⟩ := d
  exact ⟨(ne_of_none h1 h).symm, (ne_of_none h2 h).symm⟩
def spDraw : Sp := fun vs H Q _ => ∃ (D L : Addr) (n : Int), vs = [.ref D, .int n] ∧ Deal D L H ∧ 0 < n ∧ n < 2 ^ 200 ∧ ∀ (k : Int) (H' : Hp), 0 ≤ k → k < n → Keep D L H H' → Deal D L H' → Q (.int k) H'
theorem cl_draw (T : Txt K mg) : Cl P w K mg base "_law_draw" ["_law_deal_here", "_law_many"] 1 spDraw := cl_of T.a__law_draw fun f fd F => by
  refine F.ok sc__law_draw (fun vs H Q E h => ?_) (fun cdv A outer s H vs Q E hr h => ?_)
  · obtain ⟨D, L, n, rfl, _⟩ := h
    rfl
  · obtain ⟨D, L, n, rfl, d, hn, hn2, q⟩ := h
    refine ⟨_, (Evl.pss_cut (ps_while PassesOwn.never (PW.pt (pw_and (pt_cmpR (op_neD hr.units) (pe_ix ix_list (pv 0) pe_int (fun _ _ => rfl)) (pe_lst pa_nil) (nomark _)) (pw_and1 (pt_cmpR op_eq (pe_ix (ix_listK (K := K) (by rfl)) (pe_ix ix_list (pv 0) pe_int (fun _ _ => rfl)) (pe_un un_neg pe_int) (fun _ _ => rfl)) pe_int (nomark _)))))
      (pss_one (ps_expr (pe_bm0 PySem.F.plainAttrs_list PySem.F.slot_list_pop PySem.F.type_list_pop mt_pop (pe_ix ix_list (pv 0) pe_int (fun _ _ => rfl))))))
      (pss_cons (ps_if (pt_cmpR (op_neD hr.units) (pe_ix ix_list (pv 0) pe_int (fun _ _ => rfl)) (pe_lst pa_nil) (nomark _))
      (pss_cons (ps_set (i := 2) sc__law_draw.nd rfl (Or.inl rfl) (pe_bm0 PySem.F.plainAttrs_list PySem.F.slot_list_pop PySem.F.type_list_pop mt_pop (pe_ix ix_list (pv 0) pe_int (fun _ _ => rfl))))
      (pss_cons (ps_expr (pe_bm PySem.F.plainAttrs_list PySem.F.slot_list_append PySem.F.type_list_append mt_append (pe_ix ix_list (pv 0) pe_int (fun _ _ => rfl)) (pa_cons (pe_op op_fdivW (pv 2) (pv 1)) pa_nil)))
      (pss_one (ps_ret (pe_op op_mod (pe_callTy call_intI (by rfl) T.m_int (by decide +kernel) (pa_cons (pv 2) pa_nil)) (pv 1))))))
      pss_nil)
      (pss_cons (ps_asg (pe_op op_mod (pe_callTy call_intI (by rfl) T.m_int (by decide +kernel) (pa_cons (pe_op op_add (pe_op op_mulW (pe_ix ix_list (pv 0) pe_int (fun _ _ => rfl)) pe_int) pe_int) pa_nil)) pe_int) (pg_sub (pv 0) pe_int set_list))
      (pss_one (ps_ret (pe_op op_mod (pe_callTy call_intI (by rfl) T.m_int (by decide +kernel) (pa_cons (pe_op op_fdivW (pe_ix ix_list (pv 0) pe_int (fun _ _ => rfl)) pe_int) pa_nil)) (pv 1))))))), ?_⟩
    obtain ⟨cs, m, hD, hL, hm⟩ := d
    obtain ⟨hm1, hm2, hm3⟩ := hm
    -- the zeros at the end are thrown away
    refine ⟨fun σ H' => ∃ cs' : List Int, σ = [some (.ref D), some (.int n), none] ∧ cs'.length ≤ 63 ∧ Keep D L H H' ∧ H' D = some (.lst [.ref L, .int m]) ∧ H' L = some (.lst (cs'.map V.int)), ?_, ?_⟩
    · refine ⟨fun k σ H' => ∃ cs' : List Int, σ = [some (.ref D), some (.int n), none] ∧ k = cs'.length ∧ cs'.length ≤ 63 ∧ Keep D L H H' ∧ H' D = some (.lst [.ref L, .int m]) ∧ H' L = some (.lst (cs'.map V.int)), ⟨cs.length, cs, rfl, rfl, hm3, Keep.refl H, hD, hL⟩, ?_⟩
      rintro k σ H1 ⟨cs', rfl, rfl, hlen, kp, h1, h2⟩
      walk_at "rds"
      refine rd_ixL (SqL.of h1) (by rfl) ?_
      walk_at "rds"
      refine ⟨Nat.zero_le _, fun e he => ?_⟩
      have s1 : Same H1 (upd H1 e (.lst [])) := same_upd he
      have h1' := s1 _ _ h1
      have h2' := s1 _ _ h2
      have kp' : Keep D L H (upd H1 e (.lst [])) := kp.trans (Keep.of_same s1)
      refine rd_neNil (SqL.of h2') (SqL.of upd_same) ?_
      generalize upd H1 e (.lst []) = H2 at *
      clear s1
      walk_at "rds"
      refine rd_ite (fun hb => ?_) (fun hb => ?_)
      · -- the last cell
        have hne : cs' ≠ [] := by
          rintro rfl
          simp at hb
        obtain ⟨ys, z, rfl⟩ : ∃ ys z, cs' = ys ++ [z] := ⟨cs'.dropLast, cs'.getLast hne, (List.dropLast_concat_getLast hne).symm⟩
        have h2'' : H2 L = some (.lst (ys.map V.int ++ [.int z])) := by rw [h2', List.map_append]; rfl
        walk_at "rds"
        refine rd_ixL (SqL.of h1') (by rfl) ?_
        walk_at "rds"
        refine rd_ixL (SqL.of h2'') (atI_last _ _) ?_
        walk_at "rds"
        refine rd_ite (fun hz => ?_) (fun hz => ?_)
        · refine ⟨fun σ' H' => ∃ cs' : List Int, σ' = [some (.ref D), some (.int n), none] ∧ cs'.length < ys.length + 1 ∧ Keep D L H H' ∧ H' D = some (.lst [.ref L, .int m]) ∧ H' L = some (.lst (cs'.map V.int)), ?_, ?_⟩
          · rintro σ' H' ⟨cs2, e1, e2, e3, e4, e5⟩
            rw [List.length_append] at hlen
            exact ⟨cs2.length, by simpa using e2, cs2, e1, rfl, by simp at hlen; omega, e3, e4, e5⟩
          · walk_at "rds"
            refine rd_ixL (SqL.of h1') (by rfl) ?_
            refine rd_tyL (SqL.of h2'') ?_
            refine rd_pop h2'' ?_
            have hDL : D ≠ L := ne_of h1' h2'' fun z => by
              injection z with z
              cases ys <;> simp at z
            exact ⟨ys, rfl, Nat.lt_succ_self _, kp'.trans (Keep.own (.inr rfl)), by rw [upd_ne hDL]; exact h1', upd_same⟩
        · exact ⟨_, rfl, hlen, kp', h1', h2'⟩
      · exact ⟨_, rfl, hlen, kp', h1', h2'⟩
    · rintro σ' H1 ⟨cs', rfl, hlen, kp, h1, h2⟩
      walk_at "rds"
      refine rd_ixL (SqL.of h1) (by rfl) ?_
      walk_at "rds"
      refine ⟨Nat.zero_le _, fun e he => ?_⟩
      have s1 : Same H1 (upd H1 e (.lst [])) := same_upd he
      have h1' := s1 _ _ h1
      have h2' := s1 _ _ h2
      have kp' : Keep D L H (upd H1 e (.lst [])) := kp.trans (Keep.of_same s1)
      refine rd_neNil (SqL.of h2') (SqL.of upd_same) ?_
      generalize upd H1 e (.lst []) = H2 at *
      clear s1
      have hd : Deal D L H2 := ⟨cs', m, h1', h2', hm1, hm2, hlen⟩
      have hDL := hd.ne
      walk_at "rds"
      refine rd_ite (fun hb => ?_) (fun hb => ?_)
      · have hne : cs' ≠ [] := by
          rintro rfl
          simp at hb
        obtain ⟨ys, z, rfl⟩ : ∃ ys z, cs' = ys ++ [z] := ⟨cs'.dropLast, cs'.getLast hne, (List.dropLast_concat_getLast hne).symm⟩
        have h2'' : H2 L = some (.lst (ys.map V.int ++ [.int z])) := by rw [h2', List.map_append]; rfl
        rw [List.length_append] at hlen
        simp only [List.length_cons, List.length_nil] at hlen
        walk_at "rds"
        refine rd_ixL (SqL.of h1') (by rfl) ?_
        refine rd_tyL (SqL.of h2'') ?_
        refine rd_pop h2'' ?_
        have h1c : upd H2 L (.lst (ys.map V.int)) D = some (.lst [.ref L, .int m]) := by rw [upd_ne hDL]; exact h1'
        walk_at "rds"
        refine rd_ixL (SqL.of h1c) (by rfl) ?_
        refine rd_tyL (SqL.of upd_same) ?_
        walk_at "rds"
        refine rd_I (wide_div hn (b := 200) (by omega) (by decide) (by decide)) ?_
        walk_at "rds"
        refine rd_app upd_same (by rw [List.length_map]; exact small1000 (by omega)) ?_
        walk_at "rds"
        refine rd_I hn ?_
        rw [upd_upd]
        refine q (z % n) _ (Int.emod_nonneg _ (by omega)) (Int.emod_lt_of_pos _ hn) (kp'.trans (Keep.own (.inr rfl))) ⟨ys ++ [z / n], m, by rw [upd_ne hDL]; exact h1', ?_, hm1, hm2, by simpa using hlen⟩
        rw [upd_same, List.map_append]
        rfl
      · walk_at "rds"
        refine rd_ixL (SqL.of h1') (by rfl) ?_
        walk_at "rds"
        refine rd_I (mulW_of (by omega) (by decide)) ?_
        walk_at "rds"
        refine rd_I (by decide) ?_
        walk_at "rds"
        refine rd_setL h1' (by rfl) ?_
        walk_at "rds"
        refine rd_ixL (SqL.of upd_same) (by rfl) ?_
        walk_at "rds"
        refine rd_I (wide_div (b := 10) (by decide) (by decide) (by decide) (by decide)) ?_
        walk_at "rds"
        refine rd_I hn ?_
        refine q _ _ (Int.emod_nonneg _ (by omega)) (Int.emod_lt_of_pos _ hn) (kp'.trans (Keep.own (.inl rfl))) ⟨cs', (m * 48271 + 12820163) % 2147483647, upd_same, by rw [upd_ne hDL.symm]; exact h2', Int.emod_nonneg _ (by decide), Int.emod_lt_of_pos _ (by decide), hlen⟩
/-- the source is made -/
def spDeal (K : PySem.W.Frag) : Sp := fun vs H Q _ => ∃ (a : Addr) (ns : List Int) (b : Int), vs = [.ref a, .int b] ∧ SqL K H a (ns.map V.int) ∧ ns.length ≤ 63 ∧ 0 ≤ b ∧ b ≤ 1000 ∧
  ∀ (D L : Addr) (H' : Hp), H D = none → H L = none → Same H H' → Deal D L H' → Q (.ref D) H'
theorem cl_deal (T : Txt K mg) : Cl P w K mg base "_law_deal" ["_law_script", "_law_base"] 1 (spDeal K) := cl_of T.a__law_deal fun f fd F => by
  refine F.ok sc__law_deal (fun vs H Q E h => ?_) (fun cdv A outer s H vs Q E hr h => ?_)
  · obtain ⟨a, ns, b, rfl, _⟩ := h
    rfl
  · obtain ⟨a, ns, b, rfl, hS, hlen, hb0, hb1, q⟩ := h
    refine ⟨_, (pss_cons (ps_setLc (i := 3) (own := [("_law_cell", 2)]) (g := gName 2) (tt := tYes) (by rfl) sc__law_deal.nd rfl rfl (sw_true rfl rfl rfl (by decide +kernel)) (pi_list (pe_slice sl_list (pv 0) (po_some (pv 1)) (po_some pe_int))) (blkOk_by (own := [("_law_cell", 2)]) (N := n__law_deal) (sc := defScope s__law_deal) (by decide +kernel)) (fun _ _ _ _ _ => (pg_name (i := 2) sc__law_deal.nd rfl (by first | exact Or.inl rfl | exact Or.inr rfl))) (fun _ _ _ _ _ => pts_nil) (fun _ _ _ _ _ => (pe_callB call_abs (by rfl) T.m_abs (by decide +kernel) (pa_cons (pv 2) pa_nil))))
      (pss_cons (ps_set (i := 4) sc__law_deal.nd rfl (Or.inl rfl) (pe_op op_add pe_int (pe_op op_mulW pe_int (pv 1))))
      (Evl.pss_cut (ps_for PassesOwn.never rfl (pi_list (pv 3)) (pg_name (i := 2) sc__law_deal.nd rfl (Or.inl rfl))
      (pss_one (ps_set (i := 4) sc__law_deal.nd rfl (Or.inl rfl) (pe_op op_mod (pe_callTy call_intI (by rfl) T.m_int (by decide +kernel) (pa_cons (pe_op op_add (pe_op op_mulW (pv 4) pe_int) (pe_op op_mod (pe_callTy call_intI (by rfl) T.m_int (by decide +kernel) (pa_cons (pv 2) pa_nil)) pe_int)) pa_nil)) pe_int))))
      (pss_one (ps_ret (pe_lst (pa_cons (pe_revL (pe_lc (own := [("_law_cell", 2)]) (g := gName 2) (by rfl) sc__law_deal.nd (pi_list (pv 3)) (blkOk_by (own := [("_law_cell", 2)]) (N := n__law_deal) (sc := defScope s__law_deal) (by decide +kernel)) (fun _ _ _ _ _ => (pg_name (i := 2) sc__law_deal.nd rfl (by first | exact Or.inl rfl | exact Or.inr rfl))) (fun _ _ _ _ _ => (pts_one (pt_cmpR op_ge (pv 2) (pe_op op_pow pe_int pe_int) (nomark _)))) (fun _ _ _ _ _ => (pv 2)))) (pa_cons (pv 4) pa_nil)))))))), ?_⟩
    walk_at "rds"
    refine rd_slL hS fun p np => ?_
    obtain ⟨zs, ez, hz⟩ := cutV_ints ns (some b) (some 63)
    rw [ez]
    have s1 : Same H (upd H p (.lst (zs.map V.int))) := same_upd np
    have hp : upd H p (.lst (zs.map V.int)) p = some (.lst (zs.map V.int)) := upd_same
    generalize upd H p (.lst (zs.map V.int)) = H1 at *
    refine ⟨_, rfl, ⟨_, SqL.of hp⟩, fun c nc => lc_list (K := K) (a := p) (xs := zs.map V.int) (fun i H' => Same H1 H' ∧ H' c = some (.lst ((zs.take i).map fun z => V.int (if z < 0 then -z else z)))) ⟨same_upd nc, upd_same⟩ (fun i H' _ h => SqL.of (h.1 _ _ hp)) ?_ ?_⟩
    · rintro i x H2 hx ⟨s2, hc⟩
      obtain ⟨z, hz', rfl⟩ := get_map hx
      have hl : i < zs.length := (List.getElem?_eq_some_iff.mp hz').1
      walk_at "rds"
      refine ⟨rfl, ?_⟩
      walk_at "rds"
      refine rd_ite (fun _ => ?_) (fun h => by cases h)
      walk_at "rds"
      refine ⟨z, rfl, _, hc, by rw [List.length_map, List.length_take]; exact small1000 (by omega), same_mut s2 nc, ?_⟩
      rw [upd_same, take_snoc _ hz']
    · rintro H2 ⟨s2, hc0⟩
      obtain ⟨cs, hcs, hc⟩ : ∃ cs : List Int, cs.length ≤ 63 ∧ H2 c = some (.lst (cs.map V.int)) := ⟨zs.map fun z => if z < 0 then -z else z, by rw [List.length_map]; omega, by
        rw [hc0, List.length_map, List.take_length, List.map_map]
        rfl⟩
      have sH : Same H H2 := s1.trans s2
      clear hc0 s1 s2 hp nc np ez hz
      walk_at "rds"
      refine rd_I (mulW_of (by decide) (by omega)) ?_
      walk_at "rds"
      -- the number that is mixed
      refine rd_cut (fun σ' H' => ∃ (y : Option V) (m : Int), σ' = [some (.ref a), some (.int b), y, some (.ref c), some (.int m)] ∧ H' = H2 ∧ 0 ≤ m ∧ m < 2147483647) ?_ ?_
      · walk_at "rds"
        refine ⟨_, rfl, ⟨_, SqL.of hc⟩, for_list (K := K) (a := c) (xs := cs.map V.int) (fun i σ' H' => ∃ (y : Option V) (m : Int), σ' = [some (.ref a), some (.int b), y, some (.ref c), some (.int m)] ∧ H' = H2 ∧ 0 ≤ m ∧ m < 2147483647) ⟨none, 15485863 + 11 * b, rfl, rfl, by omega, by omega⟩ (fun i σ' H' _ h => ?_) ?_ (fun σ' H' h => h)⟩
        · obtain ⟨y, m, _, rfl, _⟩ := h
          exact SqL.of hc
        · rintro i x σ' H' hx ⟨y, m, rfl, rfl, hm1, hm2⟩
          obtain ⟨z, hz', rfl⟩ := get_map hx
          walk_at "rds"
          refine rd_I (mulW_of (by omega) (by decide)) ?_
          walk_at "rds"
          refine rd_I (by decide) ?_
          walk_at "rds"
          refine rd_I (by decide) ?_
          walk_at "rds"
          exact ⟨_, _, rfl, rfl, Int.emod_nonneg _ (by decide), Int.emod_lt_of_pos _ (by decide)⟩
      · rintro σ' H' ⟨y, m, rfl, rfl, hm1, hm2⟩
        walk_at "rds"
        refine ⟨_, rfl, ⟨_, SqL.of hc⟩, fun e ne => lc_list (K := K) (a := c) (xs := cs.map V.int) (fun i H3 => Same H' H3 ∧ ∃ ds : List Int, ds.length ≤ i ∧ H3 e = some (.lst (ds.map V.int))) ⟨same_upd ne, [], Nat.le_refl _, upd_same⟩ (fun i H3 _ h => SqL.of (h.1 _ _ hc)) ?_ ?_⟩
        · rintro i x H3 hx ⟨s3, ds, hd, he⟩
          obtain ⟨z, hz', rfl⟩ := get_map hx
          have hl : i < cs.length := (List.getElem?_eq_some_iff.mp hz').1
          walk_at "rds"
          refine ⟨rfl, ?_⟩
          walk_at "rds"
          refine rd_I ⟨by decide, by decide, by decide⟩ ?_
          walk_at "rds"
          refine rd_ite (fun h0 => ?_) (fun h0 => ?_)
          · walk_at "rds"
            refine ⟨_, he, by rw [List.length_map]; exact small1000 (by omega), same_mut s3 ne, ds ++ [z], by simpa using hd, ?_⟩
            rw [upd_same, List.map_append]
            rfl
          · exact ⟨s3, ds, by omega, he⟩
        · rintro H3 ⟨s3, ds, hd, he⟩
          rw [List.length_map] at hd
          refine ⟨e, _, rfl, SqL.of he, fun l nl => ?_⟩
          have e1 : (ds.map V.int).reverse = ds.reverse.map V.int := by rw [List.map_reverse]
          rw [e1]
          walk_at "rds"
          refine ⟨(by show 2 ≤ sizeLine; decide), fun d nd => ?_⟩
          have s4 : Same H3 (upd H3 l (.lst (ds.reverse.map V.int))) := same_upd nl
          have s5 := same_upd (o := .lst [V.ref l, V.int m]) nd
          have nl2 : H l = none := (sH.trans s3).free nl
          refine q d l _ ((sH.trans (s3.trans s4)).free nd) nl2 (sH.trans (s3.trans (s4.trans s5))) ⟨ds.reverse, m, upd_same, ?_, hm1, hm2, by rw [List.length_reverse]; omega⟩
          rw [upd_ne (ne_of_none upd_same nd), upd_same]
/-- a sequence to pick from: a list, or a text by its sgs -/
def SeqV (K : PySem.W.Frag) (H : Hp) (D L : Addr) (v : V) (ys : List V) : Prop := (∃ a, v = .ref a ∧ a ≠ D ∧ a ≠ L ∧ SqL K H a ys) ∨ (∃ l, v = .str (tx l) ∧ ys = sgs l)
def spPick (K : PySem.W.Frag) : Sp := fun vs H Q _ => ∃ (D L : Addr) (v : V) (ys : List V), vs = [.ref D, v] ∧ Deal D L H ∧ SeqV K H D L v ys ∧ 0 < ys.length ∧ ys.length ≤ 1000 ∧ ∀ (x : V) (H' : Hp), x ∈ ys → Keep D L H H' → Deal D L H' → Q x H'
theorem keep_seq {K : PySem.W.Frag} {H H' : Hp} {D L a : Addr} {ys : List V} (k : Keep D L H H') (h1 : a ≠ D) (h2 : a ≠ L) (h : SqL K H a ys) : SqL K H' a ys := by
  rcases h with (h | ⟨o, h⟩) | h
  · exact .inl (.inl (k _ _ h h1 h2))
  · exact .inl (.inr ⟨o, k _ _ h h1 h2⟩)
  · exact .inr h
theorem cl_pick (T : Txt K mg) : Cl P w K mg base "_law_pick" ["_law_deal_here", "_law_some"] 2 (spPick K) := cl_of T.a__law_pick fun f fd F => by
  have C__law_draw := cl_draw (P := P) (w := w) (base := base) T
  refine F.ok sc__law_pick (fun vs H Q E h => ?_) (fun cdv A outer s H vs Q E hr h => ?_)
  · obtain ⟨D, L, v, ys, rfl, _⟩ := h
    rfl
  · obtain ⟨D, L, v, ys, rfl, hd, hS, h0, h1, q⟩ := h
    refine ⟨_, (pss_one (ps_ret (pe_ix ix_any (pv 1) (pe_cl C__law_draw (hr.mono (by decide)) (by rfl) (pa_cons (pv 0) (pa_cons (pe_callB call_lenA (by rfl) T.m_len (by decide +kernel) (pa_cons (pv 1) pa_nil)) pa_nil))) (fun _ _ => rfl)))), ?_⟩
    walk_at "rds"
    refine rd_lenA (ys := ys) ?_ ?_
    · rcases hS with ⟨a, rfl, h2, h3, h4⟩ | ⟨l, rfl, rfl⟩
      · exact .inl ⟨a, rfl, h4⟩
      · exact .inr ⟨l, rfl, rfl, by rw [← sgs_len]; exact Nat.le_of_lt (small1000 h1)⟩
    walk_at "rds"
    refine ⟨D, L, _, rfl, hd, by omega, by omega, fun k H' hk1 hk2 kp hd' => ?_⟩
    obtain ⟨j, rfl⟩ := Int.eq_ofNat_of_zero_le hk1
    have hj : j < ys.length := by omega
    refine rd_ixA (ys := ys) (j := j) (x := ys[j]) ?_ (List.getElem?_eq_getElem hj) ?_
    · rcases hS with ⟨a, rfl, h2, h3, h4⟩ | ⟨l, rfl, rfl⟩
      · exact .inl ⟨a, rfl, keep_seq kp h2 h3 h4⟩
      · exact .inr ⟨l, rfl, rfl, by rw [← sgs_len]; exact Nat.le_of_lt (small1000 h1)⟩
    · exact q _ _ (List.getElem_mem hj) kp hd'
end
section
variable {P : Program} {w : World} {K : PySem.W.Frag} {mg : Str → Option Value} {base : Heap}
theorem alphabet_nodup : alphabet.Nodup := by decide
def spLetters : Sp := fun vs H Q _ => ∃ (D L : Addr) (n : Int), vs = [.ref D, .int n] ∧ Deal D L H ∧ 2 ≤ n ∧ n ≤ 39 ∧
  ∀ (ls : List Nat) (H' : Hp), 2 ≤ ls.length → (ls.length : Int) ≤ n → ls.Nodup → (∀ c ∈ ls, c ∈ alphabet) → Keep D L H H' → Deal D L H' → Q (.str (tx ls)) H'
theorem cl_letters (T : Txt K mg) : Cl P w K mg base "_law_letters" ["_law_deal_here", "_law_most"] 2 spLetters := cl_of T.a__law_letters fun f fd F => by
  have C__law_draw := cl_draw (P := P) (w := w) (base := base) T
  refine F.ok sc__law_letters (fun vs H Q E h => ?_) (fun cdv A outer s H vs Q E hr h => ?_)
  · obtain ⟨D, L, v, rfl, _⟩ := h
    rfl
  · obtain ⟨D, L, n, rfl, hd, h0, h1, q⟩ := h
    refine ⟨_, (pss_cons (ps_asg (pe_tup (pa_cons (pe_strX [45, 46, 47, 48, 49, 50, 51, 52, 53, 54, 55, 56, 57, 95, 97, 98, 99, 100, 101, 102, 103, 104, 105, 106, 107, 108, 109, 110, 111, 112, 113, 114, 115, 116, 117, 118, 119, 120, 121, 122] (by decide +kernel)) (pa_cons (pe_strX [] (by decide +kernel)) pa_nil))) (pg_tup rfl (pgs_cons (pg_name (i := 2) sc__law_letters.nd rfl (Or.inl rfl)) (pgs_cons (pg_name (i := 3) sc__law_letters.nd rfl (Or.inl rfl)) pgs_nil))))
      (pss_cons (ps_set (i := 4) sc__law_letters.nd rfl (Or.inl rfl) (pe_op op_add pe_int (pe_cl C__law_draw (hr.mono (by decide)) (by rfl) (pa_cons (pv 0) (pa_cons (pe_op op_sub (pv 1) pe_int) pa_nil)))))
      (Evl.pss_cut (ps_for PassesOwn.never rfl (pi_range1 (by rfl) T.m_range (pa_cons (pv 4) pa_nil)) (pg_name (i := 5) sc__law_letters.nd rfl (Or.inl rfl))
      (pss_cons (ps_set (i := 6) sc__law_letters.nd rfl (Or.inl rfl) (pe_cl C__law_draw (hr.mono (by decide)) (by rfl) (pa_cons (pv 0) (pa_cons (pe_callB (call_min2X rfl) (by rfl) T.m_min (by decide +kernel) (pa_cons pe_int (pa_cons (pe_op op_add (pe_op op_add (pe_op op_sub (pe_callB call_lenX (by rfl) T.m_len (by decide +kernel) (pa_cons (pv 2) pa_nil)) (pv 4)) (pv 5)) pe_int) pa_nil))) pa_nil))))
      (pss_one (ps_par (i := 3) (j := 2) (by rfl) sc__law_letters.nd rfl rfl (by decide) rfl rfl (pa_cons (pe_op op_addX (pv 3) (pe_ix ix_strX (pv 2) (pv 6) (fun _ _ => rfl))) (pa_cons (pe_slice sl_strX (pv 2) (po_some (pe_op op_add (pv 6) pe_int)) po_none) pa_nil)) (by rfl)))))
      (pss_one (ps_ret (pv 3)))))), ?_⟩
    walk_at "rds"
    refine ⟨by show 2 ≤ sizeLine; decide, fun p0 n0 => ?_⟩
    have s1 : Same H (upd H p0 (.tup [.str (tx alphabet), .str (tx [])])) := same_upd n0
    change gTup K 2 _ (.ref p0) _ (upd H p0 (.tup [.str (tx alphabet), .str (tx [])])) _
    refine rd_gtup (xs := [.str (tx alphabet), .str (tx [])]) (SqT.of upd_same) rfl ?_
    have hd1 := hd.keep s1
    have kp1 := Keep.of_same (D := D) (L := L) s1
    generalize upd H p0 (.tup [.str (tx alphabet), .str (tx [])]) = H1 at hd1 kp1 ⊢
    walk_at "rds"
    refine ⟨D, L, _, rfl, hd1, by omega, by omega, fun k H2 hk1 hk2 kp2 hd2 => ?_⟩
    have kp12 := kp1.trans kp2
    walk_at "rds"
    dsimp only
    refine rd_cut (fun σ' H' => ∃ (y2 y5 y6 : Option V) (fs : List Nat), σ' = [some (.ref D), some (.int n), y2, some (.str (tx fs)), some (.int (2 + k)), y5, y6] ∧ (fs.length : Int) = 2 + k ∧ fs.Nodup ∧ (∀ c ∈ fs, c ∈ alphabet) ∧ Keep D L H H' ∧ Deal D L H') ?_ ?_
    rotate_left
    · rintro σ' H3 ⟨y2, y5, y6, fs, rfl, hl, nd, hm, kp, hd3⟩
      walk_at "rds"
      exact q fs H3 (by omega) (by omega) nd hm kp hd3
    walk_at "rds"
    refine ⟨2 + k, rfl, by omega, by omega, for_range (lo := 0) (n := (2 + k).toNat) (fun i σ' H' => ∃ (y5 y6 : Option V) (fs : List Nat) (j : Nat), σ' = [some (.ref D), some (.int n), some (.str (tx (alphabet.drop j))), some (.str (tx fs)), some (.int (2 + k)), y5, y6] ∧ fs.length = i ∧ j ≤ 40 ∧ 2 + k + (j : Int) ≤ 40 + (i : Int) ∧ fs.Nodup ∧ (∀ c ∈ fs, c ∈ alphabet.take j) ∧ Keep D L H H' ∧ Deal D L H')
      ⟨none, none, [], 0, rfl, rfl, by omega, by omega, List.nodup_nil, (fun c h => by cases h), kp12, hd2⟩ ?_ ?_⟩
    rotate_left
    · rintro σ' H3 ⟨y5, y6, fs, j, rfl, hl, hj, _, nd, hm, kp, hd3⟩
      exact ⟨_, _, _, fs, rfl, by omega, nd, fun c hc => List.mem_of_mem_take (hm c hc), kp, hd3⟩
    rintro i σ' H3 hi ⟨y5, y6, fs, j, rfl, hl, hj, hb, nd, hm, kp, hd3⟩
    have ha : alphabet.length = 40 := rfl
    have hdl : (alphabet.drop j).length = 40 - j := by rw [List.length_drop, ha]
    walk_at "rds"
    refine rd_lenX (by rw [hdl]; exact sz_of' (by omega)) ?_
    walk_at "rds"
    refine rd_minI ?_
    rw [hdl]
    refine ⟨D, L, _, rfl, hd3, by split <;> omega, by split <;> omega, fun z H4 hz1 hz2 kp4 hd4 => ?_⟩
    obtain ⟨p, rfl⟩ := Int.eq_ofNat_of_zero_le hz1
    have hp : j + p < 40 ∧ 2 + k + (j + p + 1 : Nat) ≤ 40 + (i + 1 : Nat) := by split at hz2 <;> omega
    obtain ⟨c, hc⟩ : ∃ c, alphabet[j + p]? = some c := ⟨_, List.getElem?_eq_getElem (by rw [ha]; exact hp.1)⟩
    walk_at "rds"
    refine rd_ixX (by rw [hdl]; exact sz_of' (by omega)) (atI_nat (by rw [List.getElem?_drop]; exact hc)) ?_
    refine rd_addX (sz_of' (by show fs.length + 1 ≤ 1000; omega)) ?_
    walk_at "rds"
    rw [show ((p : Nat) : Int) + 1 = ((p + 1 : Nat) : Int) by omega]
    refine rd_slX (by rw [hdl]; exact sz_of' (by omega)) ?_
    rw [cut_from (by rw [hdl]; omega), List.drop_drop]
    walk_at "rds"
    refine ⟨_, _, fs ++ [c], j + (p + 1), rfl, by rw [List.length_append, hl]; rfl, by omega, by omega, ?_, fun d hdm => ?_, kp.trans kp4, hd4⟩
    · refine List.nodup_append.mpr ⟨nd, by simp, fun a h b h2 => ?_⟩
      rw [List.mem_singleton.mp h2]
      rintro rfl
      refine not_before alphabet_nodup hc ?_
      have := hm a h
      exact (List.take_sublist_take_left (Nat.le_add_right j p)).subset this
    · rcases List.mem_append.mp hdm with h | h
      · exact (List.take_sublist_take_left (by omega)).subset (hm d h)
      · rw [List.mem_singleton.mp h, show j + (p + 1) = j + p + 1 by omega, List.take_add_one, hc]
        exact List.mem_append_right _ (by simp)
theorem picked {D L e : Addr} {H3 H5 : Hp} {ls t : List Nat} {i c : Nat} (ne : H3 e = none) (eDL : e ≠ D ∧ e ≠ L) (ht : t.length = i) (hmem : ∀ c ∈ t, c ∈ ls) (kp : Keep D L H3 H5) (hd : Deal D L H5) (he : H5 e = some (.lst (sgs t))) (hc : c ∈ ls) (hi : i < 1000) :
    ∃ acc, H5 e = some (.lst acc) ∧ acc.length < sizeLine ∧ ∃ t' : List Nat, t'.length = i + 1 ∧ (∀ c ∈ t', c ∈ ls) ∧ Keep D L H3 (upd H5 e (.lst (acc ++ [.str (tx [c])]))) ∧ Deal D L (upd H5 e (.lst (acc ++ [.str (tx [c])]))) ∧ upd H5 e (.lst (acc ++ [.str (tx [c])])) e = some (.lst (sgs t')) := by
  refine ⟨_, he, by rw [sgs_len, ht]; exact small1000 (by omega), t ++ [c], by rw [List.length_append, ht]; rfl, fun d hdm => ?_, kp.mut ne, ?_, ?_⟩
  · rcases List.mem_append.mp hdm with h | h
    · exact hmem d h
    · rw [List.mem_singleton.mp h]
      exact hc
  · obtain ⟨cs, m, a1, a2, a3⟩ := hd
    exact ⟨cs, m, by rw [upd_ne eDL.1.symm]; exact a1, by rw [upd_ne eDL.2.symm]; exact a2, a3⟩
  · rw [upd_same]
    unfold sgs
    rw [List.map_append]
    rfl
def spText : Sp := fun vs H Q _ => ∃ (D L : Addr) (ls : List Nat) (n : Int), vs = [.ref D, .str (tx ls), .int n] ∧ Deal D L H ∧ ls ≠ [] ∧ ls.length ≤ 100 ∧ 0 ≤ n ∧ n ≤ 100 ∧
  ∀ (t : List Nat) (H' : Hp), (∀ c ∈ t, c ∈ ls) → (t.length : Int) ≤ n → Keep D L H H' → Deal D L H' → Q (.str (tx t)) H'
theorem cl_text (T : Txt K mg) : Cl P w K mg base "_law_text" ["_law_deal_here", "_law_letters_here", "_law_most"] 3 spText := cl_of T.a__law_text fun f fd F => by
  have C__law_draw := cl_draw (P := P) (w := w) (base := base) T
  have C__law_pick := cl_pick (P := P) (w := w) (base := base) T
  refine F.ok sc__law_text (fun vs H Q E h => ?_) (fun cdv A outer s H vs Q E hr h => ?_)
  · obtain ⟨D, L, ls, n, rfl, _⟩ := h
    rfl
  · obtain ⟨D, L, ls, n, rfl, hd, hne, hls, h0, h1, q⟩ := h
    have hpos : 0 < ls.length := List.length_pos_iff.mpr hne
    refine ⟨_, (pss_one (ps_ret (pe_bm PySem.F.plainAttrs_str PySem.F.slot_str_join PySem.F.type_str_join mt_joinX (pe_strX [] (by decide +kernel)) (pa_cons (pe_lc (own := [("_law_k", 3)]) (g := gName 3) (tt := tYes) (by rfl) sc__law_text.nd (pi_range1 (by rfl) T.m_range (pa_cons (pe_cl C__law_draw (hr.mono (by decide)) (by rfl) (pa_cons (pv 0) (pa_cons (pe_op op_add (pv 2) pe_int) pa_nil))) pa_nil)) (blkOk_by (own := [("_law_k", 3)]) (N := n__law_text) (sc := defScope s__law_text) (by decide +kernel)) (fun _ _ _ _ _ => (pg_name (i := 3) sc__law_text.nd rfl (by first | exact Or.inl rfl | exact Or.inr rfl))) (fun _ _ _ _ _ => pts_nil) (fun _ _ _ _ _ => (pe_cl C__law_pick (hr.mono (by decide)) (by rfl) (pa_cons (pv 0) (pa_cons (pv 1) pa_nil))))) pa_nil)))), ?_⟩
    walk_at "rds"
    refine ⟨D, L, _, rfl, hd, by omega, by omega, fun k H3 hk1 hk2 kp3 hd3 => ?_⟩
    walk_at "rds"
    refine ⟨k, rfl, by omega, by omega, fun e ne => lc_range (lo := 0) (n := (k).toNat) (fun i H4 => ∃ t : List Nat, t.length = i ∧ (∀ c ∈ t, c ∈ ls) ∧ Keep D L H3 H4 ∧ Deal D L H4 ∧ H4 e = some (.lst (sgs t))) ⟨[], rfl, (fun _ h => by cases h), Keep.of_same (same_upd ne), hd3.keep (same_upd ne), upd_same⟩ ?_ ?_⟩
    · rintro i H4 hi ⟨t, ht, hmem, kp4, hd4, he⟩
      have eDL := hd3.new ne
      walk_at "rds"
      refine ⟨rfl, ?_⟩
      walk_at "rds"
      refine rd_ite (fun _ => ?_) (fun h => by cases h)
      walk_at "rds"
      refine ⟨D, L, _, sgs ls, rfl, hd4, .inr ⟨ls, rfl, rfl⟩, by rw [sgs_len]; exact hpos, by rw [sgs_len]; omega, fun x H5 hx kp5 hd5 => ?_⟩
      obtain ⟨c, hc, rfl⟩ := List.mem_map.mp hx
      exact picked ne eDL ht hmem (kp4.trans kp5) hd5 (kp5 _ _ he eDL.1 eDL.2) hc (by omega)
    rintro H5 ⟨t, htl, ht, kp5, hd5, he5⟩
    refine rd_joinX (ls := t.map fun c => [c]) (SqL.of (by rw [he5, List.map_map]; rfl)) (by rw [List.map_map, show (List.length ∘ fun c : Nat => [c]) = fun _ => 1 from rfl, List.map_const', List.sum_replicate_nat]; omega) ?_
    rw [flat_ones]
    walk_at "rds"
    refine q t H5 ht (by omega) (kp3.trans kp5) hd5
theorem atI_lastN {l : List Nat} (h : l ≠ []) : atI l (-1) = some (l.getLast h) := by
  have go : ∀ l' : List Nat, l' = l.dropLast ++ [l.getLast h] → atI l' (-1) = some (l.getLast h) := fun l' e => by
    rw [e]
    exact atI_last _ _
  exact go l (List.dropLast_concat_getLast h).symm
theorem cl_name (T : Txt K mg) : Cl P w K mg base "_law_name" ["_law_deal_here", "_law_letters_here", "_law_most"] 3 spText := cl_of T.a__law_name fun f fd F => by
  have C__law_draw := cl_draw (P := P) (w := w) (base := base) T
  have C__law_pick := cl_pick (P := P) (w := w) (base := base) T
  refine F.ok sc__law_name (fun vs H Q E h => ?_) (fun cdv A outer s H vs Q E hr h => ?_)
  · obtain ⟨D, L, ls, n, rfl, _⟩ := h
    rfl
  · obtain ⟨D, L, ls, n, rfl, hd, hne, hls, h0, h1, q⟩ := h
    have hpos : 0 < ls.length := List.length_pos_iff.mpr hne
    refine ⟨_, (pss_cons (ps_par (i := 3) (j := 4) (by rfl) sc__law_name.nd rfl rfl (by decide) rfl rfl (pa_cons (pe_cl C__law_draw (hr.mono (by decide)) (by rfl) (pa_cons (pv 0) (pa_cons pe_int pa_nil))) (pa_cons (pe_cl C__law_draw (hr.mono (by decide)) (by rfl) (pa_cons (pv 0) (pa_cons (pe_op op_add (pv 2) pe_int) pa_nil))) pa_nil)) (by rfl))
      (pss_cons (ps_if (pt_cmpR op_lt (pv 3) pe_int (nomark _))
      (pss_one (ps_ret (pe_bm PySem.F.plainAttrs_str PySem.F.slot_str_join PySem.F.type_str_join mt_joinX (pe_strX [] (by decide +kernel)) (pa_cons (pe_lc (own := [("_law_k", 6)]) (g := gName 6) (tt := tYes) (by rfl) sc__law_name.nd (pi_range1 (by rfl) T.m_range (pa_cons (pv 4) pa_nil)) (blkOk_by (own := [("_law_k", 6)]) (N := n__law_name) (sc := defScope s__law_name) (by decide +kernel)) (fun _ _ _ _ _ => (pg_name (i := 6) sc__law_name.nd rfl (by first | exact Or.inl rfl | exact Or.inr rfl))) (fun _ _ _ _ _ => pts_nil) (fun _ _ _ _ _ => (pe_cl C__law_pick (hr.mono (by decide)) (by rfl) (pa_cons (pv 0) (pa_cons (pv 1) pa_nil))))) pa_nil))))
      pss_nil)
      (pss_cons (ps_set (i := 5) sc__law_name.nd rfl (Or.inl rfl) (pe_bm PySem.F.plainAttrs_str PySem.F.slot_str_join PySem.F.type_str_join mt_joinX (pe_strX [] (by decide +kernel)) (pa_cons (pe_lc (own := [("_law_k", 6)]) (g := gName 6) (tt := tYes) (by rfl) sc__law_name.nd (pi_range1 (by rfl) T.m_range (pa_cons (pe_op op_add pe_int (pe_cl C__law_draw (hr.mono (by decide)) (by rfl) (pa_cons (pv 0) (pa_cons pe_int pa_nil)))) pa_nil)) (blkOk_by (own := [("_law_k", 6)]) (N := n__law_name) (sc := defScope s__law_name) (by decide +kernel)) (fun _ _ _ _ _ => (pg_name (i := 6) sc__law_name.nd rfl (by first | exact Or.inl rfl | exact Or.inr rfl))) (fun _ _ _ _ _ => pts_nil) (fun _ _ _ _ _ => (pe_cl C__law_pick (hr.mono (by decide)) (by rfl) (pa_cons (pv 0) (pa_cons (pv 1) pa_nil))))) pa_nil)))
      (Evl.pss_cut (ps_if (pt_cmpR op_eq (pv 3) pe_int (nomark _))
      (pss_one (ps_set (i := 5) sc__law_name.nd rfl (Or.inl rfl) (pe_ix (ix_listK (K := K) (by rfl)) (pe_lst (pa_cons (pe_ix ix_strX (pv 1) pe_int (fun _ _ => rfl)) (pa_cons (pe_ix ix_strX (pv 1) (pe_un un_neg pe_int) (fun _ _ => rfl)) pa_nil))) (pe_cl C__law_draw (hr.mono (by decide)) (by rfl) (pa_cons (pv 0) (pa_cons pe_int pa_nil))) (fun _ _ => rfl))))
      pss_nil)
      (pss_one (ps_ret (pe_slice sl_strX (pe_op op_mulT (pv 5) (pe_op op_add (pv 4) pe_int)) po_none (po_some (pv 4))))))))), ?_⟩
    walk_at "rds"
    refine ⟨D, L, _, rfl, hd, by omega, by omega, fun fo H1 hf1 hf2 kp1 hd1 => ?_⟩
    walk_at "rds"
    refine ⟨D, L, _, rfl, hd1, by omega, by omega, fun k H3 hk1 hk2 kp2 hd3 => ?_⟩
    have kp3 := kp1.trans kp2
    walk_at "rds"
    refine rd_ite (fun hfo => ?_) (fun hfo => ?_)
    · walk_at "rds"
      walk_at "rds"
      refine ⟨k, rfl, by omega, by omega, fun e ne => lc_range (lo := 0) (n := (k).toNat) (fun i H4 => ∃ t : List Nat, t.length = i ∧ (∀ c ∈ t, c ∈ ls) ∧ Keep D L H3 H4 ∧ Deal D L H4 ∧ H4 e = some (.lst (sgs t))) ⟨[], rfl, (fun _ h => by cases h), Keep.of_same (same_upd ne), hd3.keep (same_upd ne), upd_same⟩ ?_ ?_⟩
      · rintro i H4 hi ⟨t, ht, hmem, kp4, hd4, he⟩
        have eDL := hd3.new ne
        walk_at "rds"
        refine ⟨rfl, ?_⟩
        walk_at "rds"
        refine rd_ite (fun _ => ?_) (fun h => by cases h)
        walk_at "rds"
        refine ⟨D, L, _, sgs ls, rfl, hd4, .inr ⟨ls, rfl, rfl⟩, by rw [sgs_len]; exact hpos, by rw [sgs_len]; omega, fun x H5 hx kp5 hd5 => ?_⟩
        obtain ⟨c, hc, rfl⟩ := List.mem_map.mp hx
        exact picked ne eDL ht hmem (kp4.trans kp5) hd5 (kp5 _ _ he eDL.1 eDL.2) hc (by omega)
      rintro H5 ⟨t, htl, ht, kp5, hd5, he5⟩
      refine rd_joinX (ls := t.map fun c => [c]) (SqL.of (by rw [he5, List.map_map]; rfl)) (by rw [List.map_map, show (List.length ∘ fun c : Nat => [c]) = fun _ => 1 from rfl, List.map_const', List.sum_replicate_nat]; omega) ?_
      rw [flat_ones]
      walk_at "rds"
      exact q t H5 ht (by omega) (kp3.trans kp5) hd5
    walk_at "rds"
    refine ⟨D, L, _, rfl, hd3, by omega, by omega, fun z H6 hz1 hz2 kp6 hd6 => ?_⟩
    have kp36 := kp3.trans kp6
    clear kp1 kp2 kp3 hd1 hd3 kp6
    walk_at "rds"
    refine ⟨1 + z, rfl, by omega, by omega, fun e ne => lc_range (lo := 0) (n := (1 + z).toNat) (fun i H4 => ∃ t : List Nat, t.length = i ∧ (∀ c ∈ t, c ∈ ls) ∧ Keep D L H6 H4 ∧ Deal D L H4 ∧ H4 e = some (.lst (sgs t))) ⟨[], rfl, (fun _ h => by cases h), Keep.of_same (same_upd ne), hd6.keep (same_upd ne), upd_same⟩ ?_ ?_⟩
    · rintro i H4 hi ⟨t, ht, hmem, kp4, hd4, he⟩
      have eDL := hd6.new ne
      walk_at "rds"
      refine ⟨rfl, ?_⟩
      walk_at "rds"
      refine rd_ite (fun _ => ?_) (fun h => by cases h)
      walk_at "rds"
      refine ⟨D, L, _, sgs ls, rfl, hd4, .inr ⟨ls, rfl, rfl⟩, by rw [sgs_len]; exact hpos, by rw [sgs_len]; omega, fun x H5 hx kp5 hd5 => ?_⟩
      obtain ⟨c, hc, rfl⟩ := List.mem_map.mp hx
      exact picked ne eDL ht hmem (kp4.trans kp5) hd5 (kp5 _ _ he eDL.1 eDL.2) hc (by omega)
    rintro H5 ⟨t, htl, ht, kp5, hd5, he5⟩
    have he5' : H5 e = some (.lst ((t.map fun c => [c]).map fun l => V.str (tx l))) := by rw [he5, List.map_map]; rfl
    walk_at "rds"
    refine rd_joinX (ls := t.map fun c => [c]) (SqL.of he5') (by rw [List.map_map, show (List.length ∘ fun c : Nat => [c]) = fun _ => 1 from rfl, List.map_const', List.sum_replicate_nat]; omega) ?_
    rw [flat_ones]
    walk_at "rds"
    have kpH5 := kp36.trans kp5
    dsimp only
    refine rd_cut (fun σ' H' => ∃ (y6 : Option V) (u : List Nat), σ' = [some (.ref D), some (.str (tx ls)), some (.int n), some (.int fo), some (.int k), some (.str (tx u)), y6] ∧ u.length ≤ 3 ∧ 0 < u.length ∧ (∀ c ∈ u, c ∈ ls) ∧ Keep D L H H' ∧ Deal D L H') ?_ ?_
    · walk_at "rds"
      refine rd_ite (fun h2 => ?_) (fun h2 => ?_)
      · walk_at "rds"
        refine rd_ixX (sz_of' (by omega)) (show atI ls ((0 : Nat) : Int) = some (ls[0]'hpos) from atI_nat (List.getElem?_eq_getElem hpos)) ?_
        walk_at "rds"
        refine rd_ixX (sz_of' (by omega)) (atI_lastN hne) ?_
        walk_at "rds"
        refine ⟨by show 2 ≤ sizeLine; decide, fun p0 n0 => ?_⟩
        have s8 : Same H5 (upd H5 p0 (.lst [.str (tx [ls[0]'hpos]), .str (tx [ls.getLast hne])])) := same_upd n0
        have e8 : upd H5 p0 (.lst [.str (tx [ls[0]'hpos]), .str (tx [ls.getLast hne])]) p0 = some (.lst [.str (tx [ls[0]'hpos]), .str (tx [ls.getLast hne])]) := upd_same
        have n8 := hd5.new n0
        have hd8 := hd5.keep s8
        have kp8 := kpH5.trans (Keep.of_same s8)
        generalize upd H5 p0 (.lst [.str (tx [ls[0]'hpos]), .str (tx [ls.getLast hne])]) = H8 at e8 hd8 kp8 ⊢
        walk_at "rds"
        refine ⟨D, L, _, rfl, hd8, by decide, by decide, fun g H9 hg1 hg2 kp9 hd9 => ?_⟩
        have e9 := kp9 _ _ e8 n8.1 n8.2
        rcases (show g = 0 ∨ g = 1 by omega) with rfl | rfl
        · refine rd_ixL (SqL.of e9) (show atI [V.str (tx [ls[0]'hpos]), V.str (tx [ls.getLast hne])] 0 = some (.str (tx [ls[0]'hpos])) from rfl) ?_
          walk_at "rds"
          exact ⟨_, [ls[0]'hpos], rfl, by show 1 ≤ 3; decide, Nat.one_pos, fun c hc => by rw [List.mem_singleton.mp hc]; exact List.getElem_mem hpos, kp8.trans kp9, hd9⟩
        · refine rd_ixL (SqL.of e9) (show atI [V.str (tx [ls[0]'hpos]), V.str (tx [ls.getLast hne])] 1 = some (.str (tx [ls.getLast hne])) from rfl) ?_
          walk_at "rds"
          exact ⟨_, [ls.getLast hne], rfl, by show 1 ≤ 3; decide, Nat.one_pos, fun c hc => by rw [List.mem_singleton.mp hc]; exact List.getLast_mem hne, kp8.trans kp9, hd9⟩
      · walk_at "rds"
        exact ⟨_, t, rfl, by omega, by omega, ht, kpH5, hd5⟩
    rintro σ' H7 ⟨y6, u, rfl, hu, hu0, hum, kp7, hd7⟩
    walk_at "rds"
    refine rd_mulX (by omega) (by omega) (Nat.le_trans (Nat.mul_le_mul hu (show (k + 1).toNat ≤ 200 by omega)) (by decide)) ?_
    walk_at "rds"
    obtain ⟨m, rfl⟩ := Int.eq_ofNat_of_zero_le hk1
    refine rd_slX (by rw [reps_len, Nat.mul_comm]; exact Nat.le_trans (Nat.mul_le_mul hu (show (((m : Nat) : Int) + 1).toNat ≤ 200 by omega)) (by decide)) ?_
    rw [cutL_take]
    exact q _ _ (fun c hc => hum c (reps_mem (List.mem_of_mem_take hc))) (by rw [List.length_take]; omega) kp7 hd7
end

--Z _law_in 4
section
variable {P : Program} {w : World} {K : PySem.W.Frag} {mg : Str → Option Value} {base : Heap}
/-- a told set of names -/
inductive Leaf where
  | of (ns : List (List Nat))
  | beg (u : List Nat)
  | fam (u r : List Nat) (c : Nat)
abbrev wOf : List Nat := [111, 102]
abbrev wBeg : List Nat := [98, 101, 103, 105, 110, 110, 105, 110, 103]
abbrev wFam : List Nat := [102, 97, 109, 105, 108, 121]
def LeafAt (H : Hp) (p : Addr) : Leaf → Prop
  | .of ns => ∃ q, H p = some (.tup [.str (tx wOf), .ref q]) ∧ H q = some (.tup (ns.map fun n => V.str (tx n)))
  | .beg u => H p = some (.tup [.str (tx wBeg), .str (tx u)])
  | .fam u r c => H p = some (.tup [.str (tx wFam), .str (tx u), .str (tx r), .int ((c : Nat) : Int)])
theorem LeafAt.same {H H' : Hp} {p : Addr} : ∀ {lf : Leaf}, LeafAt H p lf → Same H H' → LeafAt H' p lf
  | .of _, ⟨q, a, b⟩, s => ⟨q, s _ _ a, s _ _ b⟩
  | .beg _, a, s => s _ _ a
  | .fam _ _ _, a, s => s _ _ a
theorem tup_keep {D L a : Addr} {H H' : Hp} {xs : List V} (d : Deal D L H) (k : Keep D L H H') (e : H a = some (.tup xs)) : H' a = some (.tup xs) := by
  obtain ⟨cs, m, h1, h2, _⟩ := d
  refine k _ _ e (fun z => ?_) fun z => ?_
  · rw [z, h1] at e
    cases e
  · rw [z, h2] at e
    cases e
theorem LeafAt.keep {D L : Addr} {H H' : Hp} {p : Addr} (d : Deal D L H) (k : Keep D L H H') : ∀ {lf : Leaf}, LeafAt H p lf → LeafAt H' p lf
  | .of _, ⟨q, a, b⟩ => ⟨q, tup_keep d k a, tup_keep d k b⟩
  | .beg _, a => tup_keep d k a
  | .fam _ _ _, a => tup_keep d k a
def LeafOk (ls : List Nat) : Leaf → Prop
  | .of ns => ns.length ≤ 5 ∧ ∀ n ∈ ns, (∀ c ∈ n, c ∈ ls) ∧ n.length ≤ 5
  | .beg u => (∀ c ∈ u, c ∈ ls) ∧ u.length ≤ 4
  | .fam u r c => u ≠ [] ∧ u.length ≤ 3 ∧ (∀ c ∈ u, c ∈ ls) ∧ (∀ c ∈ r, c ∈ ls) ∧ r.length ≤ 3 ∧ c ≤ 3
def spLeaf : Sp := fun vs H Q _ => ∃ (D L : Addr) (ls : List Nat), vs = [.ref D, .str (tx ls)] ∧ Deal D L H ∧ ls ≠ [] ∧ ls.length ≤ 100 ∧
  ∀ (lf : Leaf) (p : Addr) (H' : Hp), LeafOk ls lf → LeafAt H' p lf → Keep D L H H' → Deal D L H' → Q (.ref p) H'
theorem cl_leaf (T : Txt K mg) : Cl P w K mg base "_law_leaf" ["_law_deal_here", "_law_letters_here"] 4 spLeaf := cl_of T.a__law_leaf fun f fd F => by
  have C__law_draw := cl_draw (P := P) (w := w) (base := base) T
  have C__law_pick := cl_pick (P := P) (w := w) (base := base) T
  have C__law_name := cl_name (P := P) (w := w) (base := base) T
  have C__law_text := cl_text (P := P) (w := w) (base := base) T
  refine F.ok sc__law_leaf (fun vs H Q E h => ?_) (fun cdv A outer s H vs Q E hr h => ?_)
  · obtain ⟨D, L, ls, rfl, _⟩ := h
    rfl
  · obtain ⟨D, L, ls, rfl, hd, hne, hls, q⟩ := h
    have hpos : 0 < ls.length := List.length_pos_iff.mpr hne
    refine ⟨_, (pss_cons (ps_set (i := 2) sc__law_leaf.nd rfl (Or.inl rfl) (pe_cl C__law_draw (hr.mono (by decide)) (by rfl) (pa_cons (pv 0) (pa_cons pe_int pa_nil))))
      (pss_cons (ps_if (pt_cmpR op_eq (pv 2) pe_int (nomark _))
      (pss_one (ps_ret (pe_tup (pa_cons (pe_strX [111, 102] (by decide +kernel)) (pa_cons (pe_tupleOf (by rfl) T.m_tuple (pe_lc (own := [("_law_k", 4)]) (g := gName 4) (tt := tYes) (by rfl) sc__law_leaf.nd (pi_range1 (by rfl) T.m_range (pa_cons (pe_cl C__law_draw (hr.mono (by decide)) (by rfl) (pa_cons (pv 0) (pa_cons pe_int pa_nil))) pa_nil)) (blkOk_by (own := [("_law_k", 4)]) (N := n__law_leaf) (sc := defScope s__law_leaf) (by decide +kernel)) (fun _ _ _ _ _ => (pg_name (i := 4) sc__law_leaf.nd rfl (by first | exact Or.inl rfl | exact Or.inr rfl))) (fun _ _ _ _ _ => pts_nil) (fun _ _ _ _ _ => (pe_cl C__law_name (hr.mono (by decide)) (by rfl) (pa_cons (pv 0) (pa_cons (pv 1) (pa_cons pe_int pa_nil))))))) pa_nil)))))
      pss_nil)
      (pss_cons (ps_if (pt_cmpR op_eq (pv 2) pe_int (nomark _))
      (pss_one (ps_ret (pe_tup (pa_cons (pe_strX [98, 101, 103, 105, 110, 110, 105, 110, 103] (by decide +kernel)) (pa_cons (pe_cl C__law_text (hr.mono (by decide)) (by rfl) (pa_cons (pv 0) (pa_cons (pv 1) (pa_cons pe_int pa_nil)))) pa_nil)))))
      pss_nil)
      (pss_cons (ps_set (i := 3) sc__law_leaf.nd rfl (Or.inl rfl) (pe_bm PySem.F.plainAttrs_str PySem.F.slot_str_join PySem.F.type_str_join mt_joinX (pe_strX [] (by decide +kernel)) (pa_cons (pe_lc (own := [("_law_k", 4)]) (g := gName 4) (tt := tYes) (by rfl) sc__law_leaf.nd (pi_range1 (by rfl) T.m_range (pa_cons (pe_op op_add pe_int (pe_cl C__law_draw (hr.mono (by decide)) (by rfl) (pa_cons (pv 0) (pa_cons pe_int pa_nil)))) pa_nil)) (blkOk_by (own := [("_law_k", 4)]) (N := n__law_leaf) (sc := defScope s__law_leaf) (by decide +kernel)) (fun _ _ _ _ _ => (pg_name (i := 4) sc__law_leaf.nd rfl (by first | exact Or.inl rfl | exact Or.inr rfl))) (fun _ _ _ _ _ => pts_nil) (fun _ _ _ _ _ => (pe_cl C__law_pick (hr.mono (by decide)) (by rfl) (pa_cons (pv 0) (pa_cons (pv 1) pa_nil))))) pa_nil)))
      (pss_one (ps_ret (pe_tup (pa_cons (pe_strX [102, 97, 109, 105, 108, 121] (by decide +kernel)) (pa_cons (pv 3) (pa_cons (pe_cl C__law_text (hr.mono (by decide)) (by rfl) (pa_cons (pv 0) (pa_cons (pv 1) (pa_cons pe_int pa_nil)))) (pa_cons (pe_cl C__law_draw (hr.mono (by decide)) (by rfl) (pa_cons (pv 0) (pa_cons pe_int pa_nil))) pa_nil))))))))))), ?_⟩
    walk_at "rds"
    refine ⟨D, L, _, rfl, hd, by decide, by decide, fun fo H1 hf1 hf2 kp1 hd1 => ?_⟩
    walk_at "rds"
    refine rd_ite (fun hfo => ?_) (fun hfo => ?_)
    · walk_at "rds"
      refine ⟨D, L, _, rfl, hd1, by decide, by decide, fun k H2 hk1 hk2 kp2 hd2 => ?_⟩
      have kp12 := kp1.trans kp2
      walk_at "rds"
      refine ⟨k, rfl, by omega, by omega, fun e ne => lc_range (lo := 0) (n := k.toNat) (fun i H4 => ∃ ns : List (List Nat), ns.length = i ∧ (∀ n ∈ ns, (∀ c ∈ n, c ∈ ls) ∧ n.length ≤ 5) ∧ Keep D L H2 H4 ∧ Deal D L H4 ∧ H4 e = some (.lst (ns.map fun n => V.str (tx n)))) ⟨[], rfl, (fun _ h => by cases h), Keep.of_same (same_upd ne), hd2.keep (same_upd ne), upd_same⟩ ?_ ?_⟩
      · rintro i H4 hi ⟨ns, hns, hok, kp4, hd4, he⟩
        have eDL := hd2.new ne
        walk_at "rds"
        refine ⟨rfl, ?_⟩
        walk_at "rds"
        refine rd_ite (fun _ => ?_) (fun h => by cases h)
        walk_at "rds"
        refine ⟨D, L, ls, _, rfl, hd4, hne, hls, by decide, by decide, fun t H5 ht htl kp5 hd5 => ?_⟩
        refine ⟨_, kp5 _ _ he eDL.1 eDL.2, by rw [List.length_map, hns]; exact small1000 (by omega), ns ++ [t], by rw [List.length_append, hns]; rfl, fun n hn => ?_, (kp4.trans kp5).mut ne, ?_, ?_⟩
        · rcases List.mem_append.mp hn with h | h
          · exact hok n h
          · rw [List.mem_singleton.mp h]
            exact ⟨ht, by omega⟩
        · obtain ⟨cs, m, a1, a2, a3⟩ := hd5
          exact ⟨cs, m, by rw [upd_ne eDL.1.symm]; exact a1, by rw [upd_ne eDL.2.symm]; exact a2, a3⟩
        · rw [upd_same, List.map_append]
          rfl
      rintro H4 ⟨ns, hns, hok, kp4, hd4, he⟩
      refine rd_kTup he fun T2 nT2 => ?_
      have s5 : Same H4 (upd H4 T2 (.tup (ns.map fun n => V.str (tx n)))) := same_upd nT2
      have e5 : upd H4 T2 (.tup (ns.map fun n => V.str (tx n))) T2 = some (.tup (ns.map fun n => V.str (tx n))) := upd_same
      generalize upd H4 T2 (.tup (ns.map fun n => V.str (tx n))) = H5 at s5 e5 ⊢
      walk_at "rds"
      refine ⟨by show 2 ≤ sizeLine; decide, fun p hp => ?_⟩
      have s6 := same_trans s5 (same_upd (o := .tup [.str (tx wOf), .ref T2]) hp)
      exact q (.of ns) p _ ⟨by omega, hok⟩ ⟨T2, upd_same, same_upd hp _ _ e5⟩ (kp12.trans (kp4.trans (Keep.of_same s6))) (hd4.keep s6)
    walk_at "rds"
    refine rd_ite (fun hfo => ?_) (fun hfo => ?_)
    · walk_at "rds"
      refine ⟨D, L, ls, _, rfl, hd1, hne, hls, by decide, by decide, fun t H2 ht htl kp2 hd2 => ?_⟩
      walk_at "rds"
      refine ⟨by show 2 ≤ sizeLine; decide, fun p hp => ?_⟩
      have s6 := same_upd (o := .tup [.str (tx wBeg), .str (tx t)]) hp
      exact q (.beg t) p _ ⟨ht, by omega⟩ upd_same (kp1.trans (kp2.trans (Keep.of_same s6))) (hd2.keep s6)
    walk_at "rds"
    refine ⟨D, L, _, rfl, hd1, by decide, by decide, fun z H6 hz1 hz2 kp6 hd6 => ?_⟩
    have kp16 := kp1.trans kp6
    walk_at "rds"
    refine ⟨1 + z, rfl, by omega, by omega, fun e ne => lc_range (lo := 0) (n := (1 + z).toNat) (fun i H4 => ∃ t : List Nat, t.length = i ∧ (∀ c ∈ t, c ∈ ls) ∧ Keep D L H6 H4 ∧ Deal D L H4 ∧ H4 e = some (.lst (sgs t))) ⟨[], rfl, (fun _ h => by cases h), Keep.of_same (same_upd ne), hd6.keep (same_upd ne), upd_same⟩ ?_ ?_⟩
    · rintro i H4 hi ⟨t, ht, hmem, kp4, hd4, he⟩
      have eDL := hd6.new ne
      walk_at "rds"
      refine ⟨rfl, ?_⟩
      walk_at "rds"
      refine rd_ite (fun _ => ?_) (fun h => by cases h)
      walk_at "rds"
      refine ⟨D, L, _, sgs ls, rfl, hd4, .inr ⟨ls, rfl, rfl⟩, by rw [sgs_len]; exact hpos, by rw [sgs_len]; omega, fun x H5 hx kp5 hd5 => ?_⟩
      obtain ⟨c, hc, rfl⟩ := List.mem_map.mp hx
      exact picked ne eDL ht hmem (kp4.trans kp5) hd5 (kp5 _ _ he eDL.1 eDL.2) hc (by omega)
    rintro H5 ⟨u, hul, hu, kp5, hd5, he5⟩
    have he5' : H5 e = some (.lst ((u.map fun c => [c]).map fun l => V.str (tx l))) := by rw [he5, List.map_map]; rfl
    walk_at "rds"
    refine rd_joinX (ls := u.map fun c => [c]) (SqL.of he5') (by rw [List.map_map, show (List.length ∘ fun c : Nat => [c]) = fun _ => 1 from rfl, List.map_const', List.sum_replicate_nat]; omega) ?_
    rw [flat_ones]
    walk_at "rds"
    dsimp only
    walk_at "rds"
    refine ⟨D, L, ls, _, rfl, hd5, hne, hls, by decide, by decide, fun t H7 ht htl kp7 hd7 => ?_⟩
    walk_at "rds"
    refine ⟨D, L, _, rfl, hd7, by decide, by decide, fun g H8 hg1 hg2 kp8 hd8 => ?_⟩
    obtain ⟨g, rfl⟩ := Int.eq_ofNat_of_zero_le hg1
    walk_at "rds"
    refine ⟨by show 4 ≤ sizeLine; decide, fun p hp => ?_⟩
    have s6 := same_upd (o := .tup [.str (tx wFam), .str (tx u), .str (tx t), .int ((g : Nat) : Int)]) hp
    refine q (.fam u t g) p _ ⟨fun h => by rw [h] at hul; simp at hul; omega, by omega, hu, ht, by omega, by omega⟩ upd_same (kp16.trans (kp5.trans (kp7.trans (kp8.trans (Keep.of_same s6))))) (hd8.keep s6)
end
section
variable {P : Program} {w : World} {K : PySem.W.Frag} {mg : Str → Option Value} {base : Heap}
def Leaf.has (x : List Nat) : Leaf → Bool
  | .of ns => decide (x ∈ ns)
  | .beg u => u.isPrefixOf x
  | .fam u r c => famIn u r c x
def spIn : Sp := fun vs H Q _ => ∃ (p : Addr) (lf : Leaf) (ls x : List Nat), vs = [.ref p, .str (tx x)] ∧ LeafAt H p lf ∧ LeafOk ls lf ∧ x.length ≤ 200 ∧ ∀ H', Same H H' → Q (.bl (lf.has x)) H'
theorem cl_in (T : Txt K mg) : Cl P w K mg base "_law_in" ["_law_told", "_law_name_here"] 1 spIn := cl_of T.a__law_in fun f fd F => by
  refine F.ok sc__law_in (fun vs H Q E h => ?_) (fun cdv A outer s H vs Q E hr h => ?_)
  · obtain ⟨p, lf, ls, x, rfl, _⟩ := h
    rfl
  · obtain ⟨p, lf, ls, x, rfl, hp, hok, hx, q⟩ := h
    refine ⟨_, (pss_cons (ps_set (i := 2) sc__law_in.nd rfl (Or.inl rfl) (pe_ix (ix_tupK (K := K) (by rfl)) (pv 0) pe_int (fun _ _ => rfl)))
      (pss_cons (ps_if (pt_cmpR op_eq (pv 2) (pe_strX [111, 102] (by decide +kernel)) (nomark _))
      (pss_one (ps_ret (pe_cmpR op_in_seq (pv 1) (pe_ix (ix_tupK (K := K) (by rfl)) (pv 0) pe_int (fun _ _ => rfl)) (by rfl))))
      pss_nil)
      (pss_cons (ps_if (pt_cmpR op_eq (pv 2) (pe_strX [98, 101, 103, 105, 110, 110, 105, 110, 103] (by decide +kernel)) (nomark _))
      (pss_one (ps_ret (pe_bm PySem.F.plainAttrs_str PySem.F.slot_str_startswith PySem.F.type_str_startswith mt_startX (pv 1) (pa_cons (pe_ix (ix_tupK (K := K) (by rfl)) (pv 0) pe_int (fun _ _ => rfl)) pa_nil))))
      pss_nil)
      (pss_cons (ps_if (pt_cmpR op_eq (pv 2) (pe_strX [102, 97, 109, 105, 108, 121] (by decide +kernel)) (nomark _))
      (pss_cons (ps_set (i := 3) sc__law_in.nd rfl (Or.inl rfl) (pe_slice sl_strX (pv 1) po_none (po_some (pe_op op_sub (pe_callB call_lenX (by rfl) T.m_len (by decide +kernel) (pa_cons (pv 1) pa_nil)) (pe_callB call_lenX (by rfl) T.m_len (by decide +kernel) (pa_cons (pe_ix (ix_tupK (K := K) (by rfl)) (pv 0) pe_int (fun _ _ => rfl)) pa_nil))))))
      (pss_cons (ps_set (i := 4) sc__law_in.nd rfl (Or.inl rfl) (pe_callB call_lenX (by rfl) T.m_len (by decide +kernel) (pa_cons (pe_ix (ix_tupK (K := K) (by rfl)) (pv 0) pe_int (fun _ _ => rfl)) pa_nil)))
      (pss_one (ps_ret (pe_and (pe_bm PySem.F.plainAttrs_str PySem.F.slot_str_endswith PySem.F.type_str_endswith mt_endX (pv 1) (pa_cons (pe_ix (ix_tupK (K := K) (by rfl)) (pv 0) pe_int (fun _ _ => rfl)) pa_nil)) (pe_and (pe_cmpR op_eq (pv 3) (pe_op op_mulT (pe_ix (ix_tupK (K := K) (by rfl)) (pv 0) pe_int (fun _ _ => rfl)) (pe_op op_fdivW (pe_callB call_lenX (by rfl) T.m_len (by decide +kernel) (pa_cons (pv 3) pa_nil)) (pv 4))) (nomark _)) (pe_one (pe_cmpR op_ge (pe_op op_fdivW (pe_callB call_lenX (by rfl) T.m_len (by decide +kernel) (pa_cons (pv 3) pa_nil)) (pv 4)) (pe_ix (ix_tupK (K := K) (by rfl)) (pv 0) pe_int (fun _ _ => rfl)) (nomark _)))))))))
      pss_nil)
      (pss_cons ps_dead
      (pss_cons ps_dead
      (pss_cons ps_dead
      (pss_cons ps_dead
      (pss_cons ps_dead
      (pss_one ps_dead)))))))))), ?_⟩
    walk_at "rds"
    cases lf with
    | of ns =>
      obtain ⟨t, e1, e2⟩ := hp
      refine rd_ixT (SqT.of e1) (show atI [V.str (tx wOf), V.ref t] ((0 : Nat) : Int) = some (.str (tx wOf)) from atI_nat rfl) ?_
      walk_at "rds"
      refine rd_ite (fun _ => ?_) (fun h => by cases h)
      walk_at "rds"
      refine rd_ixT (SqT.of e1) (show atI [V.str (tx wOf), V.ref t] ((1 : Nat) : Int) = some (.ref t) from atI_nat rfl) ?_
      refine ⟨t, _, rfl, .inr (SqT.of e2), rfl, ?_, ?_⟩
      · rw [List.all_map, List.all_eq_true]
        exact fun _ _ => rfl
      · have e : inV (.str (tx x)) (ns.map fun n => V.str (tx n)) = decide (x ∈ ns) := by
          unfold inV
          rw [Bool.eq_iff_iff, List.any_map, List.any_eq_true, decide_eq_true_eq]
          constructor
          · rintro ⟨n, hn, h⟩
            have h' : (tx n == tx x) = true := h
            rw [← tx_inj (beq_iff_eq.mp h')]
            exact hn
          · exact fun h => ⟨x, h, show (tx x == tx x) = true from beq_iff_eq.mpr rfl⟩
        rw [if_neg (by decide), e]
        exact q _ (same_refl _)
    | beg u =>
      refine rd_ixT (SqT.of hp) (show atI [V.str (tx wBeg), V.str (tx u)] ((0 : Nat) : Int) = some (.str (tx wBeg)) from atI_nat rfl) ?_
      walk_at "rds"
      refine rd_ite (fun h => by cases h) (fun _ => ?_)
      walk_at "rds"
      refine rd_ite (fun _ => ?_) (fun h => by cases h)
      walk_at "rds"
      refine rd_ixT (SqT.of hp) (show atI [V.str (tx wBeg), V.str (tx u)] ((1 : Nat) : Int) = some (.str (tx u)) from atI_nat rfl) ?_
      walk_at "rds"
      exact q _ (same_refl _)
    | fam u r c =>
      refine rd_ixT (SqT.of hp) (show atI [V.str (tx wFam), V.str (tx u), V.str (tx r), V.int ((c : Nat) : Int)] ((0 : Nat) : Int) = some (.str (tx wFam)) from atI_nat rfl) ?_
      walk_at "rds"
      refine rd_ite (fun h => by cases h) (fun _ => ?_)
      walk_at "rds"
      refine rd_ite (fun h => by cases h) (fun _ => ?_)
      walk_at "rds"
      refine rd_ite (fun _ => ?_) (fun h => by cases h)
      walk_at "rds"
      obtain ⟨hu, hul, _, _, hrl, hcl⟩ := hok
      have g1 : atI [V.str (tx wFam), V.str (tx u), V.str (tx r), V.int ((c : Nat) : Int)] ((1 : Nat) : Int) = some (.str (tx u)) := atI_nat rfl
      have g2 : atI [V.str (tx wFam), V.str (tx u), V.str (tx r), V.int ((c : Nat) : Int)] ((2 : Nat) : Int) = some (.str (tx r)) := atI_nat rfl
      have g3 : atI [V.str (tx wFam), V.str (tx u), V.str (tx r), V.int ((c : Nat) : Int)] ((3 : Nat) : Int) = some (.int ((c : Nat) : Int)) := atI_nat rfl
      have hU : 0 < u.length := List.length_pos_iff.mpr hu
      refine rd_lenX (sz_of' (by omega)) ?_
      walk_at "rds"
      refine rd_ixT (SqT.of hp) g2 ?_
      walk_at "rds"
      refine rd_lenX (sz_of' (by omega)) ?_
      walk_at "rds"
      refine rd_slX (sz_of' (by omega)) ?_
      have hcut : r.length ≤ x.length → cutL x none (some ((x.length : Nat) - (r.length : Nat) : Int)) = x.take (x.length - r.length) := fun h => by
        rw [← Int.ofNat_sub h]
        exact cutL_take x _
      have hcl2 : (cutL x none (some ((x.length : Nat) - (r.length : Nat) : Int))).length ≤ x.length := by
        unfold cutL
        rw [List.length_take, List.length_drop]
        omega
      generalize cutL x none (some ((x.length : Nat) - (r.length : Nat) : Int)) = left at hcut hcl2 ⊢
      walk_at "rds"
      refine rd_ixT (SqT.of hp) g1 ?_
      walk_at "rds"
      refine rd_lenX (sz_of' (by omega)) ?_
      walk_at "rds"
      refine rd_ixT (SqT.of hp) g2 ?_
      walk_at "rds"
      have q' := q H (same_refl _)
      unfold Leaf.has famIn at q'
      refine rd_ite (fun h1 => ?_) (fun h1 => ?_)
      · obtain ⟨h2, h3⟩ := of_decide_eq_true h1
        have el := hcut h2
        have ell : left.length = x.length - r.length := by rw [el, List.length_take]; omega
        simp only [h1, Bool.true_and] at q'
        walk_at "rds"
        refine rd_ixT (SqT.of hp) g1 ?_
        walk_at "rds"
        refine rd_lenX (sz_of' (by omega)) ?_
        walk_at "rds"
        refine rd_I (wide_div (b := 20) (by omega) (by omega) (by decide) (by decide)) ?_
        have hdiv : left.length / u.length ≤ 200 := Nat.le_trans (Nat.div_le_self _ _) (by omega)
        rw [← Int.natCast_ediv]
        rw [← ell] at q'
        have el' : left = x.take left.length := by
          rw [ell]
          exact el
        rw [← el'] at q'
        obtain ⟨k, hk⟩ : ∃ k, left.length / u.length = k := ⟨_, rfl⟩
        rw [hk] at hdiv q' ⊢
        refine rd_mulX (by omega) (by omega) (by rw [Int.toNat_natCast]; exact Nat.le_trans (Nat.mul_le_mul hul hdiv) (by decide)) ?_
        rw [Int.toNat_natCast]
        walk_at "rds"
        have ee : decide (V.str (tx left) = V.str (tx (reps k u))) = decide (left = repW k u) := decide_eq_decide.mpr ⟨fun h => tx_inj (V.str.inj h), fun h => congrArg (fun z => V.str (tx z)) h⟩
        refine rd_ite (fun h4 => ?_) (fun h4 => ?_)
        · rw [ee] at h4
          simp only [h4, Bool.true_and] at q'
          walk_at "rds"
          refine rd_lenX (sz_of' (by omega)) ?_
          walk_at "rds"
          refine rd_I (wide_div (b := 20) (by omega) (by omega) (by decide) (by decide)) ?_
          rw [← Int.natCast_ediv, hk]
          walk_at "rds"
          refine rd_ixT (SqT.of hp) g3 ?_
          walk_at "rds"
          rw [show decide (((c : Nat) : Int) ≤ ((k : Nat) : Int)) = decide (c ≤ k) from decide_eq_decide.mpr Int.ofNat_le]
          exact q'
        · rw [ee] at h4
          simp only [h4, Bool.false_and] at q'
          walk_at "rds"
          exact q'
      · simp only [h1, Bool.false_and] at q'
        walk_at "rds"
        exact q'
end
--Z _law_set 4
section
variable {P : Program} {w : World} {K : PySem.W.Frag} {mg : Str → Option Value} {base : Heap}
theorem Good.cong {m k : Nat} {lab : Nat → Bool} {t : Nat → Nat → Nat} {f g : List Nat → Bool} (G : Good m k lab t f) (h : ∀ w : List Nat, (∀ a ∈ w, a < m) → f w = g w) : Good m k lab t g := ⟨G.k0, G.kn, G.cl, G.num, G.least, fun w hw => by rw [G.run w hw, h w hw]⟩
theorem places_inj {l : List Nat} (nd : l.Nodup) : ∀ {xs ys : List Nat}, (∀ a ∈ xs, a < l.length) → (∀ a ∈ ys, a < l.length) → xs.map (fun a => l.getD a 0) = ys.map (fun a => l.getD a 0) → xs = ys
  | [], [], _, _, _ => rfl
  | [], y :: ys, _, _, h => by simp at h
  | x :: xs, [], _, _, h => by simp at h
  | x :: xs, y :: ys, hx, hy, h => by
    rw [List.map_cons, List.map_cons] at h
    injection h with h1 h2
    have e1 := hx x List.mem_cons_self
    have e2 := hy y List.mem_cons_self
    rw [List.getD_eq_getElem?_getD, List.getD_eq_getElem?_getD, List.getElem?_eq_getElem e1, List.getElem?_eq_getElem e2] at h1
    have h1' : l[x] = l[y] := h1
    rw [(List.getElem_inj nd).mp h1', places_inj nd (fun a ha => hx a (List.mem_cons_of_mem _ ha)) (fun a ha => hy a (List.mem_cons_of_mem _ ha)) h2]
theorem front_has {l ws w : List Nat} (nd : l.Nodup) (hws : ∀ a ∈ ws, a < l.length) (hw : ∀ a ∈ w, a < l.length) : decide (w.take ws.length = ws) = (ws.map fun a => l.getD a 0).isPrefixOf (w.map fun a => l.getD a 0) := by
  rw [Bool.eq_iff_iff, decide_eq_true_eq, List.isPrefixOf_iff_prefix]
  constructor
  · intro h
    rw [← h]
    exact (List.take_prefix _ _).map _
  · rintro ⟨r, hr⟩
    refine places_inj nd (fun a ha => hw a (List.mem_of_mem_take ha)) hws ?_
    rw [List.map_take, ← hr, List.take_left' (by rw [List.length_map])]
def spSet (C : Addr) : Sp := fun vs H Q _ => ∃ (ls : List Nat) (p : Addr) (lf : Leaf), vs = [.str (tx ls), .ref p] ∧ LeafAt H p lf ∧ LeafOk ls lf ∧ ls.Nodup ∧ ls.length ≤ 5 ∧
  ∀ (k : Nat) (lab : Nat → Bool) (t : Nat → Nat → Nat) (a : Addr) (H' : Hp), Good ls.length k lab t (fun w => lf.has (w.map fun a => ls.getD a 0)) → Same H H' → H a = none → NmAt C H' a ls k lab t → Q (.ref a) H'
theorem sum_le {n b : Nat} : ∀ {xs : List Nat}, xs.length ≤ n → (∀ x ∈ xs, x ≤ b) → xs.sum ≤ n * b
  | [], _, _ => Nat.zero_le _
  | x :: xs, hl, h => by
    have h1 := h x List.mem_cons_self
    rw [List.length_cons] at hl
    obtain ⟨n', rfl⟩ : ∃ n', n = n' + 1 := ⟨n - 1, by omega⟩
    have h2 := sum_le (n := n') (b := b) (xs := xs) (by omega) fun y hy => h y (List.mem_cons_of_mem _ hy)
    rw [List.sum_cons, Nat.add_mul, Nat.one_mul]
    omega
theorem cl_set (T : Txt K mg) : Cl P w K mg base "_law_set" ["_law_letters_here", "_law_told"] 6 (spSet (NC mg)) := cl_of T.a__law_set fun f fd F => by
  have C_Names_of := cm_of (P := P) (w := w) (base := base) T
  have C_Names_beginning := cm_beg (P := P) (w := w) (base := base) T
  have C_Names_family_4 := cm_fam4 (P := P) (w := w) (base := base) T
  refine F.ok sc__law_set (fun vs H Q E h => ?_) (fun cdv A outer s H vs Q E hr h => ?_)
  · obtain ⟨ls, p, lf, rfl, _⟩ := h
    rfl
  · obtain ⟨ls, p, lf, rfl, hp, hok, nd, hls, q⟩ := h
    refine ⟨_, (pss_cons (ps_set (i := 2) sc__law_set.nd rfl (Or.inl rfl) (pe_ix (ix_tupK (K := K) (by rfl)) (pv 1) pe_int (fun _ _ => rfl)))
      (pss_cons (ps_if (pt_cmpR op_eq (pv 2) (pe_strX [111, 102] (by decide +kernel)) (nomark _))
      (pss_one (ps_ret (pe_cmS C_Names_of hr (by decide) (fun σ => passAt takes0 σ) (pe_cls T.g_Names (by rfl)) (pa_cons (pv 0) (pa_cons (pe_callTy call_listQ (by rfl) T.m_list (by decide +kernel) (pa_cons (pe_ix (ix_tupK (K := K) (by rfl)) (pv 1) pe_int (fun _ _ => rfl)) pa_nil)) pa_nil)))))
      pss_nil)
      (pss_cons (ps_if (pt_cmpR op_eq (pv 2) (pe_strX [98, 101, 103, 105, 110, 110, 105, 110, 103] (by decide +kernel)) (nomark _))
      (pss_one (ps_ret (pe_cmS C_Names_beginning hr (by decide) (fun σ => passAt takes0 σ) (pe_cls T.g_Names (by rfl)) (pa_cons (pv 0) (pa_cons (pe_ix (ix_tupK (K := K) (by rfl)) (pv 1) pe_int (fun _ _ => rfl)) pa_nil)))))
      pss_nil)
      (pss_cons (ps_if (pt_cmpR op_eq (pv 2) (pe_strX [102, 97, 109, 105, 108, 121] (by decide +kernel)) (nomark _))
      (pss_one (ps_ret (pe_cmS C_Names_family_4 hr (by decide) (fun σ => passAt takes0 σ) (pe_cls T.g_Names (by rfl)) (pa_cons (pv 0) (pa_cons (pe_ix (ix_tupK (K := K) (by rfl)) (pv 1) pe_int (fun _ _ => rfl)) (pa_cons (pe_ix (ix_tupK (K := K) (by rfl)) (pv 1) pe_int (fun _ _ => rfl)) (pa_cons (pe_ix (ix_tupK (K := K) (by rfl)) (pv 1) pe_int (fun _ _ => rfl)) pa_nil)))))))
      pss_nil)
      (pss_cons ps_dead
      (pss_cons ps_dead
      (pss_cons ps_dead
      (pss_cons ps_dead
      (pss_cons ps_dead
      (pss_cons ps_dead
      (pss_cons ps_dead
      (pss_cons ps_dead
      (pss_one ps_dead))))))))))))), ?_⟩
    walk_at "rds"
    cases lf with
    | of ns =>
      obtain ⟨t, e1, e2⟩ := hp
      refine rd_ixT (SqT.of e1) (show atI [V.str (tx wOf), V.ref t] ((0 : Nat) : Int) = some (.str (tx wOf)) from atI_nat rfl) ?_
      walk_at "rds"
      refine rd_ite (fun _ => ?_) (fun h => by cases h)
      walk_at "rds"
      refine ⟨rfl, ?_⟩
      walk_at "rds"
      refine rd_ixT (SqT.of e1) (show atI [V.str (tx wOf), V.ref t] ((1 : Nat) : Int) = some (.ref t) from atI_nat rfl) ?_
      walk_at "rds"
      refine ⟨t, _, rfl, .inr (SqT.of e2), fun b nb => ?_⟩
      obtain ⟨hns, hch⟩ := hok
      have s1 := same_upd (o := .lst (ns.map fun n => V.str (tx n))) nb
      walk_at "rds"
      refine ⟨ls, b, _, rfl, upd_same, fun x hx => ?_, .inl ⟨ns, rfl, nd, by omega, fun n hn => (hch n hn).1, ?_, by omega, fun k lab t a H' G s2 na nm => ?_⟩⟩
      · obtain ⟨n, hn, rfl⟩ := List.mem_map.mp hx
        exact .inl ⟨n, rfl, by have := (hch n hn).2; omega⟩
      · refine Nat.le_trans (sum_le (n := 5) (b := 5) (by rw [List.length_map]; exact hns) fun x hx => ?_) (by decide)
        obtain ⟨n, hn, rfl⟩ := List.mem_map.mp hx
        exact (hch n hn).2
      · exact q k lab t a H' G (same_trans s1 s2) (same_none s1 na) nm
    | beg u =>
      refine rd_ixT (SqT.of hp) (show atI [V.str (tx wBeg), V.str (tx u)] ((0 : Nat) : Int) = some (.str (tx wBeg)) from atI_nat rfl) ?_
      walk_at "rds"
      refine rd_ite (fun h => by cases h) (fun _ => ?_)
      walk_at "rds"
      refine rd_ite (fun _ => ?_) (fun h => by cases h)
      walk_at "rds"
      refine ⟨rfl, ?_⟩
      walk_at "rds"
      refine rd_ixT (SqT.of hp) (show atI [V.str (tx wBeg), V.str (tx u)] ((1 : Nat) : Int) = some (.str (tx u)) from atI_nat rfl) ?_
      walk_at "rds"
      obtain ⟨hu, hul⟩ := hok
      obtain ⟨ws, rfl, hws⟩ := words_of hu
      rw [List.length_map] at hul
      refine ⟨ls, _, rfl, .inl ⟨_, rfl, by rw [List.length_map]; omega⟩, .inl ⟨ws, rfl, nd, by omega, hws, by omega, fun k lab t a H' G s2 na nm => ?_⟩⟩
      exact q k lab t a H' (G.cong fun w hw => front_has nd hws hw) s2 na nm
    | fam u r c =>
      refine rd_ixT (SqT.of hp) (show atI [V.str (tx wFam), V.str (tx u), V.str (tx r), V.int ((c : Nat) : Int)] ((0 : Nat) : Int) = some (.str (tx wFam)) from atI_nat rfl) ?_
      walk_at "rds"
      refine rd_ite (fun h => by cases h) (fun _ => ?_)
      walk_at "rds"
      refine rd_ite (fun h => by cases h) (fun _ => ?_)
      walk_at "rds"
      refine rd_ite (fun _ => ?_) (fun h => by cases h)
      walk_at "rds"
      refine ⟨rfl, ?_⟩
      obtain ⟨hu, hul, hcu, hcr, hrl, hcl⟩ := hok
      have g1 : atI [V.str (tx wFam), V.str (tx u), V.str (tx r), V.int ((c : Nat) : Int)] ((1 : Nat) : Int) = some (.str (tx u)) := atI_nat rfl
      have g2 : atI [V.str (tx wFam), V.str (tx u), V.str (tx r), V.int ((c : Nat) : Int)] ((2 : Nat) : Int) = some (.str (tx r)) := atI_nat rfl
      have g3 : atI [V.str (tx wFam), V.str (tx u), V.str (tx r), V.int ((c : Nat) : Int)] ((3 : Nat) : Int) = some (.int ((c : Nat) : Int)) := atI_nat rfl
      walk_at "rds"
      refine rd_ixT (SqT.of hp) g1 ?_
      walk_at "rds"
      refine rd_ixT (SqT.of hp) g2 ?_
      walk_at "rds"
      refine rd_ixT (SqT.of hp) g3 ?_
      walk_at "rds"
      refine ⟨ls, .str (tx u), .str (tx r), c, rfl, .inl ⟨_, rfl, by omega⟩, .inl ⟨_, rfl, by omega⟩, .inl ⟨u, r, rfl, rfl, nd, by omega, hu, by omega, by omega, hcu, hcr, by omega, fun k lab t a H' says hs G s2 na nm => ?_⟩⟩
      refine q k lab t a H' (G.cong fun w hw => ?_) s2 na nm
      rw [Bool.eq_iff_iff, hs]
      exact (famIn_W hu).symm
def spWalked : Sp := fun vs H Q _ => ∃ (l : List Nat) (p : Addr) (n : Nat) (lab : Nat → Bool) (to : Nat → Nat → Nat) (ws : List Nat), vs = [.str (tx l), .ref p, .str (tx (ws.map fun a => l.getD a 0))] ∧ TabAt H p n l.length lab to ∧ Closed n l.length to ∧ 0 < n ∧ l.Nodup ∧ (∀ a ∈ ws, a < l.length) ∧ l.length ≤ 10 ∧
  Q (.bl (lab (runW to 0 ws))) H
theorem cl_walked (T : Txt K mg) : Cl P w K mg base "_law_walked" ["_law_letters_here", "_law_table", "_law_name_here"] 1 spWalked := cl_of T.a__law_walked fun f fd F => by
  refine F.ok sc__law_walked (fun vs H Q E h => ?_) (fun cdv A outer s H vs Q E hr h => ?_)
  · obtain ⟨l, p, n, lab, to, ws, rfl, _⟩ := h
    rfl
  · obtain ⟨l, p, n, lab, to, ws, rfl, ⟨rs, vs, et, er⟩, hc, hs, nd, hw, hl, q⟩ := h
    refine ⟨_, (pss_cons (ps_set (i := 3) sc__law_walked.nd rfl (Or.inl rfl) pe_int)
      (Evl.pss_cut (ps_for PassesOwn.never rfl (pi_str (pv 2)) (pg_name (i := 4) sc__law_walked.nd rfl (Or.inl rfl))
      (pss_one (ps_set (i := 3) sc__law_walked.nd rfl (Or.inl rfl) (pe_ix (ix_tupK (K := K) (by rfl)) (pe_ix (ix_tupK (K := K) (by rfl)) (pe_ix (ix_tupK (K := K) (by rfl)) (pv 1) (pv 3) (fun _ _ => rfl)) pe_int (fun _ _ => rfl)) (pe_bm PySem.F.plainAttrs_str PySem.F.slot_str_index PySem.F.type_str_index mt_indexT (pv 0) (pa_cons (pv 4) pa_nil)) (fun _ _ => rfl)))))
      (pss_one (ps_ret (pe_ix (ix_tupK (K := K) (by rfl)) (pe_ix (ix_tupK (K := K) (by rfl)) (pv 1) (pv 3) (fun _ _ => rfl)) pe_int (fun _ _ => rfl)))))), ?_⟩
    walk_at "rds"
    have hlt : ∀ j, runW to 0 (ws.take j) < n := fun j => by
      have go : ∀ (u : List Nat) (x : Nat), x < n → (∀ a ∈ u, a < l.length) → runW to x u < n := fun u => by
        induction u with
        | nil => exact fun x hx _ => hx
        | cons a u ih => exact fun x hx hu => ih (to x a) (hc x hx a (hu a List.mem_cons_self)) fun b hb => hu b (List.mem_cons_of_mem _ hb)
      exact go _ 0 hs fun a ha => hw a (List.mem_of_mem_take ha)
    refine rd_cut (fun σ' H' => (∃ y4, σ' = [some (.str (tx l)), some (.ref p), some (.str (tx (ws.map fun a => l.getD a 0))), some (.int ((runW to 0 ws : Nat) : Int)), y4]) ∧ H' = H) ?_ ?_
    rotate_left
    · rintro σ' H1 ⟨⟨y4, rfl⟩, rfl⟩
      have hr := hlt ws.length
      rw [List.take_length] at hr
      walk_at "rds"
      refine rd_ixT (SqT.of et) (atI_nat (refs_get hr)) ?_
      walk_at "rds"
      refine rd_ixT (SqT.of (er _ hr).1) (show atI [V.bl (lab (runW to 0 ws)), V.ref (vs (runW to 0 ws))] ((0 : Nat) : Int) = some (.bl (lab (runW to 0 ws))) from atI_nat rfl) ?_
      exact q
    walk_at "rds"
    refine for_text (l := ws.map fun a => l.getD a 0) (fun j σ' H' => (∃ y4, σ' = [some (.str (tx l)), some (.ref p), some (.str (tx (ws.map fun a => l.getD a 0))), some (.int ((runW to 0 (ws.take j) : Nat) : Int)), y4]) ∧ H' = H) ⟨⟨none, rfl⟩, rfl⟩ ?_ ?_
    rotate_left
    · rintro σ' H1 ⟨⟨y4, rfl⟩, rfl⟩
      rw [List.length_map, List.take_length]
      exact ⟨⟨_, rfl⟩, rfl⟩
    rintro j c σ' H1 hj ⟨⟨y4, rfl⟩, rfl⟩
    rw [List.getElem?_map] at hj
    obtain ⟨a, ha, rfl⟩ : ∃ a, ws[j]? = some a ∧ l.getD a 0 = c := by
      cases e : ws[j]? with
      | none => rw [e] at hj; cases hj
      | some a => rw [e] at hj; exact ⟨a, rfl, Option.some.inj hj⟩
    have hal := hw a (List.mem_of_getElem? ha)
    have hla : l[a]? = some (l.getD a 0) := by
      rw [List.getD_eq_getElem?_getD, List.getElem?_eq_getElem hal]
      rfl
    walk_at "rds"
    refine rd_ixT (SqT.of et) (atI_nat (refs_get (hlt j))) ?_
    walk_at "rds"
    refine rd_ixT (SqT.of (er _ (hlt j)).1) (show atI [V.bl (lab (runW to 0 (ws.take j))), V.ref (vs (runW to 0 (ws.take j)))] ((1 : Nat) : Int) = some (.ref (vs (runW to 0 (ws.take j)))) from atI_nat rfl) ?_
    walk_at "rds"
    refine rd_indexX nd hla ?_
    walk_at "rds"
    refine rd_ixT (SqT.of (er _ (hlt j)).2) (atI_nat (nats_get hal)) ?_
    refine ⟨⟨some (.str (tx [l.getD a 0])), ?_⟩, rfl⟩
    rw [List.take_add_one, ha, runW_app]
    rfl
end
section
variable {P : Program} {w : World} {K : PySem.W.Frag} {mg : Str → Option Value} {base : Heap}
abbrev sTx (ns : List (List Nat)) : List V := ns.map fun n => V.str (tx n)
def NsOk (ls : List Nat) (b : Nat) (ns : List (List Nat)) : Prop := ∀ n ∈ ns, (∀ c ∈ n, c ∈ ls) ∧ n.length ≤ b
theorem NsOk.app {ls : List Nat} {b : Nat} {ns ms : List (List Nat)} (h : NsOk ls b ns) (k : NsOk ls b ms) : NsOk ls b (ns ++ ms) := fun n hn => (List.mem_append.mp hn).elim (h n) (k n)
theorem NsOk.map {ls : List Nat} {b b' : Nat} {ns : List (List Nat)} {f : List Nat → List Nat} (h : NsOk ls b ns) (k : ∀ n, (∀ c ∈ n, c ∈ ls) → n.length ≤ b → (∀ c ∈ f n, c ∈ ls) ∧ (f n).length ≤ b') : NsOk ls b' (ns.map f) := fun n hn => by
  obtain ⟨m, hm, rfl⟩ := List.mem_map.mp hn
  exact k m (h m hm).1 (h m hm).2
theorem NsOk.mono {ls : List Nat} {b b' : Nat} {ns : List (List Nat)} (h : NsOk ls b ns) (k : b ≤ b') : NsOk ls b' ns := fun n hn => ⟨(h n hn).1, Nat.le_trans (h n hn).2 k⟩
theorem cut_mem {l : List Nat} {lo hi : Option Int} {c : Nat} (h : c ∈ cutL l lo hi) : c ∈ l := by
  unfold cutL at h
  exact List.mem_of_mem_drop (List.mem_of_mem_take h)
theorem cut_len (l : List Nat) (lo hi : Option Int) : (cutL l lo hi).length ≤ l.length := by
  unfold cutL
  rw [List.length_take, List.length_drop]
  omega
theorem sTx_at {ns : List (List Nat)} {f : List Nat → List Nat} {i : Nat} {n : List Nat} (h : ns[i]? = some n) : sTx ((ns.take (i + 1)).map f) = sTx ((ns.take i).map f) ++ [.str (tx (f n))] := by
  unfold sTx
  rw [take_snoc f h, List.map_append]
  rfl
def spNear : Sp := fun vs H Q _ => ∃ (p : Addr) (lf : Leaf) (ls : List Nat), vs = [.ref p, .str (tx ls)] ∧ LeafAt H p lf ∧ LeafOk ls lf ∧ ls ≠ [] ∧ ls.length ≤ 5 ∧
  ∀ (ns : List (List Nat)) (p' : Addr) (H' : Hp), NsOk ls 60 ns → ns.length ≤ 60 → Same H H' → H p' = none → H' p' = some (.lst (sTx ns)) → Q (.ref p') H'
set_option maxHeartbeats 1000000 in
theorem cl_near (T : Txt K mg) : Cl P w K mg base "_law_near" ["_law_told", "_law_letters_here"] 1 spNear := cl_of T.a__law_near fun f fd F => by
  refine F.ok sc__law_near (fun vs H Q E h => ?_) (fun cdv A outer s H vs Q E hr h => ?_)
  · obtain ⟨p, lf, ls, rfl, _⟩ := h
    rfl
  · obtain ⟨p, lf, ls, rfl, hp, hok, hne, hls, q⟩ := h
    have hpos : 0 < ls.length := List.length_pos_iff.mpr hne
    have hlast := atI_lastN hne
    have hlm := List.getLast_mem hne
    have hfirst : atI ls ((0 : Nat) : Int) = some (ls[0]'hpos) := atI_nat (List.getElem?_eq_getElem hpos)
    have hfm := List.getElem_mem hpos
    generalize ls.getLast hne = z at hlast hlm
    generalize ls[0]'hpos = z0 at hfirst hfm
    refine ⟨_, (pss_cons (ps_if (pt_cmpR op_eq (pe_ix (ix_tupK (K := K) (by rfl)) (pv 0) pe_int (fun _ _ => rfl)) (pe_strX [111, 102] (by decide +kernel)) (nomark _))
      (pss_one (ps_ret (pe_op op_cat (pe_lc (own := [("_law_name_here", 4)]) (g := gName 4) (tt := tYes) (by rfl) sc__law_near.nd (pi_tup (pe_ix (ix_tupK (K := K) (by rfl)) (pv 0) pe_int (fun _ _ => rfl))) (blkOk_by (own := [("_law_name_here", 4)]) (N := n__law_near) (sc := defScope s__law_near) (by decide +kernel)) (fun _ _ _ _ _ => (pg_name (i := 4) sc__law_near.nd rfl (by first | exact Or.inl rfl | exact Or.inr rfl))) (fun _ _ _ _ _ => pts_nil) (fun _ _ _ _ _ => (pe_op op_addX (pv 4) (pe_ix ix_strX (pv 1) (pe_un un_neg pe_int) (fun _ _ => rfl))))) (pe_lc (own := [("_law_name_here", 4)]) (g := gName 4) (tt := tYes) (by rfl) sc__law_near.nd (pi_tup (pe_ix (ix_tupK (K := K) (by rfl)) (pv 0) pe_int (fun _ _ => rfl))) (blkOk_by (own := [("_law_name_here", 4)]) (N := n__law_near) (sc := defScope s__law_near) (by decide +kernel)) (fun _ _ _ _ _ => (pg_name (i := 4) sc__law_near.nd rfl (by first | exact Or.inl rfl | exact Or.inr rfl))) (fun _ _ _ _ _ => pts_nil) (fun _ _ _ _ _ => (pe_slice sl_strX (pv 4) po_none (po_some (pe_un un_neg pe_int))))))))
      pss_nil)
      (pss_cons (ps_if (pt_cmpR op_eq (pe_ix (ix_tupK (K := K) (by rfl)) (pv 0) pe_int (fun _ _ => rfl)) (pe_strX [98, 101, 103, 105, 110, 110, 105, 110, 103] (by decide +kernel)) (nomark _))
      (pss_one (ps_ret (pe_lst (pa_cons (pe_op op_addX (pe_ix (ix_tupK (K := K) (by rfl)) (pv 0) pe_int (fun _ _ => rfl)) (pe_op op_mulT (pe_ix ix_strX (pv 1) pe_int (fun _ _ => rfl)) pe_int)) (pa_cons (pe_slice sl_strX (pe_ix (ix_tupK (K := K) (by rfl)) (pv 0) pe_int (fun _ _ => rfl)) po_none (po_some (pe_un un_neg pe_int))) (pa_cons (pe_op op_addX (pe_op op_addX (pe_ix (ix_tupK (K := K) (by rfl)) (pv 0) pe_int (fun _ _ => rfl)) (pe_ix ix_strX (pv 1) (pe_un un_neg pe_int) (fun _ _ => rfl))) (pe_ix (ix_tupK (K := K) (by rfl)) (pv 0) pe_int (fun _ _ => rfl))) pa_nil))))))
      pss_nil)
      (pss_cons (ps_setLc (i := 2) (own := [("_law_k", 3)]) (g := gName 3) (tt := tYes) (by rfl) sc__law_near.nd rfl rfl (sw_true rfl rfl rfl (by decide +kernel)) (pi_range1 (by rfl) T.m_range (pa_cons pe_int pa_nil)) (blkOk_by (own := [("_law_k", 3)]) (N := n__law_near) (sc := defScope s__law_near) (by decide +kernel)) (fun _ _ _ _ _ => (pg_name (i := 3) sc__law_near.nd rfl (by first | exact Or.inl rfl | exact Or.inr rfl))) (fun _ _ _ _ _ => pts_nil) (fun _ _ _ _ _ => (pe_op op_addX (pe_op op_mulT (pe_ix (ix_tupK (K := K) (by rfl)) (pv 0) pe_int (fun _ _ => rfl)) (pv 3)) (pe_ix (ix_tupK (K := K) (by rfl)) (pv 0) pe_int (fun _ _ => rfl)))))
      (pss_one (ps_ret (pe_op op_cat (pe_op op_cat (pv 2) (pe_lc (own := [("_law_name_here", 4)]) (g := gName 4) (tt := tYes) (by rfl) sc__law_near.nd (pi_list (pv 2)) (blkOk_by (own := [("_law_name_here", 4)]) (N := n__law_near) (sc := defScope s__law_near) (by decide +kernel)) (fun _ _ _ _ _ => (pg_name (i := 4) sc__law_near.nd rfl (by first | exact Or.inl rfl | exact Or.inr rfl))) (fun _ _ _ _ _ => pts_nil) (fun _ _ _ _ _ => (pe_op op_addX (pv 4) (pe_ix ix_strX (pv 1) pe_int (fun _ _ => rfl)))))) (pe_lc (own := [("_law_name_here", 4)]) (g := gName 4) (tt := tYes) (by rfl) sc__law_near.nd (pi_list (pv 2)) (blkOk_by (own := [("_law_name_here", 4)]) (N := n__law_near) (sc := defScope s__law_near) (by decide +kernel)) (fun _ _ _ _ _ => (pg_name (i := 4) sc__law_near.nd rfl (by first | exact Or.inl rfl | exact Or.inr rfl))) (fun _ _ _ _ _ => pts_nil) (fun _ _ _ _ _ => (pe_op op_addX (pe_ix ix_strX (pv 1) (pe_un un_neg pe_int) (fun _ _ => rfl)) (pv 4)))))))))), ?_⟩
    walk_at "rds"
    cases lf with
    | of ns =>
      obtain ⟨t, e1, e2⟩ := hp
      obtain ⟨hns, hch⟩ := hok
      refine rd_ixT (SqT.of e1) (show atI [V.str (tx wOf), V.ref t] ((0 : Nat) : Int) = some (.str (tx wOf)) from atI_nat rfl) ?_
      walk_at "rds"
      refine rd_ite (fun _ => ?_) (fun h => by cases h)
      walk_at "rds"
      refine rd_ixT (SqT.of e1) (show atI [V.str (tx wOf), V.ref t] ((1 : Nat) : Int) = some (.ref t) from atI_nat rfl) ?_
      refine ⟨t, rfl, ⟨_, SqT.of e2⟩, fun A1 nA1 => lc_it walk_tup (fun i H' => Same H H' ∧ H' A1 = some (.lst (sTx ((ns.take i).map fun n => n ++ [z])))) ⟨same_upd nA1, upd_same⟩ (fun i H' _ h => SqT.of (h.1 _ _ e2)) ?_ ?_⟩
      · rintro i x H1 H2 hi ⟨s1, ea⟩ ⟨rfl, hx⟩
        obtain ⟨n, hn, rfl⟩ := get_map hx
        have hi' : i < ns.length := (List.getElem?_eq_some_iff.mp hn).1
        have hnl := (hch n (List.mem_of_getElem? hn)).2
        walk_at "rds"
        refine ⟨rfl, ?_⟩
        walk_at "rds"
        refine rd_ite (fun _ => ?_) (fun h => by cases h)
        walk_at "rds"
        refine rd_ixX (sz_of' (by omega)) hlast ?_
        refine rd_addX (sz_of' (by show n.length + 1 ≤ 1000; omega)) ?_
        refine ⟨_, ea, by rw [List.length_map, List.length_map, List.length_take]; exact small1000 (by omega), same_mut s1 nA1, ?_⟩
        rw [upd_same, sTx_at hn]
      rintro H1 ⟨s1, ea⟩
      rw [List.length_map, List.take_length] at ea
      walk_at "rds"
      refine rd_ixT (SqT.of (s1 _ _ e1)) (show atI [V.str (tx wOf), V.ref t] ((1 : Nat) : Int) = some (.ref t) from atI_nat rfl) ?_
      have e21 := s1 _ _ e2
      refine ⟨t, rfl, ⟨_, SqT.of e21⟩, fun A2 nA2 => lc_it walk_tup (fun i H' => Same H1 H' ∧ H' A2 = some (.lst (sTx ((ns.take i).map fun n => cutL n none (some (-1)))))) ⟨same_upd nA2, upd_same⟩ (fun i H' _ h => SqT.of (h.1 _ _ e21)) ?_ ?_⟩
      · rintro i x H2 H3 hi ⟨s2, eb⟩ ⟨rfl, hx⟩
        obtain ⟨n, hn, rfl⟩ := get_map hx
        have hi' : i < ns.length := (List.getElem?_eq_some_iff.mp hn).1
        have hnl := (hch n (List.mem_of_getElem? hn)).2
        walk_at "rds"
        refine ⟨rfl, ?_⟩
        walk_at "rds"
        refine rd_ite (fun _ => ?_) (fun h => by cases h)
        walk_at "rds"
        refine rd_slX (sz_of' (by omega)) ?_
        refine ⟨_, eb, by rw [List.length_map, List.length_map, List.length_take]; exact small1000 (by omega), same_mut s2 nA2, ?_⟩
        rw [upd_same, sTx_at hn]
      rintro H2 ⟨s2, eb⟩
      rw [List.length_map, List.take_length] at eb
      refine rd_cat (s2 _ _ ea) eb (by rw [List.length_map, List.length_map, List.length_map, List.length_map]; exact sz_of' (by omega)) fun r nr => ?_
      have s02 := same_trans s1 s2
      refine q (ns.map (fun n => n ++ [z]) ++ ns.map fun n => cutL n none (some (-1))) r _ (NsOk.app (NsOk.map (b := 5) hch fun n h1 h2 => ⟨fun c hc => ?_, by show (n ++ [z]).length ≤ 60; rw [List.length_append]; show n.length + 1 ≤ 60; omega⟩) (NsOk.map (b := 5) hch fun n h1 h2 => ⟨fun c hc => h1 c (cut_mem hc), Nat.le_trans (cut_len n _ _) (by omega)⟩)) (by rw [List.length_append, List.length_map, List.length_map]; omega) (same_trans s02 (same_upd nr)) (same_none s02 nr) ?_
      · rcases List.mem_append.mp hc with h | h
        · exact h1 c h
        · rw [List.mem_singleton.mp h]
          exact hlm
      · rw [upd_same]
        unfold sTx
        rw [List.map_append]
    | beg u =>
      obtain ⟨hu, hul⟩ := hok
      have g1 : atI [V.str (tx wBeg), V.str (tx u)] ((1 : Nat) : Int) = some (.str (tx u)) := atI_nat rfl
      have g0 : atI [V.str (tx wBeg), V.str (tx u)] ((0 : Nat) : Int) = some (.str (tx wBeg)) := atI_nat rfl
      refine rd_ixT (SqT.of hp) g0 ?_
      walk_at "rds"
      refine rd_ite (fun h => by cases h) (fun _ => ?_)
      walk_at "rds"
      refine rd_ixT (SqT.of hp) g0 ?_
      walk_at "rds"
      refine rd_ite (fun _ => ?_) (fun h => by cases h)
      walk_at "rds"
      refine rd_ixT (SqT.of hp) g1 ?_
      walk_at "rds"
      refine rd_ixX (sz_of' (by omega)) hfirst ?_
      walk_at "rds"
      refine rd_mulX (by decide) (by decide) (by show 1 * 3 ≤ 100000; decide) ?_
      refine rd_addX (sz_of' (by rw [reps_len]; show u.length + 3 * 1 ≤ 1000; omega)) ?_
      walk_at "rds"
      refine rd_ixT (SqT.of hp) g1 ?_
      walk_at "rds"
      refine rd_slX (sz_of' (by omega)) ?_
      walk_at "rds"
      refine rd_ixT (SqT.of hp) g1 ?_
      walk_at "rds"
      refine rd_ixX (sz_of' (by omega)) hlast ?_
      refine rd_addX (sz_of' (by show u.length + 1 ≤ 1000; omega)) ?_
      walk_at "rds"
      refine rd_ixT (SqT.of hp) g1 ?_
      refine rd_addX (sz_of' (by rw [List.length_append]; show u.length + 1 + u.length ≤ 1000; omega)) ?_
      walk_at "rds"
      refine ⟨by show 3 ≤ sizeLine; decide, fun r nr => ?_⟩
      refine q [u ++ reps 3 [z0], cutL u none (some (-1)), (u ++ [z]) ++ u] r _ (fun n hn => ?_) (by show 3 ≤ 60; decide) (same_upd nr) nr upd_same
      have hz0 : ∀ c ∈ reps 3 [z0], c ∈ ls := fun c hc => by
        rw [List.mem_singleton.mp (mem_reps hc)]
        exact hfm
      have hz : ∀ c ∈ [z], c ∈ ls := fun c hc => by
        rw [List.mem_singleton.mp hc]
        exact hlm
      have ha : ∀ {a b : List Nat}, (∀ c ∈ a, c ∈ ls) → (∀ c ∈ b, c ∈ ls) → ∀ c ∈ a ++ b, c ∈ ls := fun h k c hc => (List.mem_append.mp hc).elim (h c) (k c)
      rcases List.mem_cons.mp hn with rfl | hn
      · exact ⟨ha hu hz0, by rw [List.length_append, reps_len]; show u.length + 3 * 1 ≤ 60; omega⟩
      · rcases List.mem_cons.mp hn with rfl | hn
        · exact ⟨fun c hc => hu c (cut_mem hc), Nat.le_trans (cut_len u _ _) (by omega)⟩
        · rw [List.mem_singleton.mp hn]
          exact ⟨ha (ha hu hz) hu, by rw [List.length_append, List.length_append]; show u.length + 1 + u.length ≤ 60; omega⟩
    | fam u r c =>
      obtain ⟨_, hul, hcu, hcr, hrl, _⟩ := hok
      have g0 : atI [V.str (tx wFam), V.str (tx u), V.str (tx r), V.int ((c : Nat) : Int)] ((0 : Nat) : Int) = some (.str (tx wFam)) := atI_nat rfl
      have g1 : atI [V.str (tx wFam), V.str (tx u), V.str (tx r), V.int ((c : Nat) : Int)] ((1 : Nat) : Int) = some (.str (tx u)) := atI_nat rfl
      have g2 : atI [V.str (tx wFam), V.str (tx u), V.str (tx r), V.int ((c : Nat) : Int)] ((2 : Nat) : Int) = some (.str (tx r)) := atI_nat rfl
      refine rd_ixT (SqT.of hp) g0 ?_
      walk_at "rds"
      refine rd_ite (fun h => by cases h) (fun _ => ?_)
      walk_at "rds"
      refine rd_ixT (SqT.of hp) g0 ?_
      walk_at "rds"
      refine rd_ite (fun h => by cases h) (fun _ => ?_)
      walk_at "rds"
      refine ⟨7, rfl, by decide, by decide, fun A1 nA1 => lc_range (lo := 0) (n := (7 : Int).toNat) (fun i H' => Same H H' ∧ H' A1 = some (.lst (sTx ((List.range i).map fun k => reps k u ++ r)))) ⟨same_upd nA1, upd_same⟩ ?_ ?_⟩
      · rintro i H1 hi ⟨s1, ea⟩
        have hi' : i < 7 := hi
        have hp1 := s1 _ _ hp
        walk_at "rds"
        refine ⟨rfl, ?_⟩
        walk_at "rds"
        refine rd_ite (fun _ => ?_) (fun h => by cases h)
        walk_at "rds"
        refine rd_ixT (SqT.of hp1) g1 ?_
        walk_at "rds"
        rw [show (0 : Int) + (i : Nat) = ((i : Nat) : Int) by omega]
        have hm : u.length * i ≤ 3 * 7 := Nat.mul_le_mul hul (by omega)
        refine rd_mulX (by omega) (by omega) (by rw [Int.toNat_natCast]; exact Nat.le_trans hm (by decide)) ?_
        rw [Int.toNat_natCast]
        walk_at "rds"
        refine rd_ixT (SqT.of hp1) g2 ?_
        refine rd_addX (sz_of' (by rw [reps_len, Nat.mul_comm]; omega)) ?_
        refine ⟨_, ea, by rw [List.length_map, List.length_map, List.length_range]; exact small1000 (by omega), same_mut s1 nA1, ?_⟩
        rw [upd_same, List.range_succ, List.map_append]
        unfold sTx
        rw [List.map_append]
        rfl
      rintro H1 ⟨s1, ea⟩
      generalize hrows : ((List.range (7 : Int).toNat).map fun k => reps k u ++ r) = rows at ea
      have hrok : NsOk ls 30 rows := by
        rw [← hrows]
        intro n hn
        obtain ⟨k, hk, rfl⟩ := List.mem_map.mp hn
        have hk' : k < 7 := List.mem_range.mp hk
        have hm : u.length * k ≤ 3 * 7 := Nat.mul_le_mul hul (by omega)
        refine ⟨fun c hc => (List.mem_append.mp hc).elim (fun h => hcu c (mem_reps h)) (hcr c), ?_⟩
        rw [List.length_append, reps_len, Nat.mul_comm]
        omega
      have hrl : rows.length = 7 := by
        rw [← hrows, List.length_map, List.length_range]
        rfl
      walk_at "rds"
      refine ⟨A1, rfl, ⟨_, SqL.of ea⟩, fun A2 nA2 => lc_it walk_list (fun i H' => Same H1 H' ∧ H' A2 = some (.lst (sTx ((rows.take i).map fun n => n ++ [z0])))) ⟨same_upd nA2, upd_same⟩ (fun i H' _ h => SqL.of (h.1 _ _ ea)) ?_ ?_⟩
      · rintro i x H2 H3 hi ⟨s2, eb⟩ ⟨rfl, hx⟩
        obtain ⟨n, hn, rfl⟩ := get_map hx
        have hi' : i < rows.length := (List.getElem?_eq_some_iff.mp hn).1
        have hnl := (hrok n (List.mem_of_getElem? hn)).2
        walk_at "rds"
        refine ⟨rfl, ?_⟩
        walk_at "rds"
        refine rd_ite (fun _ => ?_) (fun h => by cases h)
        walk_at "rds"
        refine rd_ixX (sz_of' (by omega)) hfirst ?_
        refine rd_addX (sz_of' (by show n.length + 1 ≤ 1000; omega)) ?_
        refine ⟨_, eb, by rw [List.length_map, List.length_map, List.length_take]; exact small1000 (by omega), same_mut s2 nA2, ?_⟩
        rw [upd_same, sTx_at hn]
      rintro H2 ⟨s2, eb⟩
      rw [List.length_map, List.take_length] at eb
      refine rd_cat (s2 _ _ ea) eb (by rw [List.length_map, List.length_map, List.length_map]; exact sz_of' (by omega)) fun A3 nA3 => ?_
      have s3 : Same H2 (upd H2 A3 (.lst (sTx rows ++ sTx (rows.map fun n => n ++ [z0])))) := same_upd nA3
      have ec : upd H2 A3 (.lst (sTx rows ++ sTx (rows.map fun n => n ++ [z0]))) A3 = some (.lst (sTx rows ++ sTx (rows.map fun n => n ++ [z0]))) := upd_same
      generalize upd H2 A3 (.lst (sTx rows ++ sTx (rows.map fun n => n ++ [z0]))) = H3 at s3 ec ⊢
      have ea3 := s3 _ _ (s2 _ _ ea)
      walk_at "rds"
      refine ⟨A1, rfl, ⟨_, SqL.of ea3⟩, fun A4 nA4 => lc_it walk_list (fun i H' => Same H3 H' ∧ H' A4 = some (.lst (sTx ((rows.take i).map fun n => [z] ++ n)))) ⟨same_upd nA4, upd_same⟩ (fun i H' _ h => SqL.of (h.1 _ _ ea3)) ?_ ?_⟩
      · rintro i x H4 H5 hi ⟨s4, ed⟩ ⟨rfl, hx⟩
        obtain ⟨n, hn, rfl⟩ := get_map hx
        have hi' : i < rows.length := (List.getElem?_eq_some_iff.mp hn).1
        have hnl := (hrok n (List.mem_of_getElem? hn)).2
        walk_at "rds"
        refine ⟨rfl, ?_⟩
        walk_at "rds"
        refine rd_ite (fun _ => ?_) (fun h => by cases h)
        walk_at "rds"
        refine rd_ixX (sz_of' (by omega)) hlast ?_
        walk_at "rds"
        refine rd_addX (sz_of' (by show 1 + n.length ≤ 1000; omega)) ?_
        refine ⟨_, ed, by rw [List.length_map, List.length_map, List.length_take]; exact small1000 (by omega), same_mut s4 nA4, ?_⟩
        rw [upd_same, sTx_at hn]
      rintro H4 ⟨s4, ed⟩
      rw [List.length_map, List.take_length] at ed
      refine rd_cat (s4 _ _ ec) ed (by rw [List.length_append, List.length_map, List.length_map, List.length_map, List.length_map, List.length_map]; exact sz_of' (by omega)) fun rr nr => ?_
      have s04 := same_trans s1 (same_trans s2 (same_trans s3 s4))
      refine q (rows ++ rows.map (fun n => n ++ [z0]) ++ rows.map fun n => [z] ++ n) rr _ ((NsOk.app (hrok.mono (by decide)) (NsOk.map hrok fun n h1 h2 => ⟨fun c hc => ?_, by rw [List.length_append]; show n.length + 1 ≤ 60; omega⟩)).app (NsOk.map hrok fun n h1 h2 => ⟨fun c hc => ?_, by rw [List.length_append]; show 1 + n.length ≤ 60; omega⟩)) (by rw [List.length_append, List.length_append, List.length_map, List.length_map]; omega) (same_trans s04 (same_upd nr)) (same_none s04 nr) ?_
      · rcases List.mem_append.mp hc with h | h
        · exact h1 c h
        · rw [List.mem_singleton.mp h]
          exact hfm
      · rcases List.mem_append.mp hc with h | h
        · rw [List.mem_singleton.mp h]
          exact hlm
        · exact h1 c h
      · rw [upd_same]
        unfold sTx
        rw [List.map_append, List.map_append]
end
section
variable {P : Program} {w : World} {K : PySem.W.Frag} {mg : Str → Option Value} {base : Heap}
/-- every letter behind every name -/
def longer (ls : List Nat) (ns : List (List Nat)) : List (List Nat) := ns.flatMap fun n => ls.map fun c => n ++ [c]
theorem longer_len (ls : List Nat) : ∀ ns : List (List Nat), (longer ls ns).length = ns.length * ls.length
  | [] => by simp [longer]
  | n :: r => by
    have := longer_len ls r
    unfold longer at this ⊢
    rw [List.flatMap_cons, List.length_append, List.length_map, this, List.length_cons, Nat.add_mul, Nat.one_mul, Nat.add_comm]
theorem longer_at {ls : List Nat} {ns : List (List Nat)} {i : Nat} {n : List Nat} (h : ns[i]? = some n) : longer ls (ns.take (i + 1)) = longer ls (ns.take i) ++ ls.map fun c => n ++ [c] := by
  unfold longer
  rw [List.take_add_one, h, List.flatMap_append]
  simp
theorem longer_ok {ls : List Nat} {b : Nat} {ns : List (List Nat)} (h : NsOk ls b ns) : NsOk ls (b + 1) (longer ls ns) := fun m hm => by
  unfold longer at hm
  obtain ⟨n, hn, hm⟩ := List.mem_flatMap.mp hm
  obtain ⟨c, hc, rfl⟩ := List.mem_map.mp hm
  refine ⟨fun d hd => (List.mem_append.mp hd).elim ((h n hn).1 d) fun hd => ?_, ?_⟩
  · rw [List.mem_singleton.mp hd]
    exact hc
  · rw [List.length_append]
    have := (h n hn).2
    show n.length + 1 ≤ b + 1
    omega
def spAllN : Sp := fun vs H Q _ => ∃ ls : List Nat, vs = [.str (tx ls), .int 30] ∧ ls ≠ [] ∧ ls.length ≤ 5 ∧ ∀ (ns : List (List Nat)) (p : Addr) (H' : Hp), NsOk ls 190 ns → ns.length ≤ 190 → Same H H' → H p = none → H' p = some (.lst (sTx ns)) → Q (.ref p) H'
theorem cl_alln (T : Txt K mg) : Cl P w K mg base "_law_all_names" ["_law_letters_here", "_law_many"] 1 spAllN := cl_of T.a__law_all_names fun f fd F => by
  refine F.ok sc__law_all_names (fun vs H Q E h => ?_) (fun cdv A outer s H vs Q E hr h => ?_)
  · obtain ⟨ls, rfl, _⟩ := h
    rfl
  · obtain ⟨ls, rfl, hne, hls, q⟩ := h
    have hpos : 0 < ls.length := List.length_pos_iff.mpr hne
    refine ⟨_, (pss_cons (ps_par (i := 2) (j := 3) (by rfl) sc__law_all_names.nd rfl rfl (by decide) rfl rfl (pa_cons (pe_lst (pa_cons (pe_strX [] (by decide +kernel)) pa_nil)) (pa_cons (pe_lst (pa_cons (pe_strX [] (by decide +kernel)) pa_nil)) pa_nil)) (by rfl))
      (Evl.pss_cut (ps_while PassesOwn.never (pt_cmpR op_lt (pe_callB (call_lenK (K := K) (by rfl)) (by rfl) T.m_len (by decide +kernel) (pa_cons (pv 2) pa_nil)) (pv 1) (nomark _))
      (pss_cons (ps_set (i := 4) sc__law_all_names.nd rfl (Or.inl rfl) (pe_lst pa_nil))
      (Evl.pss_cut (ps_for PassesOwn.never rfl (pi_list (pv 3)) (pg_name (i := 5) sc__law_all_names.nd rfl (Or.inr rfl))
      (pss_one (ps_expr (pe_bm PySem.F.plainAttrs_list PySem.F.slot_list_extend PySem.F.type_list_extend mt_extend (pv 4) (pa_cons (pe_lc (own := [("_law_letter", 6)]) (g := gName 6) (tt := tYes) (by rfl) sc__law_all_names.nd (pi_str (pv 0)) (blkOk_by (own := [("_law_letter", 6)]) (N := n__law_all_names) (sc := defScope s__law_all_names) (by decide +kernel)) (fun _ _ _ _ _ => (pg_name (i := 6) sc__law_all_names.nd rfl (by first | exact Or.inl rfl | exact Or.inr rfl))) (fun _ _ _ _ _ => pts_nil) (fun _ _ _ _ _ => (pe_op op_addX (pv 5) (pv 6)))) pa_nil)))))
      (pss_cons (ps_set (i := 3) sc__law_all_names.nd rfl (Or.inl rfl) (pv 4))
      (pss_one (ps_set (i := 2) sc__law_all_names.nd rfl (Or.inl rfl) (pe_op op_cat (pv 2) (pv 3))))))))
      (pss_one (ps_ret (pv 2))))), ?_⟩
    walk_at "rds"
    refine ⟨by show 1 ≤ sizeLine; decide, fun F0 nF0 => ?_⟩
    walk_at "rds"
    refine ⟨by show 1 ≤ sizeLine; decide, fun L0 nL0 => ?_⟩
    walk_at "rds"
    have s0 : Same H (upd (upd H F0 (.lst [.str (tx [])])) L0 (.lst [.str (tx [])])) := same_trans (same_upd nF0) (same_upd nL0)
    have f0 : upd (upd H F0 (.lst [.str (tx [])])) L0 (.lst [.str (tx [])]) F0 = some (.lst (sTx [[]])) := (upd_ne (ne_of_none upd_same nL0)).trans upd_same
    have l0 : upd (upd H F0 (.lst [.str (tx [])])) L0 (.lst [.str (tx [])]) L0 = some (.lst (sTx [[]])) := upd_same
    generalize upd (upd H F0 (.lst [.str (tx [])])) L0 (.lst [.str (tx [])]) = H0 at s0 f0 l0 ⊢
    have hone : NsOk ls 1 [[]] := fun n hn => by
      rw [List.mem_singleton.mp hn]
      exact ⟨(fun c h => by cases h), Nat.zero_le _⟩
    dsimp only
    refine rd_cut (fun σ' H' => ∃ (Fa : Addr) (fs : List (List Nat)) (y3 y4 y5 y6 : Option V), σ' = [some (.str (tx ls)), some (.int 30), some (.ref Fa), y3, y4, y5, y6] ∧ Same H H' ∧ H Fa = none ∧ H' Fa = some (.lst (sTx fs)) ∧ NsOk ls fs.length fs ∧ fs.length ≤ 180) ?_ ?_
    rotate_left
    · rintro σ' H1 ⟨Fa, fs, y3, y4, y5, y6, rfl, s1, nF, eF, ok, hl⟩
      walk_at "rds"
      exact q fs Fa H1 (ok.mono (by omega)) (by omega) s1 nF eF
    refine rd_while (fun m σ' H' => ∃ (Fa La : Addr) (fs las : List (List Nat)) (y4 y5 y6 : Option V), σ' = [some (.str (tx ls)), some (.int 30), some (.ref Fa), some (.ref La), y4, y5, y6] ∧ m = 200 - fs.length ∧ Same H H' ∧ H Fa = none ∧ H' Fa = some (.lst (sTx fs)) ∧ H' La = some (.lst (sTx las)) ∧ NsOk ls fs.length fs ∧ NsOk ls fs.length las ∧ 0 < las.length ∧ las.length ≤ fs.length ∧ fs.length ≤ 180) 199
      ⟨F0, L0, [[]], [[]], none, none, none, rfl, rfl, s0, nF0, f0, l0, hone, hone, Nat.one_pos, Nat.le_refl _, by decide⟩ ?_
    rintro m σ' H1 ⟨Fa, La, fs, las, y4, y5, y6, rfl, rfl, s1, nF, eF, eL, ok, okl, hl0, hl1, hl2⟩
    walk_at "rds"
    refine rd_lenL (SqL.of eF) ?_
    rw [List.length_map]
    walk_at "rds"
    refine rd_ite (fun hlt => ?_) (fun _ => ?_)
    rotate_left
    · exact ⟨Fa, fs, _, _, _, _, rfl, s1, nF, eF, ok, hl2⟩
    have hf30 : fs.length < 30 := by
      have := of_decide_eq_true hlt
      omega
    have hll : las.length * ls.length ≤ 29 * 5 := Nat.mul_le_mul (by omega) hls
    have hll0 : 1 ≤ las.length * ls.length := Nat.mul_pos hl0 hpos
    refine ⟨fun σ' H' => ∃ (Fa La : Addr) (fs' las' : List (List Nat)) (y4 y5 y6 : Option V), σ' = [some (.str (tx ls)), some (.int 30), some (.ref Fa), some (.ref La), y4, y5, y6] ∧ fs.length < fs'.length ∧ Same H H' ∧ H Fa = none ∧ H' Fa = some (.lst (sTx fs')) ∧ H' La = some (.lst (sTx las')) ∧ NsOk ls fs'.length fs' ∧ NsOk ls fs'.length las' ∧ 0 < las'.length ∧ las'.length ≤ fs'.length ∧ fs'.length ≤ 180, ?_, ?_⟩
    · rintro σ' H' ⟨Fa, La, fs', las', y4, y5, y6, e, hlt2, r⟩
      exact ⟨200 - fs'.length, by omega, Fa, La, fs', las', y4, y5, y6, e, rfl, r⟩
    walk_at "rds"
    refine ⟨by show 0 ≤ sizeLine; decide, fun B nB => ?_⟩
    have s2 : Same H1 (upd H1 B (.lst [])) := same_upd nB
    have eB : upd H1 B (.lst []) B = some (.lst (sTx (longer ls (las.take 0)))) := upd_same
    generalize upd H1 B (.lst []) = H2 at s2 eB ⊢
    have eL2 := s2 _ _ eL
    have eF2 := s2 _ _ eF
    walk_at "rds"
    refine rd_cut (fun σ' H' => (∃ y5 y6, σ' = [some (.str (tx ls)), some (.int 30), some (.ref Fa), some (.ref La), some (.ref B), y5, y6]) ∧ Same H1 H' ∧ H' B = some (.lst (sTx (longer ls las)))) ?_ ?_
    rotate_left
    · rintro σ' H3 ⟨⟨y5, y6, rfl⟩, s3, eB3⟩
      walk_at "rds"
      refine rd_cat (s3 _ _ eF) eB3 (by rw [List.length_map, List.length_map, longer_len]; exact sz_of' (by omega)) fun R nR => ?_
      have s13 := same_trans s1 s3
      refine ⟨R, B, fs ++ longer ls las, longer ls las, _, _, _, rfl, by rw [List.length_append, longer_len]; omega, same_trans s13 (same_upd nR), same_none s13 nR, ?_, (upd_ne (ne_of_none eB3 nR)).trans eB3, ?_, ?_, by rw [longer_len]; omega, by rw [List.length_append]; omega, by rw [List.length_append, longer_len]; omega⟩
      · rw [upd_same]
        unfold sTx
        rw [List.map_append]
      · exact (ok.mono (by rw [List.length_append]; omega)).app ((longer_ok okl).mono (by rw [List.length_append, longer_len]; omega))
      · exact (longer_ok okl).mono (by rw [List.length_append, longer_len]; omega)
    walk_at "rds"
    refine ⟨La, rfl, ⟨_, SqL.of eL2⟩, for_it walk_list (fun i σ' H' => (∃ y5 y6, σ' = [some (.str (tx ls)), some (.int 30), some (.ref Fa), some (.ref La), some (.ref B), y5, y6]) ∧ Same H1 H' ∧ H' B = some (.lst (sTx (longer ls (las.take i))))) ⟨⟨_, _, rfl⟩, s2, eB⟩ (fun i σ' H' _ h => SqL.of (h.2.1 _ _ eL)) ?_ ?_⟩
    rotate_left
    · rintro σ' H3 ⟨hσ, s3, e3⟩
      rw [List.length_map, List.take_length] at e3
      exact ⟨hσ, s3, e3⟩
    rintro i x σ' H3 H4 hi ⟨⟨y5, y6, rfl⟩, s3, e3⟩ ⟨rfl, hx⟩
    obtain ⟨n, hn, rfl⟩ := get_map hx
    have hi' : i < las.length := (List.getElem?_eq_some_iff.mp hn).1
    have hnl := (okl n (List.mem_of_getElem? hn)).2
    walk_at "rds"
    refine rd_tyL (SqL.of e3) ?_
    walk_at "rds"
    refine fun C nC => lc_text (l := ls) (fun j H' => Same H4 H' ∧ H' C = some (.lst (sTx ((ls.take j).map fun c => n ++ [c])))) ⟨same_upd nC, upd_same⟩ (fun j c H5 hj h5 => ?_) (fun H5 h5 => ?_)
    · obtain ⟨s5, e5⟩ := h5
      have hjl : j < ls.length := (List.getElem?_eq_some_iff.mp hj).1
      walk_at "rds"
      refine ⟨rfl, ?_⟩
      walk_at "rds"
      refine rd_ite (fun _ => ?_) (fun h => by cases h)
      walk_at "rds"
      refine rd_addX (sz_of' (by show n.length + 1 ≤ 1000; omega)) ?_
      refine ⟨_, e5, by rw [List.length_map, List.length_map, List.length_take]; exact small1000 (by omega), same_mut s5 nC, ?_⟩
      rw [upd_same]
      unfold sTx
      rw [take_snoc (fun c => n ++ [c]) hj, List.map_append]
      rfl
    obtain ⟨s5, e5⟩ := h5
    rw [List.take_length] at e5
    walk_at "rds"
    have hlen : (longer ls (las.take i)).length ≤ 145 := by
      rw [longer_len, List.length_take]
      exact Nat.le_trans (Nat.mul_le_mul (show min i las.length ≤ 29 by omega) hls) (by decide)
    refine ⟨B, C, _, _, rfl, rfl, s5 _ _ e3, e5, by rw [List.length_map, List.length_map, List.length_map]; exact sz_of' (by omega), ?_⟩
    refine ⟨⟨_, _, rfl⟩, same_mut (same_trans s3 s5) nB, ?_⟩
    rw [upd_same, longer_at hn]
    unfold sTx
    rw [List.map_append]
end
section
variable {P : Program} {w : World} {K : PySem.W.Frag} {mg : Str → Option Value} {base : Heap}
theorem rowC_mono {f : Nat → Nat} {c : Nat} : ∀ {b a : Nat}, a ≤ b → rowC f c a ≤ rowC f c b
  | 0, a, h => by rw [show a = 0 by omega]; exact Nat.le_refl _
  | b + 1, a, h => by
    rcases Nat.lt_or_ge a (b + 1) with g | g
    · refine Nat.le_trans (rowC_mono (b := b) (a := a) (by omega)) ?_
      show rowC f c b ≤ if rowC f c b ≤ f b then rowC f c b + 1 else rowC f c b
      split <;> omega
    · rw [show a = b + 1 by omega]
      exact Nat.le_refl _
theorem totC_mono {m : Nat} {t : Nat → Nat → Nat} : ∀ {j i : Nat}, i ≤ j → totC m t i ≤ totC m t j
  | 0, i, h => by rw [show i = 0 by omega]; exact Nat.le_refl _
  | j + 1, i, h => by
    rcases Nat.lt_or_ge i (j + 1) with g | g
    · exact Nat.le_trans (totC_mono (j := j) (i := i) (by omega)) (rowC_le (t j) (totC m t j) m)
    · rw [show i = j + 1 by omega]
      exact Nat.le_refl _
theorem in_nats {c x : Nat} : inV (.int ((x : Nat) : Int)) (nats c fun i => i) = decide (x < c) := by
  unfold inV nats
  rw [Bool.eq_iff_iff, List.any_map, List.any_eq_true, decide_eq_true_eq]
  constructor
  · rintro ⟨n, hn, h⟩
    have h' : (((n : Nat) : Int) == ((x : Nat) : Int)) = true := h
    have e := beq_iff_eq.mp h'
    have := List.mem_range.mp hn
    omega
  · exact fun h => ⟨x, List.mem_range.mpr h, show (((x : Nat) : Int) == ((x : Nat) : Int)) = true from beq_iff_eq.mpr rfl⟩
theorem flat_nats (n : Nat) (f : Nat → Nat) : (nats n f).all flatV = true := by
  unfold nats
  rw [List.all_map, List.all_eq_true]
  exact fun _ _ => rfl
def keyL (m : Nat) (t : Nat → Nat → Nat) (kd : Nat → Nat) (s : Nat) : List Int := ((kd s : Nat) : Int) :: (List.range m).map fun a => ((kd (t s a) : Nat) : Int)
theorem keyL_eq {m : Nat} {t : Nat → Nat → Nat} {kd : Nat → Nat} {s s' : Nat} : keyL m t kd s = keyL m t kd s' ↔ KeyEq m t kd s s' := by
  unfold keyL KeyEq
  rw [List.cons.injEq, Int.ofNat_inj]
  refine and_congr_right fun _ => ?_
  constructor
  · intro h a ha
    have := congrArg (fun z : List Int => z[a]?) h
    simp only [List.getElem?_map, List.getElem?_range ha, Option.map_some, Option.some.injEq] at this
    exact Int.ofNat_inj.mp this
  · exact fun h => List.map_congr_left fun a ha => by rw [h a (List.mem_range.mp ha)]
theorem keyL_vals {H : Hp} (m : Nat) (t : Nat → Nat → Nat) (kd : Nat → Nat) (s : Nat) : DpAll K H (.int ((kd s : Nat) : Int) :: nats m fun a => kd (t s a)) ((keyL m t kd s).map PyData.int) := by
  unfold keyL nats
  rw [List.map_cons, List.map_map]
  exact .cons (.int _) (dpAll_by fun x _ => .int _)
/-- lists of numbers as data -/
def natsL (n : Nat) (f : Nat → Nat) : List Int := (List.range n).map fun i => ((f i : Nat) : Int)
theorem natsL_map (n : Nat) (f : Nat → Nat) : nats n f = (natsL n f).map V.int := by
  unfold nats natsL
  rw [List.map_map]
  rfl
theorem dp_natsL {H : Hp} {q : Addr} {n : Nat} {f : Nat → Nat} (e : SqL K H q (nats n f)) : Dp K H (.ref q) (.list ((natsL n f).map PyData.int)) := by
  rw [natsL_map] at e
  exact .lst e (dpAll_ints _)
theorem eqv_ints (a b : List Int) : PyData.eqv (.list (a.map PyData.int)) (.list (b.map PyData.int)) = decide (a = b) := by
  simp only [PyData.eqv]
  refine eqvAll_by (fun a b => ?_) a b
  simp only [PyData.eqv]
  rw [Bool.eq_iff_iff, beq_iff_eq, decide_eq_true_eq]
theorem natsL_eq {n : Nat} {f g : Nat → Nat} : natsL n f = natsL n g ↔ ∀ s < n, f s = g s := by
  unfold natsL
  constructor
  · intro h s hs
    have := congrArg (fun z : List Int => z[s]?) h
    simp only [List.getElem?_map, List.getElem?_range hs, Option.map_some, Option.some.injEq] at this
    exact Int.ofNat_inj.mp this
  · exact fun h => List.map_congr_left fun s hs => by rw [h s (List.mem_range.mp hs)]
theorem keys_shaped (k m : Nat) (t : Nat → Nat → Nat) (kd : Nat → Nat) : SeqAt.shaped (.list ((List.range k).map fun s => intsD (keyL m t kd s))) = true := by
  unfold SeqAt.shaped
  rw [Bool.and_eq_true]
  refine ⟨lay_list fun d hd => ?_, decide_eq_true ?_⟩
  · obtain ⟨s, _, rfl⟩ := List.mem_map.mp hd
    exact intsD_lay _
  · simp only [PyData.depth]
    refine Nat.le_trans (Nat.succ_le_succ (depthAll_by (n := 1) fun d hd => ?_)) (by decide)
    obtain ⟨s, _, rfl⟩ := List.mem_map.mp hd
    exact intsD_depth _
theorem key_shaped (l : List Int) : SeqAt.shaped (intsD l) = true := by
  unfold SeqAt.shaped
  rw [Bool.and_eq_true]
  exact ⟨intsD_lay l, decide_eq_true (Nat.le_trans (intsD_depth l) (by decide))⟩
theorem rgV_ids (k : Nat) : rgV 0 ((k : Nat) : Int) = nats k fun i => i := by
  unfold rgV nats
  rw [Int.sub_zero, Int.toNat_natCast]
  exact List.map_congr_left fun i _ => by rw [Int.zero_add]
def spLst : Sp := fun vs H Q _ => ∃ (l : List Nat) (p : Addr) (k : Nat) (lab : Nat → Bool) (t : Nat → Nat → Nat), vs = [.str (tx l), .ref p] ∧ TabAt H p k l.length lab t ∧ Closed k l.length t ∧ Num k l.length t ∧ (∀ i < k, ∀ j < k, Eqv l.length lab t i j → i = j) ∧ 0 < k ∧ k ≤ 1000 ∧ l.length ≤ 10 ∧
  ∀ H', Same H H' → Q (.bl true) H'
theorem cl_lst (T : Txt K mg) : Cl P w K mg base "_law_is_least" ["_law_letters_here", "_law_table"] 1 spLst := cl_of T.a__law_is_least fun f fd F => by
  refine F.ok sc__law_is_least (fun vs H Q E h => ?_) (fun cdv A outer s H vs Q E hr h => ?_)
  · obtain ⟨l, p, k, lab, t, rfl, _⟩ := h
    rfl
  · obtain ⟨l, p, k, lab, t, rfl, tab, hc, num, least, k0, kn, hl, q⟩ := h
    refine ⟨_, (pss_cons (ps_par (i := 2) (j := 3) (by rfl) sc__law_is_least.nd rfl rfl (by decide) rfl rfl (pa_cons (pe_lst (pa_cons pe_int pa_nil)) (pa_cons pe_int pa_nil)) (by rfl))
      (Evl.pss_cut (ps_while PassesOwn.never (pt_cmpR op_lt (pv 3) (pe_callB (call_lenK (K := K) (by rfl)) (by rfl) T.m_len (by decide +kernel) (pa_cons (pv 2) pa_nil)) (nomark _))
      (Evl.pss_cut (ps_for PassesOwn.never rfl (pi_tup (pe_ix (ix_tupK (K := K) (by rfl)) (pe_ix (ix_tupK (K := K) (by rfl)) (pv 1) (pe_ix (ix_listK (K := K) (by rfl)) (pv 2) (pv 3) (fun _ _ => rfl)) (fun _ _ => rfl)) pe_int (fun _ _ => rfl))) (pg_name (i := 4) sc__law_is_least.nd rfl (Or.inl rfl))
      (pss_one (ps_if (pt_cmpR op_notIn_seq (pv 4) (pv 2) (by rfl))
      (pss_one (ps_expr (pe_bm PySem.F.plainAttrs_list PySem.F.slot_list_append PySem.F.type_list_append mt_append (pv 2) (pa_cons (pv 4) pa_nil))))
      pss_nil)))
      (pss_one (ps_set (i := 3) sc__law_is_least.nd rfl (Or.inl rfl) (pe_op op_add (pv 3) pe_int)))))
      (pss_cons (ps_set (i := 5) sc__law_is_least.nd rfl (Or.inr rfl) (pe_lc (own := [("_law_row", 9)]) (g := gName 9) (tt := tYes) (by rfl) sc__law_is_least.nd (pi_tup (pv 1)) (blkOk_by (own := [("_law_row", 9)]) (N := n__law_is_least) (sc := defScope s__law_is_least) (by decide +kernel)) (fun _ _ _ _ _ => (pg_name (i := 9) sc__law_is_least.nd rfl (by first | exact Or.inl rfl | exact Or.inr rfl))) (fun _ _ _ _ _ => pts_nil) (fun _ _ _ _ _ => (pe_callTy call_intB (by rfl) T.m_int (by decide +kernel) (pa_cons (pe_ix (ix_tupK (K := K) (by rfl)) (pv 9) pe_int (fun _ _ => rfl)) pa_nil)))))
      (Evl.pss_cut (ps_for PassesOwn.never rfl (pi_range1 (by rfl) T.m_range (pa_cons (pe_callB (call_lenK (K := K) (by rfl)) (by rfl) T.m_len (by decide +kernel) (pa_cons (pv 1) pa_nil)) pa_nil)) (pg_name (i := 6) sc__law_is_least.nd rfl (Or.inl rfl))
      (pss_cons (ps_set (i := 7) sc__law_is_least.nd rfl (Or.inr rfl) (pe_lc (own := [("_law_spot", 10), ("_law_row", 9)]) (g := (gTup K 2 (gCons (gName 10) (gCons (gName 9) gNil)))) (tt := tYes) (by rfl) sc__law_is_least.nd (pi_enumK .t (K := K) (by rfl) (by rfl) T.m_enumerate (pa_cons (pv 1) pa_nil)) (blkOk_by (own := [("_law_spot", 10), ("_law_row", 9)]) (N := n__law_is_least) (sc := defScope s__law_is_least) (by decide +kernel)) (fun _ _ _ _ _ => by exact (pg_tup rfl (pgs_cons (pg_name (i := 10) sc__law_is_least.nd rfl (by first | exact Or.inl rfl | exact Or.inr rfl)) (pgs_cons (pg_name (i := 9) sc__law_is_least.nd rfl (by first | exact Or.inl rfl | exact Or.inr rfl)) pgs_nil)))) (fun _ _ _ _ _ => pts_nil) (fun _ _ _ _ _ => (pe_op (op_catAK (K := K) (by rfl)) (pe_tup (pa_cons (pe_ix (ix_listK (K := K) (by rfl)) (pv 5) (pv 10) (fun _ _ => rfl)) pa_nil)) (pe_tupleOfK (K := K) (by rfl) (by rfl) T.m_tuple (by exact pe_lc (own := [("_law_to", 4)]) (g := gName 4) (tt := tYes) (by rfl) sc__law_is_least.nd (pi_tupK (K := K) (by rfl) (pe_ix (ix_tupK (K := K) (by rfl)) (pv 9) pe_int (fun _ _ => rfl))) (blkOk_by (own := [("_law_to", 4)]) (N := n__law_is_least) (sc := _) (by rfl)) (fun _ _ _ _ _ => (pg_name (i := 4) sc__law_is_least.nd rfl (by first | exact Or.inl rfl | exact Or.inr rfl))) (fun _ _ _ _ _ => pts_nil) (fun _ _ _ _ _ => (pe_ix (ix_listK (K := K) (by rfl)) (pv 5) (pv 4) (fun _ _ => rfl)))))))))
      (pss_cons (ps_setLc (i := 8) (own := [("_law_key", 11)]) (g := gName 11) (tt := tYes) (by rfl) sc__law_is_least.nd rfl rfl (sw_true rfl rfl rfl (by decide +kernel)) (pi_list (pv 7)) (blkOk_by (own := [("_law_key", 11)]) (N := n__law_is_least) (sc := defScope s__law_is_least) (by decide +kernel)) (fun _ _ _ _ _ => (pg_name (i := 11) sc__law_is_least.nd rfl (by first | exact Or.inl rfl | exact Or.inr rfl))) (fun _ _ _ _ _ => pts_nil) (fun _ _ _ _ _ => (pe_bmK (K := K) (by rfl) PySem.F.plainAttrs_list PySem.F.slot_list_index PySem.F.type_list_index (mt_indexDK (K := K) (by rfl) (hu65 hr)) (pv 7) (pa_cons (pv 11) pa_nil))))
      (pss_cons (ps_if (pt_cmpR (op_eqD hr.units) (pv 8) (pv 5) (nomark _))
      (pss_one ps_break)
      pss_nil)
      (pss_one (ps_set (i := 5) sc__law_is_least.nd rfl (Or.inr rfl) (pv 8)))))))
      (pss_cons (ps_if (PW.pt (pw_or (pt_cmpR (op_neD hr.units) (pv 2) (pe_listRg (by rfl) (by rfl) T.m_list (prg_1 (by rfl) T.m_range (pe_callB (call_lenK (K := K) (by rfl)) (by rfl) T.m_len (by decide +kernel) (pa_cons (pv 1) pa_nil)))) (nomark _)) (pw_or1 (pt_cmpR op_ne (RZ.pe_lenSetI (by rfl) T.m_len (by rfl) T.m_set (pv 5)) (pe_callB (call_lenK (K := K) (by rfl)) (by rfl) T.m_len (by decide +kernel) (pa_cons (pv 1) pa_nil)) (nomark _)))))
      (pss_one (ps_ret pe_bl))
      pss_nil)
      (pss_one (ps_ret (pe_cmpR (op_eqD hr.units) (pe_lc (own := [("_law_row", 9)]) (g := gName 9) (by rfl) sc__law_is_least.nd (pi_tup (pv 1)) (blkOk_by (own := [("_law_row", 9)]) (N := n__law_is_least) (sc := defScope s__law_is_least) (by decide +kernel)) (fun _ _ _ _ _ => (pg_name (i := 9) sc__law_is_least.nd rfl (by first | exact Or.inl rfl | exact Or.inr rfl))) (fun _ _ _ _ _ => (pts_one (PW.pt (pw_or (pt_not (pt_val (pe_callB (call_isiQ (K := K) (by rfl)) (by rfl) T.m_isinstance (by decide +kernel) (pa_cons (pe_ix (ix_tupK (K := K) (by rfl)) (pv 9) pe_int (fun _ _ => rfl)) (pa_cons (pe_bltn (v := .ty "bool") (by rfl) T.m_bool (by decide +kernel) rfl) pa_nil))))) (pw_or1 (pt_cmpR op_ne (pe_callB (call_lenK (K := K) (by rfl)) (by rfl) T.m_len (by decide +kernel) (pa_cons (pe_ix (ix_tupK (K := K) (by rfl)) (pv 9) pe_int (fun _ _ => rfl)) pa_nil)) (pe_callB call_lenX (by rfl) T.m_len (by decide +kernel) (pa_cons (pv 0) pa_nil)) (nomark _))))))) (fun _ _ _ _ _ => (pv 9))) (pe_lst pa_nil) (nomark _))))))))), ?_⟩
    walk_at "rds"
    refine ⟨by show 1 ≤ sizeLine; decide, fun M nM => ?_⟩
    have s1 : Same H (upd H M (.lst [.int 0])) := same_upd nM
    have m1 : upd H M (.lst [.int 0]) M = some (.lst (nats 1 fun i => i)) := upd_same
    generalize upd H M (.lst [.int 0]) = H1 at s1 m1 ⊢
    have tab0 := tab
    obtain ⟨rs, vs, et, er⟩ := tab
    walk_at "rds"
    dsimp only
    refine rd_cut (fun σ' H' => (∃ y3 y4, σ' = [some (.str (tx l)), some (.ref p), some (.ref M), y3, y4, none, none, none, none, none, none, none]) ∧ Same H H' ∧ H' M = some (.lst (nats k fun i => i))) ?_ ?_
    · refine rd_while (fun m σ' H' => ∃ (i : Nat) (y4 : Option V), σ' = [some (.str (tx l)), some (.ref p), some (.ref M), some (.int ((i : Nat) : Int)), y4, none, none, none, none, none, none, none] ∧ m = k - i ∧ i ≤ k ∧ Same H H' ∧ H' M = some (.lst (nats (totC l.length t i) fun i => i))) k ⟨0, none, rfl, rfl, Nat.zero_le _, s1, m1⟩ ?_
      rintro m σ' H2 ⟨i, y4, rfl, rfl, hik, s2, m2⟩
      walk_at "rds"
      refine rd_lenL (SqL.of m2) ?_
      rw [nats_len]
      walk_at "rds"
      refine rd_ite (fun hlt => ?_) (fun hlt => ?_)
      · have hlt' : i < totC l.length t i := by
          have := of_decide_eq_true hlt
          omega
        have hi : i < k := by
          rcases Nat.lt_or_ge i k with h | h
          · exact h
          · rw [show i = k by omega, num.all] at hlt'
            omega
        have hck : ∀ a ≤ l.length, rowC (t i) (totC l.length t i) a ≤ k := fun a ha => by
          have h1 : rowC (t i) (totC l.length t i) a ≤ totC l.length t (i + 1) := rowC_mono ha
          have h2 := totC_mono (m := l.length) (t := t) (show i + 1 ≤ k by omega)
          rw [num.all] at h2
          omega
        refine ⟨fun σ' H' => ∃ y4 : Option V, σ' = [some (.str (tx l)), some (.ref p), some (.ref M), some (.int ((i + 1 : Nat) : Int)), y4, none, none, none, none, none, none, none] ∧ Same H H' ∧ H' M = some (.lst (nats (totC l.length t (i + 1)) fun i => i)), ?_, ?_⟩
        · rintro σ' H' ⟨y4, e, s', m'⟩
          exact ⟨k - (i + 1), by omega, i + 1, y4, e, rfl, by omega, s', m'⟩
        refine rd_cut (fun σ' H' => (∃ y4 : Option V, σ' = [some (.str (tx l)), some (.ref p), some (.ref M), some (.int ((i : Nat) : Int)), y4, none, none, none, none, none, none, none]) ∧ Same H H' ∧ H' M = some (.lst (nats (totC l.length t (i + 1)) fun i => i))) ?_ ?_
        rotate_left
        · rintro σ' H3 ⟨⟨y4, rfl⟩, s3, m3⟩
          walk_at "rds"
          exact ⟨_, rfl, s3, m3⟩
        walk_at "rds"
        refine rd_ixL (SqL.of m2) (atI_nat (nats_get hlt')) ?_
        refine rd_ixT (SqT.of (s2 _ _ et)) (atI_nat (refs_get hi)) ?_
        walk_at "rds"
        refine rd_ixT (SqT.of (s2 _ _ (er i hi).1)) (show atI [V.bl (lab i), V.ref (vs i)] ((1 : Nat) : Int) = some (.ref (vs i)) from atI_nat rfl) ?_
        have ev := (er i hi).2
        refine ⟨vs i, rfl, ⟨_, SqT.of (s2 _ _ ev)⟩, for_it walk_tup (fun a σ' H' => (∃ y4 : Option V, σ' = [some (.str (tx l)), some (.ref p), some (.ref M), some (.int ((i : Nat) : Int)), y4, none, none, none, none, none, none, none]) ∧ Same H H' ∧ H' M = some (.lst (nats (rowC (t i) (totC l.length t i) a) fun i => i))) ⟨⟨_, rfl⟩, s2, m2⟩ (fun a σ' H' _ h => SqT.of (h.2.1 _ _ ev)) ?_ ?_⟩
        rotate_left
        · rintro σ' H3 ⟨hσ, s3, m3⟩
          rw [nats_len] at m3
          exact ⟨hσ, s3, m3⟩
        rintro a x σ' H3 H4 ha ⟨⟨y4, rfl⟩, s3, m3⟩ ⟨rfl, hx⟩
        rw [nats_len] at ha
        obtain ⟨_, rfl⟩ := nats_at hx
        have hle := num.le i hi a ha
        have hcc := hck a (by omega)
        have hcc2 := hck (a + 1) (by omega)
        have hrow : rowC (t i) (totC l.length t i) (a + 1) = if rowC (t i) (totC l.length t i) a ≤ t i a then rowC (t i) (totC l.length t i) a + 1 else rowC (t i) (totC l.length t i) a := rfl
        generalize rowC (t i) (totC l.length t i) a = c at m3 hle hcc hrow
        walk_at "rds"
        refine ⟨M, _, rfl, .inl (SqL.of m3), rfl, flat_nats _ _, ?_⟩
        rw [if_pos rfl, in_nats]
        walk_at "rds"
        refine rd_ite (fun hin => ?_) (fun hin => ?_)
        · have hge : c ≤ t i a := by
            have : decide (t i a < c) = false := by simpa using hin
            have := of_decide_eq_false this
            omega
          rw [if_pos hge] at hrow
          walk_at "rds"
          refine rd_tyL (SqL.of m3) ?_
          walk_at "rds"
          refine rd_app m3 (by rw [nats_len]; exact small1000 (by omega)) ?_
          refine ⟨⟨_, rfl⟩, same_mut s3 nM, ?_⟩
          rw [upd_same, hrow, nats_snoc, show t i a = c by omega]
        · have hlt2 : ¬ c ≤ t i a := by
            have : decide (t i a < c) = true := by simpa using hin
            have := of_decide_eq_true this
            omega
          rw [if_neg hlt2] at hrow
          walk_at "rds"
          exact ⟨⟨_, rfl⟩, s3, by rw [hrow]; exact m3⟩
      · have hge : totC l.length t i ≤ i := by
          have := of_decide_eq_false hlt
          omega
        have hi : i = k := by
          rcases Nat.lt_or_ge i k with h | h
          · have := num.lt i h
            omega
          · omega
        subst hi
        rw [num.all] at m2
        exact ⟨⟨_, _, rfl⟩, s2, m2⟩
    rintro σ' H2 ⟨⟨y3, y4, rfl⟩, s2, m2⟩
    clear s1 m1 H1
    walk_at "rds"
    have et2 := s2 _ _ et
    refine ⟨p, rfl, ⟨_, SqT.of et2⟩, fun A nA => lc_it walk_tup (fun i H' => Same H2 H' ∧ H' A = some (.lst (nats i fun s => if lab s = true then 1 else 0))) ⟨same_upd nA, upd_same⟩ (fun i H' _ h => SqT.of (h.1 _ _ et2)) ?_ ?_⟩
    · rintro i x H3 H4 hi ⟨s3, e3⟩ ⟨rfl, hx⟩
      obtain ⟨hik, rfl⟩ := refs_at hx
      walk_at "rds"
      refine ⟨rfl, ?_⟩
      walk_at "rds"
      refine rd_ite (fun _ => ?_) (fun h => by cases h)
      walk_at "rds"
      refine rd_ixT (SqT.of (s3 _ _ (s2 _ _ (er i hik).1))) (show atI [V.bl (lab i), V.ref (vs i)] ((0 : Nat) : Int) = some (.bl (lab i)) from atI_nat rfl) ?_
      walk_at "rds"
      refine ⟨_, e3, by rw [nats_len]; exact small1000 (by omega), same_mut s3 nA, ?_⟩
      rw [upd_same, nats_snoc]
      cases lab i <;> rfl
    rintro H3 ⟨s3, e3⟩
    rw [refs_len] at e3
    walk_at "rds"
    have s03 := same_trans s2 s3
    have m3 := s3 _ _ m2
    clear s2 s3 m2 et2 nA
    dsimp only
    refine rd_cut (fun σ' H' => (∃ (Kd : Addr) (y3 y4 y6 y7 y8 : Option V) (kd : Nat → Nat), σ' = [some (.str (tx l)), some (.ref p), some (.ref M), y3, y4, some (.ref Kd), y6, y7, y8, none, none, none] ∧ H' Kd = some (.lst (nats k kd)) ∧ ∀ s < k, ∀ s' < k, kd s = kd s' → s = s') ∧ Same H H' ∧ H' M = some (.lst (nats k fun i => i))) ?_ ?_
    rotate_left
    · rintro σ' H4 ⟨⟨Kd, y3, y4, y6, y7, y8, kd, rfl, ek, inj⟩, s4, m4⟩
      walk_at "rds"
      refine rd_listRg (rd_rg1 ?_)
      walk_at "rds"
      refine rd_lenT (SqT.of (s4 _ _ et)) ?_
      rw [refs_len]
      refine ⟨_, rfl, .of_le (by omega) (by omega) (by omega) (by omega), fun R nR => ?_⟩
      rw [rgV_ids]
      have s5 : Same H4 (upd H4 R (.lst (nats k fun i => i))) := same_upd nR
      have e5 : upd H4 R (.lst (nats k fun i => i)) R = some (.lst (nats k fun i => i)) := upd_same
      generalize upd H4 R (.lst (nats k fun i => i)) = H5 at s5 e5 ⊢
      have sh : SeqAt.shaped (.list ((natsL k fun i => i).map PyData.int)) = true := shaped_ints _
      refine ⟨_, _, dp_natsL (SqL.of (s5 _ _ m4)), dp_natsL (SqL.of e5), sh, sh, ?_⟩
      rw [eqv_ints, decide_eq_true rfl]
      walk_at "rds"
      refine rd_ite (fun h => by cases h) (fun _ => ?_)
      walk_at "rds"
      have ek5 := s5 _ _ ek
      rw [natsL_map] at ek5
      refine ⟨Kd, natsL k kd, rfl, SqL.of ek5, ?_, by unfold natsL; rw [List.length_map, List.length_range]; omega, ?_⟩
      · unfold natsL
        refine List.pairwise_map.mpr (List.Pairwise.imp_of_mem (fun {a b} ha hb hne e => hne ?_) List.nodup_range)
        exact inj a (List.mem_range.mp ha) b (List.mem_range.mp hb) (Int.ofNat_inj.mp e)
      have s05 := same_trans s4 s5
      have et5 := s05 _ _ et
      rw [show (natsL k kd).length = k by unfold natsL; rw [List.length_map, List.length_range]]
      walk_at "rds"
      refine rd_lenT (SqT.of et5) ?_
      rw [refs_len]
      walk_at "rds"
      rw [decide_eq_true rfl]
      refine rd_ite (fun h => by cases h) (fun _ => ?_)
      walk_at "rds"
      refine ⟨p, rfl, ⟨_, SqT.of et5⟩, fun B nB => lc_it walk_tup (fun i H' => Same H5 H' ∧ H' B = some (.lst [])) ⟨same_upd nB, upd_same⟩ (fun i H' _ h => SqT.of (h.1 _ _ et5)) ?_ ?_⟩
      · rintro i x H6 H7 hi ⟨s6, e6⟩ ⟨rfl, hx⟩
        obtain ⟨hik, rfl⟩ := refs_at hx
        have r1 := s6 _ _ (s05 _ _ (er i hik).1)
        have r2 := s6 _ _ (s05 _ _ (er i hik).2)
        walk_at "rds"
        refine ⟨rfl, ?_⟩
        walk_at "rds"
        refine rd_ixT (SqT.of r1) (show atI [V.bl (lab i), V.ref (vs i)] ((0 : Nat) : Int) = some (.bl (lab i)) from atI_nat rfl) ?_
        walk_at "rds"
        refine ⟨.bl (lab i), .ty "bool", .type "bool", .type "bool", true, rfl, .ty _, .base (.bl _), kit_ty (by decide +kernel), ?_⟩
        walk_at "rds"
        refine rd_ite (fun h => by cases h) (fun _ => ?_)
        walk_at "rds"
        refine rd_ixT (SqT.of r1) (show atI [V.bl (lab i), V.ref (vs i)] ((1 : Nat) : Int) = some (.ref (vs i)) from atI_nat rfl) ?_
        walk_at "rds"
        refine rd_lenT (SqT.of r2) ?_
        rw [nats_len]
        walk_at "rds"
        refine rd_lenX (sz_of' (by omega)) ?_
        walk_at "rds"
        rw [decide_eq_true rfl]
        refine rd_ite (fun h => by cases h) (fun _ => ?_)
        exact ⟨s6, e6⟩
      rintro H6 ⟨s6, e6⟩
      walk_at "rds"
      refine ⟨Nat.zero_le _, fun C nC => ?_⟩
      have s7 := same_upd (o := .lst []) nC
      refine rd_eqNilNil (SqL.of (s7 _ _ e6)) (SqL.of upd_same) ?_
      exact q _ (same_trans s05 (same_trans s6 s7))
    walk_at "rds"
    refine rd_lenT (SqT.of (s03 _ _ et)) ?_
    rw [refs_len]
    refine ⟨_, rfl, by omega, by omega, for_range (lo := 0) (n := ((k : Nat) : Int).toNat) (fun i σ' H' => ∃ (Kd : Addr) (y3 y4 y6 y7 y8 : Option V) (kd : Nat → Nat), σ' = [some (.str (tx l)), some (.ref p), some (.ref M), y3, y4, some (.ref Kd), y6, y7, y8, none, none, none] ∧ H' Kd = some (.lst (nats k kd)) ∧ Moore k l.length lab t i kd ∧ Same H H' ∧ H' M = some (.lst (nats k fun i => i)))
      ⟨A, _, _, _, _, _, _, rfl, e3, Moore.start (by omega), s03, m3⟩ ?_ ?_⟩
    rotate_left
    · rintro σ' H4 ⟨Kd, y3, y4, y6, y7, y8, kd, rfl, ek, Mo, s4, m4⟩
      rw [Int.toNat_natCast] at Mo
      exact ⟨⟨Kd, _, _, _, _, _, kd, rfl, ek, Mo.full k0⟩, s4, m4⟩
    clear e3 s03 m3
    rintro i σ' H4 hi ⟨Kd, y3, y4, y6, y7, y8, kd, rfl, ek, Mo, s4, m4⟩
    have et4 := s4 _ _ et
    walk_at "rds"
    refine ⟨p, _, rfl, SqT.of et4, fun C nC => lc_it walk_enumA (fun s H' => Same H4 H' ∧ ∃ ks : Nat → Addr, H' C = some (.lst (refs s ks)) ∧ ∀ j < s, H' (ks j) = some (.tup (.int ((kd j : Nat) : Int) :: nats l.length fun a => kd (t j a)))) ⟨same_upd nC, fun _ => 0, upd_same, fun s h => absurd h (by omega)⟩ (fun i H' _ h => SqT.of (h.1 _ _ et4)) ?_ ?_⟩
    · rintro s x H5 H6 hs ⟨s5, ks, e5, h5⟩ ⟨T0, x1, x2, rfl, nT, rfl, h1, h2⟩
      cases h1
      obtain ⟨hsk, rfl⟩ := refs_at h2
      have sT : Same H5 (upd H5 T0 (.tup [.int ((s : Nat) : Int), .ref (rs s)])) := same_upd nT
      refine rd_gtup (SqT.of upd_same) rfl ?_
      generalize upd H5 T0 (.tup [.int ((s : Nat) : Int), .ref (rs s)]) = H6 at sT ⊢
      have s46 := same_trans s5 sT
      have s06 := same_trans s4 s46
      walk_at "rds"
      refine ⟨rfl, ?_⟩
      walk_at "rds"
      refine rd_ite (fun _ => ?_) (fun h => by cases h)
      walk_at "rds"
      refine rd_ixL (SqL.of (s46 _ _ ek)) (atI_nat (nats_get hsk)) ?_
      walk_at "rds"
      refine ⟨by show 1 ≤ sizeLine; decide, fun p0 n0 => ?_⟩
      have s7 : Same H6 (upd H6 p0 (.tup [.int ((kd s : Nat) : Int)])) := same_upd n0
      have e7 : upd H6 p0 (.tup [.int ((kd s : Nat) : Int)]) p0 = some (.tup [.int ((kd s : Nat) : Int)]) := upd_same
      generalize upd H6 p0 (.tup [.int ((kd s : Nat) : Int)]) = H7 at s7 e7 ⊢
      have s47 := same_trans s46 s7
      have s07 := same_trans s4 s47
      walk_at "rds"
      refine rd_ixT (SqT.of (s07 _ _ (er s hsk).1)) (show atI [V.bl (lab s), V.ref (vs s)] ((1 : Nat) : Int) = some (.ref (vs s)) from atI_nat rfl) ?_
      have ev := s07 _ _ (er s hsk).2
      refine ⟨vs s, rfl, ⟨_, SqT.of ev⟩, fun L nL => lc_it walk_tup (fun j H' => Same H7 H' ∧ H' L = some (.lst (nats j fun a => kd (t s a)))) ⟨same_upd nL, upd_same⟩ (fun j H' _ h => SqT.of (h.1 _ _ ev)) ?_ ?_⟩
      · rintro j x H8 H9 hj ⟨s8, e8⟩ ⟨rfl, hx⟩
        obtain ⟨hjm, rfl⟩ := nats_at hx
        walk_at "rds"
        refine ⟨rfl, ?_⟩
        walk_at "rds"
        refine rd_ite (fun _ => ?_) (fun h => by cases h)
        walk_at "rds"
        refine rd_ixL (SqL.of (s8 _ _ (s47 _ _ ek))) (atI_nat (nats_get (hc s hsk j hjm))) ?_
        refine ⟨_, e8, by rw [nats_len]; exact small1000 (by omega), same_mut s8 nL, ?_⟩
        rw [upd_same, nats_snoc]
      rintro H8 ⟨s8, e8⟩
      rw [nats_len] at e8
      refine rd_kTup e8 fun T2 nT2 => ?_
      have s9 := same_trans s8 (same_upd (o := .tup (nats l.length fun a => kd (t s a))) nT2)
      have e9 : upd H8 T2 (.tup (nats l.length fun a => kd (t s a))) T2 = some (.tup (nats l.length fun a => kd (t s a))) := upd_same
      generalize upd H8 T2 (.tup (nats l.length fun a => kd (t s a))) = H9 at s9 e9 ⊢
      have s59 := same_trans sT (same_trans s7 s9)
      have s49 := same_trans s5 s59
      have fin : ∀ (r : Addr) (H' : Hp), Same H9 H' → H' r = some (.tup (.int ((kd s : Nat) : Int) :: nats l.length fun a => kd (t s a))) → ∃ acc, H' C = some (.lst acc) ∧ acc.length < sizeLine ∧ Same H4 (upd H' C (.lst (acc ++ [.ref r]))) ∧ ∃ ks : Nat → Addr, upd H' C (.lst (acc ++ [.ref r])) C = some (.lst (refs (s + 1) ks)) ∧ ∀ j < s + 1, upd H' C (.lst (acc ++ [.ref r])) (ks j) = some (.tup (.int ((kd j : Nat) : Int) :: nats l.length fun a => kd (t j a))) := fun r H' s10 e10 => by
        have s510 := same_trans s59 s10
        have eC := s510 _ _ e5
        have nT : ∀ {b : Addr} {xs : List V}, H' b = some (.tup xs) → b ≠ C := fun {b xs} h z => by
          rw [z, eC] at h
          cases h
        refine ⟨_, eC, by rw [refs_len]; exact small1000 (by omega), same_mut (same_trans s49 s10) nC, gset ks s r, by rw [upd_same, refs_snoc, gset_same, refs_congr (f := gset ks s r) (g := ks) fun j hj => gset_ne (by omega)], fun j hj => ?_⟩
        rcases Nat.lt_or_ge j s with h | h
        · rw [gset_ne (by omega)]
          have := s510 _ _ (h5 j h)
          exact (upd_ne (nT this)).trans this
        · rw [show j = s by omega, gset_same]
          exact (upd_ne (nT e10)).trans e10
      refine rd_catA (SqT.of (s9 _ _ e7)) (SqT.of e9) (by rw [nats_len]; exact sz_of' (by show 1 + l.length ≤ 1000; omega)) (by simp) (fun hnil => ?_) (fun r nr => ?_)
      · refine fin p0 H9 (same_refl _) ?_
        rw [hnil]
        exact s9 _ _ e7
      · exact fin r _ (same_upd nr) upd_same
    rintro H5 ⟨s5, ks, eC, hks⟩
    rw [refs_len] at eC hks
    have s05 := same_trans s4 s5
    have ek5 := s5 _ _ ek
    have m5 := s5 _ _ m4
    walk_at "rds"
    refine ⟨C, rfl, ⟨_, SqL.of eC⟩, fun Fi nFi => lc_it walk_list (fun s H' => Same H5 H' ∧ H' Fi = some (.lst (nats s (finer l.length t kd)))) ⟨same_upd nFi, upd_same⟩ (fun i H' _ h => SqL.of (h.1 _ _ eC)) ?_ ?_⟩
    · rintro s x H6 H7 hs ⟨s6, e6⟩ ⟨rfl, hx⟩
      obtain ⟨hsk, rfl⟩ := refs_at hx
      walk_at "rds"
      refine ⟨rfl, ?_⟩
      walk_at "rds"
      refine rd_ite (fun _ => ?_) (fun h => by cases h)
      walk_at "rds"
      have eC6 := s6 _ _ eC
      refine rd_tyL (SqL.of eC6) ?_
      walk_at "rds"
      obtain ⟨f1, f2, f3⟩ := finer_spec (m := l.length) (t := t) (kd := kd) s
      have hkey : ∀ j < k, Dp K H7 (.ref (ks j)) (intsD (keyL l.length t kd j)) := fun j hj => .tup (SqT.of (s6 _ _ (hks j hj))) (keyL_vals _ _ _ _)
      refine ⟨C, .ref (ks s), intsD (keyL l.length t kd s), (List.range k).map fun j => intsD (keyL l.length t kd j), finer l.length t kd s, intsD (keyL l.length t kd (finer l.length t kd s)), rfl, rfl, .lst (SqL.of eC6) (dpAll_by fun j hj => hkey j (List.mem_range.mp hj)), hkey s hsk, keys_shaped _ _ _ _, key_shaped _, ?_, ?_, fun m' z' hm hz => ?_, ?_⟩
      · rw [List.getElem?_map, List.getElem?_range (by omega)]
        rfl
      · rw [eqv_intsD]
        exact decide_eq_true (keyL_eq.mpr f2)
      · rw [List.getElem?_map, List.getElem?_range (by omega)] at hz
        cases hz
        rw [eqv_intsD]
        exact decide_eq_false fun h => f3 m' hm (keyL_eq.mp h)
      · refine ⟨_, e6, by rw [nats_len]; exact small1000 (by omega), same_mut s6 nFi, ?_⟩
        rw [upd_same, nats_snoc]
    rintro H6 ⟨s6, e6⟩
    rw [refs_len] at e6
    have ek6 := s6 _ _ ek5
    have s06 := same_trans s05 s6
    have m6 := s6 _ _ m5
    walk_at "rds"
    refine ⟨_, _, dp_natsL (SqL.of e6), dp_natsL (SqL.of ek6), shaped_ints _, shaped_ints _, ?_⟩
    rw [eqv_ints, decide_eq_decide.mpr natsL_eq]
    walk_at "rds"
    refine rd_ite (fun hst => ?_) (fun hst => ?_)
    · have hst' := of_decide_eq_true hst
      walk_at "rds"
      exact ⟨⟨Kd, _, _, _, _, _, kd, rfl, ek6, Mo.stay least hc hst'⟩, s06, m6⟩
    · have hst' := of_decide_eq_false hst
      walk_at "rds"
      refine ⟨Fi, _, _, _, _, _, finer l.length t kd, rfl, e6, Mo.step k0 (by omega) hc ?_, s06, m6⟩
      refine Classical.byContradiction fun h => hst' fun s hs => Classical.byContradiction fun h2 => h ⟨s, hs, h2⟩
end
section
variable {P : Program} {w : World} {K : PySem.W.Frag} {mg : Str → Option Value} {base : Heap}
abbrev wNo : List Nat := [110, 111]
def spRef (K : PySem.W.Frag) : Sp := fun vs H Q _ => ∃ (ls : List Nat) (fo : Int) (x y z : V), vs = [.str (tx ls), .int fo, x, y] ∧ ls.length ≤ 10 ∧ TxtOr K H x ∧ TxtOr K H y ∧ (fo = 0 ∨ fo = 1 ∨ fo = 2) ∧ (isTxtB ls x = false ∧ z = x ∨ fo = 2 ∧ isTxtB ls x = true ∧ isTxtB ls y = false ∧ z = y) ∧
  ∀ (p : Addr) (H' : Hp), Same H H' → H p = none → H' p = some (.tup [.str (tx wNo), z, .bl true]) → Q (.ref p) H'
theorem cl_ref (T : Txt K mg) (Z : Xt K mg) : Cl P w K mg base "_law_refused" ["_law_letters_here", "_law_form", "_law_one", "_law_other"] 7 (spRef K) := cl_of T.a__law_refused fun f fd F => by
  have C_Names_of := cm_of (P := P) (w := w) (base := base) T
  have C_Names_beginning := cm_beg (P := P) (w := w) (base := base) T
  have C_Names_family_3 := cm_fam3 (P := P) (w := w) (base := base) T
  refine F.ok sc__law_refused (fun vs H Q E h => ?_) (fun cdv A outer s H vs Q E hr h => ?_)
  · obtain ⟨ls, fo, x, y, z, rfl, _⟩ := h
    rfl
  · obtain ⟨ls, fo, x, y, z, rfl, hl, hx, hy, hfo, hz, q⟩ := h
    refine ⟨_, (pss_cons (ps_set (i := 4) sc__law_refused.nd rfl (Or.inl rfl) pe_non)
      (pss_cons (ps_try_as (i := 5) rfl rfl sc__law_refused.nd rfl rfl ⟨rfl, by decide, .inl T.e_NoText.1⟩ takes0 (fun W pn xe tk _ => (pss_one (ps_if (pt_cmpR op_eq (pv 1) pe_int (nomark _))
      (pss_one (ps_set (i := 4) sc__law_refused.nd rfl (Or.inl rfl) (pe_fldK (K := K) (by rfl) (pe_cmS C_Names_of hr (by decide) (fun σ => passAt tk σ) (pe_cls T.g_Names (by rfl)) (pa_cons (pv 0) (pa_cons (pe_lst (pa_cons (pe_strX [] (by decide +kernel)) (pa_cons (pv 0) (pa_cons (pv 2) (pa_cons (pv 3) pa_nil))))) pa_nil))) (by rfl))))
      (pss_one (ps_if (pt_cmpR op_eq (pv 1) pe_int (nomark _))
      (pss_one (ps_set (i := 4) sc__law_refused.nd rfl (Or.inl rfl) (pe_fldK (K := K) (by rfl) (pe_cmS C_Names_beginning hr (by decide) (fun σ => passAt tk σ) (pe_cls T.g_Names (by rfl)) (pa_cons (pv 0) (pa_cons (pv 2) pa_nil))) (by rfl))))
      (pss_one (ps_set (i := 4) sc__law_refused.nd rfl (Or.inl rfl) (pe_fldK (K := K) (by rfl) (pe_cmS C_Names_family_3 hr (by decide) (fun σ => passAt tk σ) (pe_cls T.g_Names (by rfl)) (pa_cons (pv 0) (pa_cons (pv 2) (pa_cons (pv 3) pa_nil)))) (by rfl))))))))) (fun a oe cls d pn hz hf => (pss_one (ps_set (i := 4) sc__law_refused.nd rfl (Or.inl rfl) (pe_tup (pa_cons (pe_strX [110, 111] (by decide +kernel)) (pa_cons (pe_xf T.e_NoText.2.1.xf T.e_NoText.2.2.1 hz hf (pv 5)) (pa_cons (pe_callB (call_isC hz hf) (by rfl) T.m_isinstance (by decide +kernel) (pa_cons (pv 5) (pa_cons (pe_cls T.e_UnderError.1 (by rfl)) pa_nil))) pa_nil))))))))
      (pss_one (ps_ret (pv 4))))), ?_⟩
    walk_at "rds"
    have hone : fo ≠ 2 → isTxtB ls x = false ∧ z = x := fun h => hz.elim id fun g => absurd g.1 h
    refine rd_ite (fun h0 => ?_) (fun h0 => ?_)
    · have e0 : fo = 0 := by simpa using h0
      obtain ⟨hf, rfl⟩ := hone (by omega)
      walk_at "rds"
      refine ⟨rfl, ?_⟩
      walk_at "rds"
      refine ⟨by show 4 ≤ sizeLine; decide, fun b nb => ?_⟩
      have s1 : Same H (upd H b (.lst [.str (tx []), .str (tx ls), z, y])) := same_upd nb
      walk_at "rds"
      refine ⟨ls, b, _, rfl, upd_same, fun v hv => ?_, .inr ⟨2, z, rfl, fun j hj v hv => ?_, hf, fun d' H2 s2 e2 => ?_⟩⟩
      · rcases List.mem_cons.mp hv with rfl | hv
        · exact .inl ⟨[], rfl, by decide⟩
        · rcases List.mem_cons.mp hv with rfl | hv
          · exact .inl ⟨ls, rfl, by omega⟩
          · rcases List.mem_cons.mp hv with rfl | hv
            · exact hx.ext (Same.ext s1)
            · rw [List.mem_singleton.mp hv]
              exact hy.ext (Same.ext s1)
      · rcases (show j = 0 ∨ j = 1 by omega) with rfl | rfl
        · cases hv
          exact isTxt_tx fun c h => by cases h
        · cases hv
          exact isTxt_tx fun c h => h
      refine ⟨true, T.e_NoText.2.1.ex, fun _ a' ha' => ?_, fun h => Bool.noConfusion h⟩
      have s02 := same_trans s1 s2
      walk_at "rds"
      refine ⟨_, rfl, rfl, rfl, d', _, z, rfl, e2, rfl, ?_⟩
      walk_at "rds"
      refine rd_isC1 T.e_NoText.2.1.is (fun dd hd => by cases hd; exact ⟨_, e2⟩) Z.k_NoText ?_
      walk_at "rds"
      refine ⟨by show 3 ≤ sizeLine; decide, fun p hp => ?_⟩
      walk_at "rds"
      exact q p _ (same_trans s02 (same_upd hp)) (same_none s02 hp) upd_same
    walk_at "rds"
    refine rd_ite (fun h1 => ?_) (fun h1 => ?_)
    · have e1 : fo = 1 := by simpa using h1
      obtain ⟨hf, rfl⟩ := hone (by omega)
      walk_at "rds"
      refine ⟨rfl, ?_⟩
      walk_at "rds"
      refine ⟨ls, z, rfl, hx, .inr ⟨hf, fun d' H2 s2 e2 => ?_⟩⟩
      refine ⟨true, T.e_NoText.2.1.ex, fun _ a' ha' => ?_, fun h => Bool.noConfusion h⟩
      have s02 := same_trans (same_refl H) s2
      walk_at "rds"
      refine ⟨_, rfl, rfl, rfl, d', _, z, rfl, e2, rfl, ?_⟩
      walk_at "rds"
      refine rd_isC1 T.e_NoText.2.1.is (fun dd hd => by cases hd; exact ⟨_, e2⟩) Z.k_NoText ?_
      walk_at "rds"
      refine ⟨by show 3 ≤ sizeLine; decide, fun p hp => ?_⟩
      walk_at "rds"
      exact q p _ (same_trans s02 (same_upd hp)) (same_none s02 hp) upd_same
    walk_at "rds"
    refine ⟨rfl, ?_⟩
    walk_at "rds"
    rcases hz with ⟨hf, rfl⟩ | ⟨_, ht, hf, rfl⟩
    · refine ⟨ls, z, y, 0, rfl, hx, hy, .inr (.inl ⟨hf, fun d' H2 s2 e2 => ?_⟩)⟩
      refine ⟨true, T.e_NoText.2.1.ex, fun _ a' ha' => ?_, fun h => Bool.noConfusion h⟩
      have s02 := same_trans (same_refl H) s2
      walk_at "rds"
      refine ⟨_, rfl, rfl, rfl, d', _, z, rfl, e2, rfl, ?_⟩
      walk_at "rds"
      refine rd_isC1 T.e_NoText.2.1.is (fun dd hd => by cases hd; exact ⟨_, e2⟩) Z.k_NoText ?_
      walk_at "rds"
      refine ⟨by show 3 ≤ sizeLine; decide, fun p hp => ?_⟩
      walk_at "rds"
      exact q p _ (same_trans s02 (same_upd hp)) (same_none s02 hp) upd_same
    · refine ⟨ls, x, z, 0, rfl, hx, hy, .inr (.inr ⟨ht, hf, fun d' H2 s2 e2 => ?_⟩)⟩
      refine ⟨true, T.e_NoText.2.1.ex, fun _ a' ha' => ?_, fun h => Bool.noConfusion h⟩
      have s02 := same_trans (same_refl H) s2
      walk_at "rds"
      refine ⟨_, rfl, rfl, rfl, d', _, z, rfl, e2, rfl, ?_⟩
      walk_at "rds"
      refine rd_isC1 T.e_NoText.2.1.is (fun dd hd => by cases hd; exact ⟨_, e2⟩) Z.k_NoText ?_
      walk_at "rds"
      refine ⟨by show 3 ≤ sizeLine; decide, fun p hp => ?_⟩
      walk_at "rds"
      exact q p _ (same_trans s02 (same_upd hp)) (same_none s02 hp) upd_same
end
section
variable {P : Program} {w : World} {K : PySem.W.Frag} {mg : Str → Option Value} {base : Heap}
/-! ### what the law asks of a set that is told -/
theorem reach {k m : Nat} {t : Nat → Nat → Nat} (num : Num k m t) : ∀ i < k, ∃ w : List Nat, (∀ a ∈ w, a < m) ∧ runW t 0 w = i := fun i => by
  induction i using Nat.strongRecOn with
  | ind i ih =>
    intro hi
    rcases Nat.eq_zero_or_pos i with rfl | hp
    · exact ⟨[], (fun a h => by cases h), rfl⟩
    · obtain ⟨j, _, hj, hmin⟩ := least_ex (fun j => i < totC m t j) (s := k) (by show i < totC m t k; rw [num.all]; exact hi)
      obtain ⟨j', rfl⟩ : ∃ j', j = j' + 1 := by
        cases j with
        | zero =>
          have : i < 1 := hj
          omega
        | succ j' => exact ⟨j', rfl⟩
      have hle : totC m t j' ≤ i := Nat.le_of_not_lt (hmin j' (by omega))
      have hjk : j' < k := by
        rcases Nat.lt_or_ge j' k with h | h
        · exact h
        · have := totC_mono (m := m) (t := t) h
          rw [num.all] at this
          omega
      have hji := num.lt j' hjk
      have hrow : i < rowC (t j') (totC m t j') m := hj
      obtain ⟨b, hb, hbi, hbm⟩ := least_ex (fun b => i < rowC (t j') (totC m t j') b) (s := m) hrow
      obtain ⟨b', rfl⟩ : ∃ b', b = b' + 1 := by
        cases b with
        | zero =>
          have : i < totC m t j' := hbi
          omega
        | succ b' => exact ⟨b', rfl⟩
      have h1 : rowC (t j') (totC m t j') b' ≤ i := Nat.le_of_not_lt (hbm b' (by omega))
      have h2 := num.le j' hjk b' (by omega)
      have h3 : i < if rowC (t j') (totC m t j') b' ≤ t j' b' then rowC (t j') (totC m t j') b' + 1 else rowC (t j') (totC m t j') b' := hbi
      have e : t j' b' = i := by
        split at h3 <;> omega
      obtain ⟨w, hw, hr⟩ := ih j' (by omega) hjk
      refine ⟨w ++ [b'], fun a ha => (List.mem_append.mp ha).elim (hw a) fun h => by rw [List.mem_singleton.mp h]; omega, ?_⟩
      rw [runW_app, hr]
      exact e
theorem Good.none {m k : Nat} {lab : Nat → Bool} {t : Nat → Nat → Nat} {says : List Nat → Bool} (G : Good m k lab t says) (h : ∀ w : List Nat, (∀ a ∈ w, a < m) → says w = false) : k = 1 ∧ lab 0 = false := by
  have k0 := G.k0
  have all : ∀ i < k, ∀ w : List Nat, (∀ a ∈ w, a < m) → lab (runW t i w) = false := fun i hi w hw => by
    obtain ⟨v, hv, rfl⟩ := reach G.num i hi
    have hvw : ∀ a ∈ v ++ w, a < m := fun a ha => (List.mem_append.mp ha).elim (hv a) (hw a)
    rw [← runW_app, G.run _ hvw, h _ hvw]
  refine ⟨?_, all 0 (by omega) [] fun a h => by cases h⟩
  rcases Nat.lt_or_ge 1 k with g | g
  · have := G.least 1 g 0 (by omega) fun w hw => by rw [all 1 g w hw, all 0 (by omega) w hw]
    omega
  · omega
theorem Good.some {m k : Nat} {lab : Nat → Bool} {t : Nat → Nat → Nat} {says : List Nat → Bool} (G : Good m k lab t says) {w : List Nat} (hw : ∀ a ∈ w, a < m) (h : says w = true) : ¬ (k = 1 ∧ lab 0 = false) := by
  rintro ⟨rfl, hl⟩
  have st : ∀ w : List Nat, (∀ a ∈ w, a < m) → ∀ s < 1, runW t s w < 1 := fun w => by
    induction w with
    | nil => exact fun _ s hs => hs
    | cons a w ih => exact fun hw s hs => ih (fun b hb => hw b (List.mem_cons_of_mem _ hb)) _ (G.cl s hs a (hw a List.mem_cons_self))
  have e := G.run w hw
  have z := st w hw 0 Nat.one_pos
  rw [show runW t 0 w = 0 by omega, hl, h] at e
  cases e
def Leaf.any : Leaf → Bool
  | .of ns => !ns.isEmpty
  | _ => true
theorem leaf_any {ls : List Nat} {k : Nat} {lab : Nat → Bool} {t : Nat → Nat → Nat} {lf : Leaf} (ok : LeafOk ls lf) (G : Good ls.length k lab t fun w => lf.has (w.map fun a => ls.getD a 0)) : (!decide (k = 1 ∧ lab 0 = false)) = lf.any := by
  have yes : ∀ {u : List Nat}, (∀ c ∈ u, c ∈ ls) → lf.has u = true → (!decide (k = 1 ∧ lab 0 = false)) = true := fun {u} hu h => by
    obtain ⟨ws, rfl, hw⟩ := words_of hu
    rw [decide_eq_false (G.some hw h)]
    rfl
  cases lf with
  | of ns =>
    cases ns with
    | nil =>
      rw [decide_eq_true (G.none fun w _ => rfl)]
      rfl
    | cons n ns => exact yes (ok.2 n List.mem_cons_self).1 (decide_eq_true List.mem_cons_self)
  | beg u => exact yes ok.1 (List.isPrefixOf_iff_prefix.mpr (List.prefix_refl u))
  | fam u r c =>
    obtain ⟨hu, _, hcu, hcr, _, _⟩ := ok
    refine yes (u := repW c u ++ r) (fun d hd => (List.mem_append.mp hd).elim (fun h => ?_) (hcr d)) ((famIn_iff hu).mpr ⟨c, Nat.le_refl _, rfl⟩)
    exact hcu d (mem_reps (n := c) h)
def strD (u : List Nat) : PyData := .str (tx u)
def leafD : Leaf → PyData
  | .of ns => .tuple [strD wOf, .tuple (ns.map strD)]
  | .beg u => .tuple [strD wBeg, strD u]
  | .fam u r c => .tuple [strD wFam, strD u, strD r, .int ((c : Nat) : Int)]
theorem dp_leaf {H : Hp} {p : Addr} : ∀ {lf : Leaf}, LeafAt H p lf → Dp K H (.ref p) (leafD lf)
  | .of ns, ⟨q, a, b⟩ => .tup (SqT.of a) (.cons (.str _) (.cons (.tup (SqT.of b) (dpAll_by fun n _ => .str _)) .nil))
  | .beg _, a => .tup (SqT.of a) (.cons (.str _) (.cons (.str _) .nil))
  | .fam _ _ _, a => .tup (SqT.of a) (.cons (.str _) (.cons (.str _) (.cons (.str _) (.cons (.int _) .nil))))
theorem eqv_leaf (lf : Leaf) : PyData.eqv (leafD lf) (.tuple [strD wOf, .tuple []]) = !lf.any := by
  cases lf with
  | of ns =>
    unfold leafD
    cases ns with
    | nil => simp [PyData.eqv, PyData.eqvAll, strD, Leaf.any]
    | cons n ns => simp [PyData.eqv, PyData.eqvAll, strD, Leaf.any]
  | beg u =>
    unfold leafD
    have : (tx wBeg == tx wOf) = false := by decide +kernel
    simp [PyData.eqv, PyData.eqvAll, strD, Leaf.any, this]
  | fam u r c =>
    unfold leafD
    simp [PyData.eqv, PyData.eqvAll, strD, Leaf.any]
theorem strD_lay {u : List Nat} (h : ∀ c ∈ u, c < 1000) : (strD u).canLay0 = true := lay_str h
theorem strD_depth (u : List Nat) : (strD u).depth ≤ 0 := by
  unfold strD
  simp [PyData.depth]
theorem depth_tup {n : Nat} {ds : List PyData} (h : ∀ d ∈ ds, d.depth ≤ n) : (PyData.tuple ds).depth ≤ n + 1 := by
  simp only [PyData.depth]
  exact Nat.succ_le_succ (depthAll_by h)
theorem shaped_tup {n : Nat} {ds : List PyData} (h1 : ∀ d ∈ ds, d.canLay0 = true) (h2 : ∀ d ∈ ds, d.depth ≤ n) (hn : n ≤ 20) : SeqAt.shaped (.tuple ds) = true := by
  unfold SeqAt.shaped
  rw [Bool.and_eq_true]
  exact ⟨lay_tup h1, decide_eq_true (Nat.le_trans (depth_tup h2) (by omega))⟩
theorem mem_three {α : Type} {Pr : α → Prop} {a b c : α} (h : Pr a) (k : Pr b) (l : Pr c) : ∀ x ∈ [a, b, c], Pr x := fun x hx => by
  rcases List.mem_cons.mp hx with e | hx
  · rw [e]
    exact h
  · exact two_mem k l x hx
theorem leaf_shaped {ls : List Nat} (ha : ∀ c ∈ ls, c < 1000) {lf : Leaf} (ok : LeafOk ls lf) : SeqAt.shaped (leafD lf) = true := by
  have w1 : ∀ {u : List Nat}, (∀ c ∈ u, c < 1000) → (strD u).canLay0 = true ∧ (strD u).depth ≤ 1 := fun h => ⟨strD_lay h, Nat.le_trans (strD_depth _) (by decide)⟩
  cases lf with
  | of ns =>
    have l1 : (PyData.tuple (ns.map strD)).canLay0 = true ∧ (PyData.tuple (ns.map strD)).depth ≤ 1 := by
      refine ⟨lay_tup fun d hd => ?_, depth_tup (n := 0) fun d hd => ?_⟩
      · obtain ⟨n, hn, rfl⟩ := List.mem_map.mp hd
        exact strD_lay fun c hc => ha c ((ok.2 n hn).1 c hc)
      · obtain ⟨n, hn, rfl⟩ := List.mem_map.mp hd
        exact strD_depth n
    exact shaped_tup (n := 1) (two_mem (w1 (by decide)).1 l1.1) (two_mem (w1 (by decide)).2 l1.2) (by decide)
  | beg u =>
    have b := w1 fun c hc => ha c (ok.1 c hc)
    exact shaped_tup (n := 1) (two_mem (w1 (by decide)).1 b.1) (two_mem (w1 (by decide)).2 b.2) (by decide)
  | fam u r c =>
    obtain ⟨_, _, hcu, hcr, _, _⟩ := ok
    have b := w1 fun c hc => ha c (hcu c hc)
    have d := w1 fun c hc => ha c (hcr c hc)
    have i : (PyData.int ((c : Nat) : Int)).canLay0 = true ∧ (PyData.int ((c : Nat) : Int)).depth ≤ 1 := ⟨by simp only [PyData.canLay0], by simp [PyData.depth]⟩
    exact shaped_tup (n := 1) (fun x hx => (List.mem_cons.mp hx).elim (fun e => by rw [e]; exact (w1 (by decide)).1) fun hx => mem_three (Pr := fun d : PyData => d.canLay0 = true) b.1 d.1 i.1 x hx) (fun x hx => (List.mem_cons.mp hx).elim (fun e => by rw [e]; exact (w1 (by decide)).2) fun hx => mem_three (Pr := fun d : PyData => d.depth ≤ 1) b.2 d.2 i.2 x hx) (by decide)
/-- no text over the letters: a text with another sign, none, a number, an empty tuple -/
def BadV (H : Hp) (ls : List Nat) (x : V) : Prop := (∃ u : List Nat, x = .str (tx u) ∧ u.length ≤ 60 ∧ (∀ c ∈ u, c < 1000) ∧ ∃ c ∈ u, c ∉ ls) ∨ x = .non ∨ (∃ i : Int, x = .int i ∧ 0 ≤ i ∧ i ≤ 10) ∨ ∃ q, x = .ref q ∧ H q = some (.tup [])
theorem BadV.keep {D L : Addr} {H H' : Hp} {ls : List Nat} {x : V} (h : BadV H ls x) (d : Deal D L H) (k : Keep D L H H') : BadV H' ls x := by
  rcases h with h | h | h | ⟨q, rfl, h⟩
  · exact .inl h
  · exact .inr (.inl h)
  · exact .inr (.inr (.inl h))
  · exact .inr (.inr (.inr ⟨q, rfl, tup_keep d k h⟩))
theorem BadV.same {H H' : Hp} {ls : List Nat} {x : V} (h : BadV H ls x) (s : Same H H') : BadV H' ls x := by
  rcases h with h | h | h | ⟨q, rfl, h⟩
  · exact .inl h
  · exact .inr (.inl h)
  · exact .inr (.inr (.inl h))
  · exact .inr (.inr (.inr ⟨q, rfl, s _ _ h⟩))
theorem BadV.txt {H : Hp} {ls : List Nat} {x : V} (h : BadV H ls x) : TxtOr K H x ∧ isTxtB ls x = false := by
  rcases h with ⟨u, rfl, hl, _, c, hc, hn⟩ | rfl | ⟨i, rfl, _⟩ | ⟨q, rfl, h⟩
  · refine ⟨.inl ⟨u, rfl, by omega⟩, ?_⟩
    show consB ls (tx u).cps.toList = false
    rw [tx_cps]
    unfold consB
    refine Bool.eq_false_iff.mpr fun h => hn ?_
    exact of_decide_eq_true (List.all_eq_true.mp h c hc)
  · exact ⟨.inr ⟨⟨_, .base .non, kit_ty (by decide +kernel)⟩, fun z e => by cases e⟩, rfl⟩
  · exact ⟨.inr ⟨⟨_, .base (.int i), kit_ty (by decide +kernel)⟩, fun z e => by cases e⟩, rfl⟩
  · exact ⟨.inr ⟨⟨_, .base (.tup h), kit_ty (by decide +kernel)⟩, fun z e => by cases e⟩, rfl⟩
theorem BadV.dp {H : Hp} {ls : List Nat} {x : V} (h : BadV H ls x) : ∃ d, Dp K H x d ∧ GoodZ 1 100 d := by
  rcases h with ⟨u, rfl, hl, hu, _⟩ | rfl | ⟨i, rfl, hi⟩ | ⟨q, rfl, h⟩
  · exact ⟨_, .str _, (str_good hu).mono (by decide) (by omega)⟩
  · exact ⟨_, .non, non_good.mono (by decide) (by decide)⟩
  · exact ⟨_, .int i, (int_good (by omega)).mono (by decide) (by decide)⟩
  · exact ⟨_, .tup (SqT.of h) .nil, (tup_good (z := 0) (w := 0) fun d hd => by cases hd).mono (by decide) (by decide)⟩
theorem bool_good (b : Bool) : GoodZ 0 5 (.bool b) := by
  cases b <;> exact ⟨rfl, rfl, by decide +kernel, rfl, by decide +kernel⟩
theorem no_good {d : PyData} (g : GoodZ 1 100 d) : GoodZ 20 200000 (.tuple [strD wNo, d, .bool true]) :=
  (tup_good (z := 1) (w := 100) (mem_three ((str_good (by decide)).mono (by decide) (by decide)) g ((bool_good true).mono (by decide) (by decide)))).mono (by decide) (by show (100 + 1) * 3 + 1 ≤ 200000; decide)
theorem rep_zero (n : Nat) : (List.replicate n [V.int 0]).flatten = nats n fun _ => 0 := by
  induction n with
  | zero => rfl
  | succ n ih =>
    rw [List.replicate_succ', List.flatten_append, ih, nats_snoc]
    rfl
theorem alphabet_small : ∀ c ∈ alphabet, c < 1000 := by decide
def spLaw (K : PySem.W.Frag) : Sp := fun vs H Q _ => ∃ (a : Addr) (ns : List Int), vs = [.ref a] ∧ SqL K H a (ns.map V.int) ∧ ns.length ≤ 63 ∧ ∀ H', Q (.bl true) H'
set_option maxHeartbeats 0 in
theorem ok_law (T : Txt K mg) (Z : Xt K mg) {f : Addr} {fd : FuncData} (F : Fun K "law" "law" s_law f fd) : FnG P w K mg base 12 f fd ["_law_script"] (spLaw K) := by
  have C__law_deal := cl_deal (P := P) (w := w) (base := base) T
  have C__law_pick := cl_pick (P := P) (w := w) (base := base) T
  have C__law_letters := cl_letters (P := P) (w := w) (base := base) T
  have C__law_text := cl_text (P := P) (w := w) (base := base) T
  have C__law_leaf := cl_leaf (P := P) (w := w) (base := base) T
  have C__law_in := cl_in (P := P) (w := w) (base := base) T
  have C__law_set := cl_set (P := P) (w := w) (base := base) T
  have C__law_walked := cl_walked (P := P) (w := w) (base := base) T
  have C__law_near := cl_near (P := P) (w := w) (base := base) T
  have C__law_all_names := cl_alln (P := P) (w := w) (base := base) T
  have C__law_is_least := cl_lst (P := P) (w := w) (base := base) T
  have C__law_refused := cl_ref (P := P) (w := w) (base := base) T Z
  have C_Names___contains__ := met_has (P := P) (w := w) (base := base) T
  have C_Names___bool__ := met_bool (P := P) (w := w) (base := base) T
  have C_Names_every := cm_every (P := P) (w := w) (base := base) T
  have C_Names_none := cm_none (P := P) (w := w) (base := base) T
  refine okG F sc_law (fun vs H Q E h => ?_) (fun cdv A outer s H vs Q E hgd hr h => ?_)
  · obtain ⟨a, ns, rfl, _⟩ := h
    rfl
  · obtain ⟨a, ns, rfl, hS, hlen, q⟩ := h
    refine ⟨_, (pss_cons (ps_set (i := 1) sc_law.nd rfl (Or.inl rfl) (pe_cl C__law_deal (hr.mono (by decide)) (by rfl) (pa_cons (pv 0) (pa_cons pe_int pa_nil))))
      (Evl.pss_cut (ps_for PassesOwn.never rfl (pi_range1 (by rfl) T.m_range (pa_cons pe_int pa_nil)) (pg_name (i := 2) sc_law.nd rfl (Or.inl rfl))
      (pss_cons (ps_set (i := 3) sc_law.nd rfl (Or.inl rfl) (pe_cl C__law_letters (hr.mono (by decide)) (by rfl) (pa_cons (pv 1) (pa_cons pe_int pa_nil))))
      (Evl.pss_cut (ps_for PassesOwn.never rfl (pi_tup (pe_tup (pa_cons (pe_cl C__law_leaf (hr.mono (by decide)) (by rfl) (pa_cons (pv 1) (pa_cons (pv 3) pa_nil))) (pa_cons (pe_cl C__law_leaf (hr.mono (by decide)) (by rfl) (pa_cons (pv 1) (pa_cons (pv 3) pa_nil))) pa_nil)))) (pg_name (i := 4) sc_law.nd rfl (Or.inl rfl))
      (pss_cons (ps_set (i := 5) sc_law.nd rfl (Or.inr rfl) (pe_cl C__law_set (hr.mono (by decide)) (by rfl) (pa_cons (pv 3) (pa_cons (pv 4) pa_nil))))
      (pss_cons (ps_set (i := 6) sc_law.nd rfl (Or.inl rfl) (pe_op op_cat (pe_cl C__law_all_names (hr.mono (by decide)) (by rfl) (pa_cons (pv 3) (pa_cons pe_int pa_nil))) (pe_cl C__law_near (hr.mono (by decide)) (by rfl) (pa_cons (pv 4) (pa_cons (pv 3) pa_nil)))))
      (pss_cons (ps_if (PW.pt (pw_or (pt_cmpR op_ne (pe_fldK (K := K) (by rfl) (pv 5) (by rfl)) (pv 3) (nomark _)) (pw_or1 (pt_not (pt_val (pe_callB call_isi (by rfl) T.m_isinstance (by decide +kernel) (pa_cons (pe_fldK (K := K) (by rfl) (pv 5) (by rfl)) (pa_cons (pe_bltn (v := .ty "tuple") (by rfl) T.m_tuple (by decide +kernel) rfl) pa_nil))))))))
      (pss_one (ps_ret pe_bl))
      pss_nil)
      (Evl.pss_cut (ps_for PassesOwn.never rfl (pi_list (pv 6)) (pg_name (i := 7) sc_law.nd rfl (Or.inl rfl))
      (pss_cons (ps_set (i := 8) sc_law.nd rfl (Or.inl rfl) (pe_cl C__law_in (hr.mono (by decide)) (by rfl) (pa_cons (pv 4) (pa_cons (pv 7) pa_nil))))
      (pss_one (ps_if (PW.pt (pw_or (pt_cmpR op_ne (pe_callB (r := rReprZ K) (call_reprZ hgd hr) (by rfl) T.m_repr (by decide +kernel) (pa_cons (pe_cmpR (in_G C_Names___contains__ hr (by decide)) (pv 7) (pv 5) (by rfl)) pa_nil)) (pe_callB (r := rReprZ K) (call_reprZ hgd hr) (by rfl) T.m_repr (by decide +kernel) (pa_cons (pv 8) pa_nil)) (nomark _)) (pw_or1 (pt_cmpR op_ne (pe_callB (r := rReprZ K) (call_reprZ hgd hr) (by rfl) T.m_repr (by decide +kernel) (pa_cons (pe_cl C__law_walked (hr.mono (by decide)) (by rfl) (pa_cons (pv 3) (pa_cons (pe_fldK (K := K) (by rfl) (pv 5) (by rfl)) (pa_cons (pv 7) pa_nil)))) pa_nil)) (pe_callB (r := rReprZ K) (call_reprZ hgd hr) (by rfl) T.m_repr (by decide +kernel) (pa_cons (pv 8) pa_nil)) (nomark _)))))
      (pss_one (ps_ret pe_bl))
      pss_nil))))
      (pss_cons (ps_if (PW.pt (pw_or (pt_not (pt_val (pe_cl C__law_is_least (hr.mono (by decide)) (by rfl) (pa_cons (pv 3) (pa_cons (pe_fldK (K := K) (by rfl) (pv 5) (by rfl)) pa_nil))))) (pw_or1 (pt_cmpR op_ne (pe_callB (r := rReprZ K) (call_reprZ hgd hr) (by rfl) T.m_repr (by decide +kernel) (pa_cons (pe_callTy (bool_G C_Names___bool__ hr (by decide)) (by rfl) T.m_bool (by decide +kernel) (pa_cons (pv 5) pa_nil)) pa_nil)) (pe_callB (r := rReprZ K) (call_reprZ hgd hr) (by rfl) T.m_repr (by decide +kernel) (pa_cons (pe_cmpR (op_neD hr.units) (pv 4) (pe_tup (pa_cons (pe_strX [111, 102] (by decide +kernel)) (pa_cons (pe_tup pa_nil) pa_nil))) (nomark _)) pa_nil)) (nomark _)))))
      (pss_one (ps_ret pe_bl))
      pss_nil)
      (pss_one (ps_if (pt_cmpR op_gt (pe_callB (call_lenK (K := K) (by rfl)) (by rfl) T.m_len (by decide +kernel) (pa_cons (pe_lc (own := [("_law_value", 15)]) (g := gName 15) (by rfl) sc_law.nd (pi_tup (pe_tup (pa_cons pe_non (pa_cons pe_int (pa_cons pe_bl (pa_cons (pe_op op_addX (pv 3) (pe_strX [33] (by decide +kernel))) (pa_cons (pe_tup (pa_cons (pv 3) pa_nil)) (pa_cons (pe_strX [65] (by decide +kernel)) pa_nil)))))))) (blkOk_by (own := [("_law_value", 15)]) (N := n_law) (sc := defScope s_law) (by decide +kernel)) (fun _ _ _ _ _ => (pg_name (i := 15) sc_law.nd rfl (by first | exact Or.inl rfl | exact Or.inr rfl))) (fun _ _ _ _ _ => (pts_one (pt_cmpR (in_G C_Names___contains__ hr (by decide)) (pv 15) (pv 5) (by rfl)))) (fun _ _ _ _ _ => (pv 15))) pa_nil)) pe_int (nomark _))
      (pss_one (ps_ret pe_bl))
      pss_nil))))))))
      (pss_cons (ps_par (i := 9) (j := 10) (by rfl) sc_law.nd rfl rfl (by decide) rfl rfl (pa_cons (pe_cmS (E := fun _ => E0) C_Names_every hr (by decide) (fun _ _ _ _ _ _ _ z => z.elim) (pe_cls T.g_Names (by rfl)) (pa_cons (pv 3) pa_nil)) (pa_cons (pe_cmS (E := fun _ => E0) C_Names_none hr (by decide) (fun _ _ _ _ _ _ _ z => z.elim) (pe_cls T.g_Names (by rfl)) (pa_cons (pv 3) pa_nil)) pa_nil)) (by rfl))
      (pss_cons (ps_if (PW.pt (pw_or (pt_cmpR (op_neD hr.units) (pe_fldK (K := K) (by rfl) (pv 9) (by rfl)) (pe_tup (pa_cons (pe_tup (pa_cons pe_bl (pa_cons (pe_op op_repT (pe_tup (pa_cons pe_int pa_nil)) (pe_callB call_lenX (by rfl) T.m_len (by decide +kernel) (pa_cons (pv 3) pa_nil))) pa_nil))) pa_nil)) (nomark _)) (pw_or1 (pt_cmpR (op_neD hr.units) (pe_fldK (K := K) (by rfl) (pv 10) (by rfl)) (pe_tup (pa_cons (pe_tup (pa_cons pe_bl (pa_cons (pe_op op_repT (pe_tup (pa_cons pe_int pa_nil)) (pe_callB call_lenX (by rfl) T.m_len (by decide +kernel) (pa_cons (pv 3) pa_nil))) pa_nil))) pa_nil)) (nomark _)))))
      (pss_one (ps_ret pe_bl))
      pss_nil)
      (pss_cons (ps_par (i := 11) (j := 12) (by rfl) sc_law.nd rfl rfl (by decide) rfl rfl (pa_cons (pe_cl C__law_pick (hr.mono (by decide)) (by rfl) (pa_cons (pv 1) (pa_cons (pe_lst (pa_cons (pe_strX [65] (by decide +kernel)) (pa_cons (pe_op op_addX (pv 3) (pe_strX [43] (by decide +kernel))) (pa_cons pe_non (pa_cons pe_int (pa_cons (pe_tup pa_nil) (pa_cons (pe_strX [32] (by decide +kernel)) pa_nil))))))) pa_nil))) (pa_cons (pe_op op_addX (pe_cl C__law_text (hr.mono (by decide)) (by rfl) (pa_cons (pv 1) (pa_cons (pv 3) (pa_cons pe_int pa_nil)))) (pe_ix ix_strX (pv 3) pe_int (fun _ _ => rfl))) pa_nil)) (by rfl))
      (pss_cons (ps_set (i := 13) sc_law.nd rfl (Or.inl rfl) (pe_cl C__law_pick (hr.mono (by decide)) (by rfl) (pa_cons (pv 1) (pa_cons (pe_lst (pa_cons (pe_strX [33] (by decide +kernel)) (pa_cons pe_int (pa_cons (pe_op op_addX (pv 3) (pe_strX [126] (by decide +kernel))) pa_nil)))) pa_nil))))
      (Evl.pss_cut (ps_for PassesOwn.never rfl (pi_range1 (by rfl) T.m_range (pa_cons pe_int pa_nil)) (pg_name (i := 14) sc_law.nd rfl (Or.inl rfl))
      (pss_one (ps_if (pt_cmpR op_ne (pe_callB (r := rReprZ K) (call_reprZ hgd hr) (by rfl) T.m_repr (by decide +kernel) (pa_cons (pe_cl C__law_refused (hr.mono (by decide)) (by rfl) (pa_cons (pv 3) (pa_cons (pv 14) (pa_cons (pv 11) (pa_cons (pv 13) pa_nil))))) pa_nil)) (pe_callB (r := rReprZ K) (call_reprZ hgd hr) (by rfl) T.m_repr (by decide +kernel) (pa_cons (pe_tup (pa_cons (pe_strX [110, 111] (by decide +kernel)) (pa_cons (pv 11) (pa_cons pe_bl pa_nil)))) pa_nil)) (nomark _))
      (pss_one (ps_ret pe_bl))
      pss_nil)))
      (pss_one (ps_if (pt_cmpR op_ne (pe_callB (r := rReprZ K) (call_reprZ hgd hr) (by rfl) T.m_repr (by decide +kernel) (pa_cons (pe_cl C__law_refused (hr.mono (by decide)) (by rfl) (pa_cons (pv 3) (pa_cons pe_int (pa_cons (pv 12) (pa_cons (pv 11) pa_nil))))) pa_nil)) (pe_callB (r := rReprZ K) (call_reprZ hgd hr) (by rfl) T.m_repr (by decide +kernel) (pa_cons (pe_tup (pa_cons (pe_strX [110, 111] (by decide +kernel)) (pa_cons (pv 11) (pa_cons pe_bl pa_nil)))) pa_nil)) (nomark _))
      (pss_one (ps_ret pe_bl))
      pss_nil))))))))))
      (pss_one (ps_ret pe_bl)))), ?_⟩
    walk_at "rds"
    refine ⟨a, ns, _, rfl, hS, hlen, by decide, by decide, fun D L H1 nD nL s1 hd1 => ?_⟩
    walk_at "rds"
    refine rd_cut (fun σ' H' => True) ?_ (fun σ' H' _ => ?_)
    rotate_left
    · walk_at "rds"
      exact q _
    walk_at "rds"
    refine ⟨3, rfl, by decide, by decide, for_range (lo := 0) (n := (3 : Int).toNat) (fun i σ' H' => (∃ y2 y3 y4 y5 y6 y7 y8 y9 y10 y11 y12 y13 y14 y15 : Option V, σ' = [some (.ref a), some (.ref D), y2, y3, y4, y5, y6, y7, y8, y9, y10, y11, y12, y13, y14, y15]) ∧ Deal D L H') ⟨⟨_, _, _, _, _, _, _, _, _, _, _, _, _, _, rfl⟩, hd1⟩ ?_ (fun _ _ _ => trivial)⟩
    rintro i σ' H2 hi ⟨⟨y2, y3, y4, y5, y6, y7, y8, y9, y10, y11, y12, y13, y14, y15, rfl⟩, hd2⟩
    walk_at "rds"
    refine ⟨D, L, 5, rfl, hd2, by decide, by decide, fun ls H3 hl1 hl2 nd hmem kp3 hd3 => ?_⟩
    have hls : ls.length ≤ 5 := by omega
    have hne : ls ≠ [] := fun h => by
      rw [h] at hl1
      exact absurd hl1 (by decide)
    have ha : ∀ c ∈ ls, c < 1000 := fun c hc => alphabet_small c (hmem c hc)
    have hpos : 0 < ls.length := by omega
    walk_at "rds"
    refine rd_cut (fun σ' H' => (∃ y2 y4 y5 y6 y7 y8 y9 y10 y11 y12 y13 y14 y15 : Option V, σ' = [some (.ref a), some (.ref D), y2, some (.str (tx ls)), y4, y5, y6, y7, y8, y9, y10, y11, y12, y13, y14, y15]) ∧ Deal D L H') ?_ ?_
    · walk_at "rds"
      refine ⟨D, L, ls, rfl, hd3, hne, by omega, fun lf1 p1 H4 ok1 at1 kp4 hd4 => ?_⟩
      walk_at "rds"
      refine ⟨D, L, ls, rfl, hd4, hne, by omega, fun lf2 p2 H5 ok2 at2 kp5 hd5 => ?_⟩
      have at1' := at1.keep hd4 kp5
      walk_at "rds"
      refine ⟨by show 2 ≤ sizeLine; decide, fun tp ntp => ?_⟩
      have s6 : Same H5 (upd H5 tp (.tup [.ref p1, .ref p2])) := same_upd ntp
      have e6 : upd H5 tp (.tup [.ref p1, .ref p2]) tp = some (.tup [.ref p1, .ref p2]) := upd_same
      generalize upd H5 tp (.tup [.ref p1, .ref p2]) = H6 at s6 e6 ⊢
      have hd6 := hd5.keep s6
      have a1 := at1'.same s6
      have a2 := at2.same s6
      clear at1 at1' at2 s6
      refine ⟨tp, rfl, ⟨_, SqT.of e6⟩, for_it walk_tup (fun j σ' H' => (∃ y2 y4 y5 y6 y7 y8 y9 y10 y11 y12 y13 y14 y15 : Option V, σ' = [some (.ref a), some (.ref D), y2, some (.str (tx ls)), y4, y5, y6, y7, y8, y9, y10, y11, y12, y13, y14, y15]) ∧ Same H6 H') ⟨⟨_, _, _, _, _, _, _, _, _, _, _, _, _, rfl⟩, same_refl _⟩ (fun j σ' H' _ h => SqT.of (h.2 _ _ e6)) ?_ ?_⟩
      rotate_left
      · rintro σ' H7 ⟨hσ, s7⟩
        exact ⟨hσ, hd6.keep s7⟩
      rintro j x σ' H7 H8 hj ⟨⟨y2, y4, y5, y6, y7, y8, y9, y10, y11, y12, y13, y14, y15, rfl⟩, s7⟩ ⟨rfl, hx⟩
      obtain ⟨p, lf, rfl, ok, at_⟩ : ∃ (p : Addr) (lf : Leaf), x = .ref p ∧ LeafOk ls lf ∧ LeafAt H8 p lf := by
        rcases (show j = 0 ∨ j = 1 by have : j < 2 := hj; omega) with rfl | rfl
        · cases hx
          exact ⟨p1, lf1, rfl, ok1, a1.same s7⟩
        · cases hx
          exact ⟨p2, lf2, rfl, ok2, a2.same s7⟩
      clear hx
      walk_at "rds"
      refine ⟨ls, p, lf, rfl, at_, ok, nd, hls, fun k lab t nm H9 G s9 nnm hN => ?_⟩
      have at9 := at_.same s9
      walk_at "rds"
      refine ⟨ls, rfl, hne, hls, fun ns1 q1 H10 nok1 nl1 s10 nq1 e10 => ?_⟩
      walk_at "rds"
      refine ⟨p, lf, ls, rfl, at9.same s10, ok, hne, hls, fun ns2 q2 H11 nok2 nl2 s11 nq2 e11 => ?_⟩
      refine rd_cat (s11 _ _ e10) e11 (by rw [List.length_map, List.length_map]; exact sz_of' (by omega)) fun S nS => ?_
      have s12 : Same H11 (upd H11 S (.lst (sTx ns1 ++ sTx ns2))) := same_upd nS
      have e12 : upd H11 S (.lst (sTx ns1 ++ sTx ns2)) S = some (.lst (sTx (ns1 ++ ns2))) := by
        rw [upd_same]
        unfold sTx
        rw [List.map_append]
      generalize upd H11 S (.lst (sTx ns1 ++ sTx ns2)) = H12 at s12 e12 ⊢
      have nok : NsOk ls 190 (ns1 ++ ns2) := nok1.app (nok2.mono (by decide))
      generalize ns1 ++ ns2 = nall at e12 nok
      have s912 := same_trans s10 (same_trans s11 s12)
      have s712 := same_trans s7 (same_trans s9 s912)
      have at12 := at9.same s912
      obtain ⟨dx, pt, eN, tab⟩ := hN.same s912
      have hN12 : NmAt (NC mg) H12 nm ls k lab t := ⟨dx, pt, eN, tab⟩
      clear e10 e11 s10 s11 s12 nS nq1 nq2 at9 at_ hN s9 s912 e6 a1 a2 s7 nok1 nok2
      walk_at "rds"
      refine ⟨nm, _, dx, _, _, rfl, eN, T.k_Names, T.n_Names_letters, rfl, ?_⟩
      walk_at "rds"
      rw [decide_eq_true rfl]
      refine rd_ite (fun h => by cases h) (fun _ => ?_)
      walk_at "rds"
      refine ⟨nm, _, dx, _, _, rfl, eN, T.k_Names, T.n_Names_table, rfl, ?_⟩
      walk_at "rds"
      have etab := tab
      obtain ⟨rs, vs, et, er⟩ := etab
      refine ⟨.ref pt, .ty "tuple", .type "tuple", .type "tuple", true, rfl, .ty _, .base (.tup et), kit_ty (by decide +kernel), ?_⟩
      walk_at "rds"
      refine rd_ite (fun h => by cases h) (fun _ => ?_)
      walk_at "rds"
      refine rd_cut (fun σ' H' => (∃ y2 y7 y8 y9 y10 y11 y12 y13 y14 y15 : Option V, σ' = [some (.ref a), some (.ref D), y2, some (.str (tx ls)), some (.ref p), some (.ref nm), some (.ref S), y7, y8, y9, y10, y11, y12, y13, y14, y15]) ∧ Same H12 H') ?_ ?_
      · walk_at "rds"
        refine ⟨S, rfl, ⟨_, SqL.of e12⟩, for_it walk_list (fun j σ' H' => (∃ y2 y7 y8 y9 y10 y11 y12 y13 y14 y15 : Option V, σ' = [some (.ref a), some (.ref D), y2, some (.str (tx ls)), some (.ref p), some (.ref nm), some (.ref S), y7, y8, y9, y10, y11, y12, y13, y14, y15]) ∧ Same H12 H') ⟨⟨_, _, _, _, _, _, _, _, _, _, rfl⟩, same_refl _⟩ (fun j σ' H' _ h => SqL.of (h.2 _ _ e12)) ?_ (fun _ _ h => h)⟩
        rintro j' x σ' H13 H14 hj' ⟨⟨y2, y7, y8, y9, y10, y11, y12, y13, y14, y15, rfl⟩, s13⟩ ⟨rfl, hx⟩
        obtain ⟨n, hn, rfl⟩ := get_map hx
        obtain ⟨hn1, hn2⟩ := nok n (List.mem_of_getElem? hn)
        obtain ⟨ws, rfl, hws⟩ := words_of hn1
        walk_at "rds"
        refine ⟨p, lf, ls, _, rfl, at12.same s13, ok, by omega, fun H15 s15 => ?_⟩
        have s1215 := same_trans s13 s15
        have eN15 := s1215 _ _ eN
        walk_at "rds"
        refine ⟨nm, dx, _, rfl, eN15, nm, _, ls, k, lab, t, rfl, hN12.same s1215, G.cl, G.k0, nd, by omega, .inl ⟨_, rfl, by omega⟩, fun hf => ?_, fun ws' e hws' H16 s16 => ?_⟩
        · rw [isTxt_words hws] at hf
          cases hf
        have ew : lab (runW t 0 ws') = lf.has (ws.map fun a => ls.getD a 0) := by
          rw [G.run ws' hws', ← tx_inj (V.str.inj e)]
        rw [ew]
        refine ⟨_, rfl, ?_⟩
        rw [if_neg (by decide)]
        have s1216 := same_trans s1215 s16
        walk_at "rds"
        refine rd_reprZ (.bl _) ((bool_good _).mono (by decide) (by decide)) ?_
        walk_at "rds"
        refine rd_reprZ (.bl _) ((bool_good _).mono (by decide) (by decide)) ?_
        walk_at "rds"
        rw [decide_eq_true rfl]
        refine rd_ite (fun h => by cases h) (fun _ => ?_)
        walk_at "rds"
        refine ⟨nm, _, dx, _, _, rfl, s1216 _ _ eN, T.k_Names, T.n_Names_table, rfl, ?_⟩
        walk_at "rds"
        refine ⟨ls, pt, k, lab, t, ws, rfl, tab.same s1216, G.cl, G.k0, nd, hws, by omega, ?_⟩
        rw [G.run ws hws]
        walk_at "rds"
        refine rd_reprZ (.bl _) ((bool_good _).mono (by decide) (by decide)) ?_
        walk_at "rds"
        refine rd_reprZ (.bl _) ((bool_good _).mono (by decide) (by decide)) ?_
        walk_at "rds"
        rw [decide_eq_true rfl]
        refine rd_ite (fun h => by cases h) (fun _ => ?_)
        walk_at "rds"
        exact ⟨⟨_, _, _, _, _, _, _, _, _, _, rfl⟩, s1216⟩
      rintro σ' H13 ⟨⟨y2, y7, y8, y9, y10, y11, y12, y13, y14, y15, rfl⟩, s13⟩
      have eN13 := s13 _ _ eN
      have tab13 := tab.same s13
      walk_at "rds"
      refine ⟨nm, _, dx, _, _, rfl, eN13, T.k_Names, T.n_Names_table, rfl, ?_⟩
      walk_at "rds"
      refine ⟨ls, pt, k, lab, t, rfl, tab13, G.cl, G.num, G.least, G.k0, G.kn, by omega, fun H14 s14 => ?_⟩
      have s1214 := same_trans s13 s14
      walk_at "rds"
      refine rd_ite (fun h => by cases h) (fun _ => ?_)
      walk_at "rds"
      refine ⟨nm, dx, _, rfl, s1214 _ _ eN, nm, ls, k, lab, t, rfl, hN12.same s1214, G.cl, by omega, fun H15 s15 => ?_⟩
      have s1215 := same_trans s1214 s15
      refine ⟨_, rfl, ?_⟩
      rw [leaf_any ok G]
      walk_at "rds"
      refine rd_reprZ (.bl _) ((bool_good _).mono (by decide) (by decide)) ?_
      walk_at "rds"
      refine ⟨Nat.zero_le _, fun q3 nq3 => ?_⟩
      have s16 : Same H15 (upd H15 q3 (.tup [])) := same_upd nq3
      have e16 : upd H15 q3 (.tup []) q3 = some (.tup []) := upd_same
      generalize upd H15 q3 (.tup []) = H16 at s16 e16 ⊢
      walk_at "rds"
      refine ⟨by show 2 ≤ sizeLine; decide, fun q4 nq4 => ?_⟩
      have s17 : Same H16 (upd H16 q4 (.tup [.str (tx wOf), .ref q3])) := same_upd nq4
      have e17 : upd H16 q4 (.tup [.str (tx wOf), .ref q3]) q4 = some (.tup [.str (tx wOf), .ref q3]) := upd_same
      generalize upd H16 q4 (.tup [.str (tx wOf), .ref q3]) = H17 at s17 e17 ⊢
      have s1217 := same_trans s1215 (same_trans s16 s17)
      refine ⟨leafD lf, .tuple [strD wOf, .tuple []], dp_leaf (at12.same s1217), .tup (SqT.of e17) (.cons (.str _) (.cons (.tup (SqT.of (s17 _ _ e16)) .nil) .nil)), leaf_shaped ha ok, by decide +kernel, ?_⟩
      rw [eqv_leaf, Bool.not_not]
      walk_at "rds"
      refine rd_reprZ (.bl _) ((bool_good _).mono (by decide) (by decide)) ?_
      walk_at "rds"
      rw [decide_eq_true rfl]
      refine rd_ite (fun h => by cases h) (fun _ => ?_)
      walk_at "rds"
      refine rd_addX (sz_of' (by show ls.length + 1 ≤ 1000; omega)) ?_
      walk_at "rds"
      refine ⟨by show 1 ≤ sizeLine; decide, fun v0 nv0 => ?_⟩
      have s18 : Same H17 (upd H17 v0 (.tup [.str (tx ls)])) := same_upd nv0
      have e18 : upd H17 v0 (.tup [.str (tx ls)]) v0 = some (.tup [.str (tx ls)]) := upd_same
      generalize upd H17 v0 (.tup [.str (tx ls)]) = H18 at s18 e18 ⊢
      walk_at "rds"
      refine ⟨by show 6 ≤ sizeLine; decide, fun v1 nv1 => ?_⟩
      have s19 : Same H18 (upd H18 v1 (.tup [.non, .int 0, .bl true, .str (tx (ls ++ [33])), .ref v0, .str (tx [65])])) := same_upd nv1
      have e19 : upd H18 v1 (.tup [.non, .int 0, .bl true, .str (tx (ls ++ [33])), .ref v0, .str (tx [65])]) v1 = some (.tup [.non, .int 0, .bl true, .str (tx (ls ++ [33])), .ref v0, .str (tx [65])]) := upd_same
      generalize upd H18 v1 (.tup [.non, .int 0, .bl true, .str (tx (ls ++ [33])), .ref v0, .str (tx [65])]) = H19 at s19 e19 ⊢
      have e18' := s19 _ _ e18
      have s1219 := same_trans s1217 (same_trans s18 s19)
      have odd : ∀ x ∈ [V.non, .int 0, .bl true, .str (tx (ls ++ [33])), .ref v0, .str (tx [65])], TxtOr K H19 x ∧ isTxtB ls x = false := fun x hx => by
        rcases List.mem_cons.mp hx with rfl | hx
        · exact ⟨.inr ⟨⟨_, .base .non, kit_ty (by decide +kernel)⟩, fun z e => by cases e⟩, rfl⟩
        rcases List.mem_cons.mp hx with rfl | hx
        · exact ⟨.inr ⟨⟨_, .base (.int _), kit_ty (by decide +kernel)⟩, fun z e => by cases e⟩, rfl⟩
        rcases List.mem_cons.mp hx with rfl | hx
        · exact ⟨.inr ⟨⟨_, .base (.bl _), kit_ty (by decide +kernel)⟩, fun z e => by cases e⟩, rfl⟩
        rcases List.mem_cons.mp hx with rfl | hx
        · exact BadV.txt (.inl ⟨_, rfl, by rw [List.length_append]; show ls.length + 1 ≤ 60; omega, fun c hc => (List.mem_append.mp hc).elim (ha c) fun h => by rw [List.mem_singleton.mp h]; decide, 33, List.mem_append_right _ List.mem_cons_self, fun h => absurd (hmem 33 h) (by decide)⟩)
        rcases List.mem_cons.mp hx with rfl | hx
        · exact ⟨.inr ⟨⟨_, .base (.tup e18'), kit_ty (by decide +kernel)⟩, fun z e => by cases e⟩, rfl⟩
        · rw [List.mem_singleton.mp hx]
          exact BadV.txt (.inl ⟨[65], rfl, by decide, by decide, 65, List.mem_cons_self, fun h => absurd (hmem 65 h) (by decide)⟩)
      have hN19 := hN12.same s1219
      have eN19 := s1219 _ _ eN
      refine ⟨v1, rfl, ⟨_, SqT.of e19⟩, fun B nB => lc_it walk_tup (fun j H' => Same H19 H' ∧ H' B = some (.lst [])) ⟨same_upd nB, upd_same⟩ (fun j H' _ h => SqT.of (h.1 _ _ e19)) ?_ ?_⟩
      · rintro j' x H20 H21 hj' ⟨s20, eB⟩ ⟨rfl, hx⟩
        obtain ⟨ht, hf⟩ := odd x (List.mem_of_getElem? hx)
        walk_at "rds"
        refine ⟨rfl, ?_⟩
        walk_at "rds"
        refine ⟨nm, dx, _, rfl, s20 _ _ eN19, nm, x, ls, k, lab, t, rfl, hN19.same s20, G.cl, G.k0, nd, by omega, ht.ext (Same.ext s20), fun _ H22 s22 => ?_, fun ws e hws => ?_⟩
        · refine ⟨false, rfl, ?_⟩
          rw [if_neg (by decide)]
          walk_at "rds"
          refine rd_ite (fun h => by cases h) (fun _ => ?_)
          exact ⟨same_trans s20 s22, s22 _ _ eB⟩
        · rw [e, isTxt_words hws] at hf
          cases hf
      rintro H20 ⟨s20, eB⟩
      walk_at "rds"
      refine rd_lenL (SqL.of eB) ?_
      walk_at "rds"
      refine rd_ite (fun h => by cases h) (fun _ => ?_)
      walk_at "rds"
      exact ⟨⟨_, _, _, _, _, _, _, _, _, _, _, _, _, rfl⟩, same_trans s712 (same_trans s1219 s20)⟩
    rintro σ' H4 ⟨⟨y2, y4, y5, y6, y7, y8, y9, y10, y11, y12, y13, y14, y15, rfl⟩, hd4⟩
    clear kp3 hd3 hd2
    walk_at "rds"
    refine ⟨rfl, ?_⟩
    walk_at "rds"
    refine ⟨ls, rfl, by omega, fun e1 H5 s5 ne1 nm1 => ?_⟩
    walk_at "rds"
    refine ⟨rfl, ?_⟩
    walk_at "rds"
    refine ⟨ls, rfl, by omega, fun e2 H6 s6 ne2 nm2 => ?_⟩
    obtain ⟨dx1, pt1, eN1, tab1⟩ := nm1.same s6
    obtain ⟨dx2, pt2, eN2, tab2⟩ := nm2
    have s46 := same_trans s5 s6
    walk_at "rds"
    refine ⟨e1, _, dx1, _, _, rfl, eN1, T.k_Names, T.n_Names_table, rfl, ?_⟩
    walk_at "rds"
    refine ⟨by show 1 ≤ sizeLine; decide, fun z0 nz0 => ?_⟩
    have t1 : Same H6 (upd H6 z0 (.tup [.int 0])) := same_upd nz0
    have u1 : upd H6 z0 (.tup [.int 0]) z0 = some (.tup [.int 0]) := upd_same
    generalize upd H6 z0 (.tup [.int 0]) = H7 at t1 u1 ⊢
    walk_at "rds"
    refine rd_lenX (sz_of' (by omega)) ?_
    refine rd_repT (SqT.of u1) (by simp) (by omega) (by omega) (by show 1 ≤ 1000; decide) fun z1 nz1 => ?_
    rw [Int.toNat_natCast, rep_zero]
    have t2 : Same H7 (upd H7 z1 (.tup (nats ls.length fun _ => 0))) := same_upd nz1
    have u2 : upd H7 z1 (.tup (nats ls.length fun _ => 0)) z1 = some (.tup (nats ls.length fun _ => 0)) := upd_same
    generalize upd H7 z1 (.tup (nats ls.length fun _ => 0)) = H8 at t2 u2 ⊢
    walk_at "rds"
    refine ⟨by show 2 ≤ sizeLine; decide, fun z2 nz2 => ?_⟩
    have t3 : Same H8 (upd H8 z2 (.tup [.bl true, .ref z1])) := same_upd nz2
    have u3 : upd H8 z2 (.tup [.bl true, .ref z1]) z2 = some (.tup [.bl true, .ref z1]) := upd_same
    generalize upd H8 z2 (.tup [.bl true, .ref z1]) = H9 at t3 u3 ⊢
    walk_at "rds"
    refine ⟨by show 1 ≤ sizeLine; decide, fun z3 nz3 => ?_⟩
    have t4 : Same H9 (upd H9 z3 (.tup [.ref z2])) := same_upd nz3
    have u4 : upd H9 z3 (.tup [.ref z2]) z3 = some (.tup [.ref z2]) := upd_same
    generalize upd H9 z3 (.tup [.ref z2]) = H10 at t4 u4 ⊢
    have tt : Same H6 H10 := same_trans t1 (same_trans t2 (same_trans t3 t4))
    have tw : TabAt H10 z3 1 ls.length (fun _ => true) (fun _ _ => 0) := ⟨fun _ => z2, fun _ => z1, u4, fun s hs => ⟨t4 _ _ u3, t4 _ _ (t3 _ _ u2)⟩⟩
    refine ⟨_, _, dp_tab (tab1.same tt), dp_tab tw, tabD_shaped _, tabD_shaped _, ?_⟩
    rw [eqv_tabD, decide_eq_true rfl]
    clear t1 t2 t3 t4 u1 u2 u3 u4 tw
    walk_at "rds"
    refine rd_ite (fun h => by cases h) (fun _ => ?_)
    walk_at "rds"
    have eN2' := tt _ _ eN2
    have tab2' := tab2.same tt
    have s410 := same_trans s46 tt
    clear tt eN2 tab2
    refine ⟨e2, _, dx2, _, _, rfl, eN2', T.k_Names, T.n_Names_table, rfl, ?_⟩
    walk_at "rds"
    refine ⟨by show 1 ≤ sizeLine; decide, fun z0 nz0 => ?_⟩
    have t1 : Same H10 (upd H10 z0 (.tup [.int 0])) := same_upd nz0
    have u1 : upd H10 z0 (.tup [.int 0]) z0 = some (.tup [.int 0]) := upd_same
    generalize upd H10 z0 (.tup [.int 0]) = H11 at t1 u1 ⊢
    walk_at "rds"
    refine rd_lenX (sz_of' (by omega)) ?_
    refine rd_repT (SqT.of u1) (by simp) (by omega) (by omega) (by show 1 ≤ 1000; decide) fun z1 nz1 => ?_
    rw [Int.toNat_natCast, rep_zero]
    have t2 : Same H11 (upd H11 z1 (.tup (nats ls.length fun _ => 0))) := same_upd nz1
    have u2 : upd H11 z1 (.tup (nats ls.length fun _ => 0)) z1 = some (.tup (nats ls.length fun _ => 0)) := upd_same
    generalize upd H11 z1 (.tup (nats ls.length fun _ => 0)) = H12 at t2 u2 ⊢
    walk_at "rds"
    refine ⟨by show 2 ≤ sizeLine; decide, fun z2 nz2 => ?_⟩
    have t3 : Same H12 (upd H12 z2 (.tup [.bl false, .ref z1])) := same_upd nz2
    have u3 : upd H12 z2 (.tup [.bl false, .ref z1]) z2 = some (.tup [.bl false, .ref z1]) := upd_same
    generalize upd H12 z2 (.tup [.bl false, .ref z1]) = H13 at t3 u3 ⊢
    walk_at "rds"
    refine ⟨by show 1 ≤ sizeLine; decide, fun z3 nz3 => ?_⟩
    have t4 : Same H13 (upd H13 z3 (.tup [.ref z2])) := same_upd nz3
    have u4 : upd H13 z3 (.tup [.ref z2]) z3 = some (.tup [.ref z2]) := upd_same
    generalize upd H13 z3 (.tup [.ref z2]) = H14 at t4 u4 ⊢
    have tt : Same H10 H14 := same_trans t1 (same_trans t2 (same_trans t3 t4))
    have tw : TabAt H14 z3 1 ls.length (fun _ => false) (fun _ _ => 0) := ⟨fun _ => z2, fun _ => z1, u4, fun s hs => ⟨t4 _ _ u3, t4 _ _ (t3 _ _ u2)⟩⟩
    refine ⟨_, _, dp_tab (tab2'.same tt), dp_tab tw, tabD_shaped _, tabD_shaped _, ?_⟩
    rw [eqv_tabD, decide_eq_true rfl]
    clear t1 t2 t3 t4 u1 u2 u3 u4 tw
    walk_at "rds"
    refine rd_ite (fun h => by cases h) (fun _ => ?_)
    walk_at "rds"
    have s414 := same_trans s410 tt
    have hd14 := hd4.keep s414
    clear s5 s6 tt
    refine rd_addX (sz_of' (by show ls.length + 1 ≤ 1000; omega)) ?_
    walk_at "rds"
    refine ⟨Nat.zero_le _, fun b0 nb0 => ?_⟩
    have s15 : Same H14 (upd H14 b0 (.tup [])) := same_upd nb0
    have e15 : upd H14 b0 (.tup []) b0 = some (.tup []) := upd_same
    generalize upd H14 b0 (.tup []) = H15 at s15 e15 ⊢
    have hd15 := hd14.keep s15
    walk_at "rds"
    refine ⟨by show 6 ≤ sizeLine; decide, fun B nB => ?_⟩
    have s16 : Same H15 (upd H15 B (.lst [.str (tx [65]), .str (tx (ls ++ [43])), .non, .int 5, .ref b0, .str (tx [32])])) := same_upd nB
    have e16 : upd H15 B (.lst [.str (tx [65]), .str (tx (ls ++ [43])), .non, .int 5, .ref b0, .str (tx [32])]) B = some (.lst [.str (tx [65]), .str (tx (ls ++ [43])), .non, .int 5, .ref b0, .str (tx [32])]) := upd_same
    generalize upd H15 B (.lst [.str (tx [65]), .str (tx (ls ++ [43])), .non, .int 5, .ref b0, .str (tx [32])]) = H16 at s16 e16 ⊢
    have hd16 := hd15.keep s16
    have nB' := hd15.new nB
    have e15' := s16 _ _ e15
    walk_at "rds"
    refine ⟨D, L, _, _, rfl, hd16, .inl ⟨B, rfl, nB'.1, nB'.2, SqL.of e16⟩, by show 0 < 6; decide, by show 6 ≤ 1000; decide, fun bad H17 hbad kp17 hd17 => ?_⟩
    have bad16 : BadV H16 ls bad := by
      rcases List.mem_cons.mp hbad with rfl | hbad
      · exact .inl ⟨[65], rfl, by decide, by decide, 65, List.mem_cons_self, fun h => absurd (hmem 65 h) (by decide)⟩
      rcases List.mem_cons.mp hbad with rfl | hbad
      · exact .inl ⟨_, rfl, by rw [List.length_append]; show ls.length + 1 ≤ 60; omega, fun c hc => (List.mem_append.mp hc).elim (ha c) fun h => by rw [List.mem_singleton.mp h]; decide, 43, List.mem_append_right _ List.mem_cons_self, fun h => absurd (hmem 43 h) (by decide)⟩
      rcases List.mem_cons.mp hbad with rfl | hbad
      · exact .inr (.inl rfl)
      rcases List.mem_cons.mp hbad with rfl | hbad
      · exact .inr (.inr (.inl ⟨5, rfl, by decide, by decide⟩))
      rcases List.mem_cons.mp hbad with rfl | hbad
      · exact .inr (.inr (.inr ⟨b0, rfl, e15'⟩))
      · rw [List.mem_singleton.mp hbad]
        exact .inl ⟨[32], rfl, by decide, by decide, 32, List.mem_cons_self, fun h => absurd (hmem 32 h) (by decide)⟩
    have bad17 := bad16.keep hd16 kp17
    walk_at "rds"
    refine ⟨D, L, ls, 4, rfl, hd17, hne, by omega, by decide, by decide, fun gt H18 hgt hgl kp18 hd18 => ?_⟩
    have bad18 := bad17.keep hd17 kp18
    walk_at "rds"
    refine rd_ixX (sz_of' (by omega)) (show atI ls ((0 : Nat) : Int) = some (ls[0]'hpos) from atI_nat (List.getElem?_eq_getElem hpos)) ?_
    refine rd_addX (sz_of' (by show gt.length + 1 ≤ 1000; omega)) ?_
    have hgd1 : ∀ c ∈ gt ++ [ls[0]'hpos], c ∈ ls := fun c hc => (List.mem_append.mp hc).elim (hgt c) fun h => by
      rw [List.mem_singleton.mp h]
      exact List.getElem_mem hpos
    have hgd2 : (gt ++ [ls[0]'hpos]).length ≤ 10 := by
      rw [List.length_append]
      show gt.length + 1 ≤ 10
      omega
    generalize gt ++ [ls[0]'hpos] = gd at hgd1 hgd2 ⊢
    walk_at "rds"
    refine rd_addX (sz_of' (by show ls.length + 1 ≤ 1000; omega)) ?_
    walk_at "rds"
    refine ⟨by show 3 ≤ sizeLine; decide, fun B2 nB2 => ?_⟩
    have s19 : Same H18 (upd H18 B2 (.lst [.str (tx [33]), .int 7, .str (tx (ls ++ [126]))])) := same_upd nB2
    have e19 : upd H18 B2 (.lst [.str (tx [33]), .int 7, .str (tx (ls ++ [126]))]) B2 = some (.lst [.str (tx [33]), .int 7, .str (tx (ls ++ [126]))]) := upd_same
    generalize upd H18 B2 (.lst [.str (tx [33]), .int 7, .str (tx (ls ++ [126]))]) = H19 at s19 e19 ⊢
    have hd19 := hd18.keep s19
    have nB2' := hd18.new nB2
    have bad19 := bad18.same s19
    walk_at "rds"
    refine ⟨D, L, _, _, rfl, hd19, .inl ⟨B2, rfl, nB2'.1, nB2'.2, SqL.of e19⟩, by show 0 < 3; decide, by show 3 ≤ 1000; decide, fun oth H20 hoth kp20 hd20 => ?_⟩
    have oth20 : BadV H20 ls oth := by
      rcases List.mem_cons.mp hoth with rfl | hoth
      · exact .inl ⟨[33], rfl, by decide, by decide, 33, List.mem_cons_self, fun h => absurd (hmem 33 h) (by decide)⟩
      rcases List.mem_cons.mp hoth with rfl | hoth
      · exact .inr (.inr (.inl ⟨7, rfl, by decide, by decide⟩))
      · rw [List.mem_singleton.mp hoth]
        exact .inl ⟨_, rfl, by rw [List.length_append]; show ls.length + 1 ≤ 60; omega, fun c hc => (List.mem_append.mp hc).elim (ha c) fun h => by rw [List.mem_singleton.mp h]; decide, 126, List.mem_append_right _ List.mem_cons_self, fun h => absurd (hmem 126 h) (by decide)⟩
    have bad20 := bad19.keep hd19 kp20
    obtain ⟨btxt, bno⟩ := bad20.txt (K := K)
    obtain ⟨otxt, _⟩ := oth20.txt (K := K)
    obtain ⟨d, hdp, gdd⟩ := bad20.dp (K := K)
    clear bad16 bad17 bad18 bad19 bad20 oth20 hbad hoth
    walk_at "rds"
    refine rd_cut (fun σ' H' => (∃ y2 y4 y5 y6 y7 y8 y9 y10 y14 y15 : Option V, σ' = [some (.ref a), some (.ref D), y2, some (.str (tx ls)), y4, y5, y6, y7, y8, y9, y10, some bad, some (.str (tx gd)), some oth, y14, y15]) ∧ Same H20 H') ?_ ?_
    · walk_at "rds"
      refine ⟨3, rfl, by decide, by decide, for_range (lo := 0) (n := (3 : Int).toNat) (fun j σ' H' => (∃ y2 y4 y5 y6 y7 y8 y9 y10 y14 y15 : Option V, σ' = [some (.ref a), some (.ref D), y2, some (.str (tx ls)), y4, y5, y6, y7, y8, y9, y10, some bad, some (.str (tx gd)), some oth, y14, y15]) ∧ Same H20 H') ⟨⟨_, _, _, _, _, _, _, _, _, _, rfl⟩, same_refl _⟩ ?_ (fun _ _ h => h)⟩
      rintro j σ' H21 hj ⟨⟨y2, y4, y5, y6, y7, y8, y9, y10, y14, y15, rfl⟩, s21⟩
      have hj3 : j < 3 := hj
      walk_at "rds"
      refine ⟨ls, _, bad, oth, bad, rfl, by omega, btxt.ext (Same.ext s21), otxt.ext (Same.ext s21), by omega, .inl ⟨bno, rfl⟩, fun pr H22 s22 npr e22 => ?_⟩
      have s2022 := same_trans s21 s22
      walk_at "rds"
      have dpx := Un.Dp.same s2022 hdp
      refine rd_reprZ (d := .tuple [strD wNo, d, .bool true]) (.tup (SqT.of e22) (.cons (.str _) (.cons dpx (.cons (.bl _) .nil)))) (no_good gdd) ?_
      walk_at "rds"
      refine ⟨by show 3 ≤ sizeLine; decide, fun p2 np2 => ?_⟩
      have s23 : Same H22 (upd H22 p2 (.tup [.str (tx wNo), bad, .bl true])) := same_upd np2
      walk_at "rds"
      refine rd_reprZ (d := .tuple [strD wNo, d, .bool true]) (.tup (SqT.of upd_same) (.cons (.str _) (.cons (Un.Dp.same s23 dpx) (.cons (.bl _) .nil)))) (no_good gdd) ?_
      walk_at "rds"
      rw [decide_eq_true rfl]
      refine rd_ite (fun h => by cases h) (fun _ => ?_)
      walk_at "rds"
      exact ⟨⟨_, _, _, _, _, _, _, _, _, _, rfl⟩, same_trans s2022 s23⟩
    rintro σ' H21 ⟨⟨y2, y4, y5, y6, y7, y8, y9, y10, y14, y15, rfl⟩, s21⟩
    walk_at "rds"
    refine ⟨ls, _, .str (tx gd), bad, bad, rfl, by omega, .inl ⟨gd, rfl, by omega⟩, btxt.ext (Same.ext s21), .inr (.inr rfl), .inr ⟨rfl, isTxt_tx hgd1, bno, rfl⟩, fun pr H22 s22 npr e22 => ?_⟩
    have s2022 := same_trans s21 s22
    walk_at "rds"
    have dpx := Un.Dp.same s2022 hdp
    refine rd_reprZ (d := .tuple [strD wNo, d, .bool true]) (.tup (SqT.of e22) (.cons (.str _) (.cons dpx (.cons (.bl _) .nil)))) (no_good gdd) ?_
    walk_at "rds"
    refine ⟨by show 3 ≤ sizeLine; decide, fun p2 np2 => ?_⟩
    have s23 : Same H22 (upd H22 p2 (.tup [.str (tx wNo), bad, .bl true])) := same_upd np2
    walk_at "rds"
    refine rd_reprZ (d := .tuple [strD wNo, d, .bool true]) (.tup (SqT.of upd_same) (.cons (.str _) (.cons (Un.Dp.same s23 dpx) (.cons (.bl _) .nil)))) (no_good gdd) ?_
    walk_at "rds"
    rw [decide_eq_true rfl]
    refine rd_ite (fun h => by cases h) (fun _ => ?_)
    walk_at "rds"
    exact ⟨⟨_, _, _, _, _, _, _, _, _, _, _, _, _, _, rfl⟩, hd20.keep (same_trans s2022 s23)⟩
end
set_option maxHeartbeats 4000000 in
theorem all_mk {l : PySem.W.OpenLaw} {w : World} {K : PySem.W.Frag} {h : Heap} {mg : Str → Option Value} {fa f1 f2 f3 f4 f5 f6 f7 f8 f9 f10 f11 f12 f13 f14 f15 f16 f17 f18 f19 f20 f21 f22 f23 f24 f25 f26 f27 f28 f29 f30 f31 f32 f33 f34 f35 f36 f37 f38 f39 f40 f41 f42 f43 f44 f45 f46 f47 f48 : Addr} (X : K.In h) (G : h.Ns mainGlobals mg) (hfa : mg "law" = some (.ref fa))
    {od1 od2 od3 od4 od5 od6 od7 od8 od9 od10 od11 od12 od13 od14 od15 od16 od17 od18 od19 od20 od21 od22 od23 od24 od25 od26 od27 od28 od29 od30 od31 od32 od33 od34 od35 od36 od37 od38 od39 od40 od41 od42 od43 od44 od45 od46 od47 od48 an1 an2 an3 an4 an5 an6 an7 an8 an9 an10 an11 an12 an13 an14 an15 an16 an17 an18 an19 an20 an21 an22 an23 an24 an25 an26 an27 an28 an29 an30 an31 an32 an33 an34 an35 an36 an37 an38 an39 an40 an41 an42 an43 an44 an45 an46 an47 an48 : Option Addr} {sl1 sl2 sl3 sl4 sl5 sl6 sl7 sl8 sl9 sl10 sl11 sl12 sl13 sl14 sl15 sl16 sl17 sl18 sl19 sl20 sl21 sl22 sl23 sl24 sl25 sl26 sl27 sl28 sl29 sl30 sl31 sl32 sl33 sl34 sl35 sl36 sl37 sl38 sl39 sl40 sl41 sl42 sl43 sl44 sl45 sl46 sl47 sl48 : Array (Option Value)} {oc1 oc2 oc3 oc4 oc5 oc6 oc7 oc8 oc9 oc10 oc11 oc12 oc13 oc14 oc15 oc16 oc17 oc18 oc19 oc20 oc21 oc22 oc23 oc24 oc25 oc26 oc27 oc28 oc29 oc30 oc31 oc32 oc33 oc34 oc35 oc36 oc37 oc38 oc39 oc40 oc41 oc42 oc43 oc44 oc45 oc46 oc47 oc48 kV1 kV2 kV3 kV4 kV5 kV6 kV7 kV8 kV9 kV10 kV11 kV12 kV13 kV14 kV15 kV16 kV17 kV18 kV19 kV20 kV21 kV22 kV23 kV24 kV25 kV26 kV27 kV28 kV29 kV30 kV31 kV32 kV33 kV34 kV35 kV36 kV37 kV38 kV39 kV40 kV41 kV42 kV43 kV44 kV45 kV46 kV47 kV48 dc1 dc2 dc3 dc4 dc5 dc6 dc7 dc8 dc9 dc10 dc11 dc12 dc13 dc14 dc15 dc16 dc17 dc18 dc19 dc20 dc21 dc22 dc23 dc24 dc25 dc26 dc27 dc28 dc29 dc30 dc31 dc32 dc33 dc34 dc35 dc36 dc37 dc38 dc39 dc40 dc41 dc42 dc43 dc44 dc45 dc46 dc47 dc48 pm1 pm2 pm3 pm4 pm5 pm6 pm7 pm8 pm9 pm10 pm11 pm12 pm13 pm14 pm15 pm16 pm17 pm18 pm19 pm20 pm21 pm22 pm23 pm24 pm25 pm26 pm27 pm28 pm29 pm30 pm31 pm32 pm33 pm34 pm35 pm36 pm37 pm38 pm39 pm40 pm41 pm42 pm43 pm44 pm45 pm46 pm47 pm48 ct1 ct2 ct3 ct4 ct5 ct6 ct7 ct8 ct9 ct10 ct11 ct12 ct13 ct14 ct15 ct16 ct17 ct18 ct19 ct20 ct21 ct22 ct23 ct24 ct25 ct26 ct27 ct28 ct29 ct30 ct31 ct32 ct33 ct34 ct35 ct36 ct37 ct38 ct39 ct40 ct41 ct42 ct43 ct44 ct45 ct46 ct47 ct48 cd1 cd2 cd3 cd4 cd5 cd6 cd7 cd8 cd9 cd10 cd11 cd12 cd13 cd14 cd15 cd16 cd17 cd18 cd19 cd20 cd21 cd22 cd23 cd24 cd25 cd26 cd27 cd28 cd29 cd30 cd31 cd32 cd33 cd34 cd35 cd36 cd37 cd38 cd39 cd40 cd41 cd42 cd43 cd44 cd45 cd46 cd47 cd48 : Value}
    {C1 C2 C3 C4 N1 N2 N3 N4 : Addr} {nm1 nm2 nm3 nm4 qn1 qn2 qn3 qn4 : Str} {bs1 bs2 bs3 bs4 sub1 sub2 sub3 sub4 : List Value} {sn1 sn2 sn3 sn4 : List Str} {ab1 ab2 ab3 ab4 : Bool} {col1 col2 col3 col4 : Option Bool} {dd1 dd2 dd3 dd4 : Option Addr} {m0_1 m0_2 m0_3 m0_4 m1_1 m1_2 m1_3 m1_4 m2_1 m2_2 m2_3 m2_4 m3_1 m3_2 m3_3 m3_4 m5_1 m5_2 m5_3 m5_4 : Option Value}
    {fI3 fI4 : Addr} {iod3 iod4 ian3 ian4 : Option Addr} {isl3 isl4 : Array (Option Value)} {ioc3 ioc4 ikV3 ikV4 idc3 idc4 ipm3 ipm4 icd3 icd4 ict3 ict4 : Value}
    (g1 : PySem.W.nsIn K mainGlobals "UnderError" = some (some (.ref C1))) (x1 : K.lookup C1 = some (excClassObj nm1 qn1 C1 N1 bs1 [.type "ValueError", .type "Exception", .type "BaseException", .type "object"] true sn1 sub1 ab1 col1 dd1 m0_1 m1_1 m2_1 m3_1 m5_1 "ValueError.__new__")) (o1 : Un.clB K C1 = true)
    (e1 : PySem.W.excIn K C1 PySem.HandSPX.veTail "ValueError.__new__" = true)
    (g2 : PySem.W.nsIn K mainGlobals "Mismatch" = some (some (.ref C2))) (x2 : K.lookup C2 = some (excClassObj nm2 qn2 C2 N2 bs2 [.ref C1, .type "ValueError", .type "Exception", .type "BaseException", .type "object"] true sn2 sub2 ab2 col2 dd2 m0_2 m1_2 m2_2 m3_2 m5_2 "ValueError.__new__")) (o2 : Un.clB K C2 = true)
    (e2 : PySem.W.excIn K C2 PySem.HandSPX.veTail "ValueError.__new__" = true)
    (g3 : PySem.W.nsIn K mainGlobals "NoText" = some (some (.ref C3))) (x3 : K.lookup C3 = some (excClassObj nm3 qn3 C3 N3 bs3 [.ref C1, .type "ValueError", .type "Exception", .type "BaseException", .type "object"] true sn3 sub3 ab3 col3 dd3 m0_3 m1_3 m2_3 m3_3 m5_3 "ValueError.__new__")) (o3 : Un.clB K C3 = true)
    (n3 : PySem.W.findIn K (.ref C3) "value" = some none) (i3 : PySem.W.findIn K (.ref C3) "__init__" = some (some (.ref fI3))) (t3 : PySem.W.typeIn K (.ref fI3) = some (.type "function"))
    (li3 : K.lookup fI3 = some ⟨ioc3, iod3, .func (PySem.W.fnOf "__init__" "NoText.__init__" (defArgs s_NoText) (defBody s_NoText) (defScope s_NoText) .none ikV3 idc3 ipm3 ian3 icd3 ict3), isl3⟩) (ci3 : PySem.W.codeIn K icd3 "NoText.__init__" = true) (ki3 : PySem.W.keepIn K (.ref fI3) = true)
    (g4 : PySem.W.nsIn K mainGlobals "NoName" = some (some (.ref C4))) (x4 : K.lookup C4 = some (excClassObj nm4 qn4 C4 N4 bs4 [.ref C1, .type "ValueError", .type "Exception", .type "BaseException", .type "object"] true sn4 sub4 ab4 col4 dd4 m0_4 m1_4 m2_4 m3_4 m5_4 "ValueError.__new__")) (o4 : Un.clB K C4 = true)
    (n4 : PySem.W.findIn K (.ref C4) "number" = some none) (i4 : PySem.W.findIn K (.ref C4) "__init__" = some (some (.ref fI4))) (t4 : PySem.W.typeIn K (.ref fI4) = some (.type "function"))
    (li4 : K.lookup fI4 = some ⟨ioc4, iod4, .func (PySem.W.fnOf "__init__" "NoName.__init__" (defArgs s_NoName) (defBody s_NoName) (defScope s_NoName) .none ikV4 idc4 ipm4 ian4 icd4 ict4), isl4⟩) (ci4 : PySem.W.codeIn K icd4 "NoName.__init__" = true) (ki4 : PySem.W.keepIn K (.ref fI4) = true)
    (a1 : PySem.W.nsIn K mainGlobals "size_of" = some (some (.ref f1))) (l1 : K.lookup f1 = some ⟨oc1, od1, .func (PySem.W.fnOf "size_of" "size_of" (defArgs s_size_of) (defBody s_size_of) (defScope s_size_of) .none kV1 dc1 pm1 an1 cd1 ct1), sl1⟩) (c1 : PySem.W.codeIn K cd1 "size_of" = true) (k1 : PySem.W.keepIn K (.ref f1) = true)
    (a2 : PySem.W.nsIn K mainGlobals "many_of_length" = some (some (.ref f2))) (l2 : K.lookup f2 = some ⟨oc2, od2, .func (PySem.W.fnOf "many_of_length" "many_of_length" (defArgs s_many_of_length) (defBody s_many_of_length) (defScope s_many_of_length) .none kV2 dc2 pm2 an2 cd2 ct2), sl2⟩) (c2 : PySem.W.codeIn K cd2 "many_of_length" = true) (k2 : PySem.W.keepIn K (.ref f2) = true)
    (a3 : PySem.W.nsIn K mainGlobals "name_with_number" = some (some (.ref f3))) (l3 : K.lookup f3 = some ⟨oc3, od3, .func (PySem.W.fnOf "name_with_number" "name_with_number" (defArgs s_name_with_number) (defBody s_name_with_number) (defScope s_name_with_number) .none kV3 dc3 pm3 an3 cd3 ct3), sl3⟩) (c3 : PySem.W.codeIn K cd3 "name_with_number" = true) (k3 : PySem.W.keepIn K (.ref f3) = true)
    (a4 : PySem.W.nsIn K mainGlobals "least_name" = some (some (.ref f4))) (l4 : K.lookup f4 = some ⟨oc4, od4, .func (PySem.W.fnOf "least_name" "least_name" (defArgs s_least_name) (defBody s_least_name) (defScope s_least_name) .none kV4 dc4 pm4 an4 cd4 ct4), sl4⟩) (c4 : PySem.W.codeIn K cd4 "least_name" = true) (k4 : PySem.W.keepIn K (.ref f4) = true)
    (a5 : PySem.W.nsIn K mainGlobals "_path" = some (some (.ref f5))) (l5 : K.lookup f5 = some ⟨oc5, od5, .func (PySem.W.fnOf "_path" "_path" (defArgs s__path) (defBody s__path) (defScope s__path) .none kV5 dc5 pm5 an5 cd5 ct5), sl5⟩) (c5 : PySem.W.codeIn K cd5 "_path" = true) (k5 : PySem.W.keepIn K (.ref f5) = true)
    (a6 : PySem.W.nsIn K mainGlobals "_lost_state" = some (some (.ref f6))) (l6 : K.lookup f6 = some ⟨oc6, od6, .func (PySem.W.fnOf "_lost_state" "_lost_state" (defArgs s__lost_state) (defBody s__lost_state) (defScope s__lost_state) .none kV6 dc6 pm6 an6 cd6 ct6), sl6⟩) (c6 : PySem.W.codeIn K cd6 "_lost_state" = true) (k6 : PySem.W.keepIn K (.ref f6) = true)
    (a7 : PySem.W.nsIn K mainGlobals "_stepped" = some (some (.ref f7))) (l7 : K.lookup f7 = some ⟨oc7, od7, .func (PySem.W.fnOf "_stepped" "_stepped" (defArgs s__stepped) (defBody s__stepped) (defScope s__stepped) .none kV7 dc7 pm7 an7 cd7 ct7), sl7⟩) (c7 : PySem.W.codeIn K cd7 "_stepped" = true) (k7 : PySem.W.keepIn K (.ref f7) = true)
    (a8 : PySem.W.nsIn K mainGlobals "_many_in" = some (some (.ref f8))) (l8 : K.lookup f8 = some ⟨oc8, od8, .func (PySem.W.fnOf "_many_in" "_many_in" (defArgs s__many_in) (defBody s__many_in) (defScope s__many_in) .none kV8 dc8 pm8 an8 cd8 ct8), sl8⟩) (c8 : PySem.W.codeIn K cd8 "_many_in" = true) (k8 : PySem.W.keepIn K (.ref f8) = true)
    (a9 : PySem.W.nsIn K mainGlobals "_spelled" = some (some (.ref f9))) (l9 : K.lookup f9 = some ⟨oc9, od9, .func (PySem.W.fnOf "_spelled" "_spelled" (defArgs s__spelled) (defBody s__spelled) (defScope s__spelled) .none kV9 dc9 pm9 an9 cd9 ct9), sl9⟩) (c9 : PySem.W.codeIn K cd9 "_spelled" = true) (k9 : PySem.W.keepIn K (.ref f9) = true)
    (a10 : PySem.W.nsIn K mainGlobals "least_table" = some (some (.ref f10))) (l10 : K.lookup f10 = some ⟨oc10, od10, .func (PySem.W.fnOf "least_table" "least_table" (defArgs s_least_table) (defBody s_least_table) (defScope s_least_table) .none kV10 dc10 pm10 an10 cd10 ct10), sl10⟩) (c10 : PySem.W.codeIn K cd10 "least_table" = true) (k10 : PySem.W.keepIn K (.ref f10) = true)
    (a11 : PySem.W.nsIn K mainGlobals "met_table" = some (some (.ref f11))) (l11 : K.lookup f11 = some ⟨oc11, od11, .func (PySem.W.fnOf "met_table" "met_table" (defArgs s_met_table) (defBody s_met_table) (defScope s_met_table) .none kV11 dc11 pm11 an11 cd11 ct11), sl11⟩) (c11 : PySem.W.codeIn K cd11 "met_table" = true) (k11 : PySem.W.keepIn K (.ref f11) = true)
    (a12 : PySem.W.nsIn K mainGlobals "_parts" = some (some (.ref f12))) (l12 : K.lookup f12 = some ⟨oc12, od12, .func (PySem.W.fnOf "_parts" "_parts" (defArgs s__parts) (defBody s__parts) (defScope s__parts) .none kV12 dc12 pm12 an12 cd12 ct12), sl12⟩) (c12 : PySem.W.codeIn K cd12 "_parts" = true) (k12 : PySem.W.keepIn K (.ref f12) = true)
    (a13 : PySem.W.nsIn K mainGlobals "numbered" = some (some (.ref f13))) (l13 : K.lookup f13 = some ⟨oc13, od13, .func (PySem.W.fnOf "numbered" "numbered" (defArgs s_numbered) (defBody s_numbered) (defScope s_numbered) .none kV13 dc13 pm13 an13 cd13 ct13), sl13⟩) (c13 : PySem.W.codeIn K cd13 "numbered" = true) (k13 : PySem.W.keepIn K (.ref f13) = true)
    (a14 : PySem.W.nsIn K mainGlobals "_side_by_side" = some (some (.ref f14))) (l14 : K.lookup f14 = some ⟨oc14, od14, .func (PySem.W.fnOf "_side_by_side" "_side_by_side" (defArgs s__side_by_side) (defBody s__side_by_side) (defScope s__side_by_side) .none kV14 dc14 pm14 an14 cd14 ct14), sl14⟩) (c14 : PySem.W.codeIn K cd14 "_side_by_side" = true) (k14 : PySem.W.keepIn K (.ref f14) = true)
    (a15 : PySem.W.nsIn K mainGlobals "_places" = some (some (.ref f15))) (l15 : K.lookup f15 = some ⟨oc15, od15, .func (PySem.W.fnOf "_places" "_places" (defArgs s__places) (defBody s__places) (defScope s__places) .none kV15 dc15 pm15 an15 cd15 ct15), sl15⟩) (c15 : PySem.W.codeIn K cd15 "_places" = true) (k15 : PySem.W.keepIn K (.ref f15) = true)
    (a16 : PySem.W.nsIn K mainGlobals "_sources" = some (some (.ref f16))) (l16 : K.lookup f16 = some ⟨oc16, od16, .func (PySem.W.fnOf "_sources" "_sources" (defArgs s__sources) (defBody s__sources) (defScope s__sources) .none kV16 dc16 pm16 an16 cd16 ct16), sl16⟩) (c16 : PySem.W.codeIn K cd16 "_sources" = true) (k16 : PySem.W.keepIn K (.ref f16) = true)
    (a17 : PySem.W.nsIn K mainGlobals "joined" = some (some (.ref f17))) (l17 : K.lookup f17 = some ⟨oc17, od17, .func (PySem.W.fnOf "joined" "joined" (defArgs s_joined) (defBody s_joined) (defScope s_joined) .none kV17 dc17 pm17 an17 cd17 ct17), sl17⟩) (c17 : PySem.W.codeIn K cd17 "joined" = true) (k17 : PySem.W.keepIn K (.ref f17) = true)
    (a18 : PySem.W.nsIn K mainGlobals "state_behind" = some (some (.ref f18))) (l18 : K.lookup f18 = some ⟨oc18, od18, .func (PySem.W.fnOf "state_behind" "state_behind" (defArgs s_state_behind) (defBody s_state_behind) (defScope s_state_behind) .none kV18 dc18 pm18 an18 cd18 ct18), sl18⟩) (c18 : PySem.W.codeIn K cd18 "state_behind" = true) (k18 : PySem.W.keepIn K (.ref f18) = true)
    (a19 : PySem.W.nsIn K mainGlobals "shared" = some (some (.ref f19))) (l19 : K.lookup f19 = some ⟨oc19, od19, .func (PySem.W.fnOf "shared" "shared" (defArgs s_shared) (defBody s_shared) (defScope s_shared) .none kV19 dc19 pm19 an19 cd19 ct19), sl19⟩) (c19 : PySem.W.codeIn K cd19 "shared" = true) (k19 : PySem.W.keepIn K (.ref f19) = true)
    (a20 : PySem.W.nsIn K mainGlobals "spread" = some (some (.ref f20))) (l20 : K.lookup f20 = some ⟨oc20, od20, .func (PySem.W.fnOf "spread" "spread" (defArgs s_spread) (defBody s_spread) (defScope s_spread) .none kV20 dc20 pm20 an20 cd20 ct20), sl20⟩) (c20 : PySem.W.codeIn K cd20 "spread" = true) (k20 : PySem.W.keepIn K (.ref f20) = true)
    (a21 : PySem.W.nsIn K mainGlobals "table_of" = some (some (.ref f21))) (l21 : K.lookup f21 = some ⟨oc21, od21, .func (PySem.W.fnOf "table_of" "table_of" (defArgs s_table_of) (defBody s_table_of) (defScope s_table_of) .none kV21 dc21 pm21 an21 cd21 ct21), sl21⟩) (c21 : PySem.W.codeIn K cd21 "table_of" = true) (k21 : PySem.W.keepIn K (.ref f21) = true)
    (a22 : PySem.W.nsIn K mainGlobals "table_in_front" = some (some (.ref f22))) (l22 : K.lookup f22 = some ⟨oc22, od22, .func (PySem.W.fnOf "table_in_front" "table_in_front" (defArgs s_table_in_front) (defBody s_table_in_front) (defScope s_table_in_front) .none kV22 dc22 pm22 an22 cd22 ct22), sl22⟩) (c22 : PySem.W.codeIn K cd22 "table_in_front" = true) (k22 : PySem.W.keepIn K (.ref f22) = true)
    (a23 : PySem.W.nsIn K mainGlobals "table_of_family" = some (some (.ref f23))) (l23 : K.lookup f23 = some ⟨oc23, od23, .func (PySem.W.fnOf "table_of_family" "table_of_family" (defArgs s_table_of_family) (defBody s_table_of_family) (defScope s_table_of_family) .none kV23 dc23 pm23 an23 cd23 ct23), sl23⟩) (c23 : PySem.W.codeIn K cd23 "table_of_family" = true) (k23 : PySem.W.keepIn K (.ref f23) = true)
    (a24 : PySem.W.nsIn K mainGlobals "table_behind" = some (some (.ref f24))) (l24 : K.lookup f24 = some ⟨oc24, od24, .func (PySem.W.fnOf "table_behind" "table_behind" (defArgs s_table_behind) (defBody s_table_behind) (defScope s_table_behind) .none kV24 dc24 pm24 an24 cd24 ct24), sl24⟩) (c24 : PySem.W.codeIn K cd24 "table_behind" = true) (k24 : PySem.W.keepIn K (.ref f24) = true)
    (a25 : PySem.W.nsIn K mainGlobals "_turns" = some (some (.ref f25))) (l25 : K.lookup f25 = some ⟨oc25, od25, .func (PySem.W.fnOf "_turns" "_turns" (defArgs s__turns) (defBody s__turns) (defScope s__turns) .none kV25 dc25 pm25 an25 cd25 ct25), sl25⟩) (c25 : PySem.W.codeIn K cd25 "_turns" = true) (k25 : PySem.W.keepIn K (.ref f25) = true)
    (a26 : PySem.W.nsIn K mainGlobals "_runs" = some (some (.ref f26))) (l26 : K.lookup f26 = some ⟨oc26, od26, .func (PySem.W.fnOf "_runs" "_runs" (defArgs s__runs) (defBody s__runs) (defScope s__runs) .none kV26 dc26 pm26 an26 cd26 ct26), sl26⟩) (c26 : PySem.W.codeIn K cd26 "_runs" = true) (k26 : PySem.W.keepIn K (.ref f26) = true)
    (a27 : PySem.W.nsIn K mainGlobals "_consists_of" = some (some (.ref f27))) (l27 : K.lookup f27 = some ⟨oc27, od27, .func (PySem.W.fnOf "_consists_of" "_consists_of" (defArgs s__consists_of) (defBody s__consists_of) (defScope s__consists_of) .none kV27 dc27 pm27 an27 cd27 ct27), sl27⟩) (c27 : PySem.W.codeIn K cd27 "_consists_of" = true) (k27 : PySem.W.keepIn K (.ref f27) = true)
    (a28 : PySem.W.nsIn K mainGlobals "is_text" = some (some (.ref f28))) (l28 : K.lookup f28 = some ⟨oc28, od28, .func (PySem.W.fnOf "is_text" "is_text" (defArgs s_is_text) (defBody s_is_text) (defScope s_is_text) .none kV28 dc28 pm28 an28 cd28 ct28), sl28⟩) (c28 : PySem.W.codeIn K cd28 "is_text" = true) (k28 : PySem.W.keepIn K (.ref f28) = true)
    (a29 : PySem.W.nsIn K mainGlobals "_check_text" = some (some (.ref f29))) (l29 : K.lookup f29 = some ⟨oc29, od29, .func (PySem.W.fnOf "_check_text" "_check_text" (defArgs s__check_text) (defBody s__check_text) (defScope s__check_text) .none kV29 dc29 pm29 an29 cd29 ct29), sl29⟩) (c29 : PySem.W.codeIn K cd29 "_check_text" = true) (k29 : PySem.W.keepIn K (.ref f29) = true)
    (a30 : PySem.W.nsIn K mainGlobals "_constant" = some (some (.ref f30))) (l30 : K.lookup f30 = some ⟨oc30, od30, .func (PySem.W.fnOf "_constant" "_constant" (defArgs s__constant) (defBody s__constant) (defScope s__constant) .none kV30 dc30 pm30 an30 cd30 ct30), sl30⟩) (c30 : PySem.W.codeIn K cd30 "_constant" = true) (k30 : PySem.W.keepIn K (.ref f30) = true)
    (a31 : PySem.W.nsIn K mainGlobals "_joined" = some (some (.ref f31))) (l31 : K.lookup f31 = some ⟨oc31, od31, .func (PySem.W.fnOf "_joined" "_joined" (defArgs s__joined) (defBody s__joined) (defScope s__joined) .none kV31 dc31 pm31 an31 cd31 ct31), sl31⟩) (c31 : PySem.W.codeIn K cd31 "_joined" = true) (k31 : PySem.W.keepIn K (.ref f31) = true)
    (a32 : PySem.W.nsIn K mainGlobals "_merged" = some (some (.ref f32))) (l32 : K.lookup f32 = some ⟨oc32, od32, .func (PySem.W.fnOf "_merged" "_merged" (defArgs s__merged) (defBody s__merged) (defScope s__merged) .none kV32 dc32 pm32 an32 cd32 ct32), sl32⟩) (c32 : PySem.W.codeIn K cd32 "_merged" = true) (k32 : PySem.W.keepIn K (.ref f32) = true)
    (a33 : PySem.W.nsIn K mainGlobals "_is_within" = some (some (.ref f33))) (l33 : K.lookup f33 = some ⟨oc33, od33, .func (PySem.W.fnOf "_is_within" "_is_within" (defArgs s__is_within) (defBody s__is_within) (defScope s__is_within) .none kV33 dc33 pm33 an33 cd33 ct33), sl33⟩) (c33 : PySem.W.codeIn K cd33 "_is_within" = true) (k33 : PySem.W.keepIn K (.ref f33) = true)
    (a34 : PySem.W.nsIn K mainGlobals "_law_deal" = some (some (.ref f34))) (l34 : K.lookup f34 = some ⟨oc34, od34, .func (PySem.W.fnOf "_law_deal" "_law_deal" (defArgs s__law_deal) (defBody s__law_deal) (defScope s__law_deal) .none kV34 dc34 pm34 an34 cd34 ct34), sl34⟩) (c34 : PySem.W.codeIn K cd34 "_law_deal" = true) (k34 : PySem.W.keepIn K (.ref f34) = true)
    (a35 : PySem.W.nsIn K mainGlobals "_law_draw" = some (some (.ref f35))) (l35 : K.lookup f35 = some ⟨oc35, od35, .func (PySem.W.fnOf "_law_draw" "_law_draw" (defArgs s__law_draw) (defBody s__law_draw) (defScope s__law_draw) .none kV35 dc35 pm35 an35 cd35 ct35), sl35⟩) (c35 : PySem.W.codeIn K cd35 "_law_draw" = true) (k35 : PySem.W.keepIn K (.ref f35) = true)
    (a36 : PySem.W.nsIn K mainGlobals "_law_pick" = some (some (.ref f36))) (l36 : K.lookup f36 = some ⟨oc36, od36, .func (PySem.W.fnOf "_law_pick" "_law_pick" (defArgs s__law_pick) (defBody s__law_pick) (defScope s__law_pick) .none kV36 dc36 pm36 an36 cd36 ct36), sl36⟩) (c36 : PySem.W.codeIn K cd36 "_law_pick" = true) (k36 : PySem.W.keepIn K (.ref f36) = true)
    (a37 : PySem.W.nsIn K mainGlobals "_law_letters" = some (some (.ref f37))) (l37 : K.lookup f37 = some ⟨oc37, od37, .func (PySem.W.fnOf "_law_letters" "_law_letters" (defArgs s__law_letters) (defBody s__law_letters) (defScope s__law_letters) .none kV37 dc37 pm37 an37 cd37 ct37), sl37⟩) (c37 : PySem.W.codeIn K cd37 "_law_letters" = true) (k37 : PySem.W.keepIn K (.ref f37) = true)
    (a38 : PySem.W.nsIn K mainGlobals "_law_text" = some (some (.ref f38))) (l38 : K.lookup f38 = some ⟨oc38, od38, .func (PySem.W.fnOf "_law_text" "_law_text" (defArgs s__law_text) (defBody s__law_text) (defScope s__law_text) .none kV38 dc38 pm38 an38 cd38 ct38), sl38⟩) (c38 : PySem.W.codeIn K cd38 "_law_text" = true) (k38 : PySem.W.keepIn K (.ref f38) = true)
    (a39 : PySem.W.nsIn K mainGlobals "_law_name" = some (some (.ref f39))) (l39 : K.lookup f39 = some ⟨oc39, od39, .func (PySem.W.fnOf "_law_name" "_law_name" (defArgs s__law_name) (defBody s__law_name) (defScope s__law_name) .none kV39 dc39 pm39 an39 cd39 ct39), sl39⟩) (c39 : PySem.W.codeIn K cd39 "_law_name" = true) (k39 : PySem.W.keepIn K (.ref f39) = true)
    (a40 : PySem.W.nsIn K mainGlobals "_law_leaf" = some (some (.ref f40))) (l40 : K.lookup f40 = some ⟨oc40, od40, .func (PySem.W.fnOf "_law_leaf" "_law_leaf" (defArgs s__law_leaf) (defBody s__law_leaf) (defScope s__law_leaf) .none kV40 dc40 pm40 an40 cd40 ct40), sl40⟩) (c40 : PySem.W.codeIn K cd40 "_law_leaf" = true) (k40 : PySem.W.keepIn K (.ref f40) = true)
    (a41 : PySem.W.nsIn K mainGlobals "_law_in" = some (some (.ref f41))) (l41 : K.lookup f41 = some ⟨oc41, od41, .func (PySem.W.fnOf "_law_in" "_law_in" (defArgs s__law_in) (defBody s__law_in) (defScope s__law_in) .none kV41 dc41 pm41 an41 cd41 ct41), sl41⟩) (c41 : PySem.W.codeIn K cd41 "_law_in" = true) (k41 : PySem.W.keepIn K (.ref f41) = true)
    (a42 : PySem.W.nsIn K mainGlobals "_law_set" = some (some (.ref f42))) (l42 : K.lookup f42 = some ⟨oc42, od42, .func (PySem.W.fnOf "_law_set" "_law_set" (defArgs s__law_set) (defBody s__law_set) (defScope s__law_set) .none kV42 dc42 pm42 an42 cd42 ct42), sl42⟩) (c42 : PySem.W.codeIn K cd42 "_law_set" = true) (k42 : PySem.W.keepIn K (.ref f42) = true)
    (a43 : PySem.W.nsIn K mainGlobals "_law_all_names" = some (some (.ref f43))) (l43 : K.lookup f43 = some ⟨oc43, od43, .func (PySem.W.fnOf "_law_all_names" "_law_all_names" (defArgs s__law_all_names) (defBody s__law_all_names) (defScope s__law_all_names) .none kV43 dc43 pm43 an43 cd43 ct43), sl43⟩) (c43 : PySem.W.codeIn K cd43 "_law_all_names" = true) (k43 : PySem.W.keepIn K (.ref f43) = true)
    (a44 : PySem.W.nsIn K mainGlobals "_law_is_least" = some (some (.ref f44))) (l44 : K.lookup f44 = some ⟨oc44, od44, .func (PySem.W.fnOf "_law_is_least" "_law_is_least" (defArgs s__law_is_least) (defBody s__law_is_least) (defScope s__law_is_least) .none kV44 dc44 pm44 an44 cd44 ct44), sl44⟩) (c44 : PySem.W.codeIn K cd44 "_law_is_least" = true) (k44 : PySem.W.keepIn K (.ref f44) = true)
    (a45 : PySem.W.nsIn K mainGlobals "_law_walked" = some (some (.ref f45))) (l45 : K.lookup f45 = some ⟨oc45, od45, .func (PySem.W.fnOf "_law_walked" "_law_walked" (defArgs s__law_walked) (defBody s__law_walked) (defScope s__law_walked) .none kV45 dc45 pm45 an45 cd45 ct45), sl45⟩) (c45 : PySem.W.codeIn K cd45 "_law_walked" = true) (k45 : PySem.W.keepIn K (.ref f45) = true)
    (a46 : PySem.W.nsIn K mainGlobals "_law_near" = some (some (.ref f46))) (l46 : K.lookup f46 = some ⟨oc46, od46, .func (PySem.W.fnOf "_law_near" "_law_near" (defArgs s__law_near) (defBody s__law_near) (defScope s__law_near) .none kV46 dc46 pm46 an46 cd46 ct46), sl46⟩) (c46 : PySem.W.codeIn K cd46 "_law_near" = true) (k46 : PySem.W.keepIn K (.ref f46) = true)
    (a47 : PySem.W.nsIn K mainGlobals "_law_refused" = some (some (.ref f47))) (l47 : K.lookup f47 = some ⟨oc47, od47, .func (PySem.W.fnOf "_law_refused" "_law_refused" (defArgs s__law_refused) (defBody s__law_refused) (defScope s__law_refused) .none kV47 dc47 pm47 an47 cd47 ct47), sl47⟩) (c47 : PySem.W.codeIn K cd47 "_law_refused" = true) (k47 : PySem.W.keepIn K (.ref f47) = true)
    (a48 : PySem.W.nsIn K mainGlobals "law" = some (some (.ref f48))) (l48 : K.lookup f48 = some ⟨oc48, od48, .func (PySem.W.fnOf "law" "law" (defArgs s_law) (defBody s_law) (defScope s_law) .none kV48 dc48 pm48 an48 cd48 ct48), sl48⟩) (c48 : PySem.W.codeIn K cd48 "law" = true) (k48 : PySem.W.keepIn K (.ref f48) = true)
    (X_k_NoText : PySem.W.kitOne K (.ref C3) (.ref C1) = some true)
    (z1 : PySem.W.nsIn K mainGlobals "TypeError" = some none)
    (z2 : PySem.W.nsIn K mainGlobals "ValueError" = some none)
    (z3 : PySem.W.nsIn K mainGlobals "abs" = some none)
    (z4 : PySem.W.nsIn K mainGlobals "all" = some none)
    (z5 : PySem.W.nsIn K mainGlobals "bool" = some none)
    (z6 : PySem.W.nsIn K mainGlobals "enumerate" = some none)
    (z7 : PySem.W.nsIn K mainGlobals "int" = some none)
    (z8 : PySem.W.nsIn K mainGlobals "isinstance" = some none)
    (z9 : PySem.W.nsIn K mainGlobals "len" = some none)
    (z10 : PySem.W.nsIn K mainGlobals "list" = some none)
    (z11 : PySem.W.nsIn K mainGlobals "min" = some none)
    (z12 : PySem.W.nsIn K mainGlobals "range" = some none)
    (z13 : PySem.W.nsIn K mainGlobals "repr" = some none)
    (z14 : PySem.W.nsIn K mainGlobals "set" = some none)
    (z15 : PySem.W.nsIn K mainGlobals "sorted" = some none)
    (z16 : PySem.W.nsIn K mainGlobals "str" = some none)
    (z17 : PySem.W.nsIn K mainGlobals "sum" = some none)
    (z18 : PySem.W.nsIn K mainGlobals "tuple" = some none)
    (z19 : PySem.W.nsIn K mainGlobals "zip" = some none)
    {OC1 : Addr} (og1 : PySem.W.nsIn K mainGlobals "Names" = some (some (.ref OC1))) (op1 : PySem.W.plainGet K OC1 Str.empty = true) (oh1 : PySem.W.hasDictIn K OC1 = true) (oo1 : PySem.W.plainOver K OC1 = true) (os1 : PySem.W.findIn K (.ref OC1) "__setattr__" = some (some (.builtin "object.__setattr__")))
    (oq1 : PySem.W.noSeq K OC1 = true) (oi1 : Un.insB K OC1 = true) (on1 : PySem.W.findIn K (.ref OC1) "__ne__" = some (some (.builtin "object.__ne__"))) (or1 : PySem.W.mroIn K OC1 (.type "object") = some true) (om1 : PySem.W.makesIn K OC1 = true) (ok1 : PySem.W.keepIn K (.ref OC1) = true)
    (of1_letters : PySem.W.findIn K (.ref OC1) "letters" = some none)
    (of1_table : PySem.W.findIn K (.ref OC1) "table" = some none)
    (cr1 : Un.crB K OC1 = true)
    {mf1 : Addr} {mod1 man1 : Option Addr} {msl1 : Array (Option Value)} {moc1 mdc1 mpm1 mcd1 mct1 : Value}
    {mkv1 : Value}
    (ma1 : PySem.W.findIn K (.ref OC1) "__init__" = some (some (.ref mf1))) (mi1 : PySem.W.isFn K (.ref mf1) = true) (mn1 : PySem.W.fnIn K mf1 = true) (ml1 : K.lookup mf1 = some ⟨moc1, mod1, .func (PySem.W.fnOf "__init__" "Names.__init__" (defArgs s_Names___init__) (defBody s_Names___init__) (defScope s_Names___init__) .none mkv1 mdc1 mpm1 man1 mcd1 mct1), msl1⟩) (mc1 : PySem.W.codeIn K mcd1 "Names.__init__" = true) (mk1 : PySem.W.keepIn K (.ref mf1) = true)
    {mf2 : Addr} {mod2 man2 : Option Addr} {msl2 : Array (Option Value)} {moc2 mdc2 mpm2 mcd2 mct2 : Value}
    {mkv2 : Value}
    {mp2 : Addr} {mr2 : List Value} (ma2 : PySem.W.findIn K (.ref OC1) "none" = some (some (.ref mp2))) (mi2 : PySem.W.recIn K mp2 "classmethod" = some (.ref mf2 :: mr2)) (mn2 : Un.cmB K OC1 "none" mp2 mf2 = true) (ml2 : K.lookup mf2 = some ⟨moc2, mod2, .func (PySem.W.fnOf "none" "Names.none" (defArgs s_Names_none) (defBody s_Names_none) (defScope s_Names_none) .none mkv2 mdc2 mpm2 man2 mcd2 mct2), msl2⟩) (mc2 : PySem.W.codeIn K mcd2 "Names.none" = true) (mk2 : PySem.W.keepIn K (.ref mf2) = true)
    {mf3 : Addr} {mod3 man3 : Option Addr} {msl3 : Array (Option Value)} {moc3 mdc3 mpm3 mcd3 mct3 : Value}
    {mkv3 : Value}
    {mp3 : Addr} {mr3 : List Value} (ma3 : PySem.W.findIn K (.ref OC1) "every" = some (some (.ref mp3))) (mi3 : PySem.W.recIn K mp3 "classmethod" = some (.ref mf3 :: mr3)) (mn3 : Un.cmB K OC1 "every" mp3 mf3 = true) (ml3 : K.lookup mf3 = some ⟨moc3, mod3, .func (PySem.W.fnOf "every" "Names.every" (defArgs s_Names_every) (defBody s_Names_every) (defScope s_Names_every) .none mkv3 mdc3 mpm3 man3 mcd3 mct3), msl3⟩) (mc3 : PySem.W.codeIn K mcd3 "Names.every" = true) (mk3 : PySem.W.keepIn K (.ref mf3) = true)
    {mf4 : Addr} {mod4 man4 : Option Addr} {msl4 : Array (Option Value)} {moc4 mdc4 mpm4 mcd4 mct4 : Value}
    {mkv4 : Value}
    {mp4 : Addr} {mr4 : List Value} (ma4 : PySem.W.findIn K (.ref OC1) "of" = some (some (.ref mp4))) (mi4 : PySem.W.recIn K mp4 "classmethod" = some (.ref mf4 :: mr4)) (mn4 : Un.cmB K OC1 "of" mp4 mf4 = true) (ml4 : K.lookup mf4 = some ⟨moc4, mod4, .func (PySem.W.fnOf "of" "Names.of" (defArgs s_Names_of) (defBody s_Names_of) (defScope s_Names_of) .none mkv4 mdc4 mpm4 man4 mcd4 mct4), msl4⟩) (mc4 : PySem.W.codeIn K mcd4 "Names.of" = true) (mk4 : PySem.W.keepIn K (.ref mf4) = true)
    {mf5 : Addr} {mod5 man5 : Option Addr} {msl5 : Array (Option Value)} {moc5 mdc5 mpm5 mcd5 mct5 : Value}
    {mkv5 : Value}
    {mp5 : Addr} {mr5 : List Value} (ma5 : PySem.W.findIn K (.ref OC1) "beginning" = some (some (.ref mp5))) (mi5 : PySem.W.recIn K mp5 "classmethod" = some (.ref mf5 :: mr5)) (mn5 : Un.cmB K OC1 "beginning" mp5 mf5 = true) (ml5 : K.lookup mf5 = some ⟨moc5, mod5, .func (PySem.W.fnOf "beginning" "Names.beginning" (defArgs s_Names_beginning) (defBody s_Names_beginning) (defScope s_Names_beginning) .none mkv5 mdc5 mpm5 man5 mcd5 mct5), msl5⟩) (mc5 : PySem.W.codeIn K mcd5 "Names.beginning" = true) (mk5 : PySem.W.keepIn K (.ref mf5) = true)
    {mf6 : Addr} {mod6 man6 : Option Addr} {msl6 : Array (Option Value)} {moc6 mdc6 mpm6 mcd6 mct6 : Value}
    {mT6 : Addr}
    {mkv6 : Value}
    {mp6 : Addr} {mr6 : List Value} (ma6 : PySem.W.findIn K (.ref OC1) "family" = some (some (.ref mp6))) (mi6 : PySem.W.recIn K mp6 "classmethod" = some (.ref mf6 :: mr6)) (mn6 : Un.cmB K OC1 "family" mp6 mf6 = true) (ml6 : K.lookup mf6 = some ⟨moc6, mod6, .func (PySem.W.fnOf "family" "Names.family" (defArgs s_Names_family) (defBody s_Names_family) (defScope s_Names_family) (.ref mT6) mkv6 mdc6 mpm6 man6 mcd6 mct6), msl6⟩) (mc6 : PySem.W.codeIn K mcd6 "Names.family" = true) (mk6 : PySem.W.keepIn K (.ref mf6) = true)
    {mts6 : Array (Option Value)} {mtn6 : Nat} {mv6_0 : Tok} (mt6 : K.lookup mT6 = some ⟨.type "tuple", none, .seq #[.int 0 mv6_0] mtn6, mts6⟩)
    {mf7 : Addr} {mod7 man7 : Option Addr} {msl7 : Array (Option Value)} {moc7 mdc7 mpm7 mcd7 mct7 : Value}
    {mkv7 : Value}
    (ma7 : PySem.W.findIn K (.ref OC1) "__contains__" = some (some (.ref mf7))) (mi7 : PySem.W.isFn K (.ref mf7) = true) (mn7 : PySem.W.fnIn K mf7 = true) (ml7 : K.lookup mf7 = some ⟨moc7, mod7, .func (PySem.W.fnOf "__contains__" "Names.__contains__" (defArgs s_Names___contains__) (defBody s_Names___contains__) (defScope s_Names___contains__) .none mkv7 mdc7 mpm7 man7 mcd7 mct7), msl7⟩) (mc7 : PySem.W.codeIn K mcd7 "Names.__contains__" = true) (mk7 : PySem.W.keepIn K (.ref mf7) = true)
    {mf8 : Addr} {mod8 man8 : Option Addr} {msl8 : Array (Option Value)} {moc8 mdc8 mpm8 mcd8 mct8 : Value}
    {mkv8 : Value}
    (ma8 : PySem.W.findIn K (.ref OC1) "__bool__" = some (some (.ref mf8))) (mi8 : PySem.W.isFn K (.ref mf8) = true) (mn8 : PySem.W.fnIn K mf8 = true) (ml8 : K.lookup mf8 = some ⟨moc8, mod8, .func (PySem.W.fnOf "__bool__" "Names.__bool__" (defArgs s_Names___bool__) (defBody s_Names___bool__) (defScope s_Names___bool__) .none mkv8 mdc8 mpm8 man8 mcd8 mct8), msl8⟩) (mc8 : PySem.W.codeIn K mcd8 "Names.__bool__" = true) (mk8 : PySem.W.keepIn K (.ref mf8) = true)
    : ∃ fd : FuncData, (∀ (s : Shared) (v : Value), BindsTo s fd ⟨[v], []⟩ [("_law_script", v)]) ∧ ∀ base : Heap, K.In base → base.Ns mainGlobals mg → FnG l.prog w K mg base 12 fa fd ["_law_script"] (spLaw K) := by
  have e := hfa.symm.trans (PySem.W.mg_of X G a48)
  cases e
  have F1 := fun_mk (st := s_size_of) l1 c1 k1
  have b1 := F1.binds (ps := ["table"]) fun _ _ _ _ _ _ us hl => match us, hl with | [_], _ => rfl
  have F2 := fun_mk (st := s_many_of_length) l2 c2 k2
  have b2 := F2.binds (ps := ["table", "length"]) fun _ _ _ _ _ _ us hl => match us, hl with | [_, _], _ => rfl
  have F3 := fun_mk (st := s_name_with_number) l3 c3 k3
  have b3 := F3.binds (ps := ["letters", "table", "number"]) fun _ _ _ _ _ _ us hl => match us, hl with | [_, _, _], _ => rfl
  have F4 := fun_mk (st := s_least_name) l4 c4 k4
  have b4 := F4.binds (ps := ["letters", "table"]) fun _ _ _ _ _ _ us hl => match us, hl with | [_, _], _ => rfl
  have F5 := fun_mk (st := s__path) l5 c5 k5
  have b5 := F5.binds (ps := ["steps", "state"]) fun _ _ _ _ _ _ us hl => match us, hl with | [_, _], _ => rfl
  have F6 := fun_mk (st := s__lost_state) l6 c6 k6
  have b6 := F6.binds (ps := ["table"]) fun _ _ _ _ _ _ us hl => match us, hl with | [_], _ => rfl
  have F7 := fun_mk (st := s__stepped) l7 c7 k7
  have b7 := F7.binds (ps := ["table", "lost", "reached"]) fun _ _ _ _ _ _ us hl => match us, hl with | [_, _, _], _ => rfl
  have F8 := fun_mk (st := s__many_in) l8 c8 k8
  have b8 := F8.binds (ps := ["table", "reached"]) fun _ _ _ _ _ _ us hl => match us, hl with | [_, _], _ => rfl
  have F9 := fun_mk (st := s__spelled) l9 c9 k9
  have b9 := F9.binds (ps := ["letters", "table", "length", "number"]) fun _ _ _ _ _ _ us hl => match us, hl with | [_, _, _, _], _ => rfl
  have F10 := fun_mk (st := s_least_table) l10 c10 k10
  have b10 := F10.binds (ps := ["labels", "ways"]) fun _ _ _ _ _ _ us hl => match us, hl with | [_, _], _ => rfl
  have F11 := fun_mk (st := s_met_table) l11 c11 k11
  have b11 := F11.binds (ps := ["labels", "ways", "start"]) fun _ _ _ _ _ _ us hl => match us, hl with | [_, _, _], _ => rfl
  have F12 := fun_mk (st := s__parts) l12 c12 k12
  have b12 := F12.binds (ps := ["table"]) fun _ _ _ _ _ _ us hl => match us, hl with | [_], _ => rfl
  have F13 := fun_mk (st := s_numbered) l13 c13 k13
  have b13 := F13.binds (ps := ["labels"]) fun _ _ _ _ _ _ us hl => match us, hl with | [_], _ => rfl
  have F14 := fun_mk (st := s__side_by_side) l14 c14 k14
  have b14 := F14.binds (ps := ["part_of"]) fun _ _ _ _ _ _ us hl => match us, hl with | [_], _ => rfl
  have F15 := fun_mk (st := s__places) l15 c15 k15
  have b15 := F15.binds (ps := ["states"]) fun _ _ _ _ _ _ us hl => match us, hl with | [_], _ => rfl
  have F16 := fun_mk (st := s__sources) l16 c16 k16
  have b16 := F16.binds (ps := ["table", "letter_at"]) fun _ _ _ _ _ _ us hl => match us, hl with | [_, _], _ => rfl
  have F17 := fun_mk (st := s_joined) l17 c17 k17
  have b17 := F17.binds (ps := ["one", "other"]) fun _ _ _ _ _ _ us hl => match us, hl with | [_, _], _ => rfl
  have F18 := fun_mk (st := s_state_behind) l18 c18 k18
  have b18 := F18.binds (ps := ["letters", "table", "state", "text"]) fun _ _ _ _ _ _ us hl => match us, hl with | [_, _, _, _], _ => rfl
  have F19 := fun_mk (st := s_shared) l19 c19 k19
  have b19 := F19.binds (ps := ["word", "name"]) fun _ _ _ _ _ _ us hl => match us, hl with | [_, _], _ => rfl
  have F20 := fun_mk (st := s_spread) l20 c20 k20
  have b20 := F20.binds (ps := ["letters", "steps", "many"]) fun _ _ _ _ _ _ us hl => match us, hl with | [_, _, _], _ => rfl
  have F21 := fun_mk (st := s_table_of) l21 c21 k21
  have b21 := F21.binds (ps := ["letters", "names"]) fun _ _ _ _ _ _ us hl => match us, hl with | [_, _], _ => rfl
  have F22 := fun_mk (st := s_table_in_front) l22 c22 k22
  have b22 := F22.binds (ps := ["letters", "text", "table"]) fun _ _ _ _ _ _ us hl => match us, hl with | [_, _, _], _ => rfl
  have F23 := fun_mk (st := s_table_of_family) l23 c23 k23
  have b23 := F23.binds (ps := ["letters", "word", "rest", "count"]) fun _ _ _ _ _ _ us hl => match us, hl with | [_, _, _, _], _ => rfl
  have F24 := fun_mk (st := s_table_behind) l24 c24 k24
  have b24 := F24.binds (ps := ["letters", "table", "text"]) fun _ _ _ _ _ _ us hl => match us, hl with | [_, _, _], _ => rfl
  have F25 := fun_mk (st := s__turns) l25 c25 k25
  have b25 := F25.binds (ps := ["letters", "text"]) fun _ _ _ _ _ _ us hl => match us, hl with | [_, _], _ => rfl
  have F26 := fun_mk (st := s__runs) l26 c26 k26
  have b26 := F26.binds (ps := ["letters", "table", "text"]) fun _ _ _ _ _ _ us hl => match us, hl with | [_, _, _], _ => rfl
  have F27 := fun_mk (st := s__consists_of) l27 c27 k27
  have b27 := F27.binds (ps := ["characters", "text"]) fun _ _ _ _ _ _ us hl => match us, hl with | [_, _], _ => rfl
  have F28 := fun_mk (st := s_is_text) l28 c28 k28
  have b28 := F28.binds (ps := ["letters", "value"]) fun _ _ _ _ _ _ us hl => match us, hl with | [_, _], _ => rfl
  have F29 := fun_mk (st := s__check_text) l29 c29 k29
  have b29 := F29.binds (ps := ["letters", "value"]) fun _ _ _ _ _ _ us hl => match us, hl with | [_, _], _ => rfl
  have F30 := fun_mk (st := s__constant) l30 c30 k30
  have b30 := F30.binds (ps := ["letters", "is_in"]) fun _ _ _ _ _ _ us hl => match us, hl with | [_, _], _ => rfl
  have F31 := fun_mk (st := s__joined) l31 c31 k31
  have b31 := F31.binds (ps := ["one", "other"]) fun _ _ _ _ _ _ us hl => match us, hl with | [_, _], _ => rfl
  have F32 := fun_mk (st := s__merged) l32 c32 k32
  have b32 := F32.binds (ps := ["one", "other", "wanted"]) fun _ _ _ _ _ _ us hl => match us, hl with | [_, _, _], _ => rfl
  have F33 := fun_mk (st := s__is_within) l33 c33 k33
  have b33 := F33.binds (ps := ["one", "other"]) fun _ _ _ _ _ _ us hl => match us, hl with | [_, _], _ => rfl
  have F34 := fun_mk (st := s__law_deal) l34 c34 k34
  have b34 := F34.binds (ps := ["_law_script", "_law_base"]) fun _ _ _ _ _ _ us hl => match us, hl with | [_, _], _ => rfl
  have F35 := fun_mk (st := s__law_draw) l35 c35 k35
  have b35 := F35.binds (ps := ["_law_deal_here", "_law_many"]) fun _ _ _ _ _ _ us hl => match us, hl with | [_, _], _ => rfl
  have F36 := fun_mk (st := s__law_pick) l36 c36 k36
  have b36 := F36.binds (ps := ["_law_deal_here", "_law_some"]) fun _ _ _ _ _ _ us hl => match us, hl with | [_, _], _ => rfl
  have F37 := fun_mk (st := s__law_letters) l37 c37 k37
  have b37 := F37.binds (ps := ["_law_deal_here", "_law_most"]) fun _ _ _ _ _ _ us hl => match us, hl with | [_, _], _ => rfl
  have F38 := fun_mk (st := s__law_text) l38 c38 k38
  have b38 := F38.binds (ps := ["_law_deal_here", "_law_letters_here", "_law_most"]) fun _ _ _ _ _ _ us hl => match us, hl with | [_, _, _], _ => rfl
  have F39 := fun_mk (st := s__law_name) l39 c39 k39
  have b39 := F39.binds (ps := ["_law_deal_here", "_law_letters_here", "_law_most"]) fun _ _ _ _ _ _ us hl => match us, hl with | [_, _, _], _ => rfl
  have F40 := fun_mk (st := s__law_leaf) l40 c40 k40
  have b40 := F40.binds (ps := ["_law_deal_here", "_law_letters_here"]) fun _ _ _ _ _ _ us hl => match us, hl with | [_, _], _ => rfl
  have F41 := fun_mk (st := s__law_in) l41 c41 k41
  have b41 := F41.binds (ps := ["_law_told", "_law_name_here"]) fun _ _ _ _ _ _ us hl => match us, hl with | [_, _], _ => rfl
  have F42 := fun_mk (st := s__law_set) l42 c42 k42
  have b42 := F42.binds (ps := ["_law_letters_here", "_law_told"]) fun _ _ _ _ _ _ us hl => match us, hl with | [_, _], _ => rfl
  have F43 := fun_mk (st := s__law_all_names) l43 c43 k43
  have b43 := F43.binds (ps := ["_law_letters_here", "_law_many"]) fun _ _ _ _ _ _ us hl => match us, hl with | [_, _], _ => rfl
  have F44 := fun_mk (st := s__law_is_least) l44 c44 k44
  have b44 := F44.binds (ps := ["_law_letters_here", "_law_table"]) fun _ _ _ _ _ _ us hl => match us, hl with | [_, _], _ => rfl
  have F45 := fun_mk (st := s__law_walked) l45 c45 k45
  have b45 := F45.binds (ps := ["_law_letters_here", "_law_table", "_law_name_here"]) fun _ _ _ _ _ _ us hl => match us, hl with | [_, _, _], _ => rfl
  have F46 := fun_mk (st := s__law_near) l46 c46 k46
  have b46 := F46.binds (ps := ["_law_told", "_law_letters_here"]) fun _ _ _ _ _ _ us hl => match us, hl with | [_, _], _ => rfl
  have F47 := fun_mk (st := s__law_refused) l47 c47 k47
  have b47 := F47.binds (ps := ["_law_letters_here", "_law_form", "_law_one", "_law_other"]) fun _ _ _ _ _ _ us hl => match us, hl with | [_, _, _, _], _ => rfl
  have F48 := fun_mk (st := s_law) l48 c48 k48
  have b48 := F48.binds (ps := ["_law_script"]) fun _ _ _ _ _ _ us hl => match us, hl with | [_], _ => rfl
  have oc1 : ca mg "Names" = OC1 := ca_of (PySem.W.mg_of X G og1)
  have RO1_48 : mg "Names" = some (.ref (ca mg "Names")) := by rw [oc1]; exact PySem.W.mg_of X G og1
  have RO1_49 : Cls K (ca mg "Names") := by rw [oc1]; exact ⟨op1, oh1, oo1, os1⟩
  have RO1_50 : PySem.W.noSeq K (ca mg "Names") = true := by rw [oc1]; exact oq1
  have RO1_51 : InsK K (ca mg "Names") := by rw [oc1]; exact insB_ok oi1
  have RO1_52 : NeK K (ca mg "Names") := by rw [oc1]; exact ⟨on1, or1⟩
  have RO1_53 : NoAttr K (ca mg "Names") "letters" := by rw [oc1]; exact of1_letters
  have RO1_54 : NoAttr K (ca mg "Names") "table" := by rw [oc1]; exact of1_table
  have RO1_55 : AtI0 K (ca mg "Names") "__init__" "Names.__init__" s_Names___init__ ["self", "letters", "table"] := by rw [oc1]; exact ⟨mf1, _, (fun_mk (st := s_Names___init__) ml1 mc1 mk1), ⟨om1, ma1, mi1, ok1⟩, (fun_mk (st := s_Names___init__) ml1 mc1 mk1).binds (ps := ["self", "letters", "table"]) fun _ _ _ _ _ _ us hl => match us, hl with | [_, _, _], _ => rfl⟩
  have RO1_56 : AtCm K (ca mg "Names") "none" "Names.none" s_Names_none [] := by rw [oc1]; exact ⟨mp2, mf2, _, ⟨⟨_, _, _, _, _, _, _, _, _, _, rfl, ml2, mc2, .inl ⟨rfl, rfl⟩, .inl rfl⟩, mk2⟩, crB_ok cr1, cmB_ok mn2⟩
  have RO1_57 : AtCm K (ca mg "Names") "every" "Names.every" s_Names_every [] := by rw [oc1]; exact ⟨mp3, mf3, _, ⟨⟨_, _, _, _, _, _, _, _, _, _, rfl, ml3, mc3, .inl ⟨rfl, rfl⟩, .inl rfl⟩, mk3⟩, crB_ok cr1, cmB_ok mn3⟩
  have RO1_58 : AtCm K (ca mg "Names") "of" "Names.of" s_Names_of [] := by rw [oc1]; exact ⟨mp4, mf4, _, ⟨⟨_, _, _, _, _, _, _, _, _, _, rfl, ml4, mc4, .inl ⟨rfl, rfl⟩, .inl rfl⟩, mk4⟩, crB_ok cr1, cmB_ok mn4⟩
  have RO1_59 : AtCm K (ca mg "Names") "beginning" "Names.beginning" s_Names_beginning [] := by rw [oc1]; exact ⟨mp5, mf5, _, ⟨⟨_, _, _, _, _, _, _, _, _, _, rfl, ml5, mc5, .inl ⟨rfl, rfl⟩, .inl rfl⟩, mk5⟩, crB_ok cr1, cmB_ok mn5⟩
  have RO1_60 : AtCm K (ca mg "Names") "family" "Names.family" s_Names_family [V.int 0] := by rw [oc1]; exact ⟨mp6, mf6, _, ⟨⟨_, _, _, _, _, _, _, _, _, _, rfl, ml6, mc6, .inr ⟨by simp, mT6, _, [.int 0 mv6_0], mtn6, rfl, mt6, rfl, (.cons ⟨_, rfl⟩ .nil)⟩, .inl rfl⟩, mk6⟩, crB_ok cr1, cmB_ok mn6⟩
  have RO1_61 : AtM K (ca mg "Names") "__contains__" "Names.__contains__" s_Names___contains__ ["self", "x"] := by rw [oc1]; exact ⟨mf7, _, (fun_mk (st := s_Names___contains__) ml7 mc7 mk7), ⟨ma7, mi7, mk7⟩, mn7, (fun_mk (st := s_Names___contains__) ml7 mc7 mk7).binds (ps := ["self", "x"]) fun _ _ _ _ _ _ us hl => match us, hl with | [_, _], _ => rfl⟩
  have RO1_62 : AtM K (ca mg "Names") "__bool__" "Names.__bool__" s_Names___bool__ ["self"] := by rw [oc1]; exact ⟨mf8, _, (fun_mk (st := s_Names___bool__) ml8 mc8 mk8), ⟨ma8, mi8, mk8⟩, mn8, (fun_mk (st := s_Names___bool__) ml8 mc8 mk8).binds (ps := ["self"]) fun _ _ _ _ _ _ us hl => match us, hl with | [_], _ => rfl⟩
  have ox1 : OxC K C1 := Un.oxc_ve x1 o1
  have cc1 : ca mg "UnderError" = C1 := ca_of (PySem.W.mg_of X G g1)
  have E1 : Err0 K mg "UnderError" (ca mg "UnderError") := by rw [cc1]; exact ⟨PySem.W.mg_of X G g1, ox1, e1⟩
  have ox2 : OxC K C2 := Un.oxc_vs x2 o2
  have cc2 : ca mg "Mismatch" = C2 := ca_of (PySem.W.mg_of X G g2)
  have E2 : Err0 K mg "Mismatch" (ca mg "Mismatch") := by rw [cc2]; exact ⟨PySem.W.mg_of X G g2, ox2, e2⟩
  have ox3 : OxC K C3 := Un.oxc_vs x3 o3
  have cc3 : ca mg "NoText" = C3 := ca_of (PySem.W.mg_of X G g3)
  have FI3 := fun_mk (st := s_NoText) li3 ci3 ki3
  have bI3 := FI3.binds (ps := ["self", "value"]) fun _ _ _ _ _ _ us hl => match us, hl with | [_, _], _ => rfl
  have E3 : ErrI K mg "NoText" "NoText.__init__" "value" s_NoText (ca mg "NoText") := by rw [cc3]; exact ⟨PySem.W.mg_of X G g3, ox3, n3, _, _, i3, t3, FI3, bI3⟩
  have ox4 : OxC K C4 := Un.oxc_vs x4 o4
  have cc4 : ca mg "NoName" = C4 := ca_of (PySem.W.mg_of X G g4)
  have FI4 := fun_mk (st := s_NoName) li4 ci4 ki4
  have bI4 := FI4.binds (ps := ["self", "number"]) fun _ _ _ _ _ _ us hl => match us, hl with | [_, _], _ => rfl
  have E4 : ErrI K mg "NoName" "NoName.__init__" "number" s_NoName (ca mg "NoName") := by rw [cc4]; exact ⟨PySem.W.mg_of X G g4, ox4, n4, _, _, i4, t4, FI4, bI4⟩
  have T : Txt K mg := ⟨⟨_, _, F1, PySem.W.mg_of X G a1, b1⟩, ⟨_, _, F2, PySem.W.mg_of X G a2, b2⟩, ⟨_, _, F3, PySem.W.mg_of X G a3, b3⟩, ⟨_, _, F4, PySem.W.mg_of X G a4, b4⟩, ⟨_, _, F5, PySem.W.mg_of X G a5, b5⟩, ⟨_, _, F6, PySem.W.mg_of X G a6, b6⟩, ⟨_, _, F7, PySem.W.mg_of X G a7, b7⟩, ⟨_, _, F8, PySem.W.mg_of X G a8, b8⟩, ⟨_, _, F9, PySem.W.mg_of X G a9, b9⟩, ⟨_, _, F10, PySem.W.mg_of X G a10, b10⟩, ⟨_, _, F11, PySem.W.mg_of X G a11, b11⟩, ⟨_, _, F12, PySem.W.mg_of X G a12, b12⟩, ⟨_, _, F13, PySem.W.mg_of X G a13, b13⟩, ⟨_, _, F14, PySem.W.mg_of X G a14, b14⟩, ⟨_, _, F15, PySem.W.mg_of X G a15, b15⟩, ⟨_, _, F16, PySem.W.mg_of X G a16, b16⟩, ⟨_, _, F17, PySem.W.mg_of X G a17, b17⟩, ⟨_, _, F18, PySem.W.mg_of X G a18, b18⟩, ⟨_, _, F19, PySem.W.mg_of X G a19, b19⟩, ⟨_, _, F20, PySem.W.mg_of X G a20, b20⟩, ⟨_, _, F21, PySem.W.mg_of X G a21, b21⟩, ⟨_, _, F22, PySem.W.mg_of X G a22, b22⟩, ⟨_, _, F23, PySem.W.mg_of X G a23, b23⟩, ⟨_, _, F24, PySem.W.mg_of X G a24, b24⟩, ⟨_, _, F25, PySem.W.mg_of X G a25, b25⟩, ⟨_, _, F26, PySem.W.mg_of X G a26, b26⟩, ⟨_, _, F27, PySem.W.mg_of X G a27, b27⟩, ⟨_, _, F28, PySem.W.mg_of X G a28, b28⟩, ⟨_, _, F29, PySem.W.mg_of X G a29, b29⟩, ⟨_, _, F30, PySem.W.mg_of X G a30, b30⟩, ⟨_, _, F31, PySem.W.mg_of X G a31, b31⟩, ⟨_, _, F32, PySem.W.mg_of X G a32, b32⟩, ⟨_, _, F33, PySem.W.mg_of X G a33, b33⟩, ⟨_, _, F34, PySem.W.mg_of X G a34, b34⟩, ⟨_, _, F35, PySem.W.mg_of X G a35, b35⟩, ⟨_, _, F36, PySem.W.mg_of X G a36, b36⟩, ⟨_, _, F37, PySem.W.mg_of X G a37, b37⟩, ⟨_, _, F38, PySem.W.mg_of X G a38, b38⟩, ⟨_, _, F39, PySem.W.mg_of X G a39, b39⟩, ⟨_, _, F40, PySem.W.mg_of X G a40, b40⟩, ⟨_, _, F41, PySem.W.mg_of X G a41, b41⟩, ⟨_, _, F42, PySem.W.mg_of X G a42, b42⟩, ⟨_, _, F43, PySem.W.mg_of X G a43, b43⟩, ⟨_, _, F44, PySem.W.mg_of X G a44, b44⟩, ⟨_, _, F45, PySem.W.mg_of X G a45, b45⟩, ⟨_, _, F46, PySem.W.mg_of X G a46, b46⟩, ⟨_, _, F47, PySem.W.mg_of X G a47, b47⟩, ⟨_, _, F48, PySem.W.mg_of X G a48, b48⟩, RO1_48, RO1_49, RO1_50, RO1_51, RO1_52, RO1_53, RO1_54, RO1_55, RO1_56, RO1_57, RO1_58, RO1_59, RO1_60, RO1_61, RO1_62, E1, E3, PySem.W.mg_none_of X G z1, PySem.W.mg_none_of X G z2, PySem.W.mg_none_of X G z3, PySem.W.mg_none_of X G z4, PySem.W.mg_none_of X G z5, PySem.W.mg_none_of X G z6, PySem.W.mg_none_of X G z7, PySem.W.mg_none_of X G z8, PySem.W.mg_none_of X G z9, PySem.W.mg_none_of X G z10, PySem.W.mg_none_of X G z11, PySem.W.mg_none_of X G z12, PySem.W.mg_none_of X G z13, PySem.W.mg_none_of X G z14, PySem.W.mg_none_of X G z15, PySem.W.mg_none_of X G z16, PySem.W.mg_none_of X G z17, PySem.W.mg_none_of X G z18, PySem.W.mg_none_of X G z19⟩
  have Z : Xt K mg := ⟨(by rw [cc3, cc1]; exact X_k_NoText)⟩
  exact ⟨PySem.W.fnOf "law" "law" (defArgs s_law) (defBody s_law) (defScope s_law) .none kV48 dc48 pm48 an48 cd48 ct48, fun s v => .of_eq rfl, fun base _ _ => ok_law T Z F48⟩
end Zk12
open PySem PySem.W PyProof.Rows
set_option maxRecDepth 100000 in
set_option maxHeartbeats 0 in
theorem PySem.Challenge.cw_undername_k12_sets_of_names_built_holds : PySem.Challenge.rw_undername_k12_sets_of_names_built.Holds := by
  w_on; o_law; k_head; (case hw => w_witness2)
  k_fill
  refine Un.walk_ofG (l := PySem.Challenge.rw_undername_k12_sets_of_names_built) (n := 63) (k := 12) (x := "_law_script") (sp := fun w => Zk12.spLaw _) rfl (by decide) rfl ⟨rfl, by decide, by decide⟩ (fun w h Y => PySem.W.kIn_of Y) ?F (fun _ _ a ns hl _ hS => ⟨a, ns, rfl, hS, hl, fun _ => rfl⟩)
  case F =>
    intro w mg fa h KX G hmg
    refine' Zk12.all_mk KX G hmg ?g1 ?x1 ?o1 ?e1 ?g2 ?x2 ?o2 ?e2 ?g3 ?x3 ?o3 ?n3 ?i3 ?t3 ?li3 ?ci3 ?ki3 ?g4 ?x4 ?o4 ?n4 ?i4 ?t4 ?li4 ?ci4 ?ki4 ?a1 ?l1 ?c1 ?k1 ?a2 ?l2 ?c2 ?k2 ?a3 ?l3 ?c3 ?k3 ?a4 ?l4 ?c4 ?k4 ?a5 ?l5 ?c5 ?k5 ?a6 ?l6 ?c6 ?k6 ?a7 ?l7 ?c7 ?k7 ?a8 ?l8 ?c8 ?k8 ?a9 ?l9 ?c9 ?k9 ?a10 ?l10 ?c10 ?k10 ?a11 ?l11 ?c11 ?k11 ?a12 ?l12 ?c12 ?k12 ?a13 ?l13 ?c13 ?k13 ?a14 ?l14 ?c14 ?k14 ?a15 ?l15 ?c15 ?k15 ?a16 ?l16 ?c16 ?k16 ?a17 ?l17 ?c17 ?k17 ?a18 ?l18 ?c18 ?k18 ?a19 ?l19 ?c19 ?k19 ?a20 ?l20 ?c20 ?k20 ?a21 ?l21 ?c21 ?k21 ?a22 ?l22 ?c22 ?k22 ?a23 ?l23 ?c23 ?k23 ?a24 ?l24 ?c24 ?k24 ?a25 ?l25 ?c25 ?k25 ?a26 ?l26 ?c26 ?k26 ?a27 ?l27 ?c27 ?k27 ?a28 ?l28 ?c28 ?k28 ?a29 ?l29 ?c29 ?k29 ?a30 ?l30 ?c30 ?k30 ?a31 ?l31 ?c31 ?k31 ?a32 ?l32 ?c32 ?k32 ?a33 ?l33 ?c33 ?k33 ?a34 ?l34 ?c34 ?k34 ?a35 ?l35 ?c35 ?k35 ?a36 ?l36 ?c36 ?k36 ?a37 ?l37 ?c37 ?k37 ?a38 ?l38 ?c38 ?k38 ?a39 ?l39 ?c39 ?k39 ?a40 ?l40 ?c40 ?k40 ?a41 ?l41 ?c41 ?k41 ?a42 ?l42 ?c42 ?k42 ?a43 ?l43 ?c43 ?k43 ?a44 ?l44 ?c44 ?k44 ?a45 ?l45 ?c45 ?k45 ?a46 ?l46 ?c46 ?k46 ?a47 ?l47 ?c47 ?k47 ?a48 ?l48 ?c48 ?k48 ?X_k_NoText ?z1 ?z2 ?z3 ?z4 ?z5 ?z6 ?z7 ?z8 ?z9 ?z10 ?z11 ?z12 ?z13 ?z14 ?z15 ?z16 ?z17 ?z18 ?z19 ?og1 ?op1 ?oh1 ?oo1 ?os1 ?oq1 ?oi1 ?on1 ?or1 ?om1 ?ok1 ?of1_letters ?of1_table ?cr1 ?ma1 ?mi1 ?mn1 ?ml1 ?mc1 ?mk1 ?ma2 ?mi2 ?mn2 ?ml2 ?mc2 ?mk2 ?ma3 ?mi3 ?mn3 ?ml3 ?mc3 ?mk3 ?ma4 ?mi4 ?mn4 ?ml4 ?mc4 ?mk4 ?ma5 ?mi5 ?mn5 ?ml5 ?mc5 ?mk5 ?ma6 ?mi6 ?mn6 ?ml6 ?mc6 ?mk6 ?mt6 ?ma7 ?mi7 ?mn7 ?ml7 ?mc7 ?mk7 ?ma8 ?mi8 ?mn8 ?ml8 ?mc8 ?mk8
    (case g1 => k_is); (case x1 => k_is); (case o1 => kernel_rfl); (case e1 => kernel_rfl); (case g2 => k_is); (case x2 => k_is); (case o2 => kernel_rfl); (case e2 => kernel_rfl)
    (case g3 => k_is); (case x3 => k_is); (case o3 => kernel_rfl); (case n3 => k_is); (case i3 => k_is); (case t3 => k_is); (case li3 => k_is); (case ci3 => k_is)
    (case ki3 => k_is); (case g4 => k_is); (case x4 => k_is); (case o4 => kernel_rfl); (case n4 => k_is); (case i4 => k_is); (case t4 => k_is); (case li4 => k_is)
    (case ci4 => k_is); (case ki4 => k_is); (case a1 => k_is); (case l1 => k_is); (case c1 => k_is); (case k1 => k_is); (case a2 => k_is); (case l2 => k_is)
    (case c2 => k_is); (case k2 => k_is); (case a3 => k_is); (case l3 => k_is); (case c3 => k_is); (case k3 => k_is); (case a4 => k_is); (case l4 => k_is)
    (case c4 => k_is); (case k4 => k_is); (case a5 => k_is); (case l5 => k_is); (case c5 => k_is); (case k5 => k_is); (case a6 => k_is); (case l6 => k_is)
    (case c6 => k_is); (case k6 => k_is); (case a7 => k_is); (case l7 => k_is); (case c7 => k_is); (case k7 => k_is); (case a8 => k_is); (case l8 => k_is)
    (case c8 => k_is); (case k8 => k_is); (case a9 => k_is); (case l9 => k_is); (case c9 => k_is); (case k9 => k_is); (case a10 => k_is); (case l10 => k_is)
    (case c10 => k_is); (case k10 => k_is); (case a11 => k_is); (case l11 => k_is); (case c11 => k_is); (case k11 => k_is); (case a12 => k_is); (case l12 => k_is)
    (case c12 => k_is); (case k12 => k_is); (case a13 => k_is); (case l13 => k_is); (case c13 => k_is); (case k13 => k_is); (case a14 => k_is); (case l14 => k_is)
    (case c14 => k_is); (case k14 => k_is); (case a15 => k_is); (case l15 => k_is); (case c15 => k_is); (case k15 => k_is); (case a16 => k_is); (case l16 => k_is)
    (case c16 => k_is); (case k16 => k_is); (case a17 => k_is); (case l17 => k_is); (case c17 => k_is); (case k17 => k_is); (case a18 => k_is); (case l18 => k_is)
    (case c18 => k_is); (case k18 => k_is); (case a19 => k_is); (case l19 => k_is); (case c19 => k_is); (case k19 => k_is); (case a20 => k_is); (case l20 => k_is)
    (case c20 => k_is); (case k20 => k_is); (case a21 => k_is); (case l21 => k_is); (case c21 => k_is); (case k21 => k_is); (case a22 => k_is); (case l22 => k_is)
    (case c22 => k_is); (case k22 => k_is); (case a23 => k_is); (case l23 => k_is); (case c23 => k_is); (case k23 => k_is); (case a24 => k_is); (case l24 => k_is)
    (case c24 => k_is); (case k24 => k_is); (case a25 => k_is); (case l25 => k_is); (case c25 => k_is); (case k25 => k_is); (case a26 => k_is); (case l26 => k_is)
    (case c26 => k_is); (case k26 => k_is); (case a27 => k_is); (case l27 => k_is); (case c27 => k_is); (case k27 => k_is); (case a28 => k_is); (case l28 => k_is)
    (case c28 => k_is); (case k28 => k_is); (case a29 => k_is); (case l29 => k_is); (case c29 => k_is); (case k29 => k_is); (case a30 => k_is); (case l30 => k_is)
    (case c30 => k_is); (case k30 => k_is); (case a31 => k_is); (case l31 => k_is); (case c31 => k_is); (case k31 => k_is); (case a32 => k_is); (case l32 => k_is)
    (case c32 => k_is); (case k32 => k_is); (case a33 => k_is); (case l33 => k_is); (case c33 => k_is); (case k33 => k_is); (case a34 => k_is); (case l34 => k_is)
    (case c34 => k_is); (case k34 => k_is); (case a35 => k_is); (case l35 => k_is); (case c35 => k_is); (case k35 => k_is); (case a36 => k_is); (case l36 => k_is)
    (case c36 => k_is); (case k36 => k_is); (case a37 => k_is); (case l37 => k_is); (case c37 => k_is); (case k37 => k_is); (case a38 => k_is); (case l38 => k_is)
    (case c38 => k_is); (case k38 => k_is); (case a39 => k_is); (case l39 => k_is); (case c39 => k_is); (case k39 => k_is); (case a40 => k_is); (case l40 => k_is)
    (case c40 => k_is); (case k40 => k_is); (case a41 => k_is); (case l41 => k_is); (case c41 => k_is); (case k41 => k_is); (case a42 => k_is); (case l42 => k_is)
    (case c42 => k_is); (case k42 => k_is); (case a43 => k_is); (case l43 => k_is); (case c43 => k_is); (case k43 => k_is); (case a44 => k_is); (case l44 => k_is)
    (case c44 => k_is); (case k44 => k_is); (case a45 => k_is); (case l45 => k_is); (case c45 => k_is); (case k45 => k_is); (case a46 => k_is); (case l46 => k_is)
    (case c46 => k_is); (case k46 => k_is); (case a47 => k_is); (case l47 => k_is); (case c47 => k_is); (case k47 => k_is); (case a48 => k_is); (case l48 => k_is)
    (case c48 => k_is); (case k48 => k_is); (case X_k_NoText => kernel_rfl); (case z1 => k_is); (case z2 => k_is); (case z3 => k_is); (case z4 => k_is); (case z5 => k_is)
    (case z6 => k_is); (case z7 => k_is); (case z8 => k_is); (case z9 => k_is); (case z10 => k_is); (case z11 => k_is); (case z12 => k_is); (case z13 => k_is)
    (case z14 => k_is); (case z15 => k_is); (case z16 => k_is); (case z17 => k_is); (case z18 => k_is); (case z19 => k_is); (case og1 => k_is); (case op1 => k_is)
    (case oh1 => k_is); (case oo1 => k_is); (case os1 => k_is); (case oq1 => kernel_rfl); (case oi1 => kernel_rfl); (case on1 => k_is); (case or1 => k_is); (case om1 => k_is)
    (case ok1 => k_is); (case of1_letters => k_is); (case of1_table => k_is); (case cr1 => kernel_rfl); (case ma1 => k_is); (case mi1 => k_is); (case mn1 => k_is); (case ml1 => k_is)
    (case mc1 => k_is); (case mk1 => k_is); (case ma2 => k_is); (case mi2 => k_is); (case mn2 => kernel_rfl); (case ml2 => k_is); (case mc2 => k_is); (case mk2 => k_is)
    (case ma3 => k_is); (case mi3 => k_is); (case mn3 => kernel_rfl); (case ml3 => k_is); (case mc3 => k_is); (case mk3 => k_is); (case ma4 => k_is); (case mi4 => k_is)
    (case mn4 => kernel_rfl); (case ml4 => k_is); (case mc4 => k_is); (case mk4 => k_is); (case ma5 => k_is); (case mi5 => k_is); (case mn5 => kernel_rfl); (case ml5 => k_is)
    (case mc5 => k_is); (case mk5 => k_is); (case ma6 => k_is); (case mi6 => k_is); (case mn6 => kernel_rfl); (case ml6 => k_is); (case mc6 => k_is); (case mk6 => k_is)
    (case mt6 => k_is); (case ma7 => k_is); (case mi7 => k_is); (case mn7 => k_is); (case ml7 => k_is); (case mc7 => k_is); (case mk7 => k_is); (case ma8 => k_is)
    (case mi8 => k_is); (case mn8 => k_is); (case ml8 => k_is); (case mc8 => k_is); (case mk8 => k_is)
