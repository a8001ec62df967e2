import PyProof.Rows.All
import Wide.All
import OpenK.AllK
import Wide.FinOn
import PyProof.EqAt
import PyProof.EqKinds
import PyProof.TupleCall
import PyProof.DictTable
import HandS.Base
import HandS.Call
import HandS.List
import HandS.Ends
import HandS.Dict
import HandS.More
import HandS.Exc
import HandS.ExcOwn
import HandS.ExcValue
import HandS.ExcIs
import HandS.ExcField
import HandS.ExcInit
import HandS.IsInst
import HandS.ForMost
import HandS.ForExc
import HandS.Style
import HandS.Flow
import HandS.Evl
import HandS.RaiseMore
import HandS.StrMore
import HandS.Replace
import HandS.WideBits
import HandS.TupAny
import PyProof.ListStr
import PyProof.StrBlock2
import KE.GoesZip
import KE.GoesMore
import HandS.Zip
import PyProof.ReprRoads
import HandS.EndBits
import HandS.WordsExc
import HandS.TryOnly
import PyProof.NeKinds
import KE.KExcInit
import HandS.Walk
import HandS.Conv
import KE.GoesEnum
import HandS.Deep
import HandS.TupMul
import HandS.OwnEq
import HandS.TryMany
import HandS.Defaults
import PyProof.Rows.SortShellAny
import HandS.ListItems
import HandS.MakeKwOnly
import HandS.DictComp
import PyProof.ReprLen
import PyProof.InstNe
import KE.KLam
import KE.KNestM
import HandS.Lambda
import HandS.EndTab
import PyProof.ToksMono
import HandS.Comp
import HandS.SortKw
import KE.SortKeyHeap
import OpenK.ZHead
import PyProof.SliceStr2
import PyProof.SliceStr
import HandS.TupLe
import HandS.ClsMeth
import HandS.Text
import PyProof.Rows.Range3
import KE.KOpsOwn
import KE.KCallOwn
import PyProof.Rows.StrInSeq
import PyProof.Rows.StrCountLaw
import PySem.Challenge.RW_undername_k10_made_texts
set_option Elab.async false
set_option linter.all false
set_option maxRecDepth 100000
set_option maxHeartbeats 4000000
/-! UnX: own exceptions as values (over any base), made with and without an own __init__, their fields read, isinstance of them. -/
namespace PySem
namespace OXX
open PySem.W PySem.Calls PyProof.Rows PySem.HandSPX
open Builtin Builtin.ObjectAttr
section
variable {M : Model} {A : Around} {E : Value → Shared → Prop} {h : Heap} {g : Array GenState} {d : Drawn} {t : Nat} {os : OsState}
variable {nm q : Str} {C N : Addr} {bs bm bmB : List Value} {hdct : Bool} {sn : List Str} {sub : List Value} {ab : Bool} {col : Option Bool} {dd : Option Addr} {k0 k1 k2 k3 k5 : Option Value} {B newId initId : String}
/-- what the classes behind an own class must hold -/
structure Beh (B : String) (bm : List Value) : Prop where
  b : bm.contains (.type B) = true
  na : bm.contains (.type "AttributeError") = false
  nn : bm.contains (.type "NameError") = false
  ob : bm.contains (.type "object") = true
theorem check_new_x (F : ExcBaseFacts B newId initId bmB) (hT : Beh B bm) {rest : List Value} {Q : Unit → Shared → Prop}
    (hC : h.get? C = some (excClassObj nm q C N bs bm hdct sn sub ab col dd k0 k1 k2 k3 k5 newId)) (hq : Q () ⟨h, g, d, t, os⟩) : wpAny M A (checkBuiltinCall newId ⟨.ref C :: rest, []⟩) Q E ⟨h, g, d, t, os⟩ := by
  have hcont : (Value.ref C :: bm).contains (.type B) = true := by rw [List.contains_cons, hT.b, Bool.or_true]
  have hstar := F.noStar
  simp only [checkBuiltinCall, F.newKind, F.newSplit, F.newRow]
  repeat (first | refine wpAny_loadPart_at hC ?_ | (refine wpAny_isSubtype_exc hC ?_; rw [hcont]) | refine wpAny_staticBase_exc hC ?_ | refine wpAny_madeBy_exc hC ?_ | simp only [bne_self_eq_false, Bool.false_eq_true, if_false] | wp_step)
  exact hq
end
section
variable {prog : Program} {w : World} {A : Around} {E : Value → Shared → Prop} {R : Result → Shared → Prop} {h : Heap} {g : Array GenState} {d : Drawn} {t : Nat} {os : OsState}
variable {nm q : Str} {C N : Addr} {bs bm bmB : List Value} {hdct : Bool} {sn : List Str} {sub : List Value} {ab : Bool} {col : Option Bool} {dd : Option Addr} {k0 k1 k2 k3 k5 : Option Value} {B newId initId : String}
theorem new_x (F : ExcBaseFacts B newId initId bmB) (hT : Beh B bm) {rest : List Value}
    (hC : h.get? C = some (excClassObj nm q C N bs bm hdct sn sub ab col dd k0 k1 k2 k3 k5 newId))
    (hq : R (.ok (.ret (.ref (h.objs.size + 1)))) ⟨(h.push { cls := .type "tuple", data := .seq rest.toArray }).push
      { cls := .ref C, data := .fields #[.ref h.objs.size, .none, .none, .none, .bool false, .none] }, g, d, t, os⟩) (hrest : rest.length ≤ sizeLine) :
    codeAny (model prog w) A (.builtin newId ⟨.ref C :: rest, []⟩) R ⟨h, g, d, t, os⟩ := by
  have hends := F.ends
  have hcB : (Value.ref C :: bm).contains (.type B) = true := by rw [List.contains_cons, hT.b, Bool.or_true]
  have hcA : (Value.ref C :: bm).contains (.type "AttributeError") = false := by rw [List.contains_cons, hT.na]; rfl
  have hcN : (Value.ref C :: bm).contains (.type "NameError") = false := by rw [List.contains_cons, hT.nn]; rfl
  refine codeAny_builtinAt F.entry ?_
  unfold Builtin.«BaseException.__new__»
  refine wpAt_bind ?_
  show wpAt _ _ _ (stack >>= _) _ _ _
  refine wpAt_bind (wpAt_stack fun p below => wpAt_of_wpAny ?_)
  wp_walk
  refine wpAt_of_wpAny ?_
  rw [F.owner]
  repeat (first | with_reducible refine wpAny_madeHere_exc F.canon hC ?_ | with_reducible refine wpAny_loadPart_at hC ?_ | (with_reducible refine wpAny_isSubtype_exc hC ?_; first | rw [hcB] | rw [hcA] | rw [hcN]) | wp_step)
  show R _ _
  rw [Heap.size_push]
  exact hq
theorem type_call_x (F : ExcBaseFacts B newId initId bmB) (hT : Beh B bm) {rest : List Value} {fI : Addr} {Q : Fin → Shared → Prop}
    (hC : h.get? C = some (excClassObj nm q C N bs bm hdct sn sub ab col dd k0 k1 k2 k3 k5 newId))
    (hi : W.Looks (model prog w) h (typeLookup (.ref C) "__init__") (some (.ref fI))) (hb : ∀ self, W.Looks (model prog w) h (bindSpecial (.ref fI) self) (.ref fI, [self])) (hrest : rest.length ≤ sizeLine)
    (hq : codeAny (model prog w) A (.call (.ref fI) ⟨.ref (h.objs.size + 1) :: rest, []⟩)
      (fun r s' => match r with | .ok (.ret v) => v = .none ∧ Q (.done (.ret (.ref (h.objs.size + 1)))) s' | .ok _ => False | .error e => E e s')
      ⟨(h.push (W.kdv_tup rest)).push (excO C h.objs.size), g, d, t, os⟩) :
    wpAny (model prog w) A (Builtin.«type.__call__» ⟨.ref C :: rest, []⟩) Q E ⟨h, g, d, t, os⟩ := by
  repeat (first | with_reducible refine wpAny_loadPart_at hC ?_ | with_reducible refine wpAny_madeBy_exc hC ?_ | wp_step)
  refine codeAny_call_builtin_code (Code.quiet_builtin _ F.quiet) (check_new_x F hT hC ?_)
  refine new_x F hT hC ?_ hrest
  show wpAny _ _ _ _ _ _
  have k : ∀ b o, h.get? b = some o → ((h.push (W.kdv_tup rest)).push (excO C h.objs.size)).get? b = some o := fun b o e => Heap.get?_push_of_some _ (Heap.get?_push_of_some _ e)
  have hC₁ := k _ _ hC
  have hget : ((h.push (W.kdv_tup rest)).push (excO C h.objs.size)).get? (h.objs.size + 1) = some (excO C h.objs.size) := by heap_get
  have hcC : (Value.ref C :: bm).contains (.ref C) = true := by simp
  have i1 := hi.keeps k
  have b1 := (hb (.ref (h.objs.size + 1))).keeps k
  unfold isInstance
  repeat (first | with_reducible refine wpAny_loadPart_at hget ?_ | (with_reducible refine wpAny_isSubtype_exc hC₁ ?_; rw [hcC]) | wp_step)
  show wpAny _ _ (typeLookup (.ref C) _) _ _ _
  refine i1.at ?_
  refine wpAny_holding (wpAny_bind (b1.at ?_))
  refine wpAny_bind (wpAny_call (codeAny_mono hq fun r s' z => ?_))
  rcases r with e | (v | _ | _ | _) <;> first | exact z | exact z.elim | skip
  obtain ⟨rfl, z⟩ := z
  first
    | exact wpAny_pure (wpAny_pure z)
    | (wp_walk; exact z)
theorem call_x (F : ExcBaseFacts B newId initId bmB) (hT : Beh B bm) {rest : List Value} {fI : Addr}
    (hC : h.get? C = some (excClassObj nm q C N bs bm hdct sn sub ab col dd k0 k1 k2 k3 k5 newId))
    (hi : W.Looks (model prog w) h (typeLookup (.ref C) "__init__") (some (.ref fI))) (hb : ∀ self, W.Looks (model prog w) h (bindSpecial (.ref fI) self) (.ref fI, [self])) (hrest : rest.length ≤ sizeLine)
    (hq : codeAny (model prog w) (A.under (.builtin "type.__call__" ⟨.ref C :: rest, []⟩)) (.call (.ref fI) ⟨.ref (h.objs.size + 1) :: rest, []⟩) (W.InitBack (h.objs.size + 1) R)
      ⟨(h.push (W.kdv_tup rest)).push (excO C h.objs.size), g, d, t, os⟩) :
    codeAny (model prog w) A (.call (.ref C) ⟨rest, []⟩) R ⟨h, g, d, t, os⟩ := by
  have f1 := tc_lookup
  have f2 := tc_bind (.ref C)
  have hTy : (⟨h, g, d, t, os⟩ : Shared).TypeIs (.ref C) "type" := ⟨_, hC, rfl⟩
  refine codeAny_of_tree ?_
  show wpAny _ _ (callAny (.ref C) _) _ _ _
  repeat (any_goals (first | assumption | with_reducible refine wpAny_loadPart_at hC ?_ | wp_step))
  refine ⟨rfl, ?_⟩
  refine codeAny_call_builtin_at (Code.quiet_builtin _ (by decide +kernel)) entry_typeCall (wpAny_check_type_call_sub hC (type_call_x F hT hC hi hb hrest ?_))
  refine codeAny_mono hq fun r s' z => ?_
  rcases r with e | (v | _ | _ | _) <;> exact z
end
section
variable {prog : Program} {w : World} {A : Around} {R : Result → Shared → Prop} {hp : Heap} {g : Array GenState} {d : Drawn} {t : Nat} {os : OsState}
theorem osa_x {K : W.Frag} {name : Str} {tk : Tok} {v : Value} {x C : Addr} {fv : Array Value} {cd : ClassData}
    (X : K.In hp) (hx : hp.get? x = some { cls := .ref C, data := .fields fv }) (hcd : W.clsIn K C = some cd) (hne : cd.mro.isEmpty = false) (hob : cd.mro.contains (.type "object") = true) (hps : refuseLoop (.ref x) "__setattr__" cd.mro = pure ()) (hh : cd.hasDict = true) (ha : W.findIn K (.ref C) name = some none)
    (hq : ∀ h' tk' dx, (∀ b o, b ≠ x → hp.get? b = some o → h'.get? b = some o) → hp.objs.size ≤ dx → dx ≠ x → h'.get? x = some { cls := .ref C, dict := some dx, data := .fields fv } →
      h'.Ns1 dx (fun y => if y = name then some v else none) → R (.ok (.ret .none)) ⟨h', g, d, tk', os⟩) :
    codeAny (model prog w) A (.call (.builtin "object.__setattr__") ⟨[.ref x, .str name tk, v], []⟩) R ⟨hp, g, d, t, os⟩ := by
  have I : W.InstAt hp x { cls := .ref C, data := .fields fv } C none := ⟨hx, rfl, rfl, trivial⟩
  have SF := F.store_object
  have hxs : x ≠ hp.objs.size := Nat.ne_of_lt (Heap.lt_size hx)
  have sub : W.Looks (model prog w) hp (isInstance (.ref x) (.type "object")) true := I.type.andThen (W.looks_mroIn X (by unfold W.mroIn; rw [hcd, Option.bind_some, if_neg (by rw [hne]; decide), hob]))
  refine codeAny_call_builtin SF.slot.plain SF.entry (@W.check_slot (model prog w) _ _ ⟨hp, g, d, t, os⟩ "object.__setattr__" "object" "__setattr__" (.ref x) [.str name tk, v] [] _ SF.kind SF.split sub (SF.args (.ref x) (.str name tk) v) ?_)
  have hmr : W.Looks (model prog w) hp (mroOf (.ref C)) cd.mro := (W.looks_clsIn X hcd).andThen .now
  have L3 : W.Looks (model prog w) hp (storeTaker? none) none := .now
  have hcls : W.Looks (model prog w) hp (classData C) cd := W.looks_clsIn X hcd
  rw [W.osa_eq, refuse_eq]
  refine wpAny_bind (wpAny_bind (I.type.at (wpAny_bind (hmr.at ?_))))
  rw [hps]
  refine wpAny_pure (wpAny_bind (I.type.at (wpAny_bind ((W.looks_findIn X ha).at (wpAny_bind (L3.at ?_))))))
  show wpAny _ _ (storeInOwnDict (.ref x) (.ref C) (.str name tk) name v false) _ _ _
  obtain ⟨nm, bs, mro, ns, qn, hd, sn, sb, ab, col, del⟩ := cd
  dsimp only at hh
  subst hh
  unfold storeInOwnDict ownDictForStores
  repeat (first | with_reducible refine store_in_new ?_ ?_ | with_reducible refine wpAny_loadPart_at hx ?_ | with_reducible refine hcls.at ?_ | wp_step)
  · exact ⟨_, #[], _, (Heap.get?_update_ne _ _ _ _ hxs.symm).trans (Heap.get?_push_at rfl rfl), rfl, fun e he => absurd he (by simp), fun _ => rfl⟩
  · intro h' tk' hn' hs
    have hx₁ : (hp.push { cls := .type "dict", data := .dict #[] }).get? x = some { cls := .ref C, data := .fields fv } := Heap.get?_push_of_some _ hx
    refine hq h' tk' hp.objs.size (fun b o hb ho => ?_) (Nat.le_refl _) hxs.symm ?_ hn'
    · exact (hs.2 b (Nat.ne_of_lt (Heap.lt_size ho))).trans ((Heap.get?_update_ne _ _ _ _ hb).trans (Heap.get?_push_of_some _ ho))
    · exact (hs.2 x hxs).trans (Heap.get?_update_self _ hx₁ rfl)
end
end OXX
end PySem
namespace PySem.W
open PySem PySem.Spec PySem.Calls PyProof.Rows
section
variable {prog : Program} {w : World} {A : Around} {E : Value → Shared → Prop} {s : Shared} {K : Frag} {x D : Addr} {ox : Obj} {od : Option Obj}
theorem findObj_dataD {C : Addr} {name : Str} {a g : Value} (hc : (clsIn K C).isSome = true) (ha : findIn K (.ref C) name = some (some a)) (hg : specialIn K a "__get__" = some (some g)) (ht : takesIn K a = some true) : findObj K C od name = some (.bind g a) := by
  obtain ⟨cd, hc⟩ := Option.isSome_iff_exists.mp hc
  unfold findObj
  rw [hc, Option.bind_some, ha, Option.bind_some]
  simp [hg, ht]
theorem kin_classD {Q : Option Value → Shared → Prop} (hga : findIn K (.ref D) "__getattribute__" = some (some (.builtin "BaseException.__getattribute__"))) (hgt : findIn K (.ref D) "__getattr__" = some none) (hsub : subIn K (.ref D) (.type "BaseException") = some true)
    (hdct : hasDictIn K D = true) (ha : findIn K (.ref D) "__class__" = some (some (.builtin "object.__class__")))
    (hn : specialIn K (.builtin "object.__class__") "__get__" = some (some (.builtin "getset_descriptor.__get__"))) (htk : takesIn K (.builtin "object.__class__") = some true) (hm : mroIn K D (.type "object") = some true)
    (X : K.In s.heap) (I : InstAt s.heap x ox D od) (h : Q (some (.ref D)) { s with toks := s.toks + 1 }) : wpAny (model prog w) A (getAttr? (.ref x) "__class__") Q E s := by
  have hf : findObj K D od "__class__" = some (.bind (.builtin "getset_descriptor.__get__") (.builtin "object.__class__")) := findObj_dataD (by obtain ⟨cd, hc, _⟩ := any_some hdct; rw [hc]; rfl) ha hn htk
  obtain ⟨hp, g, d, t, os⟩ := s
  have L0 := I.type (M := model prog w)
  have L1 := looks_findIn (M := model prog w) X hga
  have L2 := looks_findIn (M := model prog w) X hgt
  have L3 := looks_find (M := model prog w) X I hf
  have sub : Looks (model prog w) hp (isInstance (.ref x) (.type "BaseException")) true := L0.andThen (looks_subIn X hsub)
  have hx0 : (false && onTheHeap (Value.builtin "BaseException.__getattribute__")) = false := rfl
  have hx2 : (Value.builtin "BaseException.__getattribute__" == Value.builtin "object.__getattribute__") = false := by decide +kernel
  have hx1 : (onTheHeap (Value.ref D) && Value.builtin "BaseException.__getattribute__" == Value.builtin "object.__getattribute__") = false := by rw [hx2]; rfl
  unfold getAttr? getAttrBy? getAttrBy
  refine wpAny_bind (wpAny_mkText (wpAny_bind (wpAny_attempt (wpAny_holding (wpAny_bind (L0.at (wpAny_bind (L1.at ?_))))))))
  show wpAny _ _ (if (onTheHeap (Value.ref D) && Value.builtin "BaseException.__getattribute__" == Value.builtin "object.__getattribute__") = true then _ else _) _ _ _
  rw [hx1, if_neg Bool.false_ne_true]
  unfold getAttrByItsOwn hookBefore
  refine wpAny_bind ?_
  rw [if_pos (show onTheHeap (Value.ref D) = true from rfl)]
  refine L2.at ?_
  refine wpAny_bind (wpAny_attempt (wpAny_holding ?_))
  unfold callGetattribute
  rw [hx0, if_neg Bool.false_ne_true]
  unfold boundAndCalled
  rw [PySem.F.excAttr_ValueError.ga.bind (.ref x)]
  refine wpAny_bind (wpAny_pure ?_)
  show wpAny _ _ (call (.builtin "BaseException.__getattribute__") [.ref x, .str "__class__" t]) _ _ _
  refine wpAny_call (codeAny_call_builtin PySem.F.excAttr_ValueError.ga.plain PySem.F.entry_bexc_ga ?_)
  refine @check_slot (model prog w) _ _ ⟨hp, g, d, t + 1, os⟩ "BaseException.__getattribute__" "BaseException" "__getattribute__" (.ref x) [.str "__class__" t] [] _ (by decide +kernel) (by decide +kernel) sub (PySem.F.args_bexc_ga (.ref x) (.str "__class__" t)) ?_
  unfold Builtin.«object.__getattribute__»
  refine wpAny_bind (wpAny_of_eq (a := ((Value.ref x : Value), [Value.str "__class__" t])) (by first | rfl | (simp only [slotArgs]; rfl)) ?_)
  refine wpAny_bind (wpAny_pure (wpAny_bind (L0.at (wpAny_bind (L3.at ?_)))))
  show wpAny _ _ (holding [Value.builtin "object.__class__"] (call (.builtin "getset_descriptor.__get__") [.builtin "object.__class__", .ref x, .ref D]) >>= ret) _ _ _
  refine wpAny_bind (wpAny_holding (wpAny_call (class_get (s := ⟨hp, g, d, t + 1, os⟩) (ox := ox) (od := od) X I hm ?_)))
  refine wpAny_pure ?_
  show wpAny _ _ (handedOut (.ref D)) _ _ _
  rw [handedOut_of (v := .ref D) rfl]
  first
    | exact wpAny_pure (wpAny_pure h)
    | exact wpAny_pure h
    | exact wpAny_pure (wpAny_bind (wpAny_pure (wpAny_pure h)))
theorem kitx_excD (hga : findIn K (.ref D) "__getattribute__" = some (some (.builtin "BaseException.__getattribute__"))) (hgt : findIn K (.ref D) "__getattr__" = some none) (hsub : subIn K (.ref D) (.type "BaseException") = some true) (hdct : hasDictIn K D = true) (ha : findIn K (.ref D) "__class__" = some (some (.builtin "object.__class__")))
    (hn : specialIn K (.builtin "object.__class__") "__get__" = some (some (.builtin "getset_descriptor.__get__"))) (htk : takesIn K (.builtin "object.__class__") = some true) (hm : mroIn K D (.type "object") = some true) :
    KitX K (.ref x) (.ref D) (fun h => InstAt h x ox D od) where
  ty := fun _ _ _ I => I.type
  it := fun _ _ X _ => by
    obtain ⟨cdD, hcD, _⟩ := any_some hdct
    unfold clsIn at hcD
    split at hcD
    · rename_i c' d' cd' sl' ho
      intro A' Q' E' s' k q
      unfold isType loadHead
      exact wpAny_bind (wpAny_loadPart (k _ _ (X _ _ ho)) (wpAny_pure q))
    · cases hcD
  ne := fun h tp dd its n sl X htp => by
    obtain ⟨cdD, hcD, _⟩ := any_some hdct
    refine Bool.eq_false_iff.mpr fun q => ?_
    have e : D = tp := Value.ref.inj (beq_iff_eq.mp q)
    subst e
    unfold clsIn at hcD
    split at hcD
    · rename_i c' d' cd' sl' ho
      have z := (X _ _ ho).symm.trans htp
      cases z
    · cases hcD
  ca := fun X I k => kin_classD hga hgt hsub hdct ha hn htk hm X I k
end
end PySem.W
namespace L2
open PySem PySem.Spec PyProof.Rows
/-- an own exception class, over whatever base -/
structure OxC (K : PySem.W.Frag) (C : Addr) : Prop where
  cls : ∃ nm q N bs bm sn sub ab col dd k0 k1 k2 k3 k5 B newId initId bmB, K.lookup C = some (excClassObj nm q C N bs bm true sn sub ab col dd k0 k1 k2 k3 k5 newId) ∧ ExcBaseFacts B newId initId bmB ∧ PySem.OXX.Beh B bm ∧ ∀ self, refuseLoop self "__setattr__" (.ref C :: bm) = pure ()
  sa : PySem.W.findIn K (.ref C) "__setattr__" = some (some (.builtin "object.__setattr__"))
  kC : PySem.W.keepIn K (.ref C) = true
  xf : XfC K C
  is : ExcC K C
  ty : PySem.W.typeIn K (.ref C) = some (.type "type")
  ex : PySem.W.exmOne K (.ref C) (.ref C) = some true
section
variable {X : Cx} {pins : List (Addr × Obj)} {σ : St} {H : Hp} {s : Shared} {a C dx : Addr} {f : Str} {y : V} {u : Value} {fs : List (Str × V)} {Q : Unit → Shared → Prop} {E : Value → Shared → Prop} {A : Around}
/-- self.f = y, the first one -/
theorem oxt_new (T : OxC X.K C) (I : Inv X pins σ H s) (e : H a = some (exo a C none)) (hno : PySem.W.findIn X.K (.ref C) f = some none) (ry : RelV y u)
    (h : ∀ dx s', H dx = none → dx ≠ a → Inv X pins σ (upd (upd H dx (exd dx [(f, y)])) a (exo a C (some dx))) s' → Q () s') : wpAny (model X.prog X.w) A (setAttr (.ref a) f u) Q E s := by
  obtain ⟨nm, q, N, bs, bm, sn, sub, ab, col, dd, k0, k1, k2, k3, k5, B, newId, initId, bmB, hC, FB, BB, hps⟩ := T.cls
  have hcl : PySem.W.clsIn X.K C = some { name := nm, bases := bs, mro := .ref C :: bm, ns := N, qualname := q, hasDict := true, slotNames := sn, subclasses := sub, abstract := ab, collection := col, hasDel := false } := by unfold PySem.W.clsIn; rw [hC] <;> rfl
  obtain ⟨t1, ho⟩ := exo_at I.hok e
  obtain ⟨hp, g, d, t, os⟩ := s
  refine PySem.W.set_plain I.kIn (ox := { cls := .ref C, dict := none, data := .fields #[.ref t1, .none, .none, .none, .bool false, .none] }) (od := none) ⟨ho, rfl, rfl, trivial⟩ T.sa ?_
  refine PySem.OXX.osa_x I.kIn ho hcl rfl (show (Value.ref C :: bm).contains (.type "object") = true by rw [List.contains_cons, BB.ob, Bool.or_true]) (hps _) rfl hno (fun h' tk' dx k dn dne hx hn => ?_)
  have hnd : H dx = none := I.hok.fresh dn
  have nd : ∀ {b : Addr} {o : Obj}, hp.get? b = some o → b ≠ dx := fun {b o} q => Nat.ne_of_lt (Nat.lt_of_lt_of_le (Heap.lt_size q) dn)
  have na : ∀ {b : Addr}, H b = none → b ≠ a := fun {b} n z => by
    rw [z, e] at n
    cases n
  have Un1 : Un X.fs [] H (upd (upd H dx (exd dx [(f, y)])) a (exo a C (some dx))) hp h' := {
    keep := fun b o q n _ _ => k b o (na n) q
    slot := fun b o q n _ _ => ⟨o.slots, k b o (na n) q⟩
    free := fun b o q n _ => by rw [upd_ne (na n), upd_ne (nd q)]; exact n
    there := fun b o q _ => by
      by_cases hb : b = a
      · exact ⟨_, by rw [hb]; exact hx⟩
      · exact ⟨o, k b o hb q⟩
    tups := fun b xs q => by rw [upd_ne (at_ne e q exo_tup), upd_ne (ne_of_none q hnd)]; exact q
    frzs := fun b o v q => by rw [upd_ne (at_ne e q exo_frz), upd_ne (ne_of_none q hnd)]; exact q
    tbls := fun b ps q => ⟨#[], by rw [upd_ne (at_ne e q exo_tbl), upd_ne (ne_of_none q hnd), q]; simp⟩ }
  refine h dx _ hnd dne (I.un (t' := tk') Un1 fun b o q => ?_)
  by_cases hb : b = a
  · subst hb
    rw [upd_same] at q
    cases q
    exact exo_ok hx
  · rw [upd_ne hb] at q
    by_cases hd : b = dx
    · subst hd
      rw [upd_same] at q
      cases q
      exact exd_ok hn (relO_put (fs := []) ry fun g => True.intro)
    · rw [upd_ne hd] at q
      exact (I.hok b o q).stay (fun c v hc z => k c v (by
          rcases hc with hc | hc
          · rw [hc]
            exact hb
          · exact at_ne e hc exo_own) z)
        (fun c hc => by rw [upd_ne (at_ne e hc exo_own), upd_ne (ne_of_none hc hnd)]; exact hc) (fun c xs hc => by rw [upd_ne (at_ne e hc exo_tup), upd_ne (ne_of_none hc hnd)]; exact hc)
end
/-- self.f = e, the first one -/
def tOxt (K : PySem.W.Frag) (f : Str) (to te : TE) : TS := fun D σ H => te σ H fun y H1 => to σ H1 fun x H2 => ∃ a C : Addr, x = .ref a ∧ OxC K C ∧ PySem.W.findIn K (.ref C) f = some none ∧
  (H2 a = some (exo a C none) ∧ ∀ dx, H2 dx = none → dx ≠ a → D.nx σ (upd (upd H2 dx (exd dx [(f, y)])) a (exo a C (some dx))))
/-- the promise of such an __init__: one field -/
def SpXI (K : PySem.W.Frag) (f : Str) : Sp := fun vs H Q _ => ∃ a v C, vs = [.ref a, v] ∧ OxC K C ∧ PySem.W.findIn K (.ref C) f = some none ∧ H a = some (exo a C none) ∧
  ∀ dx, H dx = none → dx ≠ a → Q .non (upd (upd H dx (exd dx [(f, v)])) a (exo a C (some dx)))
/-- C(e), C with such an __init__ -/
def tMkX (C : Addr) (f : Str) (te : TE) : TE := fun σ H Q => te σ H fun v H1 => ∀ a dx, H1 a = none → H1 dx = none → dx ≠ a → Q (.ref a) (upd (upd (upd H1 a (exo a C none)) dx (exd dx [(f, v)])) a (exo a C (some dx)))
/-- C() -/
def tMkN (C : Addr) : TE := fun _ H Q => ∀ a, H a = none → Q (.ref a) (upd H a (exo a C none))
section
variable {X : Cx} {o e : Expr} {es : List Expr} {to te : TE} {f x n : Str} {p p' pos : Pos} {C fI : Addr} {k : Nat} {fd : FuncData} {ps : List Str} {CX : CXT}
theorem ps_oxt (ho : PE X o to) (he : PE X e te) (hs : swapsWith e (some (.Attribute o f p')) pos.line X.env = pure false := by rfl) : PS X (.Assign [.Attribute o f p'] e pos) (tOxt X.K f to te) := by
  refine ⟨fun pins s σ H D I h => ?_⟩
  refine plainObj_wpAny_Assign_Attribute (thn (he.run pins s σ H _ I h) fun v s1 ⟨y, H1, I1, r1, q1⟩ => thn (ho.run pins s1 σ H1 _ I1 q1) fun u s2 ⟨x, H2, I2, r2, a, C, ex, T, hno, ea, q⟩ => ?_) hs
  subst ex
  obtain rfl : u = Value.ref a := r2
  exact oxt_new T I2 ea hno r1 fun dx s' n ne J => ⟨σ, _, J, q dx n ne⟩
theorem pe_mkN {bmB : List Value} {B newId initId : String} (F : ExcBaseFacts B newId initId bmB) (q : PySem.W.excIn X.K C bmB newId = true) (gC : X.mg x = some (.ref C)) (kC : PySem.W.keepIn X.K (.ref C) = true) (hg : Gl X x)
    (hdb : (x == ("__debug__" : Str)) = false := by decide) : PE X (.Call (.Name x p) [] [] pos) (tMkN C) := by
  refine ⟨fun pins s σ H Q I h => ?_⟩
  refine wpAny_Call_Name_kw (ld_glob I hg gC ?_ hdb)
  refine PySem.W.callWith_K0 (K := X.K) (I.tok _).kIn kC ?_
  show wpAny _ _ (call (.ref C) []) _ _ _
  obtain ⟨bm, N, nm, qn, bs, hdct, sn, sub, ab, col, dd, k0, k1, k2, k3, k5, mN, hC, hN, hni, T⟩ := exc_obj (I.tok _).kIn q
  refine wpAny_call_exc_subT F T hC hN hni (fun h' a hm => ?_) (by show 0 ≤ sizeLine; omega)
  have hn : H a = none := I.hok.gone hm.new
  obtain ⟨t, ht, _, _⟩ := hm.there
  exact ⟨.ref a, upd H a (exo a C none), I.laidN hm.keeps hm.new hn (exo_ok ht), rfl, h a hn⟩
theorem pe_mkX (T : OxC X.K C) (iC : PySem.W.findIn X.K (.ref C) "__init__" = some (some (.ref fI))) (tI : PySem.W.typeIn X.K (.ref fI) = some (.type "function")) (hno : PySem.W.findIn X.K (.ref C) f = some none)
    (F1 : FnOk X.prog X.w X.K X.mg X.base CX k fI fd ps (SpXI X.K f)) (hr : Room (k + 1) X.A) (hb : Binds X.K fd ps []) (hx : Passes CX X (fun _ _ _ => False)) (hg : Gl X x) (hm : X.mg x = some (.ref C)) (ha : PE X e te)
    (hdb : (x == ("__debug__" : Str)) = false := by decide) (he : starEach (e :: []) X.env = (false, eval e X.env) :: starEach [] X.env := by rfl) (hpl : (backTo pos (starEach [] X.env)).any (·.1) = false := by rfl) :
    PE X (.Call (.Name x p) [e] [] pos) (tMkX C f te) := by
  refine ⟨fun pins s σ H Q I h => ?_⟩
  obtain ⟨nm, q, N, bs, bm, sn, sub, ab, col, dd, k0, k1, k2, k3, k5, B, newId, initId, bmB, hC, FB, BB, hps⟩ := T.cls
  refine wpAny_Call_Name_kw (ld_glob I hg hm ?_ hdb)
  have hA : PA X [e] (tCons te tNil) := pa_cons ha pa_nil he
  refine PySem.W.callWith_K (h₀ := X.base) I.ok.mod.kin T.kC (thn (hA.run pos pins s σ H (fun vs H1 => match vs with | [v] => (∀ a dx, H1 a = none → H1 dx = none → dx ≠ a → Q (.ref a) (upd (upd (upd H1 a (exo a C none)) dx (exd dx [(f, v)])) a (exo a C (some dx)))) | _ => False) I h) fun us s1 ⟨vs, H1, I1, r1, q1⟩ => ⟨I1.kIn, ?_⟩) he hpl
  show wpAny _ _ (call (.ref C) us) _ _ _
  obtain ⟨v, rfl⟩ : ∃ v, vs = [v] := by
    rcases vs with _ | ⟨v, _ | ⟨v2, vs⟩⟩
    · exact q1.elim
    · exact ⟨v, rfl⟩
    · exact q1.elim
  replace q1 : ∀ a dx, H1 a = none → H1 dx = none → dx ≠ a → Q (.ref a) (upd (upd (upd H1 a (exo a C none)) dx (exd dx [(f, v)])) a (exo a C (some dx))) := q1
  obtain ⟨hp, g, dr, tk, os⟩ := s1
  have hsz : hp.objs.size ≤ hp.objs.size + 1 := Nat.le_succ _
  have hn : H1 (hp.objs.size + 1) = none := I1.hok.fresh hsz
  have hq : SpXI X.K f [.ref (hp.objs.size + 1), v] (upd H1 (hp.objs.size + 1) (exo (hp.objs.size + 1) C none)) (fun r H2 => r = .non ∧ Q (.ref (hp.objs.size + 1)) H2) (fun _ _ _ => False) :=
    ⟨_, v, C, rfl, T, hno, upd_same, fun dx hd hda => ⟨rfl, q1 _ dx hn (by rw [upd_ne hda] at hd; exact hd) hda⟩⟩
  have kk : ∀ b o, hp.get? b = some o → ((hp.push (PySem.W.kdv_tup us)).push (PySem.HandSPX.excO C hp.objs.size)).get? b = some o := fun b o e => Heap.get?_push_of_some _ (Heap.get?_push_of_some _ e)
  have hget : ((hp.push (PySem.W.kdv_tup us)).push (PySem.HandSPX.excO C hp.objs.size)).get? (hp.objs.size + 1) = some (PySem.HandSPX.excO C hp.objs.size) := by heap_get
  have I2 : Inv X pins σ (upd H1 (hp.objs.size + 1) (exo (hp.objs.size + 1) C none)) ⟨(hp.push (PySem.W.kdv_tup us)).push (PySem.HandSPX.excO C hp.objs.size), g, dr, tk, os⟩ :=
    I1.laid (t' := tk) (a := hp.objs.size + 1) (o := exo (hp.objs.size + 1) C none) (h' := (hp.push (PySem.W.kdv_tup us)).push (PySem.HandSPX.excO C hp.objs.size)) kk hsz (exo_ok hget)
  have r2 : Vals (V.ref (hp.objs.size + 1) :: ([v] ++ [])) (Value.ref (hp.objs.size + 1) :: (us ++ [])) := .cons rfl (r1.append .nil)
  have hl : (Value.ref (hp.objs.size + 1) :: us ++ []).length = ps.length := by
    have e := r2.length
    have e3 := F1.len _ _ _ _ hq
    simp only [List.length_cons, List.length_append, List.length_nil] at e e3 ⊢
    omega
  have hus : us.length ≤ sizeLine := by
    rw [← Paired.length r1, sizeLine_eq]
    simp
  refine wpAny_call (PySem.OXX.call_x FB BB (I1.kIn _ _ hC) (PySem.W.looks_findIn I1.kIn iC) (fun self => PySem.W.bind_fn I1.kIn self tI) hus
    (codeAny_mono (F1.run _ X.stack _ _ ⟨Value.ref (hp.objs.size + 1) :: us, []⟩ (Value.ref (hp.objs.size + 1) :: us ++ []) _ _ (fun _ _ _ => False) (hr.make C us []) (I2.env0.make C us []) (hb _ (Value.ref (hp.objs.size + 1) :: us) I2.kIn hl) r2 hq) fun r s' hq' => ?_))
  cases r with
  | error er => exact hx pins σ _ _ er s' I2 hq'
  | ok fl =>
    cases fl with
    | ret u =>
      obtain ⟨w, H2, os2, bare2, un2, hok2, rv, ev, q2⟩ := hq'
      subst ev
      exact ⟨rv, .ref (hp.objs.size + 1), H2, I2.call' (ch := []) os2 un2 hok2 bare2 (fun b z => absurd z (by simp)), rfl, q2⟩
    | next => exact False.elim hq'
    | brk => exact False.elim hq'
    | cont => exact False.elim hq'
/-- err.f -/
def tXfl (K : PySem.W.Frag) (n : Str) (te : TE) : TE := fun σ H Q => te σ H fun x H1 => ∃ (a C d : Addr) (fs : List (Str × V)) (v : V), x = .ref a ∧ XfC K C ∧ PySem.W.findIn K (.ref C) n = some none ∧ H1 a = some (exo a C (some d)) ∧ H1 d = some (exd d fs) ∧ fs.lookup n = some v ∧ Q v H1
theorem pe_xfl (he : PE X e te) (hb : attributeBase e n X.env (eval e X.env) = eval e X.env := by rfl) : PE X (.Attribute e n pos) (tXfl X.K n te) := by
  refine ⟨fun pins s σ H Q I h => ?_⟩
  refine attr_of hb (thn (he.run pins s σ H _ I h) fun u s1 hh => ?_)
  obtain ⟨x, H1, I1, rx, a, C, d, fs, v, ex, T, hno, ea, ed, l, q⟩ := hh
  subst ex
  obtain rfl : u = Value.ref a := rx
  obtain ⟨t1, ho⟩ := exo_at I1.hok ea
  obtain ⟨mA, hns, hr⟩ := exd_at I1.hok ed
  obtain ⟨od, ho2, hl⟩ := lookIn_ns hns
  obtain ⟨u, hu, ru⟩ := RelO.some_of (v := v) (o := mA n) (by rw [← l]; exact hr n)
  have J : PySem.W.InstAt s1.heap a { cls := .ref C, dict := some d, data := .fields #[.ref t1, .none, .none, .none, .bool false, .none] } C (some od) := ⟨ho, rfl, rfl, ho2⟩
  exact HandSPX.exc_get I1.kIn J T.ga T.gg T.exC (PySem.W.findObj_own T.hdC hno rfl (by rw [hl, hu])) (handed_of ru) ⟨v, H1, I1.tok _, ru, q⟩
/-- isinstance(err, c) -/
def rIsX (K : PySem.W.Frag) : List V → Hp → VK → Prop := fun xs H Q => ∃ (a C : Addr) (d : Option Addr) (c : V) (u : Value) (b : Bool), xs = [.ref a, c] ∧ H a = some (exo a C d) ∧ (∀ dx, d = some dx → ∃ fs, H dx = some (exd dx fs)) ∧ ExcC K C ∧ ClsV c u ∧ PySem.W.kitOne K (.ref C) u = some b ∧ Q (.bl b) H
theorem call_isX : CallR X (.builtin "isinstance") (rIsX X.K) := by
  intro pins s σ H xs us Q I r h
  obtain ⟨a, C, d, c, cv, b, rfl, ea, hd, T, k, e, q⟩ := h
  obtain ⟨u1, u2, rfl, r1, r2⟩ := vals2 r
  have e2 := k.eq r2
  subst e2
  cases (show u1 = Value.ref a from r1)
  obtain ⟨t1, ho⟩ := exo_at I.hok ea
  have hod : ∃ od : Option Obj, PySem.W.InstAt s.heap a { cls := .ref C, dict := d, data := .fields #[.ref t1, .none, .none, .none, .bool false, .none] } C od := by
    cases d with
    | none => exact ⟨none, ho, rfl, rfl, trivial⟩
    | some dx =>
      obtain ⟨fs, ed⟩ := hd dx rfl
      obtain ⟨mA, hns, hr⟩ := exd_at I.hok ed
      obtain ⟨od, ho2, hl⟩ := lookIn_ns hns
      exact ⟨some od, ho, rfl, rfl, ho2⟩
  obtain ⟨od, J⟩ := hod
  exact PySem.W.kia_one (PySem.W.kitx_excD T.hg T.hk T.hs T.hd T.ha T.hn T.ht T.hm) I.kIn J e (fun z => nomatch z) fun tk => ⟨.bl b, H, I.tok tk, rfl, q⟩
end
end L2

namespace Un
open PySem PySem.Spec PyProof.Rows L2

/-! ### defs as they stand, and as they keep a promise -/
def At (K : PySem.W.Frag) (mg : Str → Option Value) (nm : Str) (st : Stmt) (ps : List Str) : Prop :=
  ∃ (f : Addr) (fd : FuncData), Fun K nm nm st f fd ∧ mg nm = some (.ref f) ∧ Binds K fd ps []
def Cl (P : Program) (w : World) (K : PySem.W.Frag) (mg : Str → Option Value) (base : Heap) (nm : Str) (ps : List Str) (k : Nat) (sp : Sp) : Prop :=
  ∃ (f : Addr) (fd : FuncData), mg nm = some (.ref f) ∧ FnOk P w K mg base CX0 k f fd ps sp ∧ PySem.W.keepIn K (.ref f) = true ∧ Binds K fd ps []
theorem cl_of {P : Program} {w : World} {K : PySem.W.Frag} {mg : Str → Option Value} {base : Heap} {nm : Str} {st : Stmt} {ps : List Str} {k : Nat} {sp : Sp}
    (a : At K mg nm st ps) (h : ∀ f fd, Fun K nm nm st f fd → FnOk P w K mg base CX0 k f fd ps sp) : Cl P w K mg base nm ps k sp := by
  obtain ⟨f, fd, F, m, b⟩ := a
  exact ⟨f, fd, m, h f fd F, F.kp, b⟩
section
variable {X : Cx} {nm : Str} {ps : List Str} {j k : Nat} {sp : Sp} {e : Expr} {es : List Expr} {t : TA} {p pos : Pos}
theorem pe_cl (c : Cl X.prog X.w X.K X.mg X.base nm ps k sp) (hr : Room k X.A) (hg : Gl X nm) (ha : PA X (e :: es) t)
    (hdb : (nm == ("__debug__" : Str)) = false := by decide) (he : starEach (e :: es) X.env = (false, eval e X.env) :: starEach es X.env := by rfl) (hpl : (backTo pos (starEach es X.env)).any (·.1) = false := by rfl) :
    PE X (.Call (.Name nm p) (e :: es) [] pos) (tCall sp [] E0 t) := by
  obtain ⟨f, fd, m, F, kp, b⟩ := c
  exact pe_call F hr hg m kp b .nil pass0 ha hdb he hpl
theorem pe_cl0 (c : Cl X.prog X.w X.K X.mg X.base nm ps k sp) (hr : Room k X.A) (hg : Gl X nm)
    (hdb : (nm == ("__debug__" : Str)) = false := by decide) : PE X (.Call (.Name nm p) [] [] pos) (tCall sp [] E0 tNil) := by
  obtain ⟨f, fd, m, F, kp, b⟩ := c
  exact pe_call0 F hr hg m kp b .nil pass0 hdb
end

/-! ### texts as lists of sgs -/
def tx (l : List Nat) : Str := ⟨l.toArray⟩
theorem tx_cps (l : List Nat) : (tx l).cps.toList = l := by simp [tx]
theorem tx_len (l : List Nat) : (tx l).length = l.length := by simp [tx, Str.length]
theorem tx_inj {a b : List Nat} (h : tx a = tx b) : a = b := by
  have := congrArg (fun s : Str => s.cps.toList) h
  simpa [tx] using this
theorem tx_eq {a b : List Nat} : tx a = tx b ↔ a = b := ⟨tx_inj, fun h => by rw [h]⟩
theorem tx_of (s : Str) : tx s.cps.toList = s := by
  cases s with
  | mk c => simp [tx]
theorem tx_app (a b : List Nat) : tx a ++ tx b = tx (a ++ b) := by
  have e : (tx a ++ tx b) = (⟨(tx a).cps ++ (tx b).cps⟩ : Str) := rfl
  rw [e]
  simp [tx]
theorem tx_one (c : Nat) : (⟨#[c]⟩ : Str) = tx [c] := rfl

/-! ### rules for built-ins -/
def scalR : V → Prop
  | .non => True
  | .bl _ => True
  | .int i => i.natAbs.log2 < 1920
  | .str x => (reprText x).length ≤ sizeLine
  | _ => False
def reprS : V → Str
  | .non => "None"
  | .bl b => if b then "True" else "False"
  | .int i => toString i
  | .str x => reprText x
  | _ => ""
def rRepr : List V → Hp → VK → Prop := fun xs H Q => ∃ x, xs = [x] ∧ scalR x ∧ Q (.str (reprS x)) H
section
variable {X : Cx}
theorem call_reprS : CallR X (.builtin "repr") rRepr := by
  intro pins s σ H xs us Q I r h
  obtain ⟨x, rfl, hx, q⟩ := h
  obtain ⟨u, rfl, rx⟩ := vals1 r
  cases x with
  | non => cases rx; exact PySem.P.repr_of_none ⟨.str _, H, I.tok _, ⟨_, rfl⟩, q⟩
  | bl b => cases rx; exact PySem.P.repr_of_bool ⟨.str _, H, I.tok _, ⟨_, rfl⟩, q⟩
  | int i => obtain ⟨t, rfl⟩ := rx; exact PySem.P.repr_of_int hx ⟨.str _, H, I.tok _, ⟨_, rfl⟩, q⟩
  | str y => obtain ⟨t, rfl⟩ := rx; exact PySem.P.repr_of_str ⟨.str _, H, I.tok _, ⟨_, rfl⟩, q⟩ (hsz := hx)
  | _ => exact hx.elim
def sgs (l : List Nat) : List V := l.map fun c => V.str (tx [c])
theorem vals_of_get : ∀ {xs : List V} {us : List Value}, xs.length = us.length → (∀ (i : Nat) (x : V) (u : Value), xs[i]? = some x → us[i]? = some u → RelV x u) → Vals xs us
  | [], [], _, _ => .nil
  | [], _ :: _, h, _ => by simp at h
  | _ :: _, [], h, _ => by simp at h
  | x :: xs, u :: us, h, f => .cons (f 0 x u rfl rfl) (vals_of_get (by simpa using h) fun i a b ha hb => f (i + 1) a b (by simpa using ha) (by simpa using hb))
theorem call_list_strR (hc : X.calm = true) : CallR X (.type "list") (fun xs H Q => ∃ l : List Nat, xs = [.str (tx l)] ∧ l.length ≤ sizeLine ∧ ∀ p, H p = none → Q (.ref p) (upd H p (.lst (sgs l)))) := by
  intro pins s σ H xs us Q I r h
  obtain ⟨l, rfl, hl, q⟩ := h
  obtain ⟨u, rfl, t, rfl⟩ := vals1 r
  have hs : (tx l).cps.size = l.length := by simp [tx]
  refine PySem.call_list_str (I.ok.hd hc) (tx l) t (fun h' tk acc' c' hk hS hacc => ?_) (hn := by rw [hs]; exact hl)
  obtain ⟨hsz, hget⟩ := hacc
  have hv : Vals (sgs l) acc'.toList := vals_of_get (show (sgs l).length = acc'.toList.length by rw [Array.length_toList (xs := acc'), hsz, hs]; simp [sgs]) fun i x u hx hu => by
    have hu' : acc'[i]? = some u := by rw [← Array.getElem?_toList]; exact hu
    obtain ⟨c, tk', hc', rfl⟩ := hget i u hu'
    have hc2 : l[i]? = some c := by
      have : (tx l).cps[i]? = l[i]? := by simp [tx]
      rw [← this]; exact hc'
    have : x = V.str (tx [c]) := by
      unfold sgs at hx
      rw [List.getElem?_map, hc2] at hx
      exact (Option.some.inj hx).symm
    subst this
    exact ⟨tk', rfl⟩
  exact ⟨.ref s.heap.objs.size, _, I.laid (t' := tk) hk (Nat.le_refl _) (show ObjOk X.prog X.w _ h' _ (.lst (sgs l)) from ⟨by simpa [sgs] using hl, acc'.toList, c', hv, by simpa using hS⟩), rfl, q _ (I.hok.fresh (Nat.le_refl _))⟩
def reps (n : Nat) (l : List Nat) : List Nat := (List.replicate n l).flatten
theorem reps_len (n : Nat) (l : List Nat) : (reps n l).length = n * l.length := by
  unfold reps
  induction n with
  | zero => simp
  | succ n ih =>
    rw [List.replicate_succ, List.flatten_cons, List.length_append, ih, Nat.add_mul, Nat.one_mul, Nat.add_comm]
theorem foldl_app (l : List Nat) : ∀ (n : Nat) (a : Array Nat), ((List.replicate n l.toArray).foldl (· ++ ·) a).toList = a.toList ++ (List.replicate n l).flatten
  | 0, a => by simp
  | n + 1, a => by
    rw [List.replicate_succ, List.foldl_cons, foldl_app l n, List.replicate_succ, List.flatten_cons]
    simp
theorem txt_mul (l : List Nat) (n : Int) : Txt.mul (tx l) n = tx (reps n.toNat l) := by
  unfold Txt.mul
  by_cases h : n < 1
  · rw [if_pos h]
    have : n.toNat = 0 := by omega
    rw [this]
    rfl
  · rw [if_neg h]
    by_cases h1 : (n == 1 || (tx l).length == 0) = true
    · rw [if_pos h1]
      rw [Bool.or_eq_true] at h1
      rcases h1 with h1 | h1
      · have : n = 1 := by simpa using h1
        subst this
        simp [reps]
      · have : l = [] := by simpa [tx, Str.length] using h1
        subst this
        simp [reps]
    · rw [if_neg h1]
      have e := foldl_app l n.toNat #[]
      have e2 : (List.replicate n.toNat (tx l).cps) = List.replicate n.toNat l.toArray := rfl
      rw [e2]
      generalize hg : List.foldl (fun x1 x2 => x1 ++ x2) #[] (List.replicate n.toNat l.toArray) = z at *
      unfold tx reps
      congr 1
      apply Array.ext'
      rw [e]
      simp
theorem op_mul_str : OpR X (binaryOp .Mult) (fun x y H Q => ∃ (l : List Nat) (n : Int), x = .str (tx l) ∧ y = .int n ∧ -100000 ≤ n ∧ n ≤ 100000 ∧ l.length * n.toNat ≤ 100000 ∧ Q (.str (tx (reps n.toNat l))) H) := by
  intro pins s σ H x y v u Q I rx ry h
  obtain ⟨l, n, rfl, rfl, hn0, hn, hl, q⟩ := h
  obtain ⟨t, rfl⟩ := rx
  obtain ⟨t', rfl⟩ := ry
  have hk : (tx l).length = l.length := tx_len l
  refine SB.mul (n := n) ⟨?_, fun h1 _ => ?_, fun h1 _ => ?_⟩ (fun t2 k => ⟨.str (tx (reps n.toNat l)), H, I.tok _, ⟨t2, by rw [txt_mul]⟩, q⟩)
  · simp only [Bool.or_eq_false_iff, decide_eq_false_iff_not]
    constructor <;> omega
  · rw [hk]
    have h2 : (l.length : Int) ≤ 100000 := by
      have : l.length * 1 ≤ l.length * n.toNat := Nat.mul_le_mul_left _ (by omega)
      omega
    have h3 : (100000 : Int) ≤ (2 ^ 63 - 1) / n := by
      refine (Int.le_ediv_iff_mul_le (by omega)).mpr ?_
      omega
    omega
  · rw [hk]
    unfold Builtin.Str.tooLong
    have : (100000 : Nat) ≤ sizeLine := by decide
    simp only [decide_eq_false_iff_not]
    omega

/-! ### rules for texts as lists of sgs -/
theorem pe_strX {x : Str} {j : Nat} {pos : Pos} (l : List Nat) (h : x = tx l) : PE X (.Constant (.str x) j pos) (tC (.str (tx l))) := by
  subst h
  exact pe_str
def rAddX : R2 := fun x y H Q => ∃ a b, x = .str (tx a) ∧ y = .str (tx b) ∧ a.length + b.length ≤ sizeLine ∧ Q (.str (tx (a ++ b))) H
theorem op_addX : OpR X (binaryOp .Add) rAddX := by
  intro pins s σ H x y v u Q I rx ry h
  obtain ⟨a, b, rfl, rfl, hz, q⟩ := h
  exact op_add_str pins s σ H _ _ v u Q I rx ry ⟨_, _, rfl, rfl, by rw [tx_len, tx_len]; exact hz, by rw [tx_app]; exact q⟩
def rMulX : R2 := fun x y H Q => ∃ (l : List Nat) (n : Int), x = .str (tx l) ∧ y = .int n ∧ -100000 ≤ n ∧ n ≤ 100000 ∧ l.length * n.toNat ≤ 100000 ∧ Q (.str (tx (reps n.toNat l))) H
theorem op_mulT : OpR X (binaryOp .Mult) rMulX := op_mul_str
def rInX (neg : Bool) : R2 := fun x y H Q => ∃ (c : Nat) (z : List Nat), x = .str (tx [c]) ∧ y = .str (tx z) ∧ Q (.bl (if neg then !decide (c ∈ z) else decide (c ∈ z))) H
theorem op_inX : OpR X (compareOp .In) (rInX false) := by
  intro pins s σ H x y v u Q I rx ry h
  obtain ⟨c, z, rfl, rfl, q⟩ := h
  exact op_in_sign pins s σ H _ _ v u Q I rx ry ⟨c, tx z, rfl, rfl, by rw [tx_cps]; exact q⟩
theorem op_notInX : OpR X (compareOp .NotIn) (rInX true) := by
  intro pins s σ H x y v u Q I rx ry h
  obtain ⟨c, z, rfl, rfl, q⟩ := h
  exact op_notIn_sign pins s σ H _ _ v u Q I rx ry ⟨c, tx z, rfl, rfl, by rw [tx_cps]; exact q⟩
def rLtX : R2 := fun x y H Q => ∃ a b, x = .str (tx a) ∧ y = .str (tx b) ∧ Q (.bl (decide (a < b))) H
theorem op_ltX : OpR X (compareOp .Lt) rLtX := by
  intro pins s σ H x y v u Q I rx ry h
  obtain ⟨a, b, rfl, rfl, q⟩ := h
  exact op_lt_str pins s σ H _ _ v u Q I rx ry ⟨_, _, rfl, rfl, by rw [tx_cps, tx_cps]; exact q⟩
def rLeX : R2 := fun x y H Q => ∃ a b, x = .str (tx a) ∧ y = .str (tx b) ∧ Q (.bl (!decide (b < a))) H
theorem rLenX_aux (l : List Nat) : ((tx l).length : Int) = (l.length : Int) := by rw [tx_len]
def rLenX : List V → Hp → VK → Prop := fun xs H Q => ∃ l, xs = [.str (tx l)] ∧ l.length ≤ sizeLine ∧ Q (.int (l.length : Nat)) H
theorem call_lenX : CallR X (.builtin "len") rLenX := by
  intro pins s σ H xs us Q I r h
  obtain ⟨l, rfl, hz, q⟩ := h
  exact call_len_str pins s σ H _ us Q I r ⟨tx l, rfl, by rw [tx_len]; exact hz, by rw [tx_len]; exact q⟩
def rIxX : R2 := fun x y H Q => ∃ (l : List Nat) (i : Int) (c : Nat), x = .str (tx l) ∧ y = .int i ∧ l.length ≤ sizeLine ∧ atI l i = some c ∧ Q (.str (tx [c])) H
theorem ix_strX : IxR X rIxX := by
  intro value slice pins s σ H x y v u Q I rx ry h hs
  obtain ⟨l, i, c, rfl, rfl, hz, ha, q⟩ := h
  exact ix_str value slice pins s σ H _ _ v u Q I rx ry ⟨tx l, i, c, rfl, rfl, by rw [tx_len]; exact hz, by rw [tx_cps]; exact ha, q⟩ hs
def cutL (l : List Nat) (lo hi : Option Int) : List Nat := (l.drop (HT.sIx l.length 0 lo)).take (HT.sIx l.length l.length hi - HT.sIx l.length 0 lo)
theorem cutS_tx (l : List Nat) (lo hi : Option Int) : cutS (tx l) lo hi = tx (cutL l lo hi) := by
  unfold cutS cutL
  rw [tx_len, tx_cps]
  rfl
def rSlX : V → Option Int → Option Int → Hp → VK → Prop := fun x lo hi H Q => ∃ l, x = .str (tx l) ∧ l.length ≤ sizeLine ∧ Q (.str (tx (cutL l lo hi))) H
theorem sl_strX : SlR X rSlX := by
  intro pins s σ H x v vl vu l u a Q I rx hsl pl pu h
  obtain ⟨z, rfl, hz, q⟩ := h
  exact sl_str pins s σ H _ v vl vu l u a Q I rx hsl pl pu ⟨tx z, rfl, by rw [tx_len]; exact hz, by rw [cutS_tx]; exact q⟩
/-- letters.index(c), each letter once -/
theorem occ_nodup {z : List Nat} (nd : z.Nodup) {i : Nat} {c : Nat} (h : z[i]? = some c) : ∃ rest, Builtin.Str.occurrences (tx z) (tx [c]) 0 (tx z).length 1 = i :: rest := by
  have hc : c ∈ z := List.mem_of_getElem? h
  have hf := PySem.StrLaws.found_one (tx z) c
  rw [tx_cps, decide_eq_true hc] at hf
  have hsp := PySem.StrLaws.occ_spec (tx z) (tx [c]) 0 (tx z).length 1
  have e1 : (⟨#[c]⟩ : Str) = tx [c] := rfl
  rw [e1] at hf
  cases ho : Builtin.Str.occurrences (tx z) (tx [c]) 0 (tx z).length 1 with
  | nil => rw [ho] at hf; simp at hf
  | cons j rest =>
    obtain ⟨hj, hs⟩ := hsp j (by rw [ho]; exact List.mem_cons_self)
    rw [tx_len, tx_len] at hj
    have hj2 : z[j]? = some c := by
      unfold Builtin.Str.subAt at hs
      have h3 : (tx z).cps.extract j (j + (tx [c]).length) = (tx [c]).cps := by simpa using hs
      have h4 := congrArg Array.toList h3
      rw [tx_len] at h4
      simp only [tx, List.length_cons, List.length_nil, Nat.zero_add, Array.toList_extract, List.extract_eq_take_drop] at h4
      have h5 : (List.take 1 (List.drop j z))[0]? = some c := by
        have : j + 1 - j = 1 := by omega
        rw [this] at h4
        rw [h4]; rfl
      simpa using h5
    have : j = i := by
      have l1 : j < z.length := (List.getElem?_eq_some_iff.mp hj2).1
      have l2 : i < z.length := (List.getElem?_eq_some_iff.mp h).1
      exact (List.getElem_inj (h₀ := l1) (h₁ := l2) nd).mp (by
        rw [List.getElem?_eq_getElem l1] at hj2
        rw [List.getElem?_eq_getElem l2] at h
        exact (Option.some.inj hj2).trans (Option.some.inj h).symm)
    subst this
    exact ⟨rest, rfl⟩
def rIndexX : V → List V → Hp → VK → Prop := fun x xs H Q => ∃ (z : List Nat) (c i : Nat), x = .str (tx z) ∧ xs = [.str (tx [c])] ∧ z.Nodup ∧ z[i]? = some c ∧ Q (.int (i : Nat)) H
theorem mt_indexT : MtR X "str.index" rIndexX := by
  intro pins s σ H x xs v us Q I rx rs h
  obtain ⟨z, c, i, rfl, rfl, nd, hi, q⟩ := h
  obtain ⟨rest, ho⟩ := occ_nodup nd hi
  exact mt_sindex pins s σ H _ _ v us Q I rx rs ⟨_, _, i, rest, rfl, rfl, ho, q⟩
theorem join_tx : ∀ ls : List (List Nat), Str.join ("" : Str) (ls.map tx) = tx ls.flatten
  | [] => rfl
  | [a] => by simp [Str.join]
  | a :: b :: r => by
    have h := join_tx (b :: r)
    rw [List.map_cons] at h
    have e : Str.join ("" : Str) (tx a :: tx b :: r.map tx) = tx a ++ "" ++ Str.join ("" : Str) (tx b :: r.map tx) := rfl
    rw [List.map_cons, List.map_cons, e, h, List.flatten_cons (l := a)]
    have e0 : ("" : Str) = tx [] := rfl
    rw [e0, tx_app, tx_app, List.append_nil]
def rJoinX (K : PySem.W.Frag) : V → List V → Hp → VK → Prop := fun x xs H Q => ∃ (p : Addr) (ls : List (List Nat)), x = .str (tx []) ∧ xs = [.ref p] ∧ SqL K H p (ls.map fun l => V.str (tx l)) ∧ (ls.map List.length).sum ≤ 16777216 ∧ Q (.str (tx ls.flatten)) H
theorem mt_joinX : MtR X "str.join" (rJoinX X.K) := by
  intro pins s σ H x xs v us Q I rx rs h
  obtain ⟨p, ls, rfl, rfl, hp, hz, q⟩ := h
  refine mt_join pins s σ H _ _ v us Q I rx rs ⟨tx [], p, ls.map tx, rfl, rfl, .inl ?_, ?_, ?_⟩
  · rw [List.map_map]; exact hp
  · have : (List.map (fun x => x.length) (List.map tx ls)) = ls.map List.length := by
      rw [List.map_map]; exact List.map_congr_left fun l _ => tx_len l
    rw [this]
    have e0 : (tx []).length = 0 := rfl
    rw [e0]; omega
  · have : Txt.join (tx []) (ls.map tx) = tx ls.flatten := (PySem.StrLaws.glued_eq_join _ _).trans (join_tx ls)
    rw [this]; exact q
end
end Un

namespace Un
open PySem PySem.Spec PyProof.Rows L2
section
variable {K : PySem.W.Frag} {σ : L2.St} {H : Hp} {Q : VK} {D : Ends} {i j : Nat} {v x y : V} {ta tb te : TE} {tr : TA} {t u c : TT} {r : R2} {g : TG} {tu tw : TS} {A B R : Prop}
theorem rd_var (h : σ[i]? = some (some v)) (q : Q v H) : tVar i σ H Q := ⟨v, h, q⟩
theorem rd_c (q : Q v H) : tC v σ H Q := q
theorem rd_op (h : ta σ H fun x H1 => tb σ H1 fun y H2 => r x y H2 Q) : tOp r ta tb σ H Q := h
theorem rd_un {r : V → Hp → VK → Prop} (h : ta σ H fun x H1 => r x H1 Q) : tUn r ta σ H Q := h
theorem rd_I0 {g : Int → Int → V} {a b : Int} (q : Q (g a b) H) : rI0 g (.int a) (.int b) H Q := ⟨a, b, rfl, rfl, q⟩
theorem rd_I {C : Int → Int → Prop} {g : Int → Int → V} {a b : Int} (hc : C a b) (q : Q (g a b) H) : rI C g (.int a) (.int b) H Q := ⟨a, b, rfl, rfl, hc, q⟩
theorem rd_U {g : Int → V} {a : Int} (q : Q (g a) H) : rU g (.int a) H Q := ⟨a, rfl, q⟩
theorem rd_eq (hs : scal x y = true) (q : Q (.bl (decide (x = y))) H) : rEq x y H Q := ⟨hs, q⟩
theorem rd_ne (hs : scal x y = true) (q : Q (.bl (!decide (x = y))) H) : rNe x y H Q := ⟨hs, q⟩
theorem rd_isN (q : Q (.bl (decide (x = .non))) H) : (fun x y H Q => y = V.non ∧ Q (.bl (decide (x = .non))) H : R2) x .non H Q := ⟨rfl, q⟩
theorem rd_test {Q : Bool → Hp → Prop} (h : te σ H fun x H' => ∃ k, x = .bl k ∧ Q k H') : tTest te σ H Q := h
theorem rd_B {Q : Bool → Hp → Prop} (h : te σ H fun x H' => ∃ k, x = .bl k ∧ Q k H') : tB te σ H Q := h
theorem rd_bl {b : Bool} {P : Bool → Prop} (q : P b) : ∃ k, V.bl b = V.bl k ∧ P k := ⟨b, rfl, q⟩
theorem rd_and {Q : Bool → Hp → Prop} (h : t σ H fun c H1 => if c = true then u σ H1 Q else Q false H1) : tAnd t u σ H Q := h
theorem rd_or {Q : Bool → Hp → Prop} (h : t σ H fun c H1 => if c = true then Q true H1 else u σ H1 Q) : tOr t u σ H Q := h
theorem rd_not {Q : Bool → Hp → Prop} (h : t σ H fun c H1 => Q (!c) H1) : tNot t σ H Q := h
theorem rd_andV (h : ta σ H fun x H1 => ∃ c, x = .bl c ∧ if c = true then tb σ H1 Q else Q (.bl false) H1) : tAndV ta tb σ H Q := h
theorem rd_orV (h : ta σ H fun x H1 => ∃ c, x = .bl c ∧ if c = true then Q (.bl true) H1 else tb σ H1 Q) : tOrV ta tb σ H Q := h
theorem rd_notV (h : ta σ H fun x H1 => ∃ c, x = .bl c ∧ Q (.bl (!c)) H1) : tNotV ta σ H Q := h
theorem rd_if (h : t σ H fun c H1 => if c = true then ta σ H1 Q else tb σ H1 Q) : tIf t ta tb σ H Q := h
theorem rd_ite {b : Bool} (h1 : b = true → A) (h2 : b = false → B) : if b = true then A else B := by
  cases b with
  | true => exact h1 rfl
  | false => exact h2 rfl
theorem rd_seq (h : tu { D with nx := tw D } σ H) : tSeq tu tw D σ H := h
theorem rd_asg (h : te σ H fun x H1 => g x σ H1 D.nx) : tAsg te g D σ H := h
theorem rd_gname {Q : L2.St → Hp → Prop} (h : Q (σ.set i (some v)) H) : gName i v σ H Q := h
theorem rd_gsub {to ti : TE} {t : TSet} {Q : L2.St → Hp → Prop} (h : to σ H fun o H1 => ti σ H1 fun i H2 => t o i v H2 fun H3 => Q σ H3) : gSub to ti t v σ H Q := h
theorem rd_gtup {n : Nat} {tt : TGs} {a : Addr} {xs : List V} {Q : L2.St → Hp → Prop} (h : SqT K H a xs) (hn : xs.length = n) (q : tt xs σ H Q) : gTup K n tt (.ref a) σ H Q := ⟨a, xs, rfl, h, hn, q⟩
theorem rd_gcons {t : TG} {u : TGs} {v : V} {vs : List V} {Q : L2.St → Hp → Prop} (h : t v σ H fun σ' H' => u vs σ' H' Q) : gCons t u (v :: vs) σ H Q := ⟨v, vs, rfl, h⟩
theorem rd_gnil {Q : L2.St → Hp → Prop} (h : Q σ H) : gNil [] σ H Q := ⟨rfl, h⟩
theorem rd_ifS (h : c σ H fun b H1 => if b = true then tu D σ H1 else tw D σ H1) : tIfS c tu tw D σ H := h
theorem rd_ret (h : te σ H D.rt) : tRet te D σ H := h
theorem rd_retN (h : D.rt .non H) : tRetN D σ H := h
theorem rd_drop (h : te σ H fun _ H1 => D.nx σ H1) : tDrop te D σ H := h
theorem rd_next (h : D.nx σ H) : tNext D σ H := h
theorem rd_break (h : D.bk σ H) : tBreak D σ H := h
theorem rd_cont (h : D.ct σ H) : tCont D σ H := h
theorem rd_call {sp : Sp} {dvs : List V} {E : XK} (h : tr σ H fun vs H1 => sp (vs ++ dvs) H1 Q E) : tCall sp dvs E tr σ H Q := h
theorem rd_cons {Q : List V → Hp → Prop} (h : te σ H fun x H1 => tr σ H1 fun xs H2 => Q (x :: xs) H2) : tCons te tr σ H Q := h
theorem rd_nil {Q : List V → Hp → Prop} (h : Q [] H) : tNil σ H Q := h
theorem rd_cb {r : List V → Hp → VK → Prop} (h : tr σ H fun vs H1 => r vs H1 Q) : tCB r tr σ H Q := h
theorem rd_bm {T : String} {r : V → List V → Hp → VK → Prop} (h : te σ H fun x H1 => tyV K T x H1 ∧ tr σ H1 fun xs H2 => r x xs H2 Q) : tBM K T r te tr σ H Q := h
theorem rd_bm0 {T : String} {r : V → List V → Hp → VK → Prop} (h : te σ H fun x H1 => tyV K T x H1 ∧ r x [] H1 Q) : tBM0 K T r te σ H Q := h
theorem rd_tyS {z : Str} (q : R) : tyV K "str" (.str z) H ∧ R := ⟨rfl, q⟩
theorem rd_tyL {p : Addr} {xs : List V} (h : SqL K H p xs) (q : R) : tyV K "list" (.ref p) H ∧ R := ⟨.inl ⟨rfl, _, h⟩, q⟩
theorem rd_lst (h : tr σ H fun xs H1 => xs.length ≤ sizeLine ∧ ∀ p, H1 p = none → Q (.ref p) (upd H1 p (.lst xs))) : tLst tr σ H Q := h
theorem rd_tup (h : tr σ H fun xs H1 => xs.length ≤ sizeLine ∧ ∀ p, H1 p = none → Q (.ref p) (upd H1 p (.tup xs))) : tTup tr σ H Q := h
theorem rd_sl {r : V → Option Int → Option Int → Hp → VK → Prop} {tl th : TO} (h : te σ H fun x H1 => tl σ H1 fun l H2 => th σ H2 fun u H3 => r x l u H3 Q) : tSl r te tl th σ H Q := h
theorem rd_part {Q : Option Int → Hp → Prop} (h : te σ H fun x H1 => ∃ i, x = .int i ∧ Q (some i) H1) : tPart te σ H Q := h
theorem rd_some {a : Int} {P : Int → Prop} (q : P a) : ∃ i, V.int a = .int i ∧ P i := ⟨a, rfl, q⟩
theorem rd_strE {z : Str} {P : Str → Prop} (q : P z) : ∃ y, V.str z = .str y ∧ P y := ⟨z, rfl, q⟩
theorem rd_one {a : V} {P : V → Prop} (q : P a) : ∃ x, [a] = [x] ∧ P x := ⟨a, rfl, q⟩
theorem rd_nopart {Q : Option Int → Hp → Prop} (h : Q none H) : tNoPart σ H Q := h
theorem rd_par {ta : TA} (h : ta σ H fun vs H1 => ∃ v w, vs = [v, w] ∧ D.nx ((σ.set i (some v)).set j (some w)) H1) : tPar i j ta D σ H := h
theorem rd_two {P : V → V → Prop} {a b : V} (q : P a b) : ∃ v w, [a, b] = [v, w] ∧ P v w := ⟨a, b, rfl, q⟩
/-- named rules -/
theorem rd_addX {a b : List Nat} (hz : a.length + b.length ≤ sizeLine) (q : Q (.str (tx (a ++ b))) H) : rAddX (.str (tx a)) (.str (tx b)) H Q := ⟨a, b, rfl, rfl, hz, q⟩
theorem rd_mulX {l : List Nat} {n : Int} (h1 : -100000 ≤ n) (h2 : n ≤ 100000) (h3 : l.length * n.toNat ≤ 100000) (q : Q (.str (tx (reps n.toNat l))) H) : rMulX (.str (tx l)) (.int n) H Q := ⟨l, n, rfl, rfl, h1, h2, h3, q⟩
theorem rd_inX {neg : Bool} {n : Nat} {z : List Nat} (q : Q (.bl (if neg then !decide (n ∈ z) else decide (n ∈ z))) H) : rInX neg (.str (tx [n])) (.str (tx z)) H Q := ⟨n, z, rfl, rfl, q⟩
theorem rd_ltX {a b : List Nat} (q : Q (.bl (decide (a < b))) H) : rLtX (.str (tx a)) (.str (tx b)) H Q := ⟨a, b, rfl, rfl, q⟩
theorem rd_lenX {l : List Nat} (hz : l.length ≤ sizeLine) (q : Q (.int (l.length : Nat)) H) : rLenX [.str (tx l)] H Q := ⟨l, rfl, hz, q⟩
theorem rd_ixX {l : List Nat} {a : Int} {n : Nat} (hz : l.length ≤ sizeLine) (h : atI l a = some n) (q : Q (.str (tx [n])) H) : rIxX (.str (tx l)) (.int a) H Q := ⟨l, a, n, rfl, rfl, hz, h, q⟩
theorem rd_slX {l : List Nat} {lo hi : Option Int} (hz : l.length ≤ sizeLine) (q : Q (.str (tx (cutL l lo hi))) H) : rSlX (.str (tx l)) lo hi H Q := ⟨l, rfl, hz, q⟩
theorem rd_indexX {z : List Nat} {n k : Nat} (nd : z.Nodup) (h : z[k]? = some n) (q : Q (.int (k : Nat)) H) : rIndexX (.str (tx z)) [.str (tx [n])] H Q := ⟨z, n, k, rfl, rfl, nd, h, q⟩
theorem rd_repr (hx : scalR x) (q : Q (.str (reprS x)) H) : rRepr [x] H Q := ⟨x, rfl, hx, q⟩
theorem rd_ixL {p : Addr} {xs : List V} {a : Int} (h : SqL K H p xs) (ha : atI xs a = some v) (q : Q v H) : rIxL K (.ref p) (.int a) H Q := ⟨p, xs, a, v, rfl, rfl, h, ha, q⟩
theorem rd_ixT {p : Addr} {xs : List V} {a : Int} (h : SqT K H p xs) (ha : atI xs a = some v) (q : Q v H) : rIxT K (.ref p) (.int a) H Q := ⟨p, xs, a, v, rfl, rfl, h, ha, q⟩
theorem rd_setL {p : Addr} {xs : List V} {a : Int} {n : Nat} {Q : Hp → Prop} (h : H p = some (.lst xs)) (ha : ixN xs.length a = some n) (q : Q (upd H p (.lst (xs.set n v)))) : rSetL (.ref p) (.int a) v H Q := ⟨p, xs, a, n, rfl, rfl, h, ha, q⟩
theorem rd_app {p : Addr} {xs : List V} (h : H p = some (.lst xs)) (hz : xs.length < sizeLine) (q : Q .non (upd H p (.lst (xs ++ [v])))) : rAppend (.ref p) [v] H Q := ⟨p, xs, v, rfl, rfl, h, hz, q⟩
theorem rd_pop {p : Addr} {xs : List V} (h : H p = some (.lst (xs ++ [v]))) (q : Q v (upd H p (.lst xs))) : rPop (.ref p) [] H Q := ⟨p, xs ++ [v], v, rfl, rfl, h, by simp, by rw [List.dropLast_concat]; exact q⟩
end
/-! ### heaps: what stays when two objects D and L change -/
def Keep (D L : Addr) (H H' : Hp) : Prop := ∀ a o, H a = some o → a ≠ D → a ≠ L → H' a = some o
theorem Keep.refl {D L : Addr} (H : Hp) : Keep D L H H := fun _ _ h _ _ => h
theorem Keep.trans {D L : Addr} {H H1 H2 : Hp} (a : Keep D L H H1) (b : Keep D L H1 H2) : Keep D L H H2 := fun c o h h1 h2 => b c o (a c o h h1 h2) h1 h2
theorem Keep.new {D L p : Addr} {H : Hp} {o : HO} (h : H p = none) : Keep D L H (upd H p o) := fun a u e _ _ => by
  rw [upd_ne (ne_of_none e h)]
  exact e
theorem Keep.own {D L p : Addr} {H : Hp} {o : HO} (h : p = D ∨ p = L) : Keep D L H (upd H p o) := fun a u e h1 h2 => by
  rw [upd_ne (by rcases h with h | h <;> (rw [h]; assumption))]
  exact e
theorem Keep.of_same {D L : Addr} {H H' : Hp} (h : Same H H') : Keep D L H H' := fun a o e _ _ => h a o e
theorem same_upd {H : Hp} {p : Addr} {o : HO} (h : H p = none) : Same H (upd H p o) := fun b x e => by
  rw [upd_ne (ne_of_none e h)]
  exact e
theorem mulW_of {i j : Int} (h1 : i.natAbs < 2 ^ 250) (h2 : j.natAbs < 2 ^ 250) : CMulW i j := wide_mul h1 h2 (by decide) (by decide) (by decide)

/-! ### flat lists as data -/
theorem dpAll_ints {K : PySem.W.Frag} {H : Hp} : ∀ ns : List Int, DpAll K H (ns.map V.int) (ns.map PyData.int)
  | [] => .nil
  | n :: r => .cons (.int n) (dpAll_ints r)
theorem canLay_ints : ∀ ns : List Int, PyData.canLayAll0 (ns.map PyData.int) = true
  | [] => by simp [PyData.canLayAll0]
  | n :: r => by
    have h := canLay_ints r
    simp [PyData.canLayAll0, PyData.canLay0, h]
theorem depth_ints : ∀ ns : List Int, PyData.depthAll (ns.map PyData.int) = 0
  | [] => by simp [PyData.depthAll]
  | n :: r => by
    have h := depth_ints r
    simp [PyData.depthAll, PyData.depth, h]
theorem shaped_ints (ns : List Int) : SeqAt.shaped (.list (ns.map PyData.int)) = true := by
  unfold SeqAt.shaped
  simp [PyData.canLay0, canLay_ints, PyData.depth, depth_ints]
theorem eqv_nil_list (ds : List PyData) : PyData.eqv (.list ds) (.list []) = ds.isEmpty := by
  cases ds <;> simp [PyData.eqv, PyData.eqvAll]
section
variable {K : PySem.W.Frag} {H : Hp} {Q : VK}
theorem rd_neNil {p e : Addr} {ns : List Int} (h1 : SqL K H p (ns.map V.int)) (h2 : SqL K H e []) (q : Q (.bl (!ns.isEmpty)) H) : rNeD K (.ref p) (.ref e) H Q :=
  ⟨.list (ns.map PyData.int), .list [], .lst h1 (dpAll_ints ns), .lst h2 .nil, shaped_ints ns, shaped_ints [], by
    rw [eqv_nil_list]
    cases ns <;> exact q⟩
theorem rd_int1 {i : Int} {x : List Int} (q : Q (.int i) H) : (∃ j, [V.int i] = [V.int j] ∧ Q (.int j) H) ∨ ∃ k, [V.int i] = [V.bl k] ∧ Q (.int (if k = true then 1 else 0)) H := .inl ⟨i, rfl, q⟩
end
theorem atI_last1 {xs : List V} {v : V} (h : xs.getLast? = some v) : atI xs (-1) = some v := by
  obtain ⟨ys, rfl⟩ : ∃ ys, xs = ys ++ [v] := by
    cases hx : xs with
    | nil => rw [hx] at h; simp at h
    | cons a r =>
      have := List.dropLast_concat_getLast (l := xs) (by rw [hx]; simp)
      rw [List.getLast?_eq_getLast (by rw [hx]; simp)] at h
      exact ⟨xs.dropLast, by rw [← hx, ← Option.some.inj h, this]⟩
  exact atI_last _ _

/-! ### built-ins under names -/
def rIntI : List V → Hp → VK → Prop := fun xs H Q => ∃ i, xs = [.int i] ∧ Q (.int i) H
def rIntB : List V → Hp → VK → Prop := fun xs H Q => ∃ b : Bool, xs = [.bl b] ∧ Q (.int (if b then 1 else 0)) H
def rStrS : List V → Hp → VK → Prop := fun xs H Q => ∃ a, xs = [.str a] ∧ Q (.str a) H
def rListX : List V → Hp → VK → Prop := fun xs H Q => ∃ l : List Nat, xs = [.str (tx l)] ∧ l.length ≤ sizeLine ∧ ∀ p, H p = none → Q (.ref p) (upd H p (.lst (sgs l)))
def rDivmod : List V → Hp → VK → Prop := fun xs H Q => ∃ i j, xs = [.int i, .int j] ∧ 0 < j ∧ j.natAbs.log2 < 9000 ∧ ∀ p, H p = none → Q (.ref p) (upd H p (.tup [.int (i / j), .int (i % j)]))
def rLenQ (K : PySem.W.Frag) : List V → Hp → VK → Prop := fun xs H Q => ∃ p ys, xs = [.ref p] ∧ (SqL K H p ys ∨ SqT K H p ys) ∧ Q (.int (ys.length : Nat)) H
def rSplitW (K : PySem.W.Frag) : List V → Hp → VK → Prop := fun xs H Q => ∃ p ys, xs = [.ref p] ∧ (SqL K H p ys ∨ SqT K H p ys) ∧ ∀ l, H l = none → Q (.ref l) (upd H l (.lst ys))
section
variable {X : Cx}
theorem call_intI : CallR X (.type "int") rIntI := fun pins s σ H xs us Q I r h => call_int1 pins s σ H xs us Q I r (.inl h)
theorem call_intB : CallR X (.type "int") rIntB := fun pins s σ H xs us Q I r h => call_int1 pins s σ H xs us Q I r (.inr h)
theorem call_strS : CallR X (.type "str") rStrS := SkE.call_str_str
theorem call_listX (hc : X.calm = true) : CallR X (.type "list") rListX := call_list_strR hc
theorem call_lenQ : CallR X (.builtin "len") (rLenQ X.K) := call_len_seq
theorem call_listQ : CallR X (.type "list") (rSplitW X.K) := call_list_of
end
section
variable {K : PySem.W.Frag} {H : Hp} {Q : VK}
theorem rd_intI {i : Int} (q : Q (.int i) H) : rIntI [.int i] H Q := ⟨i, rfl, q⟩
theorem rd_intB {b : Bool} (q : Q (.int (if b then 1 else 0)) H) : rIntB [.bl b] H Q := ⟨b, rfl, q⟩
theorem rd_strS {a : Str} (q : Q (.str a) H) : rStrS [.str a] H Q := ⟨a, rfl, q⟩
theorem rd_listX {l : List Nat} (hl : l.length ≤ sizeLine) (q : ∀ p, H p = none → Q (.ref p) (upd H p (.lst (sgs l)))) : rListX [.str (tx l)] H Q := ⟨l, rfl, hl, q⟩
theorem rd_lenL {p : Addr} {ys : List V} (h : SqL K H p ys) (q : Q (.int (ys.length : Nat)) H) : rLenQ K [.ref p] H Q := ⟨p, ys, rfl, .inl h, q⟩
theorem rd_lenT {p : Addr} {ys : List V} (h : SqT K H p ys) (q : Q (.int (ys.length : Nat)) H) : rLenQ K [.ref p] H Q := ⟨p, ys, rfl, .inr h, q⟩
theorem rd_all {p : Addr} {bs : List Bool} (h : SqL K H p (bs.map V.bl)) (q : Q (.bl (bs.all id)) H) : rAll K [.ref p] H Q := ⟨p, bs, rfl, h, q⟩
theorem rd_sortS {p : Addr} {zs : List Str} (h : SqL K H p (zs.map V.str)) (hl : zs.length < 64) (q : ∀ (ys : List Str) (p : Addr), ys.Perm zs → sortedS ys = true → H p = none → Q (.ref p) (upd H p (.lst (ys.map V.str)))) : rSortedS K [.ref p] H Q := ⟨p, zs, rfl, h, hl, q⟩
theorem rd_popAt {p : Addr} {xs : List V} {i : Nat} {y : V} (h : H p = some (.lst xs)) (hi : i < 2 ^ 62) (hy : xs[i]? = some y) (q : Q y (upd H p (.lst (xs.eraseIdx i)))) : rPopAt (.ref p) [.int (i : Nat)] H Q := by
  have hl : i < xs.length := (List.getElem?_eq_some_iff.mp hy).1
  refine ⟨p, xs, (i : Int), i, y, rfl, rfl, h, by omega, by omega, ?_, hy, q⟩
  unfold seqIndex?
  simp
  omega
theorem rd_joinX {p : Addr} {ls : List (List Nat)} (h : SqL K H p (ls.map fun l => V.str (tx l))) (hz : (ls.map List.length).sum ≤ 16777216) (q : Q (.str (tx ls.flatten)) H) : rJoinX K (.str (tx [])) [.ref p] H Q := ⟨p, ls, rfl, rfl, h, hz, q⟩
theorem rd_slL {p : Addr} {xs : List V} {lo hi : Option Int} (h : SqL K H p xs) (q : ∀ n, H n = none → Q (.ref n) (upd H n (.lst (cutV xs lo hi)))) : rSlL K (.ref p) lo hi H Q := ⟨p, xs, rfl, h, q⟩
theorem rd_revL {σ : L2.St} {te : TE} (h : te σ H fun x H1 => ∃ a xs, x = .ref a ∧ SqL K H1 a xs ∧ ∀ p, H1 p = none → Q (.ref p) (upd H1 p (.lst xs.reverse))) : tRevL K te σ H Q := h
end

/-! ### comprehensions and loops -/
theorem same_mut {H H' : Hp} {p : Addr} {o : HO} (e : Same H H') (h : H p = none) : Same H (upd H' p o) := fun a u ha => by
  rw [upd_ne (ne_of_none ha h)]
  exact e a u ha
theorem Keep.mut {D L p : Addr} {H H' : Hp} {o : HO} (e : Keep D L H H') (h : H p = none) : Keep D L H (upd H' p o) := fun a u ha h1 h2 => by
  rw [upd_ne (ne_of_none ha h)]
  exact e a u ha h1 h2
section
variable {K : PySem.W.Frag} {σ : L2.St} {H : Hp} {Q : VK} {D : Ends} {tl te : TE} {tt : TT} {g : TG} {tb : TS} {wi : TI} {vs : List Nat} {R : It → Hp → Prop}
theorem rd_lc (h : wi σ H fun J H1 => ∀ D, H1 D = none → ∃ W : Nat → Nat → Hp → Prop, (∃ m, W 0 m (upd H1 D (.lst []))) ∧ ∀ i m H, W i m H →
  (J.stop i H ∧ Q (.ref D) H) ∨ (J.go i H ∧ ∃ Nx : Hp → Prop, (∀ H', Nx H' → ∃ m', m' < m ∧ W (i + 1) m' H') ∧ ∀ x H', J.yld i H x H' → g x (wipe σ vs) H' fun σ2 H2 => wipe σ2 vs = wipe σ vs ∧ tt σ2 H2 fun b H3 =>
    if b = true then te σ2 H3 fun y H4 => ∃ acc, H4 D = some (.lst acc) ∧ acc.length < sizeLine ∧ Nx (upd H4 D (.lst (acc ++ [y]))) else Nx H3)) : tLc wi g tt te vs σ H Q := h
theorem rd_iList (h : tl σ H fun x H1 => ∃ a, x = .ref a ∧ (∃ xs, SqL K H1 a xs) ∧ R (Itl K a) H1) : iList K tl σ H R := h
theorem rd_iStr (h : tl σ H fun v H1 => ∃ x, v = .str x ∧ R (Its x) H1) : iStr tl σ H R := h
theorem rd_iTup (h : tl σ H fun x H1 => ∃ a, x = .ref a ∧ (∃ xs, SqT K H1 a xs) ∧ R (Itt K a) H1) : iTup K tl σ H R := h
theorem rd_for (h : wi σ H fun J H1 => ∃ W : Nat → Nat → L2.St → Hp → Prop, (∃ m, W 0 m σ H1) ∧ ∀ i m σ H, W i m σ H →
  (J.stop i H ∧ D.nx σ H) ∨ (J.go i H ∧ ∃ N : L2.St → Hp → Prop, (∀ σ' H', N σ' H' → ∃ m', m' < m ∧ W (i + 1) m' σ' H') ∧ ∀ x H', J.yld i H x H' → g x σ H' fun σ2 H2 => tb { D with nx := N, ct := N, bk := D.nx } σ2 H2)) : tFor wi g tb D σ H := h
theorem rd_rng1 {ta : TA} (h : ta σ H fun vs H1 => ∃ j : Int, vs = [.int j] ∧ -(2 ^ 62) ≤ j ∧ j < 2 ^ 62 ∧ R (Itr 0 j.toNat) H1) : iRng1 ta σ H R := h
theorem rd_rng2 {ta : TA} (h : ta σ H fun vs H1 => ∃ i j : Int, vs = [.int i, .int j] ∧ (-(2 ^ 62) ≤ i ∧ i < 2 ^ 62 ∧ -(2 ^ 62) ≤ j ∧ j < 2 ^ 62) ∧ R (Itr i (j - i).toNat) H1) : iRng2 ta σ H R := h
theorem rd_yes {Q : Bool → Hp → Prop} (h : Q true H) : tYes σ H Q := h
theorem rd_cut {t u : TS} (Mid : L2.St → Hp → Prop) (h : t { D with nx := Mid } σ H) (k : ∀ σ' H', Mid σ' H' → u D σ' H') : Evl.tCut t u D σ H := ⟨Mid, h, k⟩
end
theorem cutV_ints (ns : List Int) (lo hi : Option Int) : ∃ zs : List Int, cutV (ns.map V.int) lo hi = zs.map V.int ∧ zs.length ≤ ns.length := by
  refine ⟨(ns.drop (HT.sIx (ns.map V.int).length 0 lo)).take (HT.sIx (ns.map V.int).length (ns.map V.int).length hi - HT.sIx (ns.map V.int).length 0 lo), ?_, ?_⟩
  · unfold cutV
    rw [List.map_take, List.map_drop]
  · rw [List.length_take, List.length_drop]
    omega
theorem take_snoc {α β : Type} {xs : List α} {i : Nat} {x : α} (f : α → β) (h : xs[i]? = some x) : (xs.take (i + 1)).map f = (xs.take i).map f ++ [f x] := by
  rw [List.take_add_one, h, List.map_append]
  rfl
theorem get_map {α : Type} {xs : List α} {f : α → V} {i : Nat} {v : V} (h : (xs.map f)[i]? = some v) : ∃ x, xs[i]? = some x ∧ v = f x := by
  rw [List.getElem?_map] at h
  cases e : xs[i]? with
  | none => rw [e] at h; cases h
  | some x => rw [e] at h; exact ⟨x, rfl, (Option.some.inj h).symm⟩

/-! ### a sequence that is a list or a text -/
def rLenA (K : PySem.W.Frag) : List V → Hp → VK → Prop := fun xs H Q => rLenQ K xs H Q ∨ rLenX xs H Q
def rIxA (K : PySem.W.Frag) : R2 := fun x y H Q => rIxL K x y H Q ∨ rIxX x y H Q
theorem sgs_len (l : List Nat) : (sgs l).length = l.length := by simp [sgs]
section
variable {X : Cx}
theorem call_lenA : CallR X (.builtin "len") (rLenA X.K) := fun pins s σ H xs us Q I r h => h.elim (call_lenQ pins s σ H xs us Q I r) (call_lenX pins s σ H xs us Q I r)
theorem ix_any : IxR X (rIxA X.K) := ix_list.or ix_strX
end
section
variable {K : PySem.W.Frag} {H : Hp} {Q : VK} {v x : V} {ys : List V} {j : Nat}
theorem rd_lenA (h : (∃ a, v = .ref a ∧ SqL K H a ys) ∨ ∃ l, v = .str (tx l) ∧ ys = sgs l ∧ l.length ≤ sizeLine) (q : Q (.int (ys.length : Nat)) H) : rLenA K [v] H Q := by
  rcases h with ⟨a, rfl, h⟩ | ⟨l, rfl, rfl, h⟩
  · exact .inl ⟨a, ys, rfl, .inl h, q⟩
  · exact .inr ⟨l, rfl, h, by rw [sgs_len] at q; exact q⟩
theorem rd_ixA (h : (∃ a, v = .ref a ∧ SqL K H a ys) ∨ ∃ l, v = .str (tx l) ∧ ys = sgs l ∧ l.length ≤ sizeLine) (hj : ys[j]? = some x) (q : Q x H) : rIxA K v (.int (j : Nat)) H Q := by
  rcases h with ⟨a, rfl, h⟩ | ⟨l, rfl, rfl, h⟩
  · exact .inl ⟨a, ys, _, x, rfl, rfl, h, atI_nat hj, q⟩
  · obtain ⟨c, hc, rfl⟩ := get_map hj
    exact .inr ⟨l, _, c, rfl, rfl, h, atI_nat hc, q⟩
end

/-! ### sorted sgs -/
theorem perm_map {α β : Type} {f : α → β} : ∀ {ys : List β} {xs : List α}, ys.Perm (xs.map f) → ∃ zs : List α, zs.Perm xs ∧ ys = zs.map f := by
  intro ys xs h
  generalize hz : xs.map f = zs at h
  induction h generalizing xs with
  | nil => exact ⟨xs, List.Perm.refl _, hz.symm⟩
  | cons x h ih =>
    cases xs with
    | nil => simp at hz
    | cons a r =>
      rw [List.map_cons] at hz
      injection hz with h1 h2
      obtain ⟨zs, p, e⟩ := ih h2
      exact ⟨a :: zs, p.cons a, by rw [List.map_cons, h1, e]⟩
  | swap x y l =>
    cases xs with
    | nil => simp at hz
    | cons a r =>
      cases r with
      | nil => simp at hz
      | cons b t =>
        rw [List.map_cons, List.map_cons] at hz
        injection hz with h1 h2
        injection h2 with h2 h3
        exact ⟨b :: a :: t, List.Perm.swap _ _ _, by rw [List.map_cons, List.map_cons, h1, h2, h3]⟩
  | trans h1 h2 ih1 ih2 =>
    obtain ⟨zs, p, e⟩ := ih2 hz
    obtain ⟨ws, p2, e2⟩ := ih1 e.symm
    exact ⟨ws, p2.trans p, e2⟩
theorem ltCps_one (a b : Nat) : ltCps [a] [b] = decide (a < b) := by
  first | rfl | simp [ltCps]
theorem rising_signs : ∀ (ks : List Nat) (p : Nat), risingS (tx [p]) (ks.map fun c => tx [c]) = true → (p :: ks).Pairwise (· ≤ ·)
  | [], p, _ => by simp
  | k :: r, p, h => by
    rw [List.map_cons] at h
    unfold risingS at h
    rw [Bool.and_eq_true, tx_cps, tx_cps, ltCps_one] at h
    have h1 : p ≤ k := by simpa using h.1
    have h2 := rising_signs r k h.2
    refine List.Pairwise.cons (fun x hx => ?_) h2
    rcases List.mem_cons.mp hx with e | hx
    · omega
    · have := (List.pairwise_cons.mp h2).1 x hx
      omega
theorem sorted_signs {fs : List Nat} {ys : List Str} (hp : ys.Perm (fs.map fun c => tx [c])) (hs : sortedS ys = true) (nd : fs.Nodup) : ∃ ks : List Nat, ys = (ks.map fun c => tx [c]) ∧ ks.Perm fs ∧ ks.Pairwise (· < ·) := by
  obtain ⟨ks, p, rfl⟩ := perm_map hp
  refine ⟨ks, rfl, p, ?_⟩
  have hle : ks.Pairwise (· ≤ ·) := by
    cases ks with
    | nil => exact List.Pairwise.nil
    | cons a r => exact rising_signs r a hs
  have hne : ks.Nodup := p.nodup_iff.mpr nd
  exact (hle.and hne).imp fun h => by omega
theorem flat_ones : ∀ ks : List Nat, (ks.map fun c => [c]).flatten = ks
  | [] => rfl
  | k :: r => by rw [List.map_cons, List.flatten_cons, flat_ones r]; rfl
theorem eraseIdx_perm {α : Type} : ∀ {xs : List α} {i : Nat} {x : α}, xs[i]? = some x → (x :: xs.eraseIdx i).Perm xs
  | [], _, _, h => by simp at h
  | a :: r, 0, x, h => by
    have : a = x := by simpa using h
    subst this
    exact List.Perm.refl _
  | a :: r, i + 1, x, h => by
    have ih := eraseIdx_perm (xs := r) (i := i) (x := x) (by simpa using h)
    rw [List.eraseIdx_cons_succ]
    exact (List.Perm.swap _ _ _).trans (ih.cons a)
theorem sgs_erase (l : List Nat) (i : Nat) : (sgs l).eraseIdx i = sgs (l.eraseIdx i) := by
  unfold sgs
  induction l generalizing i with
  | nil => simp
  | cons a r ih =>
    cases i with
    | zero => simp
    | succ i => simp [ih]

/-! ### walks over a text -/
theorem lc_text {l : List Nat} {g : TG} {tt : TT} {te : TE} {vs : List Nat} {σ : L2.St} {H1 : Hp} {D : Addr} {Qd : Hp → Prop} (Pv : Nat → Hp → Prop) (h0 : Pv 0 (upd H1 D (.lst [])))
    (hs : ∀ (i c : Nat) H, l[i]? = some c → Pv i H → g (.str (tx [c])) (wipe σ vs) H fun σ2 H2 => wipe σ2 vs = wipe σ vs ∧ tt σ2 H2 fun b H3 =>
      if b = true then te σ2 H3 fun y H4 => ∃ acc, H4 D = some (.lst acc) ∧ acc.length < sizeLine ∧ Pv (i + 1) (upd H4 D (.lst (acc ++ [y]))) else Pv (i + 1) H3) (hd : ∀ H, Pv l.length H → Qd H) :
    ∃ W : Nat → Nat → Hp → Prop, (∃ m, W 0 m (upd H1 D (.lst []))) ∧ ∀ i m H, W i m H →
      ((Its (tx l)).stop i H ∧ Qd H) ∨ ((Its (tx l)).go i H ∧ ∃ Nx : Hp → Prop, (∀ H', Nx H' → ∃ m', m' < m ∧ W (i + 1) m' H') ∧ ∀ x H', (Its (tx l)).yld i H x H' → g x (wipe σ vs) H' fun σ2 H2 => wipe σ2 vs = wipe σ vs ∧ tt σ2 H2 fun b H3 =>
        if b = true then te σ2 H3 fun y H4 => ∃ acc, H4 D = some (.lst acc) ∧ acc.length < sizeLine ∧ Nx (upd H4 D (.lst (acc ++ [y]))) else Nx H3) := by
  have hsz : (tx l).cps.size = l.length := by simp [tx]
  refine ⟨fun i m H => m + i = l.length ∧ Pv i H, ⟨l.length, rfl, h0⟩, fun i m H h => ?_⟩
  obtain ⟨hm, p⟩ := h
  by_cases hi : i < l.length
  · refine .inr ⟨show i < (tx l).cps.size by rw [hsz]; exact hi, Pv (i + 1), fun H' p' => ⟨m - 1, by omega, by omega, p'⟩, fun x H' hy => ?_⟩
    obtain ⟨rfl, c, hc, rfl⟩ := hy
    have hc2 : l[i]? = some c := by simpa [tx] using hc
    exact hs i c _ hc2 p
  · have e : i = l.length := by omega
    subst e
    exact .inl ⟨show (tx l).cps.size ≤ l.length by rw [hsz]; exact Nat.le_refl _, hd H p⟩
theorem for_text {l : List Nat} {g : TG} {tb : TS} {D : Ends} {σ : L2.St} {H : Hp} (Pv : Nat → L2.St → Hp → Prop) (h0 : Pv 0 σ H)
    (hs : ∀ (i c : Nat) σ H, l[i]? = some c → Pv i σ H → g (.str (tx [c])) σ H fun σ2 H2 => tb { D with nx := Pv (i + 1), ct := Pv (i + 1), bk := D.nx } σ2 H2) (hd : ∀ σ H, Pv l.length σ H → D.nx σ H) :
    ∃ W : Nat → Nat → L2.St → Hp → Prop, (∃ m, W 0 m σ H) ∧ ∀ i m σ H, W i m σ H →
      ((Its (tx l)).stop i H ∧ D.nx σ H) ∨ ((Its (tx l)).go i H ∧ ∃ N : L2.St → Hp → Prop, (∀ σ' H', N σ' H' → ∃ m', m' < m ∧ W (i + 1) m' σ' H') ∧ ∀ x H', (Its (tx l)).yld i H x H' → g x σ H' fun σ2 H2 => tb { D with nx := N, ct := N, bk := D.nx } σ2 H2) := by
  have hsz : (tx l).cps.size = l.length := by simp [tx]
  refine ⟨fun i m σ H => m + i = l.length ∧ Pv i σ H, ⟨l.length, rfl, h0⟩, fun i m σ H h => ?_⟩
  obtain ⟨hm, p⟩ := h
  by_cases hi : i < l.length
  · refine .inr ⟨show i < (tx l).cps.size by rw [hsz]; exact hi, Pv (i + 1), fun σ' H' p' => ⟨m - 1, by omega, by omega, p'⟩, fun x H' hy => ?_⟩
    obtain ⟨rfl, c, hc, rfl⟩ := hy
    have hc2 : l[i]? = some c := by simpa [tx] using hc
    exact hs i c _ _ hc2 p
  · have e : i = l.length := by omega
    subst e
    exact .inl ⟨show (tx l).cps.size ≤ l.length by rw [hsz]; exact Nat.le_refl _, hd σ H p⟩
def rDivm : List V → Hp → VK → Prop := fun xs H Q => ∃ i j, xs = [.int i, .int j] ∧ 0 < j ∧ j < 1000000000 ∧ ∀ p, H p = none → Q (.ref p) (upd H p (.tup [.int (i / j), .int (i % j)]))
theorem call_divm {X : Cx} : CallR X (.builtin "divmod") rDivm := fun pins s σ H xs us Q I r h => by
  obtain ⟨i, j, e, h1, h2, q⟩ := h
  exact call_divmod pins s σ H xs us Q I r ⟨i, j, e, ⟨h1, by omega⟩, q⟩
theorem rd_divm {H : Hp} {Q : VK} {i j : Int} (h1 : 0 < j) (h2 : j < 1000000000) (q : ∀ p, H p = none → Q (.ref p) (upd H p (.tup [.int (i / j), .int (i % j)]))) : rDivm [.int i, .int j] H Q := ⟨i, j, rfl, h1, h2, q⟩
theorem rd_isiS {K : PySem.W.Frag} {H : Hp} {Q : VK} {z : Str} (q : Q (.bl true) H) : rIsi K [.str z, .ty "str"] H Q := ⟨_, _, _, _, true, rfl, .ty "str", .base (.str z), kit_ty (by decide +kernel), q⟩

theorem scal_int {i : Int} (h : i.natAbs < 2 ^ 250) : scalR (.int i) := Nat.lt_trans (PySem.Flt.log2_lt_of (by decide) h) (by decide)
theorem cut_zero (l : List Nat) (k : Nat) : cutL l none (some (k : Int)) = l.take k := by
  unfold cutL
  rw [HT.sIx_none, HT.sIx_nat, List.drop_zero, Nat.sub_zero]
  rcases Nat.le_total k l.length with h | h
  · rw [Nat.min_eq_left h]
  · rw [Nat.min_eq_right h, List.take_length, List.take_of_length_le h]
theorem mem_reps {n : Nat} {l : List Nat} {c : Nat} (h : c ∈ reps n l) : c ∈ l := by
  unfold reps at h
  rw [List.mem_flatten] at h
  obtain ⟨m, hm, hc⟩ := h
  rw [(List.mem_replicate.mp hm).2] at hc
  exact hc
end Un

namespace Un
open PySem PySem.Spec PyProof.Rows L2
/-! ### rstrip of one sign, startswith, order of texts -/
theorem tail_cut (g : Nat) : ∀ t : List Nat, ∃ p m, t = p ++ List.replicate m g ∧ ∀ c, p.getLast? = some c → c ≠ g := by
  intro t
  induction ht : t.length generalizing t with
  | zero =>
    have : t = [] := List.length_eq_zero_iff.mp ht
    subst this
    exact ⟨[], 0, rfl, fun c h => by cases h⟩
  | succ n ih =>
    have hne : t ≠ [] := by
      rintro rfl
      cases ht
    obtain ⟨q, d, rfl⟩ : ∃ q d, t = q ++ [d] := ⟨t.dropLast, t.getLast hne, (List.dropLast_concat_getLast hne).symm⟩
    by_cases hd : d = g
    · subst hd
      obtain ⟨p, m, e, h⟩ := ih q (by simpa using ht)
      exact ⟨p, m + 1, by rw [e, List.append_assoc, ← List.replicate_succ'], h⟩
    · exact ⟨q ++ [d], 0, by simp, fun c hc => by
        rw [List.getLast?_concat] at hc
        rw [← Option.some.inj hc]
        exact hd⟩
theorem takeWhile_rep (g : Nat) (f : Nat → Bool) (hf : ∀ c, f c = (c == g)) : ∀ (m : Nat) (r : List Nat), (∀ c, r.head? = some c → c ≠ g) → (List.replicate m g ++ r).takeWhile f = List.replicate m g
  | 0, [], _ => rfl
  | 0, c :: r, h => by
    have h1 := h c rfl
    show (c :: r).takeWhile f = []
    rw [List.takeWhile_cons, hf, if_neg (by simpa using h1)]
  | m + 1, r, h => by
    rw [List.replicate_succ, List.cons_append, List.takeWhile_cons, hf, if_pos (by simp), takeWhile_rep g f hf m r h]
theorem rstrip_tx {p : List Nat} {m g : Nat} (h : ∀ c, p.getLast? = some c → c ≠ g) : Txt.rstripChars (tx (p ++ List.replicate m g)) (tx [g]) = tx p := by
  have hlo : stripLo (tx [g]).cps.contains false (tx (p ++ List.replicate m g)) = 0 := rfl
  have hw : ((tx (p ++ List.replicate m g)).cps.toList.drop 0).reverse.takeWhile (tx [g]).cps.contains = List.replicate m g := by
    rw [tx_cps, List.drop_zero, List.reverse_append, List.reverse_replicate]
    refine takeWhile_rep g _ (fun c => ?_) m p.reverse (fun c hc => h c ?_)
    · show (#[g] : Array Nat).contains c = (c == g)
      simp [Array.contains]
    · rw [List.head?_reverse] at hc
      exact hc
  have hhi : stripHi (tx [g]).cps.contains true (tx (p ++ List.replicate m g)) 0 = p.length := by
    unfold stripHi
    rw [if_pos rfl, hw, tx_len, List.length_append, List.length_replicate]
    omega
  unfold Txt.rstripChars Txt.stripBy stripSame
  rw [hlo, hhi, tx_len, List.length_append, List.length_replicate]
  by_cases hm : m = 0
  · subst hm
    simp
  · rw [if_neg (by simp; omega)]
    unfold stripped
    rw [hlo, hhi]
    unfold Builtin.Str.strSub tx
    simp
def rRstX : V → List V → Hp → VK → Prop := fun x xs H Q => ∃ (p : List Nat) (m g : Nat), x = .str (tx (p ++ List.replicate m g)) ∧ xs = [.str (tx [g])] ∧ (∀ c, p.getLast? = some c → c ≠ g) ∧ p.length + m ≤ sizeLine ∧ Q (.str (tx p)) H
section
variable {X : Cx}
theorem mt_rstX : MtR X "str.rstrip" rRstX := by
  intro pins s σ H x xs v us Q I rx rs h
  obtain ⟨p, m, g, rfl, rfl, hp, hz, q⟩ := h
  exact mt_rstripChars pins s σ H _ _ v us Q I rx rs ⟨_, _, rfl, rfl, by rw [tx_len, List.length_append, List.length_replicate]; exact hz, by rw [rstrip_tx hp]; exact q⟩
theorem starts_tx (a b : List Nat) : Txt.startswith (tx a) (tx b) = b.isPrefixOf a := by
  unfold Txt.startswith Builtin.Str.subAt
  rw [tx_len, tx_len, Nat.zero_add, Bool.eq_iff_iff, List.isPrefixOf_iff_prefix, Bool.and_eq_true, decide_eq_true_eq, beq_iff_eq]
  have e : (tx a).cps.extract 0 b.length = (tx b).cps ↔ a.take b.length = b := by
    rw [← Array.toList_inj]
    simp [tx]
  rw [e]
  constructor
  · rintro ⟨h1, h2⟩
    rw [← h2]
    exact List.take_prefix _ _
  · rintro ⟨r, rfl⟩
    simp
def rStartX : V → List V → Hp → VK → Prop := fun x xs H Q => ∃ a b : List Nat, x = .str (tx a) ∧ xs = [.str (tx b)] ∧ Q (.bl (b.isPrefixOf a)) H
theorem mt_startX : MtR X "str.startswith" rStartX := by
  intro pins s σ H x xs v us Q I rx rs h
  obtain ⟨a, b, rfl, rfl, q⟩ := h
  exact mt_startswith pins s σ H _ _ v us Q I rx rs ⟨_, _, rfl, rfl, by rw [starts_tx]; exact q⟩
theorem op_leX : OpR X (compareOp .LtE) rLeX := by
  intro pins s σ H x y v u Q I rx ry h
  obtain ⟨a, b, rfl, rfl, q⟩ := h
  exact op_le_str pins s σ H _ _ v u Q I rx ry ⟨_, _, rfl, rfl, by rw [tx_cps, tx_cps]; exact q⟩
def rIsN1 : R2 := fun x y H Q => y = .non ∧ Q (.bl (decide (x = .non))) H
def rNotN1 : R2 := fun x y H Q => y = .non ∧ Q (.bl (!decide (x = .non))) H
theorem op_isN' : OpR X (compareOp .Is) rIsN1 := op_isN
theorem op_notN' : OpR X (compareOp .IsNot) rNotN1 := op_notN
end
section
variable {K : PySem.W.Frag} {H : Hp} {Q : VK} {x : V}
theorem rd_rstX {p : List Nat} {m g : Nat} (h : ∀ c, p.getLast? = some c → c ≠ g) (hz : p.length + m ≤ sizeLine) (q : Q (.str (tx p)) H) : rRstX (.str (tx (p ++ List.replicate m g))) [.str (tx [g])] H Q := ⟨p, m, g, rfl, rfl, h, hz, q⟩
theorem rd_startX {a b : List Nat} (q : Q (.bl (b.isPrefixOf a)) H) : rStartX (.str (tx a)) [.str (tx b)] H Q := ⟨a, b, rfl, rfl, q⟩
theorem rd_leX {a b : List Nat} (q : Q (.bl (!decide (b < a))) H) : rLeX (.str (tx a)) (.str (tx b)) H Q := ⟨a, b, rfl, rfl, q⟩
theorem rd_isN1 (q : Q (.bl (decide (x = .non))) H) : rIsN1 x .non H Q := ⟨rfl, q⟩
theorem rd_notN1 (q : Q (.bl (!decide (x = .non))) H) : rNotN1 x .non H Q := ⟨rfl, q⟩
theorem rd_eqNilNil {p e : Addr} (h1 : SqL K H p []) (h2 : SqL K H e []) (q : Q (.bl true) H) : rEqD K (.ref p) (.ref e) H Q := ⟨.list [], .list [], .lst h1 .nil, .lst h2 .nil, shaped_ints [], shaped_ints [], by rw [eqv_nil_list]; exact q⟩
theorem rd_neNilNil {p e : Addr} (h1 : SqL K H p []) (h2 : SqL K H e []) (q : Q (.bl false) H) : rNeD K (.ref p) (.ref e) H Q := ⟨.list [], .list [], .lst h1 .nil, .lst h2 .nil, shaped_ints [], shaped_ints [], by rw [eqv_nil_list]; exact q⟩
theorem rd_cat {p q : Addr} {xs ys : List V} (h1 : H p = some (.lst xs)) (h2 : H q = some (.lst ys)) (hz : xs.length + ys.length ≤ sizeLine) (k : ∀ n, H n = none → Q (.ref n) (upd H n (.lst (xs ++ ys)))) : rCat (.ref p) (.ref q) H Q := ⟨p, q, xs, ys, rfl, rfl, h1, h2, hz, k⟩
end
theorem reps_one (n g : Nat) : reps n [g] = List.replicate n g := by
  unfold reps
  induction n with
  | zero => rfl
  | succ n ih => rw [List.replicate_succ, List.flatten_cons, ih]; rfl
theorem atI_m1 {l : List Nat} {c : Nat} (h : l.getLast? = some c) : atI l (-1) = some c := by
  have hne : l ≠ [] := by
    rintro rfl
    cases h
  rw [List.getLast?_eq_getLast hne] at h
  rw [← Option.some.inj h]
  conv => lhs; rw [← List.dropLast_concat_getLast hne]
  exact atI_last _ _
theorem cut_m1 (l : List Nat) (c : Nat) : cutL (l ++ [c]) none (some (-1)) = l := by
  unfold cutL
  have h : HT.sIx (l ++ [c]).length (l ++ [c]).length (some (-1)) = l.length := by
    unfold HT.sIx
    rw [List.length_append]
    simp
    try omega
  rw [HT.sIx_none, h]
  simp
end Un

set_option maxHeartbeats 2000000
/-! UnZip: zip of two texts, the signs in new pairs. -/
namespace Un
open PySem PySem.Spec PyProof.Rows L2
def ItzS (x y : Str) : It :=
  ⟨fun i _ => i < x.cps.size ∧ i < y.cps.size,
    fun i H v H' => ∃ T c d, v = .ref T ∧ H T = none ∧ H' = upd H T (.tup [.str ⟨#[c]⟩, .str ⟨#[d]⟩]) ∧ x.cps[i]? = some c ∧ y.cps[i]? = some d,
    fun i _ => i ≤ x.cps.size ∧ i ≤ y.cps.size ∧ (i = x.cps.size ∨ i = y.cps.size)⟩
theorem turn_zipS {P : Program} {w : World} {K : PySem.W.Frag} {elts : List Expr} {kk : Nat} {tpos : Pos} {z TI TO i1 i2 : Addr} {x y : Str} {t u : Tok} (D : ZipSep2 z TI TO i1 i2 [i1] [i2]) :
    Turn P w K (.Tuple elts kk tpos) (ItzS x y) [z, TI, TO, i1, i2] z (fun i h => IsZip h z TI TO .none ∧ IsTupOf2 h TI (.ref i1) (.ref i2) ∧ (∃ a b, IsTupOf2 h TO a b) ∧ h.IsStrIter i1 (strIterType x) x t i ∧ h.IsStrIter i2 (strIterType y) y u i) where
  mem := by simp
  obj := fun i h st c hc => by
    obtain ⟨hz, hTI, ⟨a, b, hTO⟩, ⟨o1, e1, _, d1⟩, ⟨o2, e2, _, d2⟩⟩ := st
    have e' : c = z ∨ c = TI ∨ c = TO ∨ c = i1 ∨ c = i2 := by simpa using hc
    rcases e' with q | q | q | q | q
    · rw [q]; exact ⟨_, hz, fun v q => nomatch q⟩
    · rw [q]; exact ⟨_, hTI, fun v q => nomatch q⟩
    · rw [q]; exact ⟨_, hTO, fun v q => nomatch q⟩
    · rw [q]; exact ⟨o1, e1, fun v q => by rw [d1] at q; cases q⟩
    · rw [q]; exact ⟨o2, e2, fun v q => by rw [d2] at q; cases q⟩
  keep := fun i h h' st k => by
    obtain ⟨hz, hTI, ⟨a, b, hTO⟩, ⟨o1, e1, r1⟩, ⟨o2, e2, r2⟩⟩ := st
    exact ⟨k z (by simp) _ hz, k TI (by simp) _ hTI, ⟨a, b, k TO (by simp) _ hTO⟩, ⟨o1, k i1 (by simp) o1 e1, r1⟩, ⟨o2, k i2 (by simp) o2 e2, r2⟩⟩
  item := by
    intro X hP hw hK hc i pins s σ H E I hf st hg
    subst hP hw hK
    obtain ⟨hz, hTI, ⟨a, b, hTO⟩, h1, h2⟩ := st
    have hzl : z < s.heap.objs.size := Heap.lt_size hz
    have hd : X.A.in1.handled = none := I.ok.hd hc
    refine wpAny_pyNext_zipD2_item D (Draws.text hd i1 x t) (Draws.text hd i2 y u) hz hTI hTO h1 h2 hg.1 hg.2 fun x1 x2 h' tk p1 p2 z' TO' h1' h2' hT hsz hk => ?_
    obtain ⟨c, tc, hcx, rfl⟩ := p1
    obtain ⟨d, td, hdy, rfl⟩ := p2
    refine ⟨_, rfl, wpAny_letOwnedTupleGo_zip (s := { s with heap := h', toks := tk }) z' fun h'' z'' sb => ?_⟩
    have hT2 : h''.get? s.heap.objs.size = some { cls := .type "tuple", data := .seq #[.str ⟨#[c]⟩ tc, .str ⟨#[d]⟩ td] } := (sb.2 _ (Nat.ne_of_gt hzl)).trans hT
    have new : ObjOk X.prog X.w (upd H s.heap.objs.size (.tup [.str ⟨#[c]⟩, .str ⟨#[d]⟩])) h'' s.heap.objs.size (.tup [.str ⟨#[c]⟩, .str ⟨#[d]⟩]) :=
      ⟨by show 2 ≤ sizeLine; decide, [.str ⟨#[c]⟩ tc, .str ⟨#[d]⟩ td], .cons ⟨tc, rfl⟩ (.cons ⟨td, rfl⟩ .nil), ⟨_, hT2, rfl, _, rfl⟩⟩
    have I1 : Inv X pins σ (upd H s.heap.objs.size (.tup [.str ⟨#[c]⟩, .str ⟨#[d]⟩])) { s with heap := h'', toks := tk } :=
      I.turnedNew (t' := tk) (ch := [z, TI, TO, i1, i2]) (fun c o hb q => (sb.2 c (fun q' => hb (by simp [q']))).trans (hk c o (fun q' => hb (by simp [q'])) (fun q' => hb (by simp [q'])) (fun q' => hb (by simp [q'])) (fun q' => hb (by simp [q'])) q)) hf (Nat.le_refl _) new
    have l1 : i1 < s.heap.objs.size := by obtain ⟨_, e1, _⟩ := h1; exact Heap.lt_size e1
    have l2 : i2 < s.heap.objs.size := by obtain ⟨_, e1, _⟩ := h2; exact Heap.lt_size e1
    refine ⟨.ref s.heap.objs.size, _, I1, rfl, ⟨_, c, d, rfl, I.hok.fresh (Nat.le_refl _), rfl, hcx, hdy⟩, ⟨z'', ?_, ⟨.str ⟨#[c]⟩ tc, .str ⟨#[d]⟩ td, ?_⟩, ?_, ?_⟩, fun c hcm => ?_⟩
    · exact (sb.2 _ D.TIz).trans (hk _ _ D.TIz D.TITO D.TIi1 D.TIi2 hTI)
    · exact (sb.2 _ D.TOz).trans TO'
    · obtain ⟨o, e, r⟩ := h1'
      exact ⟨o, (sb.2 _ D.zi1.symm).trans e, r⟩
    · obtain ⟨o, e, r⟩ := h2'
      exact ⟨o, (sb.2 _ D.zi2.symm).trans e, r⟩
    · have hlt : c < s.heap.objs.size := by
        have e' : c = z ∨ c = TI ∨ c = TO ∨ c = i1 ∨ c = i2 := by simpa using hcm
        rcases e' with q | q | q | q | q
        · rw [q]; exact hzl
        · rw [q]; exact Heap.lt_size hTI
        · rw [q]; exact Heap.lt_size hTO
        · rw [q]; exact l1
        · rw [q]; exact l2
      rw [upd_ne (Nat.ne_of_lt hlt)]
      exact (hf c hcm).1
  done := by
    intro X hP hw hK hc i pins s σ H E I hf st hg
    subst hP hw hK
    obtain ⟨hz, hTI, ⟨a, b, hTO⟩, h1, h2⟩ := st
    have hd : X.A.in1.handled = none := I.ok.hd hc
    exact wpAny_pyNext_zipD2_end D (Draws.text hd i1 x t) (Draws.text hd i2 y u) hz hTI hTO h1 h2 hg.1 hg.2.1 hg.2.2 fun h' tk hk => ⟨rfl, I.turnedL (t' := tk) (ch := [z, TI, TO, i1, i2]) (fun c o hb q =>
      hk c o (fun q' => hb (by simp [q'])) (fun q' => hb (by simp [q'])) (fun q' => hb (by simp [q'])) (fun q' => hb (by simp [q'])) q) hf⟩
  self := fun A i s Q E st h => wpAny_pyIter_zip st.1 h
def iZipS (ta : TA) : TI := fun σ H R => ta σ H fun vs H1 => ∃ x y, vs = [.str x, .str y] ∧ R (ItzS x y) H1
theorem sep5 (n : Addr) : ZipSep2 (n + 4) (n + 2) (n + 3) n (n + 1) [n] [n + 1] where
  TIz := Nat.ne_of_lt (Nat.add_lt_add_left (by decide) n)
  TOz := Nat.ne_of_lt (Nat.add_lt_add_left (by decide) n)
  TITO := Nat.ne_of_lt (Nat.add_lt_add_left (by decide) n)
  TIi1 := Nat.ne_of_gt (Nat.lt_add_of_pos_right (by decide))
  mem1 := List.mem_singleton.mpr rfl
  zf1 := fun h => absurd (List.mem_singleton.mp h) (Nat.ne_of_gt (Nat.lt_add_of_pos_right (by decide)))
  Tf1 := fun h => absurd (List.mem_singleton.mp h) (Nat.ne_of_gt (Nat.lt_add_of_pos_right (by decide)))
  TIi2 := Nat.ne_of_gt (Nat.add_lt_add_left (by decide) n)
  mem2 := List.mem_singleton.mpr rfl
  zf2 := fun h => absurd (List.mem_singleton.mp h) (Nat.ne_of_gt (Nat.add_lt_add_left (by decide) n))
  Tf2 := fun h => absurd (List.mem_singleton.mp h) (Nat.ne_of_gt (Nat.add_lt_add_left (by decide) n))
  sep1_2 := fun h => absurd (List.mem_singleton.mp h) (Nat.ne_of_lt (Nat.lt_add_of_pos_right (by decide)))
  sep2_1 := fun h => absurd (List.mem_singleton.mp h) (Nat.ne_of_gt (Nat.lt_add_of_pos_right (by decide)))
theorem pi_zipS {X : Cx} {e e2 : Expr} {ta : TA} {p pos tpos : Pos} {elts : List Expr} {kk : Nat} (hg : Gl X "zip") (hm : X.mg "zip" = none) (ha : PA X [e, e2] ta)
    (hs : starEach [e, e2] X.env = (false, eval e X.env) :: starEach [e2] X.env := by rfl) (hpl : (backTo pos (starEach [e2] X.env)).any (·.1) = false := by rfl) :
    PI X (.Tuple elts kk tpos) (.Call (.Name "zip" p) [e, e2] [] pos) (iZipS ta) := by
  refine ⟨fun pins s σ H R I h => ?_⟩
  refine Call_ (ld_blt I hg hm PyProof.Rows.boot_zip (PyProof.Rows.callWith_type1 (thn (ha.run pos pins s σ H _ I h) fun us s1 ⟨vs, H1, I1, r1, q1⟩ => ?_) hs hpl))
  obtain ⟨x, y, ex, q⟩ := q1
  subst ex
  cases r1 with
  | cons r rr =>
    cases rr with
    | cons r' rr =>
      cases rr
      obtain ⟨t, rfl⟩ := r
      obtain ⟨u, rfl⟩ := r'
      have fresh5 : ∀ c, c ∈ [s1.heap.objs.size + 4, s1.heap.objs.size + 2, s1.heap.objs.size + 3, s1.heap.objs.size, s1.heap.objs.size + 1] → FpOk X pins H1 c := fun c hcm => by
        have e' : c = s1.heap.objs.size + 4 ∨ c = s1.heap.objs.size + 2 ∨ c = s1.heap.objs.size + 3 ∨ c = s1.heap.objs.size ∨ c = s1.heap.objs.size + 1 := by simpa using hcm
        have hle : s1.heap.objs.size ≤ c := by
          rcases e' with z | z | z | z | z
          · rw [z]; exact Nat.le_add_right _ _
          · rw [z]; exact Nat.le_add_right _ _
          · rw [z]; exact Nat.le_add_right _ _
          · rw [z]; exact Nat.le_refl _
          · rw [z]; exact Nat.le_add_right _ _
        exact I1.fpOk hle (I1.hok.fresh hle)
      refine zip_begins2 (begins_text x t) (begins_text y u) trivial trivial fun h' hz hTI hTO h1 h2 hsz hk => wpAny_pyIter_zip hz ?_
      have I2 : Inv X pins σ H1 { s1 with heap := h' } := I1.kept (t' := s1.toks) hk
      exact ⟨s1.heap.objs.size + 4, [s1.heap.objs.size + 4, s1.heap.objs.size + 2, s1.heap.objs.size + 3, s1.heap.objs.size, s1.heap.objs.size + 1], _, _, H1, rfl, I2,
        turn_zipS (sep5 _), ⟨hz, hTI, ⟨_, _, hTO⟩, ⟨_, h1, rfl, rfl⟩, ⟨_, h2, rfl, rfl⟩⟩, fresh5, q⟩
theorem rd_zipS {x y : Str} {H : Hp} {R : It → Hp → Prop} (q : R (ItzS x y) H) : ∃ x' y', [V.str x, V.str y] = [.str x', .str y'] ∧ R (ItzS x' y') H := ⟨x, y, rfl, q⟩
end Un

/-! Defs whose promise is kept where no guard of a repr stands around the call: the same three steps as for a plain def (entry, body, call), each with one premise more. -/
namespace Un
open PySem PySem.Spec PyProof.Rows L2
structure FnG (P : Program) (w : World) (K : PySem.W.Frag) (mg : Str → Option Value) (base : Heap) (k : Nat) (f : Addr) (fd : FuncData) (ps : List Str) (sp : Sp) : Prop where
  len : ∀ vs H Q E, sp vs H Q E → vs.length = ps.length
  run : ∀ (A : Around) (outer : List Env) (s : Shared) (H : Hp) (args : Args) (us : List Value) (vs : List V) (Q : VK) (E : XK), A.guards = some [] → Room k A → Env0 P w K mg base A outer s H → BindsTo s fd args (ps.zip us) →
    Vals vs us → sp vs H Q E → codeAny (model P w) A (.call (.ref f) args) (CR CX0 outer P w H s Q E) s
section
variable {P : Program} {w : World} {K : PySem.W.Frag} {mg : Str → Option Value} {base : Heap}
theorem okG {nm qual : Str} {st : Stmt} {f : Addr} {fd : FuncData} {N ps : List Str} {k : Nat} {sp : Sp} (F : Fun K nm qual st f fd) (S : FnScope N ps (defScope st)) (hlen : ∀ vs H Q E, sp vs H Q E → vs.length = ps.length)
    (hb : ∀ (cdv : Value) (A : Around) (outer : List Env) (s : Shared) (H : Hp) (vs : List V) (Q : VK) (E : XK), A.guards = some [] → Room k (A.deeper (envOfC qual (defScope st) s.heap.objs.size f cdv)) → sp vs H Q E →
      ∃ t, PSs (cxOf CX0 P w K mg base N qual (defScope st) f cdv A outer s H E).nox (defBody st) t ∧ t { nx := fun _ H' => Q .non H', rt := Q } (start N vs) H) : FnG P w K mg base (k + 1) f fd ps sp := by
  obtain ⟨c1, c2, c3, c4, c5, c6, cdv, c7, c8, rfl, look, code⟩ := F.ex
  constructor
  · exact hlen
  · intro A outer s H args us vs Q E gA room e0 bd rel asked
    have same := hlen _ _ _ _ asked
    have inHeap : K.In s.heap := e0.mod.kin.keeps fun b o hbo => (e0.bs b o hbo).1
    have free := e0.mod.nolimit.keeps (h' := s.heap) fun b o hbo => (e0.bs b o hbo).1
    have kinds : ∀ y ∈ ps.zip us, (defScope st).names.lookup y.1 = some .local ∨ ((defScope st).names.lookup y.1 = some .cell ∧ ((cellsFrom (s.heap.objs.size + 1) (defScope st).names []).lookup y.1).isSome = true) := by
      rintro ⟨n, v⟩ hy
      exact (S.par n (List.of_mem_zip hy).1).imp id fun hc => ⟨hc, PySem.W.cellsFrom_some _ _ _ (.inl hc)⟩
    refine codeAny_call_function room.depth (inHeap _ _ look) rfl S.co S.gen rfl (PySem.W.codeRec_of inHeap code) (bd _ _ _ _ ?_)
    refine wpAny_newFunctionEnv_cells S.kind kinds fun env henv s1 entry => ?_
    subst henv
    obtain ⟨t, ht, hq⟩ := hb cdv A outer s H vs Q E gA (room.deeper _) asked
    have I0 : Inv (cxOf CX0 P w K mg base N qual (defScope st) f cdv A outer s H E) [] (start N vs) H s1 := inv_start S room.hd e0 same rel entry
    refine ⟨free.keeps entry.toInCall.keep, codeAny_func (wpAny_mono (ht.nox.run [] s1 (start N vs) H _ I0 hq) (fun flow s' hs => ?_) fun e s' hs => hs)⟩
    cases flow with
    | ret u => exact match hs with | ⟨v, σ', H', J, rv, q⟩ => ⟨v, H', J.os, J.bare, J.base, J.hok, rv, q⟩
    | next => exact match hs with | ⟨σ', H', J, q⟩ => ⟨V.non, H', J.os, J.bare, J.base, J.hok, rfl, q⟩
    | brk => exact match hs with | ⟨_, _, _, q⟩ => False.elim q
    | cont => exact match hs with | ⟨_, _, _, q⟩ => False.elim q
/-- a def under its name, of that kind -/
def ClG (P : Program) (w : World) (K : PySem.W.Frag) (mg : Str → Option Value) (base : Heap) (nm : Str) (ps : List Str) (k : Nat) (sp : Sp) : Prop :=
  ∃ (f : Addr) (fd : FuncData), mg nm = some (.ref f) ∧ FnG P w K mg base k f fd ps sp ∧ PySem.W.keepIn K (.ref f) = true ∧ Binds K fd ps []
theorem clG_of {nm : Str} {st : Stmt} {ps : List Str} {k : Nat} {sp : Sp} (a : At K mg nm st ps) (h : ∀ f fd, Fun K nm nm st f fd → FnG P w K mg base k f fd ps sp) : ClG P w K mg base nm ps k sp := by
  obtain ⟨f, fd, F, m, b⟩ := a
  exact ⟨f, fd, m, h f fd F, F.kp, b⟩
end
section
variable {X : Cx} {nm : Str} {ps : List Str} {k : Nat} {sp : Sp} {e : Expr} {es : List Expr} {t : TA} {p pos : Pos}
theorem pe_clG (c : ClG X.prog X.w X.K X.mg X.base nm ps k sp) (hgd : X.A.guards = some []) (hr : Room k X.A) (hg : Gl X nm) (ha : PA X (e :: es) t)
    (hdb : (nm == ("__debug__" : Str)) = false := by decide) (he : starEach (e :: es) X.env = (false, eval e X.env) :: starEach es X.env := by rfl) (hpl : (backTo pos (starEach es X.env)).any (·.1) = false := by rfl) :
    PE X (.Call (.Name nm p) (e :: es) [] pos) (tCall sp [] E0 t) := by
  obtain ⟨f, fd, m, F, kp, b⟩ := c
  constructor
  intro pins s σ H Q I h
  refine wpAny_Call_Name_kw (ld_glob I hg m (PySem.W.callWith_K (h₀ := X.base) I.ok.mod.kin kp (thn (ha.run pos pins s σ H _ I h) fun us s1 hx => ?_) he hpl) hdb)
  obtain ⟨vs, H1, I1, r, q⟩ := hx
  refine ⟨I1.kIn, ?_⟩
  rw [List.append_nil] at q
  have n1 : us.length = ps.length := by
    rw [← r.length]
    exact F.len _ _ _ _ q
  have bd := b s1 us I1.kIn (by rw [List.append_nil]; exact n1)
  rw [List.append_nil] at bd
  refine wpAny_call (codeAny_mono (F.run X.A X.stack s1 H1 ⟨us, []⟩ us vs Q E0 hgd hr I1.env0 bd r q) fun res s' hres => ?_)
  match res, hres with
  | .error e, hres => exact (show False from hres).elim
  | .ok (.ret u), hres => exact I1.after hres
  | .ok .next, hres => exact (show False from hres).elim
  | .ok .brk, hres => exact (show False from hres).elim
  | .ok .cont, hres => exact (show False from hres).elim
end
/-! ### repr of data -/
def rReprD (K : PySem.W.Frag) : List V → Hp → VK → Prop := fun xs H Q => ∃ (a : Addr) (d : PyData), xs = [.ref a] ∧ Dp K H (.ref a) d ∧ d.showable = true ∧ d.hasDict = false ∧ d.depth ≤ 60 ∧ d.shown.length ≤ sizeLine ∧ Q (.str d.shown) H
theorem call_reprD {X : Cx} {k : Nat} (hgd : X.A.guards = some []) (hr : Room k X.A) : CallR X (.builtin "repr") (rReprD X.K) := by
  intro pins s σ H xs us Q I r h
  obtain ⟨a, d, rfl, hd, hs, hn, hz, hl, q⟩ := h
  obtain ⟨u, rfl, rx⟩ := vals1 r
  obtain ⟨as, rd⟩ := Dp.reads I d _ u hd rx
  cases rx
  have hu := hr.units
  refine repr_of_reads' rd hs (PyData.noDict_hsm hn) hgd (by omega) (fun _ _ e => e) (fun h' u tk hk => ?_) hl
  exact ⟨.str d.shown, H, I.kept (t' := tk) hk, ⟨u, rfl⟩, q⟩

/-! ### the end of a law whose def is of that kind -/
theorem runG {P : Program} {w : World} {K : PySem.W.Frag} {mg mb : Str → Option Value} {k : Nat} {fa a : Addr} {fd : FuncData} {x : Str} {sp : Sp} {s₁ : Shared} {vs : List Value} {ns : List Int}
    (KX : K.In s₁.heap) (hns : s₁.heap.Ns mainGlobals mg) (hb : s₁.heap.Ns builtinsNs mb) (hbb : ∀ x : Str, x ≠ "__name__" → mb x = bootBuiltins x) (hlim : s₁.heap.NoLimit) (hg : s₁.gens = #[])
    (ha : s₁.heap.get? a = some { cls := .type "list", data := .seq vs.toArray }) (hi : IntsAre vs ns) (hl : ns.length ≤ sizeLine) (room : Room k callerA)
    (F : ∀ base : Heap, K.In base → base.Ns mainGlobals mg → FnG P w K mg base k fa fd [x] sp) (bind1 : ∀ (s : Shared) (u : Value), BindsTo s fd ⟨[u], []⟩ [(x, u)])
    (told : ∀ H : Hp, Only H → SqL K H a (ns.map V.int) → sp [.ref a] H (fun v _ => v = .bl true) fun _ _ _ => False) :
    codeAny (model P w) callerA (.call (.ref fa) ⟨[.ref a], []⟩) (fun r s' => r = .ok (.ret (.bool true)) ∧ OldK s₁.heap s'.heap ∧ s'.os = s₁.os ∧ AllBare s'.gens) s₁ := by
  have relV := vals_ints hi
  have sizes := hi.length
  suffices from_ : ∀ H : Hp, (∀ b u, H b = some u → b = a ∧ K.lookup a = none ∧ u = .frz { cls := .type "list", data := .seq vs.toArray } (.lst (ns.map V.int))) → SqL K H a (ns.map V.int) →
      codeAny (model P w) callerA (.call (.ref fa) ⟨[.ref a], []⟩) (fun r s' => r = .ok (.ret (.bool true)) ∧ OldK s₁.heap s'.heap ∧ s'.os = s₁.os ∧ AllBare s'.gens) s₁ by
    cases look : K.lookup a with
    | some o =>
      have there := KX a o look
      rw [ha] at there
      obtain rfl := Option.some.inj there
      exact from_ (fun _ => none) (fun b u z => by cases z) (.inr ⟨_, vs.toArray, _, look, rfl, rfl, rfl, by rw [List.size_toArray, sizes]; exact hl, by simpa using relV⟩)
    | none =>
      refine from_ (fun b => if b = a then some (.frz { cls := .type "list", data := .seq vs.toArray } (.lst (ns.map V.int))) else none) (fun b u z => ?_) (.inl (.inr ⟨_, if_pos rfl⟩))
      by_cases e : b = a
      · rw [if_pos e] at z
        exact ⟨e, look, (Option.some.inj z).symm⟩
      · rw [if_neg e] at z
        cases z
  intro H hH hS
  have only1 : Only H := fun b => by
    cases z : H b with
    | none => exact .inl rfl
    | some u => exact .inr ⟨_, _, by rw [(hH b u z).2.2]⟩
  have held : HOk P w H s₁.heap := fun b u z => by
    obtain ⟨rfl, _, rfl⟩ := hH b u z
    exact ⟨ha, by rw [List.length_map]; exact hl, vs, _, relV, ha⟩
  have not_dict : ∀ {b : Addr} {o : Obj} {es : Array DictEntry} {ep : Nat}, s₁.heap.get? b = some o → o.data = .dict es ep → H b = none := fun {b o es ep} e d => by
    cases z : H b with
    | none => rfl
    | some u =>
      obtain ⟨rfl, _, _⟩ := hH b u z
      rw [ha] at e
      obtain rfl := Option.some.inj e
      cases (show Data.seq vs.toArray _ = Data.dict es ep from d)
  have hidden : ∀ {b : Addr} {m : Str → Option Value}, s₁.heap.Ns b m → (hidT s₁.heap H).Ns b m := by
    rintro b m ⟨o, es, ep, e, d, r⟩
    exact ⟨o, es, ep, hidT_get e (not_dict e d), d, r⟩
  have kIn : K.In (hidT s₁.heap H) := fun b o e => hidT_get (KX b o e) (by
    cases z : H b with
    | none => rfl
    | some u =>
      obtain ⟨rfl, n, _⟩ := hH b u z
      rw [n] at e
      cases e)
  have md : Mod K mg (hidT s₁.heap H) := ⟨kIn, hidden hns, ⟨mb, hidden hb, hbb⟩, match hlim with | ⟨mc, h1, h2⟩ => ⟨mc, hidden h1, h2⟩⟩
  have none_in : ∀ b : Addr, b ∈ ([] : List Addr) → False := fun b hb => by cases hb
  have env0 : Env0 P w K mg (hidT s₁.heap H) callerA [] s₁ H := ⟨rfl, md, fun b o e => of_hidT e, Nat.le_of_eq (hidT_size _ _), trivial, fun b hb => (none_in b hb).elim, held, .of_eq hg⟩
  refine codeAny_mono ((F _ kIn (hidden hns)).run callerA [] s₁ H ⟨[.ref a], []⟩ [.ref a] [.ref a] _ _ rfl room env0 (bind1 s₁ (.ref a)) (.cons rfl .nil) (told H only1 hS)) fun r s' h => ?_
  match r, h with
  | .error e, h => exact (show False from h).elim
  | .ok .next, h => exact (show False from h).elim
  | .ok .brk, h => exact (show False from h).elim
  | .ok .cont, h => exact (show False from h).elim
  | .ok (.ret u), h =>
    obtain ⟨v, H', hos, hbare, un, held', rv, rfl⟩ := h
    obtain rfl : u = Value.bool true := rv
    refine ⟨rfl, OldK.of_keep fun b o e => ?_, hos, hbare⟩
    cases z : H b with
    | none => exact un.keep b o e z (none_in b) (none_in b)
    | some y =>
      obtain ⟨rfl, _, rfl⟩ := hH b y z
      have e1 := (held _ _ z).1
      rw [e] at e1
      rw [Option.some.inj e1]
      exact (held' _ _ (un.frzs _ _ _ z)).1
theorem walk_ofG {l : PySem.W.OpenLaw} {n k : Nat} {q : Program} {loose : List Str} {XP : (Str → Option Value) → Heap → Prop} {YP : World → Heap → Prop} {d : DefRec} {K : Params → PySem.W.Frag} {sp : World → Sp} {x : Str}
    (hn : l.most = some n) (hn2 : n ≤ sizeLine) (hdf : d.params.defaults = []) (room : Room k callerA) (hY : ∀ (w : World) (h : Heap), YP w h → (K w.params).In h)
    (F : ∀ (w : World) (mg : Str → Option Value) (fa : Addr) (h : Heap), (K w.params).In h → h.Ns mainGlobals mg → mg d.name = some (.ref fa) →
      ∃ fd : FuncData, (∀ (s : Shared) (u : Value), BindsTo s fd ⟨[u], []⟩ [(x, u)]) ∧ ∀ base : Heap, (K w.params).In base → base.Ns mainGlobals mg → FnG l.prog w (K w.params) mg base k fa fd [x] (sp w))
    (told : ∀ (w : World) (H : Hp) (a : Addr) (ns : List Int), ns.length ≤ n → Only H → SqL (K w.params) H a (ns.map V.int) → sp w [.ref a] H (fun v _ => v = .bl true) fun _ _ _ => False) :
    PySem.W.WalkO q loose XP YP l.row.toRowW d [] (fun f vs => PySem.call f vs) := by
  refine Att.attach_callB hn hdf fun w s₀ s₁ mg mb fa o pm cd doc a vs ns G Y ho hd hcd hmg hobj hints hlen _ hg => ?_
  obtain ⟨fd, bnd, hF⟩ := F w mg fa _ (hY w _ Y) G.T.g hmg
  exact runG (hY w _ Y) G.T.g G.T.b G.T.builtins G.T.nolimit hg hobj hints (Nat.le_trans hlen hn2) room hF bnd fun H => told w H a ns hlen
end Un

namespace Un
open PySem PySem.Spec PyProof.Rows L2
/-! ### for i, c in enumerate(text) -/
def ItEX (x : Str) : It := ⟨fun i _ => i < x.cps.size, fun i H v H' => ∃ (T : Addr) (c : Nat), v = .ref T ∧ H T = none ∧ x.cps[i]? = some c ∧ H' = upd H T (.tup [.int (i : Nat), .str ⟨#[c]⟩]), fun i _ => i = x.cps.size⟩
theorem turn_enumX {P : Program} {w : World} {K : PySem.W.Frag} {elts : List Expr} {kk : Nat} {tpos : Pos} (x : Str) (t : Tok) (e it : Addr) :
    Turn P w K (.Tuple elts kk tpos) (ItEX x) [e, it] e (fun i h => (∃ old, IsEnum h e it ((i : Nat) : Int) old) ∧ h.IsStrIter it (strIterType x) x t i ∧ e ≠ it) where
  mem := List.mem_cons_self
  obj := by
    rintro i h ⟨⟨old, he⟩, ⟨o, ho, hc, hd⟩, _⟩ b hb
    rcases List.mem_cons.mp hb with rfl | hb
    · exact ⟨_, he, fun v q => nomatch q⟩
    · obtain rfl := List.mem_singleton.mp hb
      exact ⟨o, ho, fun v q => by rw [hd] at q; cases q⟩
  keep := by
    rintro i h h' ⟨⟨old, he⟩, ⟨o, ho, r⟩, hne⟩ k
    exact ⟨⟨old, k e (by simp) _ he⟩, ⟨o, k it (by simp) o ho, r⟩, hne⟩
  item := by
    rintro X rfl rfl rfl hc i pins s σ H E I hf ⟨⟨old, he⟩, hit, hne⟩ hlt
    have he0 : e < s.heap.objs.size := Heap.lt_size he
    have hi0 : it < s.heap.objs.size := by
      obtain ⟨_, q, _⟩ := hit
      exact Heap.lt_size q
    refine wpAny_pyNext_enum_itemD (Draws.text (A := X.A.in1) (I.ok.hd hc) it x t) he hit hlt hne (by simp [hne]) fun v h' tk hv ho hit' hT hsz hk => ?_
    obtain ⟨c, u, hcx, rfl⟩ := hv
    refine ⟨_, rfl, wpAny_letOwnedTupleGo_enum (s := { s with heap := h', toks := tk + 1 }) ho fun h'' he' sb => ?_⟩
    have made : h''.get? s.heap.objs.size = some { cls := .type "tuple", data := .seq #[.int i tk, .str ⟨#[c]⟩ u] } := (sb.2 _ (Nat.ne_of_gt he0)).trans hT
    have new : ObjOk X.prog X.w (upd H s.heap.objs.size (.tup [.int (i : Nat), .str ⟨#[c]⟩])) h'' s.heap.objs.size (.tup [.int (i : Nat), .str ⟨#[c]⟩]) :=
      ⟨by show 2 ≤ sizeLine; decide, [.int i tk, .str ⟨#[c]⟩ u], .cons ⟨_, rfl⟩ (.cons ⟨_, rfl⟩ .nil), ⟨_, made, rfl, _, rfl⟩⟩
    have kept : ∀ b o, b ∉ [e, it] → s.heap.get? b = some o → h''.get? b = some o := fun b o hb q => by
      have h1 : b ≠ e := fun z => hb (by simp [z])
      have h2 : b ≠ it := fun z => hb (by simp [z])
      exact (sb.2 b h1).trans (hk b o h1 h2 q)
    refine ⟨.ref s.heap.objs.size, _, I.turnedNew (ch := [e, it]) kept hf (Nat.le_refl _) new, rfl, ⟨_, c, rfl, I.hok.fresh (Nat.le_refl _), hcx, rfl⟩, ⟨⟨.str ⟨#[c]⟩ u, ?_⟩, ?_, hne⟩, fun b hb => ?_⟩
    · have e1 : ((i + 1 : Nat) : Int) = (i : Int) + 1 := by omega
      rw [e1]
      exact he'
    · obtain ⟨o, q, r⟩ := hit'
      exact ⟨o, (sb.2 it (Ne.symm hne)).trans q, r⟩
    · have hb' : b < s.heap.objs.size := by
        rcases List.mem_cons.mp hb with rfl | hb
        · exact he0
        · rw [List.mem_singleton.mp hb]
          exact hi0
      rw [upd_ne (Nat.ne_of_lt hb')]
      exact (hf b hb).1
  done := by
    rintro X rfl rfl rfl hc i pins s σ H E I hf ⟨⟨old, he⟩, hit, hne⟩ hge
    obtain ⟨f0, f1, f2, f3, f4, f5⟩ := hf it (by simp)
    obtain rfl : i = x.cps.size := hge
    exact wpAny_pyNext_enum_endD (Draws.text (A := X.A.in1) (I.ok.hd hc) it x t) he hit fun h' eb => ⟨rfl, I.turned (t' := s.toks) (fun b o hb q => eb b o hb q) f0 f1 f3 f4 f5⟩
  self := fun A i s Q E st h => by
    obtain ⟨⟨_, he⟩, _⟩ := st
    exact wpAny_pyIter_enum he h

def iEnumX (ta : TA) : TI := fun σ H R => ta σ H fun vs H1 => ∃ l : List Nat, vs = [.str (tx l)] ∧ R (ItEX (tx l)) H1
theorem pi_enumX {X : Cx} {e : Expr} {ta : TA} {p pos tpos : Pos} {elts : List Expr} {kk : Nat} (hg : Gl X "enumerate") (hm : X.mg "enumerate" = none) (ha : PA X [e] ta) (hs : starEach [e] X.env = [(false, eval e X.env)] := by rfl) :
    PI X (.Tuple elts kk tpos) (.Call (.Name "enumerate" p) [e] [] pos) (iEnumX ta) := by
  constructor
  intro pins s σ H R I h
  refine Call_ (ld_blt I hg hm boot_enumerate (PyProof.Rows.callWith_type1 (thn (ha.run pos pins s σ H _ I h) fun us s1 hx => ?_) hs rfl))
  obtain ⟨vs, H1, I1, r1, l, rfl, q⟩ := hx
  obtain ⟨u, rfl, t, rfl⟩ := vals1 r1
  refine call_enumerate_str fun h' he hit hsz hk => wpAny_pyIter_enum he ?_
  have I2 : Inv X pins σ H1 { s1 with heap := h' } := I1.kept (t' := s1.toks) hk
  refine ⟨s1.heap.objs.size + 1, [s1.heap.objs.size + 1, s1.heap.objs.size], _, _, H1, rfl, I2, turn_enumX (tx l) t (s1.heap.objs.size + 1) s1.heap.objs.size, ⟨⟨.none, he⟩, hit, Nat.succ_ne_self _⟩, fun b hb => ?_, q⟩
  have hle : s1.heap.objs.size ≤ b := by
    rcases List.mem_cons.mp hb with rfl | hb
    · exact Nat.le_add_right _ _
    · exact Nat.le_of_eq (List.mem_singleton.mp hb).symm
  exact I1.fpOk hle (I1.hok.fresh hle)
theorem rd_iEnumX {ta : TA} {σ : L2.St} {H : Hp} {R : It → Hp → Prop} {l : List Nat} (h : ta σ H fun vs H1 => ∃ l : List Nat, vs = [.str (tx l)] ∧ R (ItEX (tx l)) H1) : iEnumX ta σ H R := h
theorem for_enumX {l : List Nat} {g : TG} {tb : TS} {D : Ends} {σ : L2.St} {H : Hp} (Pv : Nat → L2.St → Hp → Prop) (h0 : Pv 0 σ H)
    (hs : ∀ (i c : Nat) (σ : L2.St) (H : Hp) (T : Addr), l[i]? = some c → Pv i σ H → H T = none → g (.ref T) σ (upd H T (.tup [.int (i : Nat), .str (tx [c])])) fun σ2 H2 => tb { D with nx := Pv (i + 1), ct := Pv (i + 1), bk := D.nx } σ2 H2) (hd : ∀ σ H, Pv l.length σ H → D.nx σ H) :
    ∃ W : Nat → Nat → L2.St → Hp → Prop, (∃ m, W 0 m σ H) ∧ ∀ i m σ H, W i m σ H →
      ((ItEX (tx l)).stop i H ∧ D.nx σ H) ∨ ((ItEX (tx l)).go i H ∧ ∃ N : L2.St → Hp → Prop, (∀ σ' H', N σ' H' → ∃ m', m' < m ∧ W (i + 1) m' σ' H') ∧ ∀ x H', (ItEX (tx l)).yld i H x H' → g x σ H' fun σ2 H2 => tb { D with nx := N, ct := N, bk := D.nx } σ2 H2) := by
  have hsz : (tx l).cps.size = l.length := by simp [tx]
  refine ⟨fun i m σ H => m + i = l.length ∧ Pv i σ H, ⟨l.length, rfl, h0⟩, fun i m σ H h => ?_⟩
  obtain ⟨hm, p⟩ := h
  by_cases hi : i < l.length
  · refine .inr ⟨show i < (tx l).cps.size by rw [hsz]; exact hi, Pv (i + 1), fun σ' H' p' => ⟨m - 1, by omega, by omega, p'⟩, fun x H' hy => ?_⟩
    obtain ⟨T, c, rfl, hT, hc, rfl⟩ := hy
    exact hs i c σ H T (by simpa [tx] using hc) p hT
  · have e : i = l.length := by omega
    subst e
    exact .inl ⟨show l.length = (tx l).cps.size from hsz.symm, hd σ H p⟩
/-! ### x.find(y, 1): the first place -/
theorem occ_stay (s sub : Str) (hi : Nat) : ∀ (l : List Nat) (k f : Nat), (forIn l ((#[k] : Array Nat), f) (PySem.StrLaws.occBody s sub hi 1)).run.fst = #[k]
  | [], k, f => rfl
  | a :: l, k, f => by
    rw [List.forIn_cons]
    unfold PySem.StrLaws.occBody
    rw [if_neg (by simp)]
    exact occ_stay s sub hi l k f
theorem occ_find (s sub : Str) (hi : Nat) : ∀ (l : List Nat) (f : Nat), (∀ i ∈ l, f ≤ i) →
    (forIn l ((#[] : Array Nat), f) (PySem.StrLaws.occBody s sub hi 1)).run.fst.toList = (l.find? fun i => decide (i + sub.length ≤ hi) && Builtin.Str.subAt s sub i).toList
  | [], f, _ => rfl
  | a :: l, f, hf => by
    rw [List.forIn_cons, List.find?_cons]
    have ha : f ≤ a := hf a List.mem_cons_self
    have hl : ∀ i ∈ l, f ≤ i := fun i h => hf i (List.mem_cons_of_mem _ h)
    unfold PySem.StrLaws.occBody
    cases hc : (decide (a + sub.length ≤ hi) && Builtin.Str.subAt s sub a) with
    | true =>
      rw [Bool.and_eq_true, decide_eq_true_eq] at hc
      rw [if_pos ⟨⟨⟨by simp, ha⟩, hc.1⟩, hc.2⟩]
      have := occ_stay s sub hi l a (a + sub.length)
      show (forIn l ((#[] : Array Nat).push a, a + sub.length) (PySem.StrLaws.occBody s sub hi 1)).run.fst.toList = _
      have e : (#[] : Array Nat).push a = #[a] := rfl
      rw [e, this]
      rfl
    | false =>
      have hn : ¬ (((((#[] : Array Nat), f).fst.size < 1 ∧ ((#[] : Array Nat), f).snd ≤ a) ∧ a + sub.length ≤ hi) ∧ Builtin.Str.subAt s sub a = true) := fun h => by
        rw [decide_eq_true h.1.2, h.2] at hc
        cases hc
      rw [if_neg hn]
      exact occ_find s sub hi l f hl
theorem subAt_tx (x y : List Nat) (i : Nat) : Builtin.Str.subAt (tx x) (tx y) i = decide ((x.drop i).take y.length = y) := by
  unfold Builtin.Str.subAt
  rw [Bool.eq_iff_iff, beq_iff_eq, decide_eq_true_eq, ← Array.toList_inj, tx_len]
  simp [tx, List.extract_eq_take_drop]
def rFind1 : V → List V → Hp → VK → Prop := fun v xs H Q => ∃ (x y : List Nat) (k : Nat), v = .str (tx x) ∧ xs = [.str (tx y), .int 1] ∧ 1 ≤ k ∧ k + y.length ≤ x.length ∧ k ≤ x.length ∧ (x.drop k).take y.length = y ∧
  (∀ j, 1 ≤ j → j < k → (x.drop j).take y.length ≠ y) ∧ Q (.int (k : Nat)) H
theorem mt_find1 {X : Cx} : MtR X "str.find" rFind1 := by
  intro pins s σ H v xs u us Q I rx rs h
  obtain ⟨x, y, k, rfl, rfl, h1, h2, h3, h4, h5, q⟩ := h
  refine mt_find3 pins s σ H _ _ u us Q I rx rs ⟨tx x, tx y, 1, rfl, rfl, ?_⟩
  have e : Txt.find3 (tx x) (tx y) 1 = ((k : Nat) : Int) := by
    unfold Txt.find3
    have hlo : fromIndex (tx x).length 1 = 1 := rfl
    rw [hlo, PySem.StrLaws.occ_eq, occ_find _ _ _ _ _ (fun i hi => (List.mem_range'_1.mp hi).1)]
    have hf : (List.range' 1 ((tx x).length + 1 - 1)).find? (fun i => decide (i + (tx y).length ≤ (tx x).length) && Builtin.Str.subAt (tx x) (tx y) i) = some k := by
      rw [List.find?_range'_eq_some]
      rw [tx_len, tx_len]
      refine ⟨?_, ?_, ?_⟩
      · rw [subAt_tx, decide_eq_true h2, decide_eq_true h4]
        rfl
      · rw [List.mem_range'_1]
        omega
      · intro j hj1 hj2
        rw [subAt_tx, decide_eq_false (h5 j hj1 hj2), Bool.and_false]
        rfl
    rw [hf]
    rfl
  rw [e]
  exact q

def rMaxX : List V → Hp → VK → Prop := fun xs H Q => ∃ i j, xs = [.int i, .int j] ∧ Q (.int (if j > i then j else i)) H
theorem call_max2X {X : Cx} (hc : X.calm = true) : CallR X (.builtin "max") rMaxX := call_max2 hc
theorem rd_maxX {H : Hp} {Q : VK} {i j : Int} (q : Q (.int (if j > i then j else i)) H) : rMaxX [.int i, .int j] H Q := ⟨i, j, rfl, q⟩
theorem rd_find1 {H : Hp} {Q : VK} {x y : List Nat} {k : Nat} (h1 : 1 ≤ k) (h2 : k + y.length ≤ x.length) (h3 : (x.drop k).take y.length = y) (h4 : ∀ j, 1 ≤ j → j < k → (x.drop j).take y.length ≠ y) (q : Q (.int (k : Nat)) H) : rFind1 (.str (tx x)) [.str (tx y), .int 1] H Q :=
  ⟨x, y, k, rfl, rfl, h1, h2, by omega, h3, h4, q⟩
theorem rd_reprD {K : PySem.W.Frag} {H : Hp} {Q : VK} {a : Addr} {d : PyData} (h : Dp K H (.ref a) d) (hs : d.showable = true) (hn : d.hasDict = false) (hz : d.depth ≤ 60) (hl : d.shown.length ≤ sizeLine) (q : Q (.str d.shown) H) : rReprD K [.ref a] H Q := ⟨a, d, rfl, h, hs, hn, hz, hl, q⟩
/-! ### how long a shown pair is -/
theorem str_app_len (a b : Str) : (a ++ b).length = a.length + b.length := by
  show (a.cps ++ b.cps).size = _
  rw [Array.size_append]
  rfl
theorem tup2_len (a b : PyData) : (PyData.tuple [a, b]).shown.length ≤ a.shown.length + b.shown.length + 8 := by
  have e : (PyData.tuple [a, b]).shown = ("(" : Str) ++ (a.shown ++ (", " : Str) ++ b.shown) ++ (")" : Str) := by
    simp only [PyData.shown, PyData.shownAll]
    rfl
  have e1 : ("(" : Str).length = 1 := by decide
  have e2 : (", " : Str).length = 2 := by decide
  have e3 : (")" : Str).length = 1 := by decide
  rw [e, str_app_len, str_app_len, str_app_len, str_app_len, e1, e2, e3]
  omega
theorem shown_int_len {i : Int} (h : i.natAbs < 2 ^ 250) : (PyData.int i).shown.length ≤ 1000 := by
  have h1 : i.natAbs.log2 < 250 := PySem.Flt.log2_lt_of (by decide) h
  have h2 := PySem.int_text_length_le (a := i) (k := 250) (by decide) h1
  simp only [PyData.shown]
  show (Str.ofString (toString i)).length ≤ 1000
  rw [PySem.ofString_length]
  omega
theorem shown_str_len {l : List Nat} (h : ∀ c ∈ l, c < 1000) : (PyData.str (tx l)).shown.length ≤ 10 * l.length + 2 := by
  simp only [PyData.shown]
  have := PySem.StrLaws.reprText_len (tx l) (fun c hc => by
    rw [tx_cps] at hc
    have := h c hc
    have e : (1000 : Nat) < 16 ^ 8 := by decide
    omega)
  rw [tx_len] at this
  exact this
end Un

set_option maxHeartbeats 2000000
/-! UnY: own errors as the law uses them: by name, made, read, told apart; zip in a comprehension; repr of any value. -/
namespace Un
open PySem PySem.Spec PyProof.Rows L2
/-- the address of the class of a name -/
def ca (mg : Str → Option Value) (x : Str) : Addr := match mg x with
  | some (.ref C) => C
  | _ => 0
theorem ca_of {mg : Str → Option Value} {x : Str} {C : Addr} (h : mg x = some (.ref C)) : ca mg x = C := by
  unfold ca
  rw [h]
/-- an own error without an __init__, its class at C -/
def Err0 (K : PySem.W.Frag) (mg : Str → Option Value) (x : Str) (C : Addr) : Prop := mg x = some (.ref C) ∧ OxC K C ∧ PySem.W.excIn K C PySem.HandSPX.veTail "ValueError.__new__" = true
/-- one with an __init__ of one field -/
def ErrI (K : PySem.W.Frag) (mg : Str → Option Value) (x q f : Str) (st : Stmt) (C : Addr) : Prop := mg x = some (.ref C) ∧ OxC K C ∧ PySem.W.findIn K (.ref C) f = some none ∧
  ∃ (fI : Addr) (fd : FuncData), PySem.W.findIn K (.ref C) "__init__" = some (some (.ref fI)) ∧ PySem.W.typeIn K (.ref fI) = some (.type "function") ∧ Fun K "__init__" q st fI fd ∧ Binds K fd ["self", f] []
def Mk (P : Program) (w : World) (K : PySem.W.Frag) (mg : Str → Option Value) (base : Heap) (x f : Str) (C : Addr) : Prop := mg x = some (.ref C) ∧ OxC K C ∧ PySem.W.findIn K (.ref C) f = some none ∧
  ∃ (fI : Addr) (fd : FuncData), PySem.W.findIn K (.ref C) "__init__" = some (some (.ref fI)) ∧ PySem.W.typeIn K (.ref fI) = some (.type "function") ∧ FnOk P w K mg base CX0 1 fI fd ["self", f] (SpXI K f) ∧ Binds K fd ["self", f] []
theorem mk_of {P : Program} {w : World} {K : PySem.W.Frag} {mg : Str → Option Value} {base : Heap} {x q f : Str} {st : Stmt} {C : Addr} (e : ErrI K mg x q f st C)
    (h : ∀ fI fd, Fun K "__init__" q st fI fd → FnOk P w K mg base CX0 1 fI fd ["self", f] (SpXI K f)) : Mk P w K mg base x f C := by
  obtain ⟨g, o, n, fI, fd, i, t, F, b⟩ := e
  exact ⟨g, o, n, fI, fd, i, t, h fI fd F, b⟩
section
variable {X : Cx} {x f : Str} {C : Addr} {e : Expr} {te : TE} {p pos : Pos}
theorem pe_cls (hm : X.mg x = some (.ref C)) (hg : Gl X x) (hdb : (x == ("__debug__" : Str)) = false := by decide) : PE X (.Name x pos) (tC (.ref C)) := pe_glob hg hm rfl hdb
theorem pe_gstr {z : Str} (c : ∃ t, X.mg x = some (.str z t)) (l : List Nat) (h : z = tx l) (hg : Gl X x) (hdb : (x == ("__debug__" : Str)) = false := by decide) : PE X (.Name x pos) (tC (.str (tx l))) := by
  obtain ⟨t, c⟩ := c
  exact pe_glob hg c ⟨t, by rw [h]⟩ hdb
theorem pe_gint {i : Int} (c : ∃ t, X.mg x = some (.int i t)) (hg : Gl X x) (hdb : (x == ("__debug__" : Str)) = false := by decide) : PE X (.Name x pos) (tC (.int i)) := by
  obtain ⟨t, c⟩ := c
  exact pe_glob hg c ⟨t, rfl⟩ hdb
theorem pe_err0 (m : Err0 X.K X.mg x C) (hg : Gl X x) (hdb : (x == ("__debug__" : Str)) = false := by decide) : PE X (.Call (.Name x p) [] [] pos) (tMkN C) := pe_mkN F.excBase_ValueError m.2.2 m.1 m.2.1.kC hg hdb
theorem pe_errI (m : Mk X.prog X.w X.K X.mg X.base x f C) (hr : Room 2 X.A) (hg : Gl X x) (ha : PE X e te) (hdb : (x == ("__debug__" : Str)) = false := by decide)
    (he : starEach (e :: []) X.env = (false, eval e X.env) :: starEach [] X.env := by rfl) (hpl : (backTo pos (starEach [] X.env)).any (·.1) = false := by rfl) : PE X (.Call (.Name x p) [e] [] pos) (tMkX C f te) := by
  obtain ⟨g, o, n, fI, fd, i, t, F, b⟩ := m
  exact pe_mkX o i t n F hr b pass0 hg g ha hdb he hpl
end
theorem pmk_err0 {X : Cx} {x : Str} {C : Addr} {p pos : Pos} (m : Err0 X.K X.mg x C) (hg : Gl X x) (hdb : (x == ("__debug__" : Str)) = false := by decide) : PMk X (.Call (.Name x p) [] [] pos) (fun _ H Q => Q (.ref C) none H) := by
  intro pins s σ H Q I h
  refine wpAny_Call_Name_kw (ld_glob I hg m.1 ?_ hdb)
  refine PySem.W.callWith_K0 (K := X.K) (I.tok _).kIn m.2.1.kC ?_
  show wpAny _ _ (call (.ref C) []) _ _ _
  obtain ⟨bm, N, nm, qn, bs, hdct, sn, sub, ab, col, dd, k0, k1, k2, k3, k5, mN, hC, hN, hni, T⟩ := exc_obj (I.tok _).kIn m.2.2
  refine wpAny_call_exc_subT F.excBase_ValueError T hC hN hni (fun h' e hm => ?_) (by show 0 ≤ sizeLine; omega)
  exact L2.mk_of I hm (raises_own m.2.1.xf.exC m.2.1.ty) h (I.hok.gone hm.new)
/-- a def that may raise, under its name -/
def ClX (P : Program) (w : World) (K : PySem.W.Frag) (mg : Str → Option Value) (base : Heap) (nm : Str) (ps : List Str) (k : Nat) (sp : Sp) : Prop :=
  ∃ (f : Addr) (fd : FuncData), mg nm = some (.ref f) ∧ FnOk P w K mg base (L2.CX P w) k f fd ps sp ∧ PySem.W.keepIn K (.ref f) = true ∧ Binds K fd ps []
theorem clX_of {P : Program} {w : World} {K : PySem.W.Frag} {mg : Str → Option Value} {base : Heap} {nm : Str} {st : Stmt} {ps : List Str} {k : Nat} {sp : Sp}
    (a : At K mg nm st ps) (h : ∀ f fd, Fun K nm nm st f fd → FnOk P w K mg base (L2.CX P w) k f fd ps sp) : ClX P w K mg base nm ps k sp := by
  obtain ⟨f, fd, F, m, b⟩ := a
  exact ⟨f, fd, m, h f fd F, F.kp, b⟩
theorem pe_clX {X : Cx} {nm : Str} {ps : List Str} {k : Nat} {sp : Sp} {e : Expr} {es : List Expr} {t : TA} {p pos : Pos} {W : WX} (c : ClX X.prog X.w X.K X.mg X.base nm ps k sp) (hr : Room k X.A) (hg : Gl X nm) (tk : Takes X W) (ha : PA X (e :: es) t)
    (hdb : (nm == ("__debug__" : Str)) = false := by decide) (he : starEach (e :: es) X.env = (false, eval e X.env) :: starEach es X.env := by rfl) (hpl : (backTo pos (starEach es X.env)).any (·.1) = false := by rfl) :
    PE X (.Call (.Name nm p) (e :: es) [] pos) (tCallS sp (WE W) t) := by
  obtain ⟨f, fd, m, F, kp, b⟩ := c
  exact pe_callS F hr hg m kp b (fun σ => passAt tk σ) ha hdb he hpl
/-- an error stands at a: its class, its one field -/
def ErrAt (H : Hp) (a C : Addr) (f : Str) (v : V) : Prop := ∃ dx, H a = some (exo a C (some dx)) ∧ H dx = some (exd dx [(f, v)])
def IsErr (H : Hp) (a C : Addr) : Prop := ∃ d, H a = some (exo a C d) ∧ ∀ dx, d = some dx → ∃ fs, H dx = some (exd dx fs)
theorem ErrAt.is {H : Hp} {a C : Addr} {f : Str} {v : V} (h : ErrAt H a C f v) : IsErr H a C := by
  obtain ⟨dx, h1, h2⟩ := h
  refine ⟨some dx, h1, fun d e => ?_⟩
  cases e
  exact ⟨_, h2⟩
theorem IsErr.same {H H' : Hp} {a C : Addr} (h : IsErr H a C) (s : Same H H') : IsErr H' a C := by
  obtain ⟨d, h1, h2⟩ := h
  refine ⟨d, s _ _ h1, fun dx e => ?_⟩
  obtain ⟨fs, h3⟩ := h2 dx e
  exact ⟨fs, s _ _ h3⟩
theorem ErrAt.same {H H' : Hp} {a C : Addr} {f : Str} {v : V} (h : ErrAt H a C f v) (s : Same H H') : ErrAt H' a C f v := by
  obtain ⟨dx, h1, h2⟩ := h
  exact ⟨dx, s _ _ h1, s _ _ h2⟩
section
variable {K : PySem.W.Frag} {σ : L2.St} {H : Hp} {Q : VK} {te : TE} {ta : TA} {C : Addr} {f n : Str} {R : It → Hp → Prop}
theorem rd_mkN (q : ∀ a H', H a = none → Same H H' → IsErr H' a C → Q (.ref a) H') : tMkN C σ H Q := fun a ha => q a _ ha (same_upd ha) ⟨none, upd_same, fun _ e => by cases e⟩
theorem rd_mkX (h : te σ H fun v H1 => ∀ a dx, H1 a = none → H1 dx = none → dx ≠ a → Q (.ref a) (upd (upd (upd H1 a (exo a C none)) dx (exd dx [(f, v)])) a (exo a C (some dx)))) : tMkX C f te σ H Q := h
theorem mkX_end {v : V} (q : ∀ a H', H a = none → Same H H' → ErrAt H' a C f v → Q (.ref a) H') : ∀ a dx, H a = none → H dx = none → dx ≠ a → Q (.ref a) (upd (upd (upd H a (exo a C none)) dx (exd dx [(f, v)])) a (exo a C (some dx))) :=
  fun a dx ha hd hne => q a _ ha (same_mut (same_mut (same_upd ha) hd) ha) ⟨dx, upd_same, by rw [upd_ne hne, upd_same]⟩
theorem rd_xfl (h : te σ H fun x H1 => ∃ (a C d : Addr) (fs : List (Str × V)) (v : V), x = .ref a ∧ XfC K C ∧ PySem.W.findIn K (.ref C) n = some none ∧ H1 a = some (exo a C (some d)) ∧ H1 d = some (exd d fs) ∧ fs.lookup n = some v ∧ Q v H1) : tXfl K n te σ H Q := h
theorem xfl_end {a : Addr} {v : V} (T : OxC K C) (hno : PySem.W.findIn K (.ref C) n = some none) (e : ErrAt H a C n v) (q : Q v H) :
    ∃ (b C' d : Addr) (fs : List (Str × V)) (v' : V), V.ref a = .ref b ∧ XfC K C' ∧ PySem.W.findIn K (.ref C') n = some none ∧ H b = some (exo b C' (some d)) ∧ H d = some (exd d fs) ∧ fs.lookup n = some v' ∧ Q v' H := by
  obtain ⟨dx, h1, h2⟩ := e
  exact ⟨a, C, dx, _, v, rfl, T.xf, hno, h1, h2, by simp [List.lookup], q⟩
theorem rd_isX {a D : Addr} {b : Bool} (e : IsErr H a C) (T : OxC K C) (k : PySem.W.kitOne K (.ref C) (.ref D) = some b) (q : Q (.bl b) H) : rIsX K [.ref a, .ref D] H Q := by
  obtain ⟨d, h1, h2⟩ := e
  exact ⟨a, C, d, .ref D, .ref D, b, rfl, h1, h2, T.is, .own D, k, q⟩
theorem rd_isXT {a : Addr} {T' : String} {b : Bool} (e : IsErr H a C) (T : OxC K C) (k : PySem.W.kitOne K (.ref C) (.type T') = some b) (q : Q (.bl b) H) : rIsX K [.ref a, .ty T'] H Q := by
  obtain ⟨d, h1, h2⟩ := e
  exact ⟨a, C, d, .ty T', .type T', b, rfl, h1, h2, T.is, .ty T', k, q⟩
theorem rd_isi {x : V} {t : Value} {b : Bool} (ty : TyX K H x t) (k : PySem.W.kitOne K t (.type "str") = some b) (q : Q (.bl b) H) : rIsi K [x, .ty "str"] H Q := ⟨x, .ty "str", t, .type "str", b, rfl, .ty _, ty, k, q⟩
theorem rd_clX {sp : Sp} {E : L2.St → XK} {t : TA} (h : t σ H fun vs H1 => sp vs H1 Q (E σ)) : tCallS sp E t σ H Q := h
theorem rd_notB {a b : Bool} (q : Q (.bl (!decide (a = b))) H) : rNotB (.bl a) (.bl b) H Q := ⟨a, b, rfl, rfl, q⟩
theorem rd_chain {r r' : R2} {ta tb tc : TE} (h : ta σ H fun x H1 => tb σ H1 fun y H2 => r x y H2 fun z H3 => ∃ k, z = .bl k ∧ (if k = true then tc σ H3 fun w' H4 => r' y w' H4 Q else Q (.bl false) H3)) : tChain r r' ta tb tc σ H Q := h
theorem rd_mkN0 (h : ∀ a, H a = none → Q (.ref a) (upd H a (exo a C none))) : tMkN C σ H Q := h
theorem rd_iEnum (h : ta σ H fun vs H1 => ∃ a xs, vs = [.ref a] ∧ SqL K H1 a xs ∧ R (Ite K a) H1) : iEnum K ta σ H R := h
theorem rd_par3 {i j l : Nat} {D : Ends} (h : ta σ H fun vs H1 => ∃ v w u, vs = [v, w, u] ∧ D.nx (((σ.set i (some v)).set j (some w)).set l (some u)) H1) : tPar3 i j l ta D σ H := h
theorem rd_three {P : V → V → V → Prop} {a b c : V} (q : P a b c) : ∃ v w u, [a, b, c] = [v, w, u] ∧ P v w u := ⟨a, b, c, rfl, q⟩
theorem rd_iZipS (h : ta σ H fun vs H1 => ∃ x y, vs = [.str x, .str y] ∧ R (ItzS x y) H1) : iZipS ta σ H R := h
theorem rd_zipS2 {x y : Str} {P : Str → Str → Prop} (q : P x y) : ∃ x' y', [V.str x, V.str y] = [.str x', .str y'] ∧ P x' y' := ⟨x, y, rfl, q⟩
end
/-- a comprehension over zip of two texts -/
theorem lc_zip {l m : List Nat} {g : TG} {tt : TT} {te : TE} {vs : List Nat} {σ : L2.St} {H1 : Hp} {D : Addr} {Qd : Hp → Prop} (Pv : Nat → Hp → Prop) (h0 : Pv 0 (upd H1 D (.lst [])))
    (hs : ∀ (i c d : Nat) (T : Addr) (H : Hp), l[i]? = some c → m[i]? = some d → Pv i H → H T = none → g (.ref T) (wipe σ vs) (upd H T (.tup [.str (tx [c]), .str (tx [d])])) fun σ2 H2 => wipe σ2 vs = wipe σ vs ∧ tt σ2 H2 fun b H3 =>
      if b = true then te σ2 H3 fun y H4 => ∃ acc, H4 D = some (.lst acc) ∧ acc.length < sizeLine ∧ Pv (i + 1) (upd H4 D (.lst (acc ++ [y]))) else Pv (i + 1) H3) (hd : ∀ H, Pv (min l.length m.length) H → Qd H) :
    ∃ W : Nat → Nat → Hp → Prop, (∃ n, W 0 n (upd H1 D (.lst []))) ∧ ∀ i n H, W i n H →
      ((ItzS (tx l) (tx m)).stop i H ∧ Qd H) ∨ ((ItzS (tx l) (tx m)).go i H ∧ ∃ Nx : Hp → Prop, (∀ H', Nx H' → ∃ m', m' < n ∧ W (i + 1) m' H') ∧ ∀ x H', (ItzS (tx l) (tx m)).yld i H x H' → g x (wipe σ vs) H' fun σ2 H2 => wipe σ2 vs = wipe σ vs ∧ tt σ2 H2 fun b H3 =>
        if b = true then te σ2 H3 fun y H4 => ∃ acc, H4 D = some (.lst acc) ∧ acc.length < sizeLine ∧ Nx (upd H4 D (.lst (acc ++ [y]))) else Nx H3) := by
  have e1 : (tx l).cps.size = l.length := by simp [tx]
  have e2 : (tx m).cps.size = m.length := by simp [tx]
  refine ⟨fun i n H => n = min l.length m.length - i ∧ i ≤ min l.length m.length ∧ Pv i H, ⟨_, rfl, Nat.zero_le _, h0⟩, ?_⟩
  rintro i n H ⟨rfl, hi, p⟩
  by_cases hlt : i < min l.length m.length
  · refine .inr ⟨⟨by omega, by omega⟩, Pv (i + 1), fun H' p' => ⟨min l.length m.length - (i + 1), by omega, rfl, hlt, p'⟩, ?_⟩
    rintro x H' ⟨T, c, d, rfl, hT, rfl, hc, hd'⟩
    exact hs i c d T H (by simpa [tx] using hc) (by simpa [tx] using hd') p hT
  · have e : i = min l.length m.length := by omega
    subst e
    exact .inl ⟨⟨by omega, by omega, by omega⟩, hd H p⟩

/-! ### repr of any value -/
/-- how a value is shown, and that it can be -/
structure Good (d : PyData) : Prop where
  s : d.showable = true
  n : d.hasDict = false
  z : d.depth ≤ 20
  l : d.shown.length ≤ 100000
def rReprA (K : PySem.W.Frag) : List V → Hp → VK → Prop := fun xs H Q => ∃ (x : V) (d : PyData), xs = [x] ∧ Dp K H x d ∧ Good d ∧ Q (.str d.shown) H
theorem call_reprA {X : Cx} {k : Nat} (hgd : X.A.guards = some []) (hr : Room k X.A) : CallR X (.builtin "repr") (rReprA X.K) := by
  intro pins s σ H xs us Q I r h
  obtain ⟨x, d, rfl, hd, g, q⟩ := h
  have hsz : d.shown.length ≤ sizeLine := Nat.le_trans g.l (by decide)
  have base : scalR x → reprS x = d.shown → wpAny (model X.prog X.w) X.A (call (.builtin "repr") us) (EP X pins σ Q) X.xe s := fun h1 h2 => call_reprS pins s σ H [x] us Q I r ⟨x, rfl, h1, by rw [h2]; exact q⟩
  cases hd with
  | non => exact base trivial (by simp only [PyData.shown]; rfl)
  | bl b => exact base trivial (by simp only [PyData.shown]; rfl)
  | int i => exact base (by have h0 := g.s; simp only [PyData.showable, decide_eq_true_eq] at h0; exact h0) (by simp only [PyData.shown]; rfl)
  | str z => exact base (by have := hsz; simp only [PyData.shown] at this; exact this) (by simp only [PyData.shown]; rfl)
  | lst h1 h2 => exact call_reprD hgd hr pins s σ H _ us Q I r ⟨_, _, rfl, .lst h1 h2, g.s, g.n, by have := g.z; omega, hsz, q⟩
  | tup h1 h2 => exact call_reprD hgd hr pins s σ H _ us Q I r ⟨_, _, rfl, .tup h1 h2, g.s, g.n, by have := g.z; omega, hsz, q⟩
theorem rd_reprA {K : PySem.W.Frag} {H : Hp} {Q : VK} {x : V} {d : PyData} (h : Dp K H x d) (g : Good d) (q : Q (.str d.shown) H) : rReprA K [x] H Q := ⟨x, d, rfl, h, g, q⟩
theorem sqL_same {K : PySem.W.Frag} {H H' : Hp} {a : Addr} {ys : List V} (h : SqL K H a ys) (s : Same H H') : SqL K H' a ys := by
  rcases h with (h | ⟨o, h⟩) | h
  · exact .inl (.inl (s _ _ h))
  · exact .inl (.inr ⟨o, s _ _ h⟩)
  · exact .inr h
theorem sqT_same {K : PySem.W.Frag} {H H' : Hp} {a : Addr} {ys : List V} (h : SqT K H a ys) (s : Same H H') : SqT K H' a ys := by
  rcases h with (h | ⟨o, h⟩) | h
  · exact .inl (.inl (s _ _ h))
  · exact .inl (.inr ⟨o, s _ _ h⟩)
  · exact .inr h
mutual
theorem Dp.same {K : PySem.W.Frag} {H H' : Hp} (s : Same H H') : ∀ {v : V} {d : PyData}, Dp K H v d → Dp K H' v d
  | _, _, .non => .non
  | _, _, .bl b => .bl b
  | _, _, .int i => .int i
  | _, _, .str x => .str x
  | _, _, .lst h1 h2 => .lst (sqL_same h1 s) (DpAll.same s h2)
  | _, _, .tup h1 h2 => .tup (sqT_same h1 s) (DpAll.same s h2)
theorem DpAll.same {K : PySem.W.Frag} {H H' : Hp} (s : Same H H') : ∀ {vs : List V} {ds : List PyData}, DpAll K H vs ds → DpAll K H' vs ds
  | _, _, .nil => .nil
  | _, _, .cons h1 h2 => .cons (Dp.same s h1) (DpAll.same s h2)
end
end Un

/-! UnNil: xs == [] and xs != [], whatever stands in xs. -/
namespace Un
open PySem PySem.Spec PyProof.Rows L2
def rEqE (K : PySem.W.Frag) : R2 := fun x y H Q => ∃ a b xs, x = .ref a ∧ y = .ref b ∧ SqL K H a xs ∧ SqL K H b [] ∧ Q (.bl xs.isEmpty) H
def rNeE (K : PySem.W.Frag) : R2 := fun x y H Q => ∃ a b xs, x = .ref a ∧ y = .ref b ∧ SqL K H a xs ∧ SqL K H b [] ∧ Q (.bl (!xs.isEmpty)) H
section
variable {X : Cx}
theorem op_eqE (hu : X.A.units + 64 < cLine) : OpR X (compareOp .Eq) (rEqE X.K) := by
  intro pins s σ H x y v u Q I rx ry h
  obtain ⟨a, b, xs, rfl, rfl, ha, hb, q⟩ := h
  cases (show v = Value.ref a from rx)
  cases (show u = Value.ref b from ry)
  obtain ⟨us, r1, p1, _⟩ := I.list ha
  obtain ⟨ws, r2, p2, _⟩ := I.list hb
  cases r2
  cases r1 with
  | nil => exact (SeqAt.RcAt.lists (e := fun _ => true) p1.isList p2.isList rfl (by omega) (fun j h1 => absurd h1 (Nat.not_lt_zero j))) _ _ _ _ ⟨.bl true, H, I, rfl, q⟩
  | cons r rr => exact (SeqAt.RcAt.lists_lengths p1.isList p2.isList (by simp) (by omega)) _ _ _ _ ⟨.bl false, H, I, rfl, q⟩
theorem op_neE (hu : X.A.units + 64 < cLine) : OpR X (compareOp .NotEq) (rNeE X.K) := by
  intro pins s σ H x y v u Q I rx ry h
  obtain ⟨a, b, xs, rfl, rfl, ha, hb, q⟩ := h
  cases (show v = Value.ref a from rx)
  cases (show u = Value.ref b from ry)
  obtain ⟨us, r1, p1, _⟩ := I.list ha
  obtain ⟨ws, r2, p2, _⟩ := I.list hb
  cases r2
  cases r1 with
  | nil => exact (SeqAt.RcNeAt.lists (e := fun _ => true) p1.isList p2.isList rfl (by omega) (fun j h1 => absurd h1 (Nat.not_lt_zero j))) _ _ _ _ ⟨.bl false, H, I, rfl, q⟩
  | cons r rr => exact (SeqAt.RcNeAt.lists_lengths p1.isList p2.isList (by simp) (by omega)) _ _ _ _ ⟨.bl true, H, I, rfl, q⟩
end
section
variable {K : PySem.W.Frag} {H : Hp} {Q : VK} {p e : Addr} {xs : List V}
theorem rd_eqE (h1 : SqL K H p xs) (h2 : SqL K H e []) (q : Q (.bl xs.isEmpty) H) : rEqE K (.ref p) (.ref e) H Q := ⟨p, e, xs, rfl, rfl, h1, h2, q⟩
theorem rd_neE (h1 : SqL K H p xs) (h2 : SqL K H e []) (q : Q (.bl (!xs.isEmpty)) H) : rNeE K (.ref p) (.ref e) H Q := ⟨p, e, xs, rfl, rfl, h1, h2, q⟩
end
end Un

/-! UnK: what the end of a proof asks of own exception classes, one Bool a class. -/
namespace Un
open PySem PySem.Spec PyProof.Rows L2
def clB (K : PySem.W.Frag) (C : Addr) : Bool :=
  decide (PySem.W.findIn K (.ref C) "__setattr__" = some (some (.builtin "object.__setattr__"))) && (PySem.W.keepIn K (.ref C) && (xfB K C &&
  (decide (PySem.W.findIn K (.ref C) "__class__" = some (some (.builtin "object.__class__"))) && (decide (PySem.W.specialIn K (.builtin "object.__class__") "__get__" = some (some (.builtin "getset_descriptor.__get__"))) &&
  (decide (PySem.W.takesIn K (.builtin "object.__class__") = some true) && (decide (PySem.W.mroIn K C (.type "object") = some true) && (decide (PySem.W.typeIn K (.ref C) = some (.type "type")) && decide (PySem.W.exmOne K (.ref C) (.ref C) = some true))))))))
section
variable {K : PySem.W.Frag} {C N : Addr} {nm q : Str} {bs bm : List Value} {sn : List Str} {sub : List Value} {ab : Bool} {col : Option Bool} {dd : Option Addr} {k0 k1 k2 k3 k5 : Option Value} {newId : String}
theorem oxc_of (cls : ∃ nm q N bs bm sn sub ab col dd k0 k1 k2 k3 k5 B newId initId bmB, K.lookup C = some (excClassObj nm q C N bs bm true sn sub ab col dd k0 k1 k2 k3 k5 newId) ∧ ExcBaseFacts B newId initId bmB ∧ PySem.OXX.Beh B bm ∧ ∀ self, refuseLoop self "__setattr__" (.ref C :: bm) = pure ())
    (b : clB K C = true) : OxC K C := by
  obtain ⟨h1, b⟩ := Bool.and_eq_true_iff.mp b
  obtain ⟨h2, b⟩ := Bool.and_eq_true_iff.mp b
  obtain ⟨h3, b⟩ := Bool.and_eq_true_iff.mp b
  obtain ⟨h4, b⟩ := Bool.and_eq_true_iff.mp b
  obtain ⟨h5, b⟩ := Bool.and_eq_true_iff.mp b
  obtain ⟨h6, b⟩ := Bool.and_eq_true_iff.mp b
  obtain ⟨h7, b⟩ := Bool.and_eq_true_iff.mp b
  obtain ⟨h8, h9⟩ := Bool.and_eq_true_iff.mp b
  have x := xfB_ok h3
  exact ⟨cls, of_decide_eq_true h1, h2, x, ⟨x.ga, x.gg, x.exC, x.hdC, of_decide_eq_true h4, of_decide_eq_true h5, of_decide_eq_true h6, of_decide_eq_true h7⟩, of_decide_eq_true h8, of_decide_eq_true h9⟩
theorem oxc_ve (xL : K.lookup C = some (excClassObj nm q C N bs [.type "ValueError", .type "Exception", .type "BaseException", .type "object"] true sn sub ab col dd k0 k1 k2 k3 k5 "ValueError.__new__")) (b : clB K C = true) : OxC K C :=
  oxc_of ⟨nm, q, N, bs, _, sn, sub, ab, col, dd, k0, k1, k2, k3, k5, _, _, _, _, xL, PySem.F.excBase_ValueError, ⟨by decide +kernel, by decide +kernel, by decide +kernel, by decide +kernel⟩, fun self => by rw [refuseLoop_ref]; exact F.store_ValueError.passes self⟩ b
theorem oxc_vs {U : Addr} (xL : K.lookup C = some (excClassObj nm q C N bs [.ref U, .type "ValueError", .type "Exception", .type "BaseException", .type "object"] true sn sub ab col dd k0 k1 k2 k3 k5 "ValueError.__new__")) (b : clB K C = true) : OxC K C :=
  oxc_of ⟨nm, q, N, bs, _, sn, sub, ab, col, dd, k0, k1, k2, k3, k5, _, _, _, _, xL, PySem.F.excBase_ValueError, ⟨by rfl, by rfl, by rfl, by rfl⟩, fun self => by rw [refuseLoop_ref, refuseLoop_ref]; exact F.store_ValueError.passes self⟩ b
theorem oxc_ke (xL : K.lookup C = some (excClassObj nm q C N bs [.type "KeyError", .type "LookupError", .type "Exception", .type "BaseException", .type "object"] true sn sub ab col dd k0 k1 k2 k3 k5 "LookupError.__new__")) (b : clB K C = true) : OxC K C :=
  oxc_of ⟨nm, q, N, bs, _, sn, sub, ab, col, dd, k0, k1, k2, k3, k5, _, _, _, _, xL, PySem.F.excBase_LookupError, ⟨by decide +kernel, by decide +kernel, by decide +kernel, by decide +kernel⟩, fun self => by rw [refuseLoop_ref]; kernel_rfl⟩ b
end
end Un

set_option maxHeartbeats 2000000
/-! UnZp: zip and enumerate of lists and tuples, in any mixture. -/
namespace Un
open PySem PySem.Spec PyProof.Rows L2
inductive SK where | l | t
def SqA : SK → PySem.W.Frag → Hp → Addr → List V → Prop
  | .l => SqL
  | .t => SqT
def IterA : SK → Heap → Addr → Addr → Nat → Prop
  | .l => fun h it a i => h.IsListIter it a i
  | .t => fun h it a i => h.IsTupleIter it a i
def ObA : SK → Heap → Addr → Array Value → Prop
  | .l => fun h a its => h.IsList a its
  | .t => fun h a its => h.IsTuple a its
theorem seqA {X : Cx} {pins : List (Addr × Obj)} {σ : L2.St} {H : Hp} {s : Shared} {a : Addr} {xs : List V} (k : SK) (I : Inv X pins σ H s) (h : SqA k X.K H a xs) : ∃ its : List Value, Vals xs its ∧ ObA k s.heap a its.toArray ∧ a < s.heap.objs.size := by
  cases k with
  | l =>
    obtain ⟨its, rv, p, _⟩ := I.list h
    exact ⟨its, rv, p.isList, p.lt⟩
  | t =>
    obtain ⟨its, rv, p, _⟩ := I.tuple h
    exact ⟨its, rv, p, p.lt⟩
theorem seqA_inj {X : Cx} {pins : List (Addr × Obj)} {σ : L2.St} {H : Hp} {s : Shared} {a : Addr} {xs ys : List V} (k : SK) (I : Inv X pins σ H s) (h : SqA k X.K H a xs) (h' : SqA k X.K H a ys) : xs = ys := by
  cases k with
  | l => exact I.list_inj h h'
  | t => exact I.tuple_inj h h'
theorem drawsA {prog : Program} {w : World} {A : Around} (k : SK) (hh : A.handled = none) (it a : Addr) (hne : a ≠ it) (its : Array Value) :
    Draws prog w A it [it, a] its.size (fun i v => its[i]? = some v) (fun i h => IterA k h it a i ∧ ObA k h a its) := by
  cases k with
  | l => exact Draws.list hh it a hne its
  | t => exact Draws.tuple hh it a hne its
theorem iterA_at {k : SK} {h h' : Heap} {it a : Addr} {i : Nat} (x : IterA k h it a i) (q : ∀ o, h.get? it = some o → h'.get? it = some o) : IterA k h' it a i := by
  cases k with
  | l => exact Heap.IsListIter.at x q
  | t => exact Heap.IsTupleIter.at x q
theorem iterA_obj {k : SK} {h : Heap} {it a : Addr} {i : Nat} (x : IterA k h it a i) : ∃ o, h.get? it = some o ∧ ∀ v, o.data ≠ .cell v := by
  cases k with
  | l =>
    obtain ⟨o, e, _, d⟩ := x
    exact ⟨o, e, fun v q => by rw [d] at q; cases q⟩
  | t =>
    obtain ⟨o, e, _, d⟩ := x
    exact ⟨o, e, fun v q => by rw [d] at q; cases q⟩
/-! ### zip -/
def ItzA (k1 k2 : SK) (K : PySem.W.Frag) (a b : Addr) : It :=
  ⟨fun i H => ∃ (xs ys : List V) (x y : V), SqA k1 K H a xs ∧ SqA k2 K H b ys ∧ xs[i]? = some x ∧ ys[i]? = some y,
    fun i H v H' => ∃ T x y, v = .ref T ∧ H T = none ∧ H' = upd H T (.tup [x, y]) ∧ (∀ xs, SqA k1 K H a xs → xs[i]? = some x) ∧ ∀ ys, SqA k2 K H b ys → ys[i]? = some y,
    fun i H => ∃ xs ys : List V, SqA k1 K H a xs ∧ SqA k2 K H b ys ∧ i ≤ xs.length ∧ i ≤ ys.length ∧ (i = xs.length ∨ i = ys.length)⟩
theorem turn_zipA (k1 k2 : SK) {P : Program} {w : World} {K : PySem.W.Frag} {elts : List Expr} {kk : Nat} {tpos : Pos} {a b z TI TO i1 i2 : Addr} (D : ZipSep2 z TI TO i1 i2 [i1, a] [i2, b]) (n1 : a ≠ i1) (n2 : b ≠ i2) :
    Turn P w K (.Tuple elts kk tpos) (ItzA k1 k2 K a b) [z, TI, TO, i1, i2] z (fun i h => IsZip h z TI TO .none ∧ IsTupOf2 h TI (.ref i1) (.ref i2) ∧ (∃ x y, IsTupOf2 h TO x y) ∧ IterA k1 h i1 a i ∧ IterA k2 h i2 b i) where
  mem := by simp
  obj := fun i h st c hc => by
    obtain ⟨hz, hTI, ⟨x, y, hTO⟩, j1, j2⟩ := st
    have e' : c = z ∨ c = TI ∨ c = TO ∨ c = i1 ∨ c = i2 := by simpa using hc
    rcases e' with rfl | rfl | rfl | rfl | rfl
    · exact ⟨_, hz, fun v q => nomatch q⟩
    · exact ⟨_, hTI, fun v q => nomatch q⟩
    · exact ⟨_, hTO, fun v q => nomatch q⟩
    · exact iterA_obj j1
    · exact iterA_obj j2
  keep := fun i h h' st k => by
    obtain ⟨hz, hTI, ⟨x, y, hTO⟩, j1, j2⟩ := st
    exact ⟨k z (by simp) _ hz, k TI (by simp) _ hTI, ⟨x, y, k TO (by simp) _ hTO⟩, iterA_at j1 fun o q => k i1 (by simp) o q, iterA_at j2 fun o q => k i2 (by simp) o q⟩
  item := by
    intro X hP hw hK hc i pins s σ H E I hf st hg
    subst hP hw hK
    obtain ⟨hz, hTI, ⟨x0, y0, hTO⟩, j1, j2⟩ := st
    obtain ⟨xs, ys, x, y, hqx, hqy, hx, hy⟩ := hg
    obtain ⟨its, rv, p1, _⟩ := seqA k1 I hqx
    obtain ⟨its2, rv2, p2, _⟩ := seqA k2 I hqy
    obtain ⟨u, hu, ru⟩ := rv.get hx
    obtain ⟨u2, hu2, ru2⟩ := rv2.get hy
    have hzl : z < s.heap.objs.size := Heap.lt_size hz
    have hd : X.A.in1.handled = none := I.ok.hd hc
    refine wpAny_pyNext_zipD2_item D (drawsA k1 hd i1 a n1 its.toArray) (drawsA k2 hd i2 b n2 its2.toArray) hz hTI hTO ⟨j1, p1⟩ ⟨j2, p2⟩ (by simpa using (List.getElem?_eq_some_iff.mp hu).1) (by simpa using (List.getElem?_eq_some_iff.mp hu2).1) fun v1 v2 h' tk q1 q2 z' TO' h1' h2' hT hsz hk => ?_
    have ev1 : v1 = u := by
      rw [List.getElem?_toArray, hu] at q1
      exact (Option.some.inj q1).symm
    have ev2 : v2 = u2 := by
      rw [List.getElem?_toArray, hu2] at q2
      exact (Option.some.inj q2).symm
    subst ev1 ev2
    refine ⟨_, rfl, wpAny_letOwnedTupleGo_zip (s := { s with heap := h', toks := tk }) z' fun h'' z'' sb => ?_⟩
    have hT2 : h''.get? s.heap.objs.size = some { cls := .type "tuple", data := .seq #[v1, v2] } := (sb.2 _ (Nat.ne_of_gt hzl)).trans hT
    have new : ObjOk X.prog X.w (upd H s.heap.objs.size (.tup [x, y])) h'' s.heap.objs.size (.tup [x, y]) := ⟨by show 2 ≤ sizeLine; decide, [v1, v2], .cons ru (.cons ru2 .nil), ⟨_, hT2, rfl, _, rfl⟩⟩
    have kept : ∀ c o, c ∉ [z, TI, TO, i1, i2] → s.heap.get? c = some o → h''.get? c = some o := fun c o hb q => by
      have nz : c ≠ z := fun q' => hb (by simp [q'])
      have nO : c ≠ TO := fun q' => hb (by simp [q'])
      have m1 : c ≠ i1 := fun q' => hb (by simp [q'])
      have m2 : c ≠ i2 := fun q' => hb (by simp [q'])
      exact (sb.2 c nz).trans (hk c o nz nO m1 m2 q)
    have I1 : Inv X pins σ (upd H s.heap.objs.size (.tup [x, y])) { s with heap := h'', toks := tk } := I.turnedNew (t' := tk) (ch := [z, TI, TO, i1, i2]) kept hf (Nat.le_refl _) new
    refine ⟨.ref s.heap.objs.size, _, I1, rfl, ⟨_, x, y, rfl, I.hok.fresh (Nat.le_refl _), rfl, fun l hl => by rw [seqA_inj k1 I hl hqx]; exact hx, fun l hl => by rw [seqA_inj k2 I hl hqy]; exact hy⟩, ⟨z'', ?_, ⟨v1, v2, ?_⟩, ?_, ?_⟩, fun c hcm => ?_⟩
    · exact (sb.2 _ D.TIz).trans (hk _ _ D.TIz D.TITO D.TIi1 D.TIi2 hTI)
    · exact (sb.2 _ D.TOz).trans TO'
    · exact iterA_at h1'.1 fun o q => (sb.2 _ D.zi1.symm).trans q
    · exact iterA_at h2'.1 fun o q => (sb.2 _ D.zi2.symm).trans q
    · have hlt : c < s.heap.objs.size := by
        have e' : c = z ∨ c = TI ∨ c = TO ∨ c = i1 ∨ c = i2 := by simpa using hcm
        rcases e' with rfl | rfl | rfl | rfl | rfl
        · exact hzl
        · exact Heap.lt_size hTI
        · exact Heap.lt_size hTO
        · obtain ⟨_, e1, _⟩ := iterA_obj j1
          exact Heap.lt_size e1
        · obtain ⟨_, e1, _⟩ := iterA_obj j2
          exact Heap.lt_size e1
      rw [upd_ne (Nat.ne_of_lt hlt)]
      exact (hf c hcm).1
  done := by
    intro X hP hw hK hc i pins s σ H E I hf st hg
    subst hP hw hK
    obtain ⟨hz, hTI, ⟨x0, y0, hTO⟩, j1, j2⟩ := st
    obtain ⟨xs, ys, hqx, hqy, l1, l2, he⟩ := hg
    obtain ⟨its, rv, p1, _⟩ := seqA k1 I hqx
    obtain ⟨its2, rv2, p2, _⟩ := seqA k2 I hqy
    have hd : X.A.in1.handled = none := I.ok.hd hc
    have e1 := rv.length
    have e2 := rv2.length
    exact wpAny_pyNext_zipD2_end D (drawsA k1 hd i1 a n1 its.toArray) (drawsA k2 hd i2 b n2 its2.toArray) hz hTI hTO ⟨j1, p1⟩ ⟨j2, p2⟩ (by simp; omega) (by simp; omega) (by simp; omega) fun h' tk hk => ⟨rfl, I.turnedL (t' := tk) (ch := [z, TI, TO, i1, i2]) (fun c o hb q =>
      hk c o (fun q' => hb (by simp [q'])) (fun q' => hb (by simp [q'])) (fun q' => hb (by simp [q'])) (fun q' => hb (by simp [q'])) q) hf⟩
  self := fun A i s Q E st h => wpAny_pyIter_zip st.1 h
def iZipK (k1 k2 : SK) (K : PySem.W.Frag) (ta : TA) : TI := fun σ H R => ta σ H fun vs H1 => ∃ a b xs ys, vs = [.ref a, .ref b] ∧ SqA k1 K H1 a xs ∧ SqA k2 K H1 b ys ∧ R (ItzA k1 k2 K a b) H1
theorem beginsA (k : SK) (a : Addr) (its : Array Value) : ∃ o : Obj, Begins (.ref a) o (fun h => ObA k h a its) ∧ ∀ (h : Heap) (it : Addr), h.get? it = some o → IterA k h it a 0 := by
  cases k with
  | l => exact ⟨_, begins_list a its, fun h it e => ⟨_, e, rfl, rfl⟩⟩
  | t => exact ⟨_, begins_tuple a its, fun h it e => ⟨_, e, rfl, rfl⟩⟩
theorem nin2 {x y z : Nat} (h1 : x ≠ y) (h2 : x ≠ z) : x ∉ [y, z] := fun h => by
  rcases List.mem_cons.mp h with h | h
  · exact h1 h
  · exact h2 (List.mem_singleton.mp h)
theorem sep7 (n a b : Nat) (ha : a < n) (hb : b < n) : ZipSep2 (n + 4) (n + 2) (n + 3) n (n + 1) [n, a] [n + 1, b] where
  TIz := (show (n + 2 : Nat) ≠ n + 4 by omega)
  TOz := (show (n + 3 : Nat) ≠ n + 4 by omega)
  TITO := (show (n + 2 : Nat) ≠ n + 3 by omega)
  TIi1 := (show (n + 2 : Nat) ≠ n by omega)
  mem1 := List.mem_cons_self
  zf1 := nin2 (by omega) (by omega)
  Tf1 := nin2 (by omega) (by omega)
  TIi2 := (show (n + 2 : Nat) ≠ n + 1 by omega)
  mem2 := List.mem_cons_self
  zf2 := nin2 (by omega) (by omega)
  Tf2 := nin2 (by omega) (by omega)
  sep1_2 := nin2 (by omega) (by omega)
  sep2_1 := nin2 (by omega) (by omega)
theorem pi_zipK (k1 k2 : SK) {X : Cx} {K : PySem.W.Frag} (hK : X.K = K) {e e2 : Expr} {ta : TA} {p pos tpos : Pos} {elts : List Expr} {kk : Nat} (hg : Gl X "zip") (hm : X.mg "zip" = none) (ha : PA X [e, e2] ta)
    (hs : starEach [e, e2] X.env = (false, eval e X.env) :: starEach [e2] X.env := by rfl) (hpl : (backTo pos (starEach [e2] X.env)).any (·.1) = false := by rfl) :
    PI X (.Tuple elts kk tpos) (.Call (.Name "zip" p) [e, e2] [] pos) (iZipK k1 k2 K ta) := by
  subst hK
  refine ⟨fun pins s σ H R I h => ?_⟩
  refine Call_ (ld_blt I hg hm PyProof.Rows.boot_zip (PyProof.Rows.callWith_type1 (thn (ha.run pos pins s σ H _ I h) fun us s1 ⟨vs, H1, I1, r1, q1⟩ => ?_) hs hpl))
  obtain ⟨a, b, xs, ys, rfl, hx, hy, q⟩ := q1
  obtain ⟨v1, v2, rfl, r, r'⟩ := vals2 r1
  cases (show v1 = Value.ref a from r)
  cases (show v2 = Value.ref b from r')
  obtain ⟨its, _, p1, la⟩ := seqA k1 I1 hx
  obtain ⟨its2, _, p2, lb⟩ := seqA k2 I1 hy
  obtain ⟨o1, B1, g1⟩ := beginsA k1 a its.toArray
  obtain ⟨o2, B2, g2⟩ := beginsA k2 b its2.toArray
  have fresh5 : ∀ c, c ∈ [s1.heap.objs.size + 4, s1.heap.objs.size + 2, s1.heap.objs.size + 3, s1.heap.objs.size, s1.heap.objs.size + 1] → FpOk X pins H1 c := fun c hcm => by
    have hle : s1.heap.objs.size ≤ c := by
      simp only [List.mem_cons, List.not_mem_nil, or_false] at hcm
      omega
    exact I1.fpOk hle (I1.hok.fresh hle)
  refine zip_begins2 B1 B2 p1 p2 fun h' hz hTI hTO h1 h2 hsz hk => wpAny_pyIter_zip hz ?_
  have I2 : Inv X pins σ H1 { s1 with heap := h' } := I1.kept (t' := s1.toks) hk
  exact ⟨s1.heap.objs.size + 4, [s1.heap.objs.size + 4, s1.heap.objs.size + 2, s1.heap.objs.size + 3, s1.heap.objs.size, s1.heap.objs.size + 1], _, _, H1, rfl, I2,
    turn_zipA k1 k2 (sep7 _ a b la lb) (Nat.ne_of_lt la) (Nat.ne_of_lt (Nat.lt_succ_of_lt lb)), ⟨hz, hTI, ⟨_, _, hTO⟩, g1 _ _ h1, g2 _ _ h2⟩, fresh5, q⟩
theorem rd_zipK {k1 k2 : SK} {K : PySem.W.Frag} {ta : TA} {σ : L2.St} {H : Hp} {R : It → Hp → Prop} (h : ta σ H fun vs H1 => ∃ a b xs ys, vs = [.ref a, .ref b] ∧ SqA k1 K H1 a xs ∧ SqA k2 K H1 b ys ∧ R (ItzA k1 k2 K a b) H1) : iZipK k1 k2 K ta σ H R := h
/-- pairs of the i-th items, new ones -/
theorem walk_zipA {k1 k2 : SK} {K : PySem.W.Frag} {a b : Addr} {xs ys : List V} : Walk (ItzA k1 k2 K a b) (min xs.length ys.length) (fun H => SqA k1 K H a xs ∧ SqA k2 K H b ys) (YPair (fun i => xs[i]?) fun i => ys[i]?) :=
  ⟨fun i H hi q => ⟨xs, ys, xs[i]'(by omega), ys[i]'(by omega), q.1, q.2, by simp, by simp⟩,
   fun H q => ⟨xs, ys, q.1, q.2, by omega, by omega, by omega⟩,
   fun i H x H' hi q y => by
    obtain ⟨T, x, y, e, n, e2, h1, h2⟩ := y
    exact ⟨T, x, y, e, n, e2, h1 xs q.1, h2 ys q.2⟩⟩
/-! ### enumerate -/
def ItenA (k : SK) (K : PySem.W.Frag) (a : Addr) : It :=
  ⟨fun i H => ∃ (xs : List V) (x : V), SqA k K H a xs ∧ xs[i]? = some x, fun i H v H' => ∃ T x, v = .ref T ∧ H T = none ∧ H' = upd H T (.tup [.int (i : Nat), x]) ∧ ∀ xs, SqA k K H a xs → xs[i]? = some x,
    fun i H => ∃ xs : List V, SqA k K H a xs ∧ i = xs.length⟩
theorem turn_enumA (k : SK) {P : Program} {w : World} {K : PySem.W.Frag} {elts : List Expr} {kk : Nat} {tpos : Pos} {a e it : Addr} (hae : a ≠ e) (hai : a ≠ it) (hne : e ≠ it) :
    Turn P w K (.Tuple elts kk tpos) (ItenA k K a) [e, it] e (fun i h => (∃ old, IsEnum h e it ((i : Nat) : Int) old) ∧ IterA k h it a i) where
  mem := List.mem_cons_self
  obj := by
    rintro i h ⟨⟨old, he⟩, j⟩ b hb
    rcases List.mem_cons.mp hb with rfl | hb
    · exact ⟨_, he, fun v q => nomatch q⟩
    · obtain rfl := List.mem_singleton.mp hb
      exact iterA_obj j
  keep := by
    rintro i h h' ⟨⟨old, he⟩, j⟩ q
    exact ⟨⟨old, q e (by simp) _ he⟩, iterA_at j fun o h => q it (by simp) o h⟩
  item := by
    rintro X rfl rfl rfl hc i pins s σ H E I hf ⟨⟨old, he⟩, j⟩ ⟨xs, x, hq, hx⟩
    obtain ⟨its, rv, p, _⟩ := seqA k I hq
    obtain ⟨u, hu, ru⟩ := rv.get hx
    have he0 : e < s.heap.objs.size := Heap.lt_size he
    have hi0 : it < s.heap.objs.size := by
      obtain ⟨_, q, _⟩ := iterA_obj j
      exact Heap.lt_size q
    refine wpAny_pyNext_enum_itemD (drawsA k (A := X.A.in1) (I.ok.hd hc) it a hai its.toArray) he ⟨j, p⟩ (by simpa using (List.getElem?_eq_some_iff.mp hu).1) hne (by simp [hne, hae.symm]) fun v h' tk hv ho hit' hT hsz hk => ?_
    have ev : v = u := by
      rw [List.getElem?_toArray, hu] at hv
      exact (Option.some.inj hv).symm
    subst ev
    refine ⟨_, rfl, wpAny_letOwnedTupleGo_enum (s := { s with heap := h', toks := tk + 1 }) ho fun h'' he' sb => ?_⟩
    have made : h''.get? s.heap.objs.size = some { cls := .type "tuple", data := .seq #[.int i tk, v] } := (sb.2 _ (Nat.ne_of_gt he0)).trans hT
    have new : ObjOk X.prog X.w (upd H s.heap.objs.size (.tup [.int (i : Nat), x])) h'' s.heap.objs.size (.tup [.int (i : Nat), x]) := ⟨by show 2 ≤ sizeLine; decide, [.int i tk, v], .cons ⟨_, rfl⟩ (.cons ru .nil), ⟨_, made, rfl, _, rfl⟩⟩
    have kept : ∀ b o, b ∉ [e, it] → s.heap.get? b = some o → h''.get? b = some o := fun b o hb q => by
      have h1 : b ≠ e := fun z => hb (by simp [z])
      have h2 : b ≠ it := fun z => hb (by simp [z])
      exact (sb.2 b h1).trans (hk b o h1 h2 q)
    refine ⟨.ref s.heap.objs.size, _, I.turnedNew (ch := [e, it]) kept hf (Nat.le_refl _) new, rfl, ⟨_, x, rfl, I.hok.fresh (Nat.le_refl _), rfl, fun l hl => by rw [seqA_inj k I hl hq]; exact hx⟩, ⟨⟨v, ?_⟩, ?_⟩, fun b hb => ?_⟩
    · have e1 : ((i + 1 : Nat) : Int) = (i : Int) + 1 := by omega
      rw [e1]
      exact he'
    · exact iterA_at hit'.1 fun o q => (sb.2 it (Ne.symm hne)).trans q
    · have hb' : b < s.heap.objs.size := by
        rcases List.mem_cons.mp hb with rfl | hb
        · exact he0
        · rw [List.mem_singleton.mp hb]
          exact hi0
      rw [upd_ne (Nat.ne_of_lt hb')]
      exact (hf b hb).1
  done := by
    rintro X rfl rfl rfl hc i pins s σ H E I hf ⟨⟨old, he⟩, j⟩ ⟨xs, hq, rfl⟩
    obtain ⟨its, rv, p, _⟩ := seqA k I hq
    obtain ⟨f0, f1, f2, f3, f4, f5⟩ := hf it (by simp)
    have hl : xs.length = its.toArray.size := by
      rw [List.size_toArray]
      exact rv.length
    rw [hl] at he j
    exact wpAny_pyNext_enum_endD (drawsA k (A := X.A.in1) (I.ok.hd hc) it a hai its.toArray) he ⟨j, p⟩ fun h' eb => ⟨rfl, I.turned (t' := s.toks) (fun b o hb q => eb b o hb q) f0 f1 f3 f4 f5⟩
  self := fun A i s Q E st h => by
    obtain ⟨⟨_, he⟩, _⟩ := st
    exact wpAny_pyIter_enum he h
theorem en_new {v : Value} {o : Obj} {H : Heap → Prop} (B : Begins v o H) : Meets (Builtin.«enumerate.__new__» ⟨[.type "enumerate", v], []⟩) (fun _ R s => H s.heap ∧
    R (.ok (.ret (.ref (s.heap.push o).objs.size))) { s with heap := (s.heap.push o).push { cls := .type "enumerate", data := .fields #[.none, .bool false, .ref s.heap.objs.size, rawInt 0, .none, .none] } }) :=
  .of_wp fun prog w A R s h => by
    obtain ⟨hp, g, d, tk, os⟩ := s
    obtain ⟨h1, h⟩ := h
    have hsub := sub_enumerate
    have q1 : ∀ {A' : Around} {E : Value → Shared → Prop} {Q : Value → Shared → Prop}, Q (.ref hp.objs.size) ⟨hp.push o, g, d, tk, os⟩ → wpAny (model prog w) A' (pyIter v) Q E ⟨hp, g, d, tk, os⟩ := fun q => B.iter prog w _ _ ⟨hp, g, d, tk, os⟩ _ h1 q
    wp_walk using q1
    refine wpAny_stack_any fun st => wpAny_pure ?_
    split
    · rename_i c _ _ _ _ _
      cases (c == Value.type "enumerate")
      · wp_walk using q1
        exact ⟨_, rfl, h⟩
      · wp_walk using q1
        exact ⟨_, rfl, h⟩
    · wp_walk using q1
      exact ⟨_, rfl, h⟩
theorem call_enumB {prog : Program} {w : World} {A : Around} {E : Value → Shared → Prop} {s : Shared} {v : Value} {o : Obj} {H : Heap → Prop} {Q : Value → Shared → Prop} (B : Begins v o H) (h1 : H s.heap)
    (h : ∀ h', IsEnum h' (s.heap.objs.size + 1) s.heap.objs.size 0 .none → h'.get? s.heap.objs.size = some o → (∀ b o, s.heap.get? b = some o → h'.get? b = some o) → Q (.ref (s.heap.objs.size + 1)) { s with heap := h' }) :
    wpAny (model prog w) A (call (.type "enumerate") [v]) Q E s := by
  refine callType_new F.called_enumerate (by decide) (F.typeCall_enumerate_1 _) (F.newCall_enumerate_1 _) (fun obj => F.args_object_init_2 obj _) F.entry_enumerate_new (en_new B) ⟨h1, ?_⟩
  have one : (s.heap.push o).objs.size = s.heap.objs.size + 1 := Heap.size_push ..
  rw [one]
  have at2 := Heap.get?_push_size (s.heap.push o) (o := { cls := .type "enumerate", data := .fields #[.none, .bool false, .ref s.heap.objs.size, rawInt 0, .none, .none] }) rfl
  rw [one] at at2
  exact ⟨⟨_, at2, rfl⟩, h _ at2 (Heap.get?_push_of_some _ (Heap.get?_push_size _ B.free)) fun b o x => Heap.get?_push_of_some _ (Heap.get?_push_of_some _ x)⟩
def iEnumK (k : SK) (K : PySem.W.Frag) (ta : TA) : TI := fun σ H R => ta σ H fun vs H1 => ∃ a xs, vs = [.ref a] ∧ SqA k K H1 a xs ∧ R (ItenA k K a) H1
theorem rd_enumK {k : SK} {K : PySem.W.Frag} {ta : TA} {σ : L2.St} {H : Hp} {R : It → Hp → Prop} (h : ta σ H fun vs H1 => ∃ a xs, vs = [.ref a] ∧ SqA k K H1 a xs ∧ R (ItenA k K a) H1) : iEnumK k K ta σ H R := h
/-- new pairs of a number and the item -/
theorem walk_enumA {k : SK} {K : PySem.W.Frag} {a : Addr} {xs : List V} : Walk (ItenA k K a) xs.length (fun H => SqA k K H a xs) (YPair (fun i => some (.int (i : Nat))) fun i => xs[i]?) :=
  ⟨fun i H hi q => ⟨xs, xs[i]'hi, q, by simp⟩, fun H q => ⟨xs, q, rfl⟩, fun i H x H' hi q y => by
    obtain ⟨T, x, e, n, e2, h1⟩ := y
    exact ⟨T, _, x, e, n, e2, rfl, h1 xs q⟩⟩
theorem pi_enumK (k : SK) {X : Cx} {K : PySem.W.Frag} (hK : X.K = K) {e : Expr} {ta : TA} {p pos tpos : Pos} {elts : List Expr} {kk : Nat} (hg : Gl X "enumerate") (hm : X.mg "enumerate" = none) (ha : PA X [e] ta) (hs : starEach [e] X.env = [(false, eval e X.env)] := by rfl) :
    PI X (.Tuple elts kk tpos) (.Call (.Name "enumerate" p) [e] [] pos) (iEnumK k K ta) := by
  subst hK
  refine ⟨fun pins s σ H R I h => ?_⟩
  refine Call_ (ld_blt I hg hm boot_enumerate (PyProof.Rows.callWith_type1 (thn (ha.run pos pins s σ H _ I h) fun us s1 ⟨vs, H1, I1, r1, q1⟩ => ?_) hs rfl))
  obtain ⟨a, xs, rfl, hx, q⟩ := q1
  cases r1 with
  | cons r rr =>
    cases rr
    cases (show _ = Value.ref a from r)
    obtain ⟨its, _, p1, la⟩ := seqA k I1 hx
    obtain ⟨o1, B1, g1⟩ := beginsA k a its.toArray
    refine call_enumB B1 p1 fun h' he hit hk => wpAny_pyIter_enum he ?_
    have I2 : Inv X pins σ H1 { s1 with heap := h' } := I1.kept (t' := s1.toks) hk
    refine ⟨s1.heap.objs.size + 1, [s1.heap.objs.size + 1, s1.heap.objs.size], _, _, H1, rfl, I2, turn_enumA k (Nat.ne_of_lt (Nat.lt_succ_of_lt la)) (Nat.ne_of_lt la) (Nat.succ_ne_self _), ⟨⟨.none, he⟩, g1 _ _ hit⟩, fun b hb => ?_, q⟩
    have hle : s1.heap.objs.size ≤ b := by
      rcases List.mem_cons.mp hb with rfl | hb
      · exact Nat.le_add_right _ _
      · exact Nat.le_of_eq (List.mem_singleton.mp hb).symm
    exact I1.fpOk hle (I1.hok.fresh hle)
section
variable {X : Cx} {K : PySem.W.Frag}
theorem ix_tupK (h : X.K = K) : IxR X (rIxT K) := by
  subst h
  exact ix_tup
theorem ix_listK (h : X.K = K) : IxR X (rIxL K) := by
  subst h
  exact ix_list
theorem call_lenK (h : X.K = K) : CallR X (.builtin "len") (rLenQ K) := by
  subst h
  exact call_lenQ
end
section
variable {σ : L2.St} {H : Hp} {D : Ends} {i : Nat} {x : V} {te : TE} {ti : TIp}
theorem rd_aug (h : σ[i]? = some (some x)) (q : te σ H fun y H1 => ti x y H1 fun z H2 => D.nx (σ.set i (some z)) H2) : tAug i te ti D σ H := ⟨x, h, q⟩
theorem rd_ipI {f : Int → Int → Int} {a b : Int} {Q : VK} (q : Q (.int (f a b)) H) : ipI f (.int a) (.int b) H Q := ⟨a, b, rfl, rfl, q⟩
theorem rd_while {c : TT} {tb : TS} (Pv : Nat → L2.St → Hp → Prop) (n : Nat) (h0 : Pv n σ H)
    (hs : ∀ m σ H, Pv m σ H → c σ H fun b H1 => if b = true then ∃ N : L2.St → Hp → Prop, (∀ σ' H', N σ' H' → ∃ m', m' < m ∧ Pv m' σ' H') ∧ tb { D with nx := N, ct := N, bk := D.nx } σ H1 else D.nx σ H1) : tWhile c tb D σ H := ⟨Pv, ⟨n, h0⟩, hs⟩
end
theorem pi_listK {X : Cx} {K : PySem.W.Frag} {tg l : Expr} {tl : TE} (h : X.K = K) (hl : PE X l tl) : PI X tg l (iList K tl) := by
  subst h
  exact pi_list hl
theorem pi_tupK {X : Cx} {K : PySem.W.Frag} {tg l : Expr} {tl : TE} (h : X.K = K) (hl : PE X l tl) : PI X tg l (iTup K tl) := by
  subst h
  exact pi_tup hl
theorem pe_tupleOfK {X : Cx} {K : PySem.W.Frag} {l : Expr} {ta : TE} {p pos : Pos} (h : X.K = K) (hg : Gl X "tuple") (hm : X.mg "tuple" = none) (ha : PE X l ta) (na : starEach [l] X.env = (false, eval l X.env) :: starEach [] X.env := by rfl) : PE X (.Call (.Name "tuple" p) [l] [] pos) (tThen ta (kTup K)) := by
  subst h
  exact pe_tupleOf hg hm ha na
theorem rd_then {ta : TE} {k : V → Hp → VK → Prop} {σ : L2.St} {H : Hp} {Q : VK} (h : ta σ H fun x H1 => k x H1 Q) : tThen ta k σ H Q := h
theorem rd_kTup {K : PySem.W.Frag} {p : Addr} {xs : List V} {H : Hp} {Q : VK} (h : H p = some (.lst xs)) (q : ∀ r, H r = none → Q (.ref r) (upd H r (.tup xs))) : kTup K (.ref p) H Q := .inl ⟨p, xs, rfl, SqL.of h, q⟩
/-! ### a comprehension of two fors -/
/-- the inner walk, of which Nx is wanted at its end -/
def InW (J1 : It) (g1 : TG) (tt1 : TT) (te : TE) (vs1 : List Nat) (D : Addr) (τ : L2.St) (G4 : Hp) (Nx : Hp → Prop) : Prop :=
  ∃ U : Nat → Nat → Hp → Prop, (∃ m, U 0 m G4) ∧ ∀ j k G, U j k G → (J1.stop j G ∧ Nx G) ∨ (J1.go j G ∧ ∃ Mx : Hp → Prop, (∀ G', Mx G' → ∃ k', k' < k ∧ U (j + 1) k' G') ∧
    ∀ z G', J1.yld j G z G' → g1 z (wipe τ vs1) G' fun τ3 G5 => wipe τ3 vs1 = wipe τ vs1 ∧ tt1 τ3 G5 fun b G6 => if b = true then te τ3 G6 fun z G7 => ∃ ac, G7 D = some (.lst ac) ∧ ac.length < sizeLine ∧ Mx (upd G7 D (.lst (ac ++ [z]))) else Mx G6)
def OutW (J : It) (g : TG) (tt : TT) (wi1 : TI) (g1 : TG) (tt1 : TT) (te : TE) (vs vs1 : List Nat) (D : Addr) (σ : L2.St) (G1 : Hp) (Qd : Hp → Prop) : Prop :=
  ∃ U : Nat → Nat → Hp → Prop, (∃ m, U 0 m (upd G1 D (.lst []))) ∧ ∀ i m G, U i m G → (J.stop i G ∧ Qd G) ∨ (J.go i G ∧ ∃ Nx : Hp → Prop, (∀ G', Nx G' → ∃ m', m' < m ∧ U (i + 1) m' G') ∧
    ∀ z G', J.yld i G z G' → g z (wipe σ vs) G' fun τ G2 => wipe τ vs = wipe σ vs ∧ tt τ G2 fun b G3 => if b = true then wi1 τ G3 fun J1 G4 => InW J1 g1 tt1 te vs1 D τ G4 Nx else Nx G3)
theorem in_it {J1 : It} {n : Nat} {G : Hp → Prop} {Y : Nat → Hp → V → Hp → Prop} (w : Walk J1 n G Y) {g1 : TG} {tt1 : TT} {te : TE} {vs1 : List Nat} {D : Addr} {τ : L2.St} {G4 : Hp} {Nx : Hp → Prop} (Pv : Nat → Hp → Prop) (h0 : Pv 0 G4) (hG : ∀ i H, i ≤ n → Pv i H → G H)
    (hs : ∀ i x H H', i < n → Pv i H → Y i H x H' → g1 x (wipe τ vs1) H' fun τ3 G5 => wipe τ3 vs1 = wipe τ vs1 ∧ tt1 τ3 G5 fun b G6 => if b = true then te τ3 G6 fun z G7 => ∃ ac, G7 D = some (.lst ac) ∧ ac.length < sizeLine ∧ Pv (i + 1) (upd G7 D (.lst (ac ++ [z]))) else Pv (i + 1) G6)
    (hd : ∀ H, Pv n H → Nx H) : InW J1 g1 tt1 te vs1 D τ G4 Nx := by
  refine ⟨fun j k H => k = n - j ∧ j ≤ n ∧ Pv j H, ⟨n, rfl, Nat.zero_le _, h0⟩, ?_⟩
  rintro j k H ⟨rfl, hj, p⟩
  rcases Nat.lt_or_ge j n with h | h
  · exact .inr ⟨w.goes j H h (hG j H hj p), Pv (j + 1), fun H' p' => ⟨n - (j + 1), by omega, rfl, h, p'⟩, fun x H' y => hs j x H H' h p (w.yields j H x H' h (hG j H hj p) y)⟩
  · obtain rfl : j = n := by omega
    exact .inl ⟨w.stops H (hG _ H hj p), hd H p⟩
theorem lc2_it {J : It} {n : Nat} {G : Hp → Prop} {Y : Nat → Hp → V → Hp → Prop} (w : Walk J n G Y) {g g1 : TG} {tt tt1 : TT} {te : TE} {wi1 : TI} {vs vs1 : List Nat} {σ : L2.St} {H1 : Hp} {D : Addr} {Qd : Hp → Prop} (Pv : Nat → Hp → Prop) (h0 : Pv 0 (upd H1 D (.lst []))) (hG : ∀ i H, i ≤ n → Pv i H → G H)
    (hs : ∀ i x H H', i < n → Pv i H → Y i H x H' → g x (wipe σ vs) H' fun τ G2 => wipe τ vs = wipe σ vs ∧ tt τ G2 fun b G3 => if b = true then wi1 τ G3 fun J1 G4 => InW J1 g1 tt1 te vs1 D τ G4 (Pv (i + 1)) else Pv (i + 1) G3) (hd : ∀ H, Pv n H → Qd H) : OutW J g tt wi1 g1 tt1 te vs vs1 D σ H1 Qd := by
  refine ⟨fun i m H => m = n - i ∧ i ≤ n ∧ Pv i H, ⟨n, rfl, Nat.zero_le _, h0⟩, ?_⟩
  rintro i m H ⟨rfl, hi, p⟩
  rcases Nat.lt_or_ge i n with h | h
  · exact .inr ⟨w.goes i H h (hG i H hi p), Pv (i + 1), fun H' p' => ⟨n - (i + 1), by omega, rfl, h, p'⟩, fun x H' y => hs i x H H' h p (w.yields i H x H' h (hG i H hi p) y)⟩
  · obtain rfl : i = n := by omega
    exact .inl ⟨w.stops H (hG _ H hi p), hd H p⟩
theorem rd_lc2 {wi wi1 : TI} {g g1 : TG} {tt tt1 : TT} {te : TE} {vs vs1 : List Nat} {σ : L2.St} {H : Hp} {Q : VK} (h : wi σ H fun J H1 => ∀ D, H1 D = none → OutW J g tt wi1 g1 tt1 te vs vs1 D σ H1 (Q (.ref D))) : tLc2 wi g tt wi1 g1 tt1 te vs vs1 σ H Q := h
end Un

/-! UnLs: rules that may stand within a comprehension. -/
namespace Un
open PySem PySem.Spec PyProof.Rows L2
theorem hu65 {k : Nat} {A : Around} (hr : Room k A) : A.units + 65 < cLine := by
  have := hr.un
  omega
section
variable {X : Cx} {K : PySem.W.Frag}
theorem op_catAK (h : X.K = K) : OpR X (binaryOp .Add) (rCatA K) := by
  subst h
  exact op_catA
theorem mt_indexDK (h : X.K = K) (hu : X.A.units + 65 < cLine) : MtR X "list.index" (rIndexD K) := by
  subst h
  exact mt_indexD hu
theorem call_isiQ (h : X.K = K) : CallR X (.builtin "isinstance") (rIsi K) := by
  subst h
  exact call_isi
theorem pe_bmK {o e : Expr} {es : List Expr} {to : TE} {t : TA} {name : Str} {apos cpos : Pos} {T id : String} {r : V → List V → Hp → VK → Prop} (h : X.K = K) (pa : PlainAttrs T) (slot : Slot T name id) (hty : typeOf (.builtin id) = pure (.type "method_descriptor"))
    (hm : MtR X id r) (ho : PE X o to) (ha : PA X (e :: es) t) (hbase : attributeBase o name X.env (eval o X.env) = eval o X.env := by rfl)
    (hfew : ((backTo cpos (starEach (e :: es) X.env)).all (fun x => !x.1) && (backToKw cpos (keywordEach [] X.env)).all (fun x => x.1.isSome) && decide ((e :: es).length + ([] : List Keyword).length + (if ([] : List Keyword).isEmpty then 0 else 1) < 30)) = true := by rfl)
    (hline : (apos.endLine == cpos.line) = true := by rfl) (hs : starEach (e :: es) X.env = (false, eval e X.env) :: starEach es X.env := by rfl) (hplain : (backTo cpos (starEach es X.env)).any (·.1) = false := by rfl) :
    PE X (.Call (.Attribute o name apos) (e :: es) [] cpos) (tBM K T r to t) := by
  subst h
  exact pe_bm pa slot hty hm ho ha hbase hfew hline hs hplain
end
section
variable {K : PySem.W.Frag} {H : Hp} {Q : VK} {σ : L2.St}
theorem rd_catA {a b : Addr} {xs ys : List V} (ha : SqT K H a xs) (hb : SqT K H b ys) (hz : xs.length + ys.length ≤ sizeLine) (hx : xs ≠ []) (q1 : ys = [] → Q (.ref a) H) (q2 : ∀ p, H p = none → Q (.ref p) (upd H p (.tup (xs ++ ys)))) : rCatA K (.ref a) (.ref b) H Q :=
  ⟨a, b, xs, ys, rfl, rfl, ha, hb, hz, fun h => absurd h hx, fun _ h => q1 h, fun _ _ => q2⟩
theorem rd_lenSet {ta : TE} (h : ta σ H fun x H1 => ∃ (l : Addr) (ns : List Int), x = .ref l ∧ SqL K H1 l (ns.map V.int) ∧ ns.Nodup ∧ ns.length ≤ 4000 ∧ Q (.int (ns.length : Nat)) H1) : RZ.tLenSetI K ta σ H Q := h
theorem rd_repT {a : Addr} {k : Int} {xs : List V} (h : SqT K H a xs) (h1 : xs ≠ []) (h2 : 2 ≤ k) (h3 : k ≤ 1000) (h4 : xs.length ≤ 1000) (q : ∀ p, H p = none → Q (.ref p) (upd H p (.tup (List.replicate k.toNat xs).flatten))) : rRepT K (.ref a) (.int k) H Q := ⟨a, k, xs, rfl, rfl, h, h1, h2, h3, h4, q⟩
end
end Un

/-! UnOp: instances of own classes under [ ], in, len, == and !=, by their own methods. -/
namespace Un
open PySem PySem.Spec PyProof.Rows L2
section
variable {X : Cx} {CX : CXT} {k : Nat} {C f : Addr} {fd : FuncData} {ps : List Str} {sp : Sp} {E : XK}
/-- an own method called one level in -/
theorem run_in1 {pins : List (Addr × Obj)} {σ : L2.St} {H : Hp} {s : Shared} {Q : VK} {us : List Value} {vs : List V} (F : FnOk X.prog X.w X.K X.mg X.base CX k f fd ps sp) (hr : Room (k + 1) X.A) (hb : Binds X.K fd ps []) (hx : Passes CX X E)
    (I : Inv X pins σ H s) (r : Vals vs us) (h : sp vs H Q E) : wpAny (model X.prog X.w) X.A.in1 (call (.ref f) us) (EP X pins σ Q) X.xe s := by
  have hl : us.length = ps.length := by
    rw [← r.length]
    exact F.len _ _ _ _ h
  have hbd := hb s us I.kIn (by simpa using hl)
  rw [List.append_nil] at hbd
  refine wpAny_call (codeAny_mono (F.run X.A.in1 X.stack s H ⟨us, []⟩ us vs Q E hr.in1 I.env0.in1 hbd r h) fun q s' hq => ?_)
  match q, hq with
  | .error e, hq => exact hx pins σ H s e s' I hq
  | .ok (.ret u), hq => exact I.after hq
  | .ok .next, hq => exact hq.elim
  | .ok .brk, hq => exact hq.elim
  | .ok .cont, hq => exact hq.elim
theorem run_own {pins : List (Addr × Obj)} {σ : L2.St} {H : Hp} {s : Shared} {Q : VK} {us : List Value} {vs : List V} (F : FnOk X.prog X.w X.K X.mg X.base CX k f fd ps sp) (hr : Room k X.A) (hb : Binds X.K fd ps []) (hx : Passes CX X E)
    (I : Inv X pins σ H s) (r : Vals vs us) (h : sp vs H Q E) : wpAny (model X.prog X.w) X.A (call (.ref f) us) (EP X pins σ Q) X.xe s :=
  run_fn F hr hb .nil hx I r (by rw [List.append_nil]; exact h)
/-- o[i] = v -/
def rSetO (C : Addr) (sp : Sp) (E : XK) : TSet := fun o i v H Q => ∃ a dx fs, o = .ref a ∧ H a = some (.ins C dx fs) ∧ sp [.ref a, i, v] H (fun _ H' => Q H') E
theorem set_own (hm : Meth X.K C "__setitem__" f) (hq : PySem.W.noSeq X.K C = true) (F : FnOk X.prog X.w X.K X.mg X.base CX k f fd ps sp) (hr : Room k X.A) (hb : Binds X.K fd ps []) (hx : Passes CX X E) : PSet X (rSetO C sp E) := by
  intro pins s σ H o i v ov iv u Q I ro ri rv h
  obtain ⟨a, dx, fs, rfl, ha, h⟩ := h
  cases (show ov = Value.ref a from ro)
  obtain ⟨mA, O, _⟩ := ins_get I.hok ha
  obtain ⟨od, J, _⟩ := O.look
  obtain ⟨m, hF⟩ := I.fr
  refine PySem.W.ksp_setItem hF I.ok.mod.kin J hq hm.at_ hm.fn (wpAny_mono (run_own F hr hb hx I (show Vals [V.ref a, i, v] [Value.ref a, iv, u] from .cons rfl (.cons ri (.cons rv .nil))) h) (fun r s' hs => ?_) fun _ _ e => e)
  obtain ⟨z, H', I', rz, q⟩ := hs
  exact ⟨H', I', q⟩
/-- x in o, x not in o -/
def rInO (neg : Bool) (C : Addr) (sp : Sp) (E : XK) : R2 := fun x y H Q => ∃ a dx fs, y = .ref a ∧ H a = some (.ins C dx fs) ∧ sp [.ref a, x] H (fun r H' => ∃ b, r = .bl b ∧ Q (.bl (if neg then !b else b)) H') E
theorem op_inO (hm : Meth X.K C "__contains__" f) (F : FnOk X.prog X.w X.K X.mg X.base CX k f fd ps sp) (hr : Room k X.A) (hb : Binds X.K fd ps []) (hx : Passes CX X E) : OpR X (compareOp .In) (rInO false C sp E) := by
  intro pins s σ H x y v u Q I rx ry h
  obtain ⟨a, dx, fs, rfl, ha, h⟩ := h
  cases (show u = Value.ref a from ry)
  obtain ⟨mA, O, _⟩ := ins_get I.hok ha
  obtain ⟨od, J, _⟩ := O.look
  obtain ⟨m, hF⟩ := I.fr
  refine PySem.W.in_K hF I.ok.mod.kin J hm.at_ hm.fn (wpAny_mono (run_own F hr hb hx I (show Vals [V.ref a, x] [Value.ref a, v] from .cons rfl (.cons rx .nil)) h) (fun r s' hs => ?_) fun _ _ e => e)
  obtain ⟨z, H', I', rz, b, rfl, q⟩ := hs
  cases (show r = Value.bool b from rz)
  exact wpAny_truthy_bool ⟨.bl b, H', I', rfl, q⟩
theorem op_notInO (hm : Meth X.K C "__contains__" f) (F : FnOk X.prog X.w X.K X.mg X.base CX k f fd ps sp) (hr : Room k X.A) (hb : Binds X.K fd ps []) (hx : Passes CX X E) : OpR X (compareOp .NotIn) (rInO true C sp E) := by
  intro pins s σ H x y v u Q I rx ry h
  obtain ⟨a, dx, fs, rfl, ha, h⟩ := h
  cases (show u = Value.ref a from ry)
  obtain ⟨mA, O, _⟩ := ins_get I.hok ha
  obtain ⟨od, J, _⟩ := O.look
  obtain ⟨m, hF⟩ := I.fr
  refine PySem.W.notIn_K hF I.ok.mod.kin J hm.at_ hm.fn (wpAny_mono (run_own F hr hb hx I (show Vals [V.ref a, x] [Value.ref a, v] from .cons rfl (.cons rx .nil)) h) (fun r s' hs => ?_) fun _ _ e => e)
  obtain ⟨z, H', I', rz, b, rfl, q⟩ := hs
  cases (show r = Value.bool b from rz)
  exact wpAny_truthy_bool ⟨.bl (!b), H', I', rfl, q⟩
/-- len(o) -/
def rLenO (C : Addr) (sp : Sp) (E : XK) : List V → Hp → VK → Prop := fun xs H Q => ∃ a dx fs, xs = [.ref a] ∧ H a = some (.ins C dx fs) ∧ sp [.ref a] H (fun r H' => ∃ n : Nat, r = .int (n : Int) ∧ n ≤ 1000000 ∧ Q (.int (n : Int)) H') E
theorem call_lenO (hm : Meth X.K C "__len__" f) (F : FnOk X.prog X.w X.K X.mg X.base CX k f fd ps sp) (hr : Room (k + 1) X.A) (hb : Binds X.K fd ps []) (hx : Passes CX X E) : CallR X (.builtin "len") (rLenO C sp E) := by
  intro pins s σ H xs us Q I r h
  obtain ⟨a, dx, fs, rfl, ha, h⟩ := h
  obtain ⟨u, rfl, ru⟩ := vals1 r
  cases (show u = Value.ref a from ru)
  obtain ⟨mA, O, _⟩ := ins_get I.hok ha
  obtain ⟨od, J, _⟩ := O.look
  obtain ⟨m, hF⟩ := I.fr
  refine PySem.W.len_K hF I.ok.mod.kin J hm.at_ hm.fn (wpAny_mono (run_in1 F hr hb hx I (show Vals [V.ref a] [Value.ref a] from .cons rfl .nil) h) (fun r s' hs => ?_) fun _ _ e => e)
  obtain ⟨z, H', I', rz, n, rfl, hn, q⟩ := hs
  obtain ⟨t, rfl⟩ := rz
  exact ⟨⟨by omega, by omega⟩, .int n, H', I'.tok _, ⟨_, rfl⟩, q⟩
/-- o == y where the own method gives a truth value -/
def rEqO (C : Addr) (sp : Sp) (E : XK) (T : V → Hp → Prop) : R2 := fun x y H Q => ∃ a dx fs, x = .ref a ∧ H a = some (.ins C dx fs) ∧ T y H ∧ sp [.ref a, y] H (fun r H' => ∃ b, r = .bl b ∧ Q (.bl b) H') E
/-- what a right operand's class may be -/
def Right (X : Cx) (C : Addr) (T : V → Hp → Prop) : Prop := ∀ (pins : List (Addr × Obj)) (σ : L2.St) (H : Hp) (s : Shared) (y : V) (u : Value), Inv X pins σ H s → RelV y u → T y H → ∃ t, PySem.W.Looks (model X.prog X.w) s.heap (typeOf u) t ∧ PySem.W.notFirst X.K C t = true
theorem op_eqO {T : V → Hp → Prop} (hT : Right X C T) (hm : Meth X.K C "__eq__" f) (F : FnOk X.prog X.w X.K X.mg X.base CX k f fd ps sp) (hr : Room k X.A) (hb : Binds X.K fd ps []) (hx : Passes CX X E) : OpR X (compareOp .Eq) (rEqO C sp E T) := by
  intro pins s σ H x y v u Q I rx ry h
  obtain ⟨a, dx, fs, rfl, ha, ht, h⟩ := h
  cases (show v = Value.ref a from rx)
  obtain ⟨mA, O, _⟩ := ins_get I.hok ha
  obtain ⟨od, J, _⟩ := O.look
  obtain ⟨m, hF⟩ := I.fr
  obtain ⟨t, hL, hn⟩ := hT pins σ H s y u I ry ht
  refine PySem.W.cmp_K (op := .Eq) hr.units0 hF I.ok.mod.kin J hL hn hm.at_ hm.fn (wpAny_mono (run_own F hr hb hx I (show Vals [V.ref a, y] [Value.ref a, u] from .cons rfl (.cons ry .nil)) h) (fun r s' hs => ?_) fun _ _ e => e)
  obtain ⟨z, H', I', rz, b, rfl, q⟩ := hs
  cases (show r = Value.bool b from rz)
  exact ⟨.bl b, H', I', rfl, q⟩
/-- o[i] -/
def rGetO (C : Addr) (sp : Sp) (E : XK) : R2 := fun x y H Q => ∃ a dx fs, x = .ref a ∧ H a = some (.ins C dx fs) ∧ sp [.ref a, y] H Q E
theorem pe_getO {a b : Expr} {ta tb : TE} {pos : Pos} (hm : Meth X.K C "__getitem__" f) (hfn : PySem.W.fnIn X.K f = true) (F : FnOk X.prog X.w X.K X.mg X.base CX k f fd ps sp) (hr : Room (k + 1) X.A) (hb : Binds X.K fd ps []) (hx : Passes CX X E)
    (pa : PE X a ta) (pb : PE X b tb) (hs : ∀ (x : Addr) (i : Value), subscripted b true (.ref x) i = runValue (.builtin "lifetime.subscript" ⟨[.ref x, i], []⟩) := by exact fun _ _ => by with_unfolding_all rfl) : PE X (.Subscript a b pos) (tOp (rGetO C sp E) ta tb) := by
  refine ⟨fun pins s σ H Q I h => Subscript_ (binT pa pb I h fun v u s2 x y H2 I2 rx ry q => ?_)⟩
  obtain ⟨p, dx, fs, rfl, hp, q⟩ := q
  cases (show v = Value.ref p from rx)
  obtain ⟨mA, O, _⟩ := ins_get I2.hok hp
  obtain ⟨od, J, _⟩ := O.look
  obtain ⟨m, hF⟩ := I2.fr
  exact PySem.W.sub_K hF I2.ok.mod.kin J hm.at_ hfn hm.fn (run_in1 F hr hb hx I2 (show Vals [V.ref p, y] [Value.ref p, u] from .cons rfl (.cons ry .nil)) q) (hs p u)
end
end Un

set_option maxHeartbeats 4000000
/-! UnExc: own errors of one field raised, over any base; dead code; methods called with keywords; sorted texts of any number; a walk over a list or a tuple. -/
namespace Un
open PySem PySem.Spec PyProof.Rows L2
/-- code that is never come to -/
theorem ps_dead {X : Cx} {st : Stmt} : PS X st (fun _ _ _ => False) := ⟨fun _ _ _ _ _ _ h => h.elim⟩
theorem pss_dead {X : Cx} {sts : List Stmt} : PSs X sts (fun _ _ _ => False) := ⟨fun _ _ _ _ _ _ h => h.elim⟩
/-- raise C(e) -/
def tMkR (C : Addr) (f : Str) (te : TE) : L2.St → Hp → XK → Prop := fun σ H Q => te σ H fun v H1 => ∀ d, H1 d = none → Q (.ref C) (some d) (upd H1 d (.xd [(f, v)]))
section
variable {X : Cx} {o e : Expr} {te : TE} {f x : Str} {p pos : Pos} {C fI : Addr} {k : Nat} {fd : FuncData} {ps : List Str} {CX : CXT}
theorem pmk_X (T : OxC X.K C) (iC : PySem.W.findIn X.K (.ref C) "__init__" = some (some (.ref fI))) (tI : PySem.W.typeIn X.K (.ref fI) = some (.type "function")) (hno : PySem.W.findIn X.K (.ref C) f = some none)
    (F1 : FnOk X.prog X.w X.K X.mg X.base CX k fI fd ps (SpXI X.K f)) (hr : Room (k + 1) X.A) (hb : Binds X.K fd ps []) (hx : Passes CX X (fun _ _ _ => False)) (hg : Gl X x) (hm : X.mg x = some (.ref C)) (ha : PE X e te)
    (hdb : (x == ("__debug__" : Str)) = false := by decide) (he : starEach (e :: []) X.env = (false, eval e X.env) :: starEach [] X.env := by rfl) (hpl : (backTo pos (starEach [] X.env)).any (·.1) = false := by rfl) :
    PMk X (.Call (.Name x p) [e] [] pos) (tMkR C f te) := by
  intro pins s σ H Q I h
  obtain ⟨nm, q, N, bs, bm, sn, sub, ab, col, dd, k0, k1, k2, k3, k5, B, newId, initId, bmB, hC, FB, BB, hps⟩ := T.cls
  refine wpAny_Call_Name_kw (ld_glob I hg hm ?_ hdb)
  have hA : PA X [e] (tCons te tNil) := pa_cons ha pa_nil he
  refine PySem.W.callWith_K (h₀ := X.base) I.ok.mod.kin T.kC (thn (hA.run pos pins s σ H (fun vs H1 => match vs with | [v] => (∀ d, H1 d = none → Q (.ref C) (some d) (upd H1 d (.xd [(f, v)]))) | _ => False) I h) fun us s1 ⟨vs, H1, I1, r1, q1⟩ => ⟨I1.kIn, ?_⟩) he hpl
  show wpAny _ _ (call (.ref C) us) _ _ _
  obtain ⟨v, rfl⟩ : ∃ v, vs = [v] := by
    rcases vs with _ | ⟨v, _ | ⟨v2, vs⟩⟩
    · exact q1.elim
    · exact ⟨v, rfl⟩
    · exact q1.elim
  replace q1 : ∀ d, H1 d = none → Q (.ref C) (some d) (upd H1 d (.xd [(f, v)])) := q1
  obtain ⟨hp, g, dr, tk, os⟩ := s1
  have hsz : hp.objs.size ≤ hp.objs.size + 1 := Nat.le_succ _
  have hn : H1 (hp.objs.size + 1) = none := I1.hok.fresh hsz
  have hq : SpXI X.K f [.ref (hp.objs.size + 1), v] (upd H1 (hp.objs.size + 1) (exo (hp.objs.size + 1) C none))
      (fun r H2 => r = .non ∧ ∃ d, H1 d = none ∧ d ≠ hp.objs.size + 1 ∧ H2 = upd (upd (upd H1 (hp.objs.size + 1) (exo (hp.objs.size + 1) C none)) d (exd d [(f, v)])) (hp.objs.size + 1) (exo (hp.objs.size + 1) C (some d))) (fun _ _ _ => False) :=
    ⟨_, v, C, rfl, T, hno, upd_same, fun dx hd hda => ⟨rfl, dx, by rw [upd_ne hda] at hd; exact hd, hda, rfl⟩⟩
  have kk : ∀ b o, hp.get? b = some o → ((hp.push (PySem.W.kdv_tup us)).push (PySem.HandSPX.excO C hp.objs.size)).get? b = some o := fun b o z => Heap.get?_push_of_some _ (Heap.get?_push_of_some _ z)
  have hget : ((hp.push (PySem.W.kdv_tup us)).push (PySem.HandSPX.excO C hp.objs.size)).get? (hp.objs.size + 1) = some (PySem.HandSPX.excO C hp.objs.size) := by heap_get
  have I2 : Inv X pins σ (upd H1 (hp.objs.size + 1) (exo (hp.objs.size + 1) C none)) ⟨(hp.push (PySem.W.kdv_tup us)).push (PySem.HandSPX.excO C hp.objs.size), g, dr, tk, os⟩ :=
    I1.laid (t' := tk) (a := hp.objs.size + 1) (o := exo (hp.objs.size + 1) C none) (h' := (hp.push (PySem.W.kdv_tup us)).push (PySem.HandSPX.excO C hp.objs.size)) kk hsz (exo_ok hget)
  have r2 : Vals (V.ref (hp.objs.size + 1) :: ([v] ++ [])) (Value.ref (hp.objs.size + 1) :: (us ++ [])) := .cons rfl (r1.append .nil)
  have hl : (Value.ref (hp.objs.size + 1) :: us ++ []).length = ps.length := by
    have e1 := r2.length
    have e3 := F1.len _ _ _ _ hq
    simp only [List.length_cons, List.length_append, List.length_nil] at e1 e3 ⊢
    omega
  have hus : us.length ≤ sizeLine := by
    rw [← Paired.length r1, sizeLine_eq]
    simp
  refine wpAny_call (PySem.OXX.call_x FB BB (I1.kIn _ _ hC) (PySem.W.looks_findIn I1.kIn iC) (fun self => PySem.W.bind_fn I1.kIn self tI) hus
    (codeAny_mono (F1.run _ X.stack _ _ ⟨Value.ref (hp.objs.size + 1) :: us, []⟩ (Value.ref (hp.objs.size + 1) :: us ++ []) _ _ (fun _ _ _ => False) (hr.make C us []) (I2.env0.make C us []) (hb _ (Value.ref (hp.objs.size + 1) :: us) I2.kIn hl) r2 hq) fun r s' hq' => ?_))
  match r, hq' with
  | .error er, hq' => exact hx pins σ _ _ er s' I2 hq'
  | .ok .next, hq' => exact hq'.elim
  | .ok .brk, hq' => exact hq'.elim
  | .ok .cont, hq' => exact hq'.elim
  | .ok (.ret u), hq' =>
    obtain ⟨w', H2, os2, bare2, un2, hok2, rv, ev, d, hd1, hda, eH⟩ := hq'
    subst ev
    obtain ⟨h2, g2, d2, t2, os'⟩ := s'
    refine ⟨rv, mk_end (raises_own T.xf.exC T.ty) I1 hsz kk un2 hok2 os2 bare2 (by rw [eH, upd_same]) (by rw [eH, upd_ne hda, upd_same]) hd1 ?_⟩
    have e4 : upd (del H2 (hp.objs.size + 1)) d (.xd [(f, v)]) = upd H1 d (.xd [(f, v)]) := by
      funext b
      by_cases hb1 : b = d
      · subst hb1
        rw [upd_same, upd_same]
      · rw [upd_ne hb1, upd_ne hb1]
        by_cases hb2 : b = hp.objs.size + 1
        · subst hb2
          rw [del_same, hn]
        · rw [del_ne hb2, eH, upd_ne hb2, upd_ne hb1, upd_ne hb2]
    rw [e4]
    exact q1 d hd1
end
/-- sorted(texts), any number of them -/
def rSortedT (K : PySem.W.Frag) : List V → Hp → VK → Prop := fun vs H Q => ∃ (a : Addr) (xs : List Str), vs = [V.ref a] ∧ SqL K H a (xs.map V.str) ∧
  ∀ (ys : List Str) (p : Addr), ys.Perm xs → sortedS ys = true → H p = none → Q (.ref p) (upd H p (.lst (ys.map V.str)))
theorem cr_sortedT {X : Cx} : CallR X (.builtin "sorted") (rSortedT X.K) := by
  intro pins s σ H vs us Q I r h
  obtain ⟨a, xs, rfl, hs, q⟩ := h
  obtain ⟨its, rv, hl, hz⟩ := I.list hs
  rw [Vals.ref1 r]
  have hlen0 := rv.length
  refine PyProof.Rows.sorted_strsAny hl.isList rv.strs (by rw [← hlen0]; exact hz) fun out ys h1 h2 h3 => ?_
  obtain ⟨ep, he'⟩ := PyProof.Rows.sortedAll_at s.heap its out
  have hlen : (ys.map V.str).length ≤ sizeLine := by
    rw [List.length_map, h2.length_eq]
    rw [List.length_map] at hz
    exact hz
  exact ⟨.ref _, upd H (s.heap.objs.size + 1) (.lst (ys.map V.str)), I.laid (t' := s.toks) (fun _ _ => PyProof.Rows.sortedAll_old) (Nat.le_succ _) ⟨hlen, out.toList, ep, vals_of_strs h1, he'⟩, rfl, q ys _ h2 h3 (I.hok.fresh (Nat.le_succ _))⟩
/-- for x in xs, a list or a tuple -/
def iSeq (K : PySem.W.Frag) (tl : TE) : TI := fun σ H R => iList K tl σ H R ∨ iTup K tl σ H R
theorem pi_seq {X : Cx} {tg l : Expr} {tl : TE} (hl : PE X l tl) : PI X tg l (iSeq X.K tl) := ⟨fun pins s σ H R I h => h.elim ((pi_list hl).run pins s σ H R I) ((pi_tup hl).run pins s σ H R I)⟩
/-- o.m(e, .., k = v, ..) -/
def tMethN (C : Addr) (m : Str) (n l : Nat) (sp : Sp) (gV : List V → List V → List V) (E : XK) (ta : TE) (t tk : TA) : TE := fun σ H Q => ta σ H fun x H1 => ∃ a dx fs, x = .ref a ∧ H1 a = some (.ins C dx fs) ∧ fs.lookup m = none ∧
  t σ H1 fun vs H2 => tk σ H2 fun zs H3 => vs.length + 1 = n ∧ zs.length = l ∧ sp (gV (x :: vs) zs) H3 Q E
section
variable {X : Cx} {CX : CXT} {k n : Nat} {C f : Addr} {fd : FuncData} {ps ks : List Str} {sp : Sp} {E : XK} {m : Str} {apos pos : Pos} {o e : Expr} {es : List Expr} {kws : List Keyword} {ta : TE} {t tk : TA} {g : List Value → List Value → List Value} {gV : List V → List V → List V}
theorem pe_methN {pl : Sem Bool} (he : PE X o ta) (c : Cls X.K C) (hm : Meth X.K C m f) (F : FnOk X.prog X.w X.K X.mg X.base CX k f fd ps sp) (hr : Room k X.A) (hb : KBn X.K fd ps n ks g gV) (hx : Passes CX X E) (ha : PA X (e :: es) t) (hkw : PK X kws tk)
    (hall : (backToKw pos (keywordEach kws X.env)).all (·.1.isSome) = true := by rfl) (hks : (backToKw pos (keywordEach kws X.env)).filterMap (·.1) = ks := by rfl)
    (hst : starEach (e :: es) X.env = (false, eval e X.env) :: starEach es X.env := by rfl)
    (hpl : ((backTo pos (starEach (e :: es) X.env)).any (·.1) || (backToKw pos (keywordEach kws X.env)).any (·.1.isNone)) = false := by rfl)
    (ht : eval (.Call (.Attribute o m apos) (e :: es) kws pos) X.env = (do let ov ← eval o X.env; standAt apos.atName; let (f, first) ← holding [ov] (getMethod ov m pl); callWith pos f first (backTo pos (starEach (e :: es) X.env)) (backToKw pos (keywordEach kws X.env))) := by rfl) :
    PE X (.Call (.Attribute o m apos) (e :: es) kws pos) (tMethN C m n ks.length sp gV E ta t tk) := by
  refine ⟨fun pins s σ H Q I h => ?_⟩
  refine PySem.W.methodCall_KW (pl := pl) (thn (he.run pins s σ H _ I h) fun u s1 ⟨x, H1, I1, rx, a, dx, fs, ex, ea, l, q⟩ => ?_) ht
  subst ex
  obtain rfl : u = Value.ref a := rx
  refine getmeth_ok I1 ea c hm l ?_
  refine PySem.W.callWith_KW (first := [.ref a]) (h₀ := X.base) I.ok.mod.kin hm.kp hall (thn (ha.run pos pins s1 σ H1 _ I1 q) fun us s2 ⟨vs, H2, I2, r, q2⟩ => ?_) hpl hst
  refine thn (hkw.run pos pins s2 σ H2 _ I2 q2) fun ws s3 ⟨zs, H3, I3, rz, l1, l2, q3⟩ => ⟨I3.kIn, ?_⟩
  rw [hks]
  exact run_fnN (us := .ref a :: us) (vs := .ref a :: vs) F hr hb hx I3 (.cons rfl r) rz (by rw [List.length_cons]; exact l1) l2 q3
end
end Un

/-! UnM: methods in bundles; texts as keys of dicts. -/
namespace Un
open PySem PySem.Spec PyProof.Rows L2
/-- a method as it stands, no default -/
def AtM (K : PySem.W.Frag) (C : Addr) (m qual : Str) (st : Stmt) (ps : List Str) : Prop := ∃ (f : Addr) (fd : FuncData), Fun K m qual st f fd ∧ Meth K C m f ∧ PySem.W.fnIn K f = true ∧ Binds K fd ps []
/-- the same as a promise -/
def MetG (P : Program) (w : World) (K : PySem.W.Frag) (mg : Str → Option Value) (base : Heap) (CX : CXT) (C : Addr) (m : Str) (ps : List Str) (k : Nat) (sp : Sp) : Prop :=
  ∃ (f : Addr) (fd : FuncData), Cls K C ∧ Meth K C m f ∧ FnOk P w K mg base CX k f fd ps sp ∧ PySem.W.fnIn K f = true ∧ Binds K fd ps []
section
variable {P : Program} {w : World} {K : PySem.W.Frag} {mg : Str → Option Value} {base : Heap} {C : Addr} {m qual : Str} {st : Stmt} {ps : List Str} {k : Nat} {sp : Sp} {CX : CXT}
theorem metG_of (c : Cls K C) (a : AtM K C m qual st ps) (h : ∀ f fd, Fun K m qual st f fd → FnOk P w K mg base CX k f fd ps sp) : MetG P w K mg base CX C m ps k sp := by
  obtain ⟨f, fd, F, M, i, b⟩ := a
  exact ⟨f, fd, c, M, h f fd F, i, b⟩
end
section
variable {X : Cx} {C : Addr} {m : Str} {ps : List Str} {k j : Nat} {sp : Sp} {a b : Expr} {ta tb : TE} {pos : Pos} {CX : CXT} {E : XK}
theorem set_G (g : MetG X.prog X.w X.K X.mg X.base CX0 C "__setitem__" ps k sp) (hq : PySem.W.noSeq X.K C = true) (hr : Room j X.A) (hk : k ≤ j) : PSet X (rSetO C sp E0) := by
  obtain ⟨f, fd, c, M, F, i, b⟩ := g
  exact set_own M hq F (hr.mono hk) b pass0
theorem in_G (g : MetG X.prog X.w X.K X.mg X.base CX0 C "__contains__" ps k sp) (hr : Room j X.A) (hk : k ≤ j) : OpR X (compareOp .In) (rInO false C sp E0) := by
  obtain ⟨f, fd, c, M, F, i, b⟩ := g
  exact op_inO M F (hr.mono hk) b pass0
theorem notIn_G (g : MetG X.prog X.w X.K X.mg X.base CX0 C "__contains__" ps k sp) (hr : Room j X.A) (hk : k ≤ j) : OpR X (compareOp .NotIn) (rInO true C sp E0) := by
  obtain ⟨f, fd, c, M, F, i, b⟩ := g
  exact op_notInO M F (hr.mono hk) b pass0
theorem len_G (g : MetG X.prog X.w X.K X.mg X.base CX0 C "__len__" ps k sp) (hr : Room j X.A) (hk : k + 1 ≤ j) : CallR X (.builtin "len") (rLenO C sp E0) := by
  obtain ⟨f, fd, c, M, F, i, b⟩ := g
  exact call_lenO M F (hr.mono hk) b pass0
theorem eq_G {T : V → Hp → Prop} (hT : Right X C T) (g : MetG X.prog X.w X.K X.mg X.base CX0 C "__eq__" ps k sp) (hr : Room j X.A) (hk : k ≤ j) : OpR X (compareOp .Eq) (rEqO C sp E0 T) := by
  obtain ⟨f, fd, c, M, F, i, b⟩ := g
  exact op_eqO hT M F (hr.mono hk) b pass0
theorem pe_getG (g : MetG X.prog X.w X.K X.mg X.base CX C "__getitem__" ps k sp) (hr : Room j X.A) (hk : k + 1 ≤ j) (hx : Passes CX X E) (pa : PE X a ta) (pb : PE X b tb)
    (hs : ∀ (x : Addr) (i : Value), subscripted b true (.ref x) i = runValue (.builtin "lifetime.subscript" ⟨[.ref x, i], []⟩) := by exact fun _ _ => by with_unfolding_all rfl) : PE X (.Subscript a b pos) (tOp (rGetO C sp E) ta tb) := by
  obtain ⟨f, fd, c, M, F, i, b⟩ := g
  exact pe_getO M i F (hr.mono hk) b hx pa pb hs
end
section
variable {X : Cx} {C : Addr} {m x : Str} {ps : List Str} {k j : Nat} {sp : Sp} {e o : Expr} {es : List Expr} {ta : TE} {t : TA} {p pos apos : Pos} {dvs : List V}
/-- o.m(e, ..) and o.m() -/
theorem pe_mtG {pl : Sem Bool} (g : MetG X.prog X.w X.K X.mg X.base CX0 C m ps k sp) (hr : Room j X.A) (hk : k ≤ j) (he : PE X o ta) (ha : PA X (e :: es) t)
    (hst : starEach (e :: es) X.env = (false, eval e X.env) :: starEach es X.env := by rfl) (hpl : (backTo pos (starEach es X.env)).any (·.1) = false := by rfl)
    (ht : eval (.Call (.Attribute o m apos) (e :: es) [] pos) X.env = (do let ov ← eval o X.env; standAt apos.atName; let (f, first) ← holding [ov] (getMethod ov m pl); callWith pos f first (backTo pos (starEach (e :: es) X.env)) (backToKw pos (keywordEach [] X.env))) := by rfl) :
    PE X (.Call (.Attribute o m apos) (e :: es) [] pos) (tMeth C m sp [] E0 ta t) := by
  obtain ⟨f, fd, c, M, F, i, b⟩ := g
  exact pe_meth (pl := pl) he c M F (hr.mono hk) b .nil pass0 ha hst hpl ht
theorem pe_mtG0 {pl : Sem Bool} (g : MetG X.prog X.w X.K X.mg X.base CX0 C m ps k sp) (hr : Room j X.A) (hk : k ≤ j) (he : PE X o ta)
    (ht : eval (.Call (.Attribute o m apos) [] [] pos) X.env = (do let ov ← eval o X.env; standAt apos.atName; let (f, first) ← holding [ov] (getMethod ov m pl); callWith pos f first (backTo pos (starEach [] X.env)) (backToKw pos (keywordEach [] X.env))) := by rfl) :
    PE X (.Call (.Attribute o m apos) [] [] pos) (tMeth C m sp [] E0 ta tNil) := by
  obtain ⟨f, fd, c, M, F, i, b⟩ := g
  exact pe_meth0 (pl := pl) he c M F (hr.mono hk) b .nil pass0 ht
/-- the same with defaults -/
def MetD (P : Program) (w : World) (K : PySem.W.Frag) (mg : Str → Option Value) (base : Heap) (C : Addr) (m : Str) (k : Nat) (sp : Sp) (dvs : List V) : Prop :=
  ∃ (f : Addr) (fd : FuncData) (ps : List Str) (ds : List Value), Cls K C ∧ Meth K C m f ∧ FnOk P w K mg base CX0 k f fd ps sp ∧ Binds K fd ps ds ∧ Vals dvs ds
theorem pe_mtD {pl : Sem Bool} (g : MetD X.prog X.w X.K X.mg X.base C m k sp dvs) (hr : Room j X.A) (hk : k ≤ j) (he : PE X o ta) (ha : PA X (e :: es) t)
    (hst : starEach (e :: es) X.env = (false, eval e X.env) :: starEach es X.env := by rfl) (hpl : (backTo pos (starEach es X.env)).any (·.1) = false := by rfl)
    (ht : eval (.Call (.Attribute o m apos) (e :: es) [] pos) X.env = (do let ov ← eval o X.env; standAt apos.atName; let (f, first) ← holding [ov] (getMethod ov m pl); callWith pos f first (backTo pos (starEach (e :: es) X.env)) (backToKw pos (keywordEach [] X.env))) := by rfl) :
    PE X (.Call (.Attribute o m apos) (e :: es) [] pos) (tMeth C m sp dvs E0 ta t) := by
  obtain ⟨f, fd, ps, ds, c, M, F, b, d⟩ := g
  exact pe_meth (pl := pl) he c M F (hr.mono hk) b d pass0 ha hst hpl ht
theorem pe_mtD0 {pl : Sem Bool} (g : MetD X.prog X.w X.K X.mg X.base C m k sp dvs) (hr : Room j X.A) (hk : k ≤ j) (he : PE X o ta)
    (ht : eval (.Call (.Attribute o m apos) [] [] pos) X.env = (do let ov ← eval o X.env; standAt apos.atName; let (f, first) ← holding [ov] (getMethod ov m pl); callWith pos f first (backTo pos (starEach [] X.env)) (backToKw pos (keywordEach [] X.env))) := by rfl) :
    PE X (.Call (.Attribute o m apos) [] [] pos) (tMeth C m sp dvs E0 ta tNil) := by
  obtain ⟨f, fd, ps, ds, c, M, F, b, d⟩ := g
  exact pe_meth0 (pl := pl) he c M F (hr.mono hk) b d pass0 ht
/-- C(e, ..) -/
def MakD (P : Program) (w : World) (K : PySem.W.Frag) (mg : Str → Option Value) (base : Heap) (x : Str) (C : Addr) (k : Nat) (sp : Sp) (dvs : List V) : Prop :=
  ∃ (f : Addr) (fd : FuncData) (ps : List Str) (ds : List Value), L2.Mk K C f ∧ FnOk P w K mg base CX0 k f fd ps sp ∧ mg x = some (.ref C) ∧ Binds K fd ps ds ∧ Vals dvs ds
theorem pe_mkD (g : MakD X.prog X.w X.K X.mg X.base x C k sp dvs) (hr : Room j X.A) (hk : k + 1 ≤ j) (hg : Gl X x) (ha : PA X (e :: es) t)
    (hdb : (x == ("__debug__" : Str)) = false := by decide) (he : starEach (e :: es) X.env = (false, eval e X.env) :: starEach es X.env := by rfl) (hpl : (backTo pos (starEach es X.env)).any (·.1) = false := by rfl) :
    PE X (.Call (.Name x p) (e :: es) [] pos) (tMake C sp dvs E0 t) := by
  obtain ⟨f, fd, ps, ds, M, F, hm, b, d⟩ := g
  exact pe_make M F (hr.mono hk) hg hm b d pass0 ha hdb he hpl
end
def rGtX : R2 := fun x y H Q => ∃ a b, x = .str (tx a) ∧ y = .str (tx b) ∧ Q (.bl (decide (b < a))) H
theorem op_gtX {X : Cx} : OpR X (compareOp .Gt) rGtX := by
  intro pins s σ H x y v u Q I rx ry h
  obtain ⟨a, b, rfl, rfl, q⟩ := h
  exact op_gt_str pins s σ H _ _ v u Q I rx ry ⟨_, _, rfl, rfl, by rw [tx_cps, tx_cps]; exact q⟩
/-! ### tables from texts to ints -/
abbrev Tab := List (List Nat × Int)
def encT (m : Tab) : List (Key × V) := m.map fun p => (Sum.inr (tx p.1), V.int p.2)
def getT (m : Tab) (k : List Nat) : Option Int := (m.find? fun p => decide (p.1 = k)).map (·.2)
def putT (m : Tab) (k : List Nat) (v : Int) : Tab := if (m.any fun p => decide (p.1 = k)) = true then m.map (fun p => if p.1 = k then (p.1, v) else p) else m ++ [(k, v)]
def dropT (m : Tab) (k : List Nat) : Tab := m.filter fun p => decide (p.1 ≠ k)
theorem key_eq {a b : List Nat} : ((Sum.inr (tx a) : Key) = Sum.inr (tx b)) ↔ a = b := ⟨fun h => tx_inj (Sum.inr.inj h), fun h => by rw [h]⟩
theorem valV_enc (k : List Nat) : ∀ m : Tab, valV (encT m) (Sum.inr (tx k)) = (getT m k).map V.int
  | [] => rfl
  | (a, v) :: r => by
    by_cases h : a = k
    · subst h
      show valV ((Sum.inr (tx a), V.int v) :: encT r) (Sum.inr (tx a)) = _
      rw [valV_pos rfl]
      simp [getT]
    · show valV ((Sum.inr (tx a), V.int v) :: encT r) (Sum.inr (tx k)) = _
      rw [valV_neg (fun e => h (key_eq.mp e)), valV_enc k r]
      simp [getT, h]
theorem putK_enc (m : Tab) (k : List Nat) (v : Int) : putK (encT m) (Sum.inr (tx k)) (V.int v) = encT (putT m k v) := by
  unfold putK putT
  have e1 : ((encT m).any fun kv => decide (kv.1 = Sum.inr (tx k))) = (m.any fun p => decide (p.1 = k)) := by
    unfold encT
    rw [List.any_map]
    congr 1
    funext p
    show decide ((Sum.inr (tx p.1) : Key) = Sum.inr (tx k)) = decide (p.1 = k)
    rw [decide_eq_decide]
    exact key_eq
  rw [e1]
  split
  · unfold encT
    rw [List.map_map, List.map_map]
    congr 1
    funext p
    show (if (Sum.inr (tx p.1) : Key) = Sum.inr (tx k) then _ else _) = (Sum.inr (tx (if p.1 = k then (p.1, v) else p).1), V.int (if p.1 = k then (p.1, v) else p).2)
    by_cases h : p.1 = k
    · rw [if_pos (key_eq.mpr h), if_pos h]
    · rw [if_neg (fun e => h (key_eq.mp e)), if_neg h]
  · unfold encT
    rw [List.map_append]
    rfl
theorem dropK_enc (m : Tab) (k : List Nat) : dropK (encT m) (Sum.inr (tx k)) = encT (dropT m k) := by
  unfold dropK dropT encT
  rw [List.filter_map]
  congr 1
  congr 1
  funext p
  show decide ((Sum.inr (tx p.1) : Key) ≠ Sum.inr (tx k)) = decide (p.1 ≠ k)
  rw [decide_eq_decide]
  exact not_congr key_eq
theorem encT_len (m : Tab) : (encT m).length = m.length := List.length_map _
def keysT (m : Tab) : List (List Nat) := m.map (·.1)
theorem putT_keys (m : Tab) (k : List Nat) (v : Int) : keysT (putT m k v) = if k ∈ keysT m then keysT m else keysT m ++ [k] := by
  unfold putT
  have e : (m.any fun p => decide (p.1 = k)) = decide (k ∈ keysT m) := by
    rw [Bool.eq_iff_iff, List.any_eq_true, decide_eq_true_eq]
    unfold keysT
    rw [List.mem_map]
    constructor
    · rintro ⟨p, h1, h2⟩
      exact ⟨p, h1, by simpa using h2⟩
    · rintro ⟨p, h1, h2⟩
      exact ⟨p, h1, by simpa using h2⟩
  rw [e]
  by_cases h : k ∈ keysT m
  · rw [if_pos (decide_eq_true h), if_pos h]
    unfold keysT
    rw [List.map_map]
    congr 1
    funext p
    show (if p.1 = k then (p.1, v) else p).1 = p.1
    split <;> rfl
  · rw [if_neg (by simpa using h), if_neg h]
    unfold keysT
    rw [List.map_append]
    rfl
theorem putT_nodup {m : Tab} {k : List Nat} {v : Int} (h : (keysT m).Nodup) : (keysT (putT m k v)).Nodup := by
  rw [putT_keys]
  split
  · exact h
  · rename_i hk
    exact List.nodup_append.mpr ⟨h, by simp, fun a ha b hb => by
      have : b = k := by simpa using hb
      subst this
      rintro rfl
      exact hk ha⟩
theorem dropT_nodup {m : Tab} {k : List Nat} (h : (keysT m).Nodup) : (keysT (dropT m k)).Nodup := by
  unfold keysT dropT at *
  exact h.sublist (List.filter_sublist.map _)
theorem getT_some {m : Tab} {k : List Nat} (h : k ∈ keysT m) : ∃ v, getT m k = some v := by
  unfold getT keysT at *
  obtain ⟨p, hp, rfl⟩ := List.mem_map.mp h
  cases e : m.find? fun q => decide (q.1 = p.1) with
  | none =>
    have := List.find?_eq_none.mp e p hp
    simp at this
  | some q => exact ⟨q.2, rfl⟩
theorem getT_none {m : Tab} {k : List Nat} (h : k ∉ keysT m) : getT m k = none := by
  unfold getT keysT at *
  rw [Option.map_eq_none_iff, List.find?_eq_none]
  intro p hp
  simp only [decide_eq_true_eq]
  intro e
  exact h (List.mem_map.mpr ⟨p, hp, e⟩)
/-! ### sorted texts -/
theorem sortedS_le : ∀ {ys : List (List Nat)}, sortedS (ys.map tx) = true → ys.Pairwise (fun a b => ¬ b < a) := by
  have aux : ∀ (r : List (List Nat)) (p : List Nat), risingS (tx p) (r.map tx) = true → (p :: r).Pairwise (fun a b => ¬ b < a) := by
    intro r
    induction r with
    | nil => intro p _; simp
    | cons k r ih =>
      intro p h
      rw [List.map_cons] at h
      unfold risingS at h
      rw [Bool.and_eq_true, tx_cps, tx_cps, PyProof.Rows.ltCps_eq] at h
      have h1 : ¬ k < p := by simpa using h.1
      have h2 := ih k h.2
      refine List.Pairwise.cons (fun x hx => ?_) h2
      rcases List.mem_cons.mp hx with e | hx
      · rw [e]
        exact h1
      · have h3 := (List.pairwise_cons.mp h2).1 x hx
        intro h4
        rcases Classical.em (p < k) with h5 | h5
        · exact h3 (List.lt_trans h4 h5)
        · exact h3 (by
            have : p = k := List.le_antisymm (List.not_lt.mp h1) (List.not_lt.mp h5)
            rw [← this]
            exact h4)
  intro ys h
  cases ys with
  | nil => exact .nil
  | cons a r => exact aux r a h
theorem sort_unique : ∀ {xs ys : List (List Nat)}, xs.Perm ys → xs.Pairwise (fun a b => ¬ b < a) → ys.Pairwise (fun a b => ¬ b < a) → xs = ys
  | [], ys, h, _, _ => (List.nil_perm.mp h).symm
  | a :: r, ys, h, hx, hy => by
    cases ys with
    | nil => exact absurd h (by simp)
    | cons b t =>
      have hab : a = b := by
        have ha : a ∈ b :: t := h.mem_iff.mp List.mem_cons_self
        have hb : b ∈ a :: r := h.mem_iff.mpr List.mem_cons_self
        rcases List.mem_cons.mp ha with e | ha
        · exact e
        · rcases List.mem_cons.mp hb with e | hb
          · exact e.symm
          · exact List.le_antisymm (List.not_lt.mp ((List.pairwise_cons.mp hx).1 b hb)) (List.not_lt.mp ((List.pairwise_cons.mp hy).1 a ha))
      subst hab
      rw [sort_unique (List.Perm.cons_inv h) (List.pairwise_cons.mp hx).2 (List.pairwise_cons.mp hy).2]
/-! ### two tables compared -/
def eqTab (m n : Tab) : Bool := decide (m.length = n.length) && m.all fun p => decide (getT n p.1 = some p.2)
theorem relO_none {o : Option Value} (h : RelO none o) : o = none := by
  cases o with
  | none => rfl
  | some v => exact h.elim
theorem hits_tab {A : Around} {s : Shared} {n : Tab} {vb : List (Key × Value)} (rb : KV (encT n) vb) : ∀ {m : Tab} {va : List (Key × Value)}, KV (encT m) va → PySem.W.KeqHits A s vb va (m.all fun p => decide (getT n p.1 = some p.2))
  | [], va, ra => by
    cases ra
    exact .nil
  | (k, x) :: r, va, ra => by
    cases ra with
    | @cons _ q _ qs h t =>
      obtain ⟨key, v⟩ := q
      obtain ⟨h1, h2⟩ := h
      have h1' : (Sum.inr (tx k) : Key) = key := h1
      subst h1'
      obtain ⟨tk, rfl⟩ := h2
      have ih := hits_tab (A := A) (s := s) rb (m := r) t
      have rr : RelO ((getT n k).map V.int) (valueAt vb (Sum.inr (tx k))) := by
        rw [← valV_enc]
        exact rb.val _
      rw [List.all_cons]
      cases e : getT n k with
      | none =>
        rw [e] at rr
        have : decide ((none : Option Int) = some x) = false := by simp
        simp only [e, this, Bool.false_and]
        exact .miss (relO_none rr)
      | some y =>
        rw [e] at rr
        obtain ⟨u, hu, ru⟩ := RelO.some_of (v := V.int y) (o := valueAt vb (Sum.inr (tx k))) rr
        obtain ⟨tk2, rfl⟩ := ru
        have e2 : decide (some y = some x) = (x == y) := by
          rw [Bool.eq_iff_iff, decide_eq_true_eq, beq_iff_eq]
          exact ⟨fun h => (Option.some.inj h).symm, fun h => by rw [h]⟩
        simp only [e, e2]
        exact .hit hu (SeqAt.EqAt.int_int x tk y tk2) ih
def rEqT : R2 := fun x y H Q => ∃ a b m n, x = .ref a ∧ y = .ref b ∧ H a = some (.dK (encT m)) ∧ H b = some (.dK (encT n)) ∧ Q (.bl (eqTab m n)) H
theorem op_eqT {X : Cx} (hu : X.A.units + 1 < cLine) : OpR X (compareOp .Eq) rEqT := by
  intro pins s σ H x y v u Q I rx ry h
  obtain ⟨a, b, m, n, rfl, rfl, ea, eb, q⟩ := h
  cases (show v = Value.ref a from rx)
  cases (show u = Value.ref b from ry)
  obtain ⟨_, ya, va, ra, da⟩ := (show ObjOk X.prog X.w H s.heap a (.dK (encT m)) from I.hok a _ ea)
  obtain ⟨_, yb, vb, rb, db⟩ := (show ObjOk X.prog X.w H s.heap b (.dK (encT n)) from I.hok b _ eb)
  have e1 : va.length = m.length := by rw [← Paired.length ra, encT_len]
  have e2 : vb.length = n.length := by rw [← Paired.length rb, encT_len]
  refine PySem.W.keq_eq (knd := mixKind X.prog X.w) ya yb da db (by omega) (fun _ => hits_tab rb ra) (fin_bl I q ?_)
  unfold eqTab
  congr 1
  rw [Bool.eq_iff_iff, decide_eq_true_eq, beq_iff_eq, e1, e2]
theorem rd_eqT {H : Hp} {Q : VK} {a b : Addr} {m n : Tab} (h1 : H a = some (.dK (encT m))) (h2 : H b = some (.dK (encT n))) (q : Q (.bl (eqTab m n)) H) : rEqT (.ref a) (.ref b) H Q := ⟨a, b, m, n, rfl, rfl, h1, h2, q⟩
end Un

/-! UnSt: defs with defaults as they stand; isinstance of own classes; an own error raised. -/
namespace Un
open PySem PySem.Spec PyProof.Rows L2
def AtD (K : PySem.W.Frag) (C : Addr) (m qual : Str) (st : Stmt) (dvs : List V) (kws : List (Str × V)) : Prop :=
  ∃ (f : Addr) (fd : FuncData), FunD K m qual (defArgs st) (defBody st) (defScope st) dvs kws f fd ∧ Meth K C m f ∧ PySem.W.fnIn K f = true
/-- an __init__ whose one default is the empty tuple of the text -/
def AtI (K : PySem.W.Frag) (C : Addr) (m qual : Str) (st : Stmt) : Prop :=
  ∃ (f T : Addr) (fd : FuncData), FunD K m qual (defArgs st) (defBody st) (defScope st) [.ref T] [] f fd ∧ L2.Mk K C f ∧ ∃ o : Obj, K.lookup T = some o ∧ o.cls = .type "tuple" ∧ o.data = .seq #[] 0 ∧ o.dict = none
/-- isinstance of instances of the class at C, and of other things -/
structure InsK (K : PySem.W.Frag) (C : Addr) : Prop where
  ha : PySem.W.findIn K (.ref C) "__class__" = some (some (.builtin "object.__class__"))
  hn : PySem.W.specialIn K (.builtin "object.__class__") "__get__" = some (some (.builtin "getset_descriptor.__get__"))
  htk : PySem.W.takesIn K (.builtin "object.__class__") = some true
  hm : PySem.W.mroIn K C (.type "object") = some true
  me : PySem.W.kitOne K (.ref C) (.ref C) = some true
  no : ∀ T, T ∈ ["list", "dict", "tuple", "str", "int", "bool", "NoneType"] → PySem.W.kitOne K (.type T) (.ref C) = some false ∧ PySem.W.notFirst K C (.type T) = true
  nf : PySem.W.notFirst K C (.ref C) = true
def insB (K : PySem.W.Frag) (C : Addr) : Bool :=
  decide (PySem.W.findIn K (.ref C) "__class__" = some (some (.builtin "object.__class__"))) && (decide (PySem.W.specialIn K (.builtin "object.__class__") "__get__" = some (some (.builtin "getset_descriptor.__get__"))) && (decide (PySem.W.takesIn K (.builtin "object.__class__") = some true) &&
  (decide (PySem.W.mroIn K C (.type "object") = some true) && (decide (PySem.W.kitOne K (.ref C) (.ref C) = some true) && ((["list", "dict", "tuple", "str", "int", "bool", "NoneType"].all fun T => decide (PySem.W.kitOne K (.type T) (.ref C) = some false) && PySem.W.notFirst K C (.type T)) && PySem.W.notFirst K C (.ref C))))))
theorem insB_ok {K : PySem.W.Frag} {C : Addr} (b : insB K C = true) : InsK K C := by
  obtain ⟨h1, b⟩ := Bool.and_eq_true_iff.mp b
  obtain ⟨h2, b⟩ := Bool.and_eq_true_iff.mp b
  obtain ⟨h3, b⟩ := Bool.and_eq_true_iff.mp b
  obtain ⟨h4, b⟩ := Bool.and_eq_true_iff.mp b
  obtain ⟨h5, b⟩ := Bool.and_eq_true_iff.mp b
  obtain ⟨h6, h7⟩ := Bool.and_eq_true_iff.mp b
  refine ⟨of_decide_eq_true h1, of_decide_eq_true h2, of_decide_eq_true h3, of_decide_eq_true h4, of_decide_eq_true h5, fun T hT => ?_, h7⟩
  have := List.all_eq_true.mp h6 T hT
  obtain ⟨a, c⟩ := Bool.and_eq_true_iff.mp this
  exact ⟨of_decide_eq_true a, c⟩
section
variable {K : PySem.W.Frag} {H : Hp} {Q : VK} {a C dx : Addr} {fs : List (Str × V)}
theorem rd_isO (h : H a = some (.ins C dx fs)) (c : Cls K C) (i : InsK K C) (q : Q (.bl true) H) : rIsi K [.ref a, .ref C] H Q := ⟨.ref a, .ref C, .ref C, .ref C, true, rfl, .own C, .base (.ins h c i.ha i.hn i.htk i.hm), i.me, q⟩
theorem rd_isNo {x : V} {T : String} (h : TyX K H x (.type T)) (i : InsK K C) (hT : T ∈ ["list", "dict", "tuple", "str", "int", "bool", "NoneType"]) (q : Q (.bl false) H) : rIsi K [x, .ref C] H Q := ⟨x, .ref C, .type T, .ref C, false, rfl, .own C, h, (i.no T hT).1, q⟩
end
section
variable {X : Cx} {x f : Str} {C : Addr} {k j : Nat} {e : Expr} {te : TE} {p pos : Pos}
/-- raise C(e), the class under its name -/
theorem pmk_G (g : Un.Mk X.prog X.w X.K X.mg X.base x f C) (hr : Room j X.A) (hk : 2 ≤ j) (hg : Gl X x) (ha : PE X e te)
    (hdb : (x == ("__debug__" : Str)) = false := by decide) (he : starEach (e :: []) X.env = (false, eval e X.env) :: starEach [] X.env := by rfl) (hpl : (backTo pos (starEach [] X.env)).any (·.1) = false := by rfl) :
    PMk X (.Call (.Name x p) [e] [] pos) (tMkR C f te) := by
  obtain ⟨m, o, n, fI, fd, i, t, F, b⟩ := g
  exact pmk_X o i t n F (hr.mono hk) b pass0 hg m ha hdb he hpl
end
section
variable {X : Cx} {CX : CXT} {k j n : Nat} {C : Addr} {ks : List Str} {sp : Sp} {m : Str} {apos pos : Pos} {o e : Expr} {es : List Expr} {kws : List Keyword} {ta : TE} {t tk : TA} {gV : List V → List V → List V}
/-- a method called with keywords, bundled -/
def MetK (P : Program) (w : World) (K : PySem.W.Frag) (mg : Str → Option Value) (base : Heap) (C : Addr) (m : Str) (n : Nat) (ks : List Str) (k : Nat) (sp : Sp) (gV : List V → List V → List V) : Prop :=
  ∃ (f : Addr) (fd : FuncData) (ps : List Str) (g : List Value → List Value → List Value), Cls K C ∧ Meth K C m f ∧ FnOk P w K mg base CX0 k f fd ps sp ∧ KBn K fd ps n ks g gV
theorem methN_G {pl : Sem Bool} (q : MetK X.prog X.w X.K X.mg X.base C m n ks k sp gV) (hr : Room j X.A) (hk : k ≤ j) (he : PE X o ta) (ha : PA X (e :: es) t) (hkw : PK X kws tk)
    (hall : (backToKw pos (keywordEach kws X.env)).all (·.1.isSome) = true := by rfl) (hks : (backToKw pos (keywordEach kws X.env)).filterMap (·.1) = ks := by rfl)
    (hst : starEach (e :: es) X.env = (false, eval e X.env) :: starEach es X.env := by rfl)
    (hpl : ((backTo pos (starEach (e :: es) X.env)).any (·.1) || (backToKw pos (keywordEach kws X.env)).any (·.1.isNone)) = false := by rfl)
    (ht : eval (.Call (.Attribute o m apos) (e :: es) kws pos) X.env = (do let ov ← eval o X.env; standAt apos.atName; let (f, first) ← holding [ov] (getMethod ov m pl); callWith pos f first (backTo pos (starEach (e :: es) X.env)) (backToKw pos (keywordEach kws X.env))) := by rfl) :
    PE X (.Call (.Attribute o m apos) (e :: es) kws pos) (tMethN C m n ks.length sp gV E0 ta t tk) := by
  obtain ⟨f, fd, ps, g, c, M, F, b⟩ := q
  exact pe_methN (pl := pl) he c M F (hr.mono hk) b pass0 ha hkw hall hks hst hpl ht
end
end Un

/-! UnRdM: readings of instances and dicts, step by step. -/
namespace Un
open PySem PySem.Spec PyProof.Rows L2
section
variable {K : PySem.W.Frag} {σ : L2.St} {H : Hp} {Q : VK} {D : Ends} {ta tb te td ty tv tz : TE} {t tk : TA} {f m : Str} {C : Addr} {sp : Sp} {dvs : List V} {E : XK} {n l : Nat} {gV : List V → List V → List V}
theorem rd_fld (h : ta σ H fun x H1 => ∃ a C dx fs v, x = .ref a ∧ H1 a = some (.ins C dx fs) ∧ Cls K C ∧ NoAttr K C f ∧ fs.lookup f = some v ∧ Q v H1) : tFld K ta f σ H Q := h
theorem rd_sfld (h : tv σ H fun y H1 => ta σ H1 fun x H2 => ∃ a C dx fs, x = .ref a ∧ H2 a = some (.ins C dx fs) ∧ Cls K C ∧ NoAttr K C f ∧ fs.length < 1000 ∧ D.nx σ (upd H2 a (.ins C dx (putF f y fs)))) : sFld K ta tv f D σ H := h
theorem rd_dput (h : tv σ H fun v H1 => td σ H1 fun x H2 => ty σ H2 fun y H3 => ∃ a H4, x = .ref a ∧ DPut H3 a y v H4 ∧ D.nx σ H4) : sDPut td ty tv D σ H := h
theorem rd_dget (h : td σ H fun x H1 => ty σ H1 fun y H2 => ∃ a v, x = .ref a ∧ DGet H2 a y (some v) ∧ Q v H2) : tDGet td ty σ H Q := h
theorem rd_din (h : ty σ H fun y H1 => td σ H1 fun x H2 => ∃ a o, x = .ref a ∧ DGet H2 a y o ∧ Q (.bl o.isSome) H2) : tDIn ty td σ H Q := h
theorem rd_dnotin (h : ty σ H fun y H1 => td σ H1 fun x H2 => ∃ a o, x = .ref a ∧ DGet H2 a y o ∧ Q (.bl (!o.isSome)) H2) : tDNotIn ty td σ H Q := h
theorem rd_ddel (h : td σ H fun x H1 => ty σ H1 fun y H2 => ∃ a kvs k, x = .ref a ∧ H2 a = some (.dK kvs) ∧ y = kV k ∧ (valV kvs k).isSome = true ∧ D.nx σ (upd H2 a (.dK (dropK kvs k)))) : sDDel td ty D σ H := h
theorem rd_dnew (h : ∀ p, H p = none → Q (.ref p) (upd H p (.dK []))) : tDNewK σ H Q := h
theorem rd_make (h : t σ H fun vs H1 => ∀ x dx, H1 x = none → H1 dx = none → dx ≠ x → sp (.ref x :: (vs ++ dvs)) (upd (upd H1 dx (.own x)) x (.ins C dx [])) (fun v H2 => v = .non ∧ Q (.ref x) H2) E) : tMake C sp dvs E t σ H Q := h
theorem rd_meth (h : ta σ H fun x H1 => ∃ a dx fs, x = .ref a ∧ H1 a = some (.ins C dx fs) ∧ fs.lookup m = none ∧ t σ H1 fun vs H2 => sp (x :: (vs ++ dvs)) H2 Q E) : tMeth C m sp dvs E ta t σ H Q := h
theorem rd_methN (h : ta σ H fun x H1 => ∃ a dx fs, x = .ref a ∧ H1 a = some (.ins C dx fs) ∧ fs.lookup m = none ∧ t σ H1 fun vs H2 => tk σ H2 fun zs H3 => vs.length + 1 = n ∧ zs.length = l ∧ sp (gV (x :: vs) zs) H3 Q E) : tMethN C m n l sp gV E ta t tk σ H Q := h
theorem rd_iKeys {R : It → Hp → Prop} (h : td σ H fun x H1 => ∃ d o, x = .ref d ∧ ((∃ kvs, H1 d = some (.frz o (.dK kvs)) ∧ R (Itk d o kvs) H1) ∨ ∃ kvs, H1 d = some (.frz o (.dT kvs)) ∧ R (Itkt d o kvs) H1)) : iKeys td σ H R := h
theorem rd_items (h : te σ H fun x H1 => LiI.rItemsL x H1 Q) : LiI.tListItems te σ H Q := h
theorem rd_mkR {Q : XK} (h : te σ H fun v H1 => ∀ d, H1 d = none → Q (.ref C) (some d) (upd H1 d (.xd [(f, v)]))) : tMkR C f te σ H Q := h
theorem rd_pop1 (h : td σ H fun x H1 => ∃ a, x = .ref a ∧ IsD H1 a ∧ ty σ H1 fun y H2 => ∃ kvs k v, H2 a = some (.dK kvs) ∧ y = kV k ∧ valV kvs k = some v ∧ Q v (upd H2 a (.dK (dropK kvs k)))) : tDPop1 td ty σ H Q := h
theorem rd_get2 (h : td σ H fun x H1 => ∃ a, x = .ref a ∧ IsD H1 a ∧ ty σ H1 fun y H2 => tz σ H2 fun z H3 => ∃ o, DGet H3 a y o ∧ Q (o.getD z) H3) : tDGet2 td ty tz σ H Q := h
theorem rd_fldS {a dx : Addr} {fs : List (Str × V)} {v : V} (h : H a = some (.ins C dx fs)) (c : Cls K C) (n : NoAttr K C f) (l : fs.lookup f = some v) (q : Q v H) : ∃ a' C' dx' fs' v', V.ref a = .ref a' ∧ H a' = some (.ins C' dx' fs') ∧ Cls K C' ∧ NoAttr K C' f ∧ fs'.lookup f = some v' ∧ Q v' H := ⟨a, C, dx, fs, v, rfl, h, c, n, l, q⟩
theorem rd_isB {x : V} {T T' : String} {b : Bool} (h : TyX K H x (.type T)) (k : PySem.W.kitOne K (.type T) (.type T') = some b) (q : Q (.bl b) H) : rIsi K [x, .ty T'] H Q := ⟨x, .ty T', .type T, .type T', b, rfl, .ty _, h, k, q⟩
theorem rd_gtX {a b : List Nat} (q : Q (.bl (decide (b < a))) H) : rGtX (.str (tx a)) (.str (tx b)) H Q := ⟨a, b, rfl, rfl, q⟩
end
end Un

/-! UnPr: stretches of keys, lists of pairs. -/
namespace Un
open PySem PySem.Spec PyProof.Rows L2
theorem okN {P : Program} {w : World} {K : PySem.W.Frag} {mg : Str → Option Value} {base : Heap} {x qual : Str} {params : Arguments} {body : List Stmt} {scope : Scope} {dvs : List V} {kws : List (Str × V)} {f : Addr} {fd : FuncData} {CX : CXT} {N ps : List Str} {k : Nat} {sp : Sp}
    (F : FunD K x qual params body scope dvs kws f fd) (S : FnScope N ps scope) (len : ∀ vs H Q E, sp vs H Q E → vs.length = ps.length)
    (hbody : ∀ (cdv : Value) (A : Around) (outer : List Env) (s : Shared) (H : Hp) (vs : List V) (Q : VK) (E : XK), Room k (A.deeper (envOfC qual scope s.heap.objs.size f cdv)) → sp vs H Q E →
      ∃ t, PSs (cxOf CX P w K mg base N qual scope f cdv A outer s H E).nox body t ∧ t { nx := fun _ H' => Q .non H', rt := Q } (start N vs) H) : FnOk P w K mg base CX (k + 1) f fd ps sp :=
  F.ok S len fun cdv A outer s H vs Q E hr h => by
    obtain ⟨t, ht, q⟩ := hbody cdv A outer s H vs Q E hr h
    exact ⟨t, ht.nox, q⟩
def bnd : Option (List Nat) → V
  | none => .non
  | some u => .str (tx u)
def upB (hi : Option (List Nat)) (k : List Nat) : Bool := match hi with | none => true | some h => decide (k < h)
def afB (af : Option (List Nat)) (k : List Nat) : Bool := match af with | none => true | some a => decide (a < k)
def inR (lo : List Nat) (hi af : Option (List Nat)) (k : List Nat) : Bool := !decide (k < lo) && (upB hi k && afB af k)
/-- the keys of a stretch, ascending -/
def KR (m : Tab) (lo : List Nat) (hi af : Option (List Nat)) (ks : List (List Nat)) : Prop := ks.Perm ((keysT m).filter (inR lo hi af)) ∧ ks.Pairwise fun a b => ¬ b < a
theorem KR.uniq {m : Tab} {lo : List Nat} {hi af : Option (List Nat)} {ks js : List (List Nat)} (a : KR m lo hi af ks) (b : KR m lo hi af js) : ks = js := sort_unique (a.1.trans b.1.symm) a.2 b.2
theorem KR.mem {m : Tab} {lo : List Nat} {hi af : Option (List Nat)} {ks : List (List Nat)} (a : KR m lo hi af ks) {k : List Nat} (h : k ∈ ks) : k ∈ keysT m := (List.mem_filter.mp (a.1.mem_iff.mp h)).1
theorem KR.len {m : Tab} {lo : List Nat} {hi af : Option (List Nat)} {ks : List (List Nat)} (a : KR m lo hi af ks) : ks.length ≤ m.length := by
  rw [a.1.length_eq]
  have := List.length_filter_le (inR lo hi af) (keysT m)
  unfold keysT at this
  rw [List.length_map] at this
  exact this
/-- the pairs of some keys -/
def prT (m : Tab) (ks : List (List Nat)) : Tab := ks.map fun k => (k, (getT m k).getD 0)
theorem prT_len (m : Tab) (ks : List (List Nat)) : (prT m ks).length = ks.length := List.length_map _
/-- tuples of a key and a value -/
def PrV (H : Hp) (p : List Nat × Int) (v : V) : Prop := ∃ T, v = .ref T ∧ H T = some (.tup [.str (tx p.1), .int p.2])
def Prs (H : Hp) (m : Tab) (vs : List V) : Prop := Paired (PrV H) m vs
theorem PrV.keep {H H' : Hp} {p : List Nat × Int} {v : V} (h : PrV H p v) (s : ∀ T, v = .ref T → H T = some (.tup [.str (tx p.1), .int p.2]) → H' T = some (.tup [.str (tx p.1), .int p.2])) : PrV H' p v := by
  obtain ⟨T, rfl, h⟩ := h
  exact ⟨T, rfl, s T rfl h⟩
theorem Prs.keep {H H' : Hp} (s : ∀ T l, H T = some (.tup l) → H' T = some (.tup l)) : ∀ {m : Tab} {vs : List V}, Prs H m vs → Prs H' m vs
  | _, _, .nil => .nil
  | _, _, .cons h t => .cons (h.keep fun T _ e => s T _ e) (Prs.keep s t)
theorem Prs.same {H H' : Hp} {m : Tab} {vs : List V} (h : Prs H m vs) (s : Same H H') : Prs H' m vs := h.keep fun T l e => s _ _ e
theorem Prs.len {H : Hp} {m : Tab} {vs : List V} (h : Prs H m vs) : m.length = vs.length := Paired.length h
theorem Prs.app {H : Hp} : ∀ {m n : Tab} {vs ws : List V}, Prs H m vs → Prs H n ws → Prs H (m ++ n) (vs ++ ws)
  | _, _, _, _, .nil, b => b
  | _, _, _, _, .cons h t, b => .cons h (Prs.app t b)
theorem Prs.one {H : Hp} {p : List Nat × Int} {T : Addr} (h : H T = some (.tup [.str (tx p.1), .int p.2])) : Prs H [p] [.ref T] := .cons ⟨T, rfl, h⟩ .nil
theorem Prs.take {H : Hp} : ∀ {m : Tab} {vs : List V} (n : Nat), Prs H m vs → Prs H (m.take n) (vs.take n)
  | _, _, 0, _ => .nil
  | _, _, n + 1, .nil => .nil
  | _, _, n + 1, .cons h t => .cons h (Prs.take n t)
theorem Prs.get {H : Hp} : ∀ {m : Tab} {vs : List V} {i : Nat} {v : V}, Prs H m vs → vs[i]? = some v → ∃ p, m[i]? = some p ∧ PrV H p v
  | _, _, 0, _, .cons h t, e => ⟨_, rfl, by cases e; exact h⟩
  | _, _, i + 1, _, .cons h t, e => by
    obtain ⟨p, e1, e2⟩ := Prs.get (i := i) t (by simpa using e)
    exact ⟨p, by simpa using e1, e2⟩
/-- what stands where a sequence is read -/
def SeqO (us : List V) (o : HO) : Prop := o = .lst us ∨ o = .tup us ∨ (∃ x, o = .frz x (.lst us)) ∨ ∃ x, o = .frz x (.tup us)
def Seq1 (K : PySem.W.Frag) (H : Hp) (p : Addr) (us : List V) : Prop := SqL K H p us ∨ SqT K H p us
theorem SeqL.keep {K : PySem.W.Frag} {H H' : Hp} {p : Addr} {us : List V} (hp : SqL K H p us) (k : ∀ o, SeqO us o → H p = some o → H' p = some o) : SqL K H' p us := by
  rcases hp with (h | ⟨o, h⟩) | h
  · exact .inl (.inl (k _ (.inl rfl) h))
  · exact .inl (.inr ⟨o, k _ (.inr (.inr (.inl ⟨_, rfl⟩))) h⟩)
  · exact .inr h
theorem SeqT.keep {K : PySem.W.Frag} {H H' : Hp} {p : Addr} {us : List V} (hp : SqT K H p us) (k : ∀ o, SeqO us o → H p = some o → H' p = some o) : SqT K H' p us := by
  rcases hp with (h | ⟨o, h⟩) | h
  · exact .inl (.inl (k _ (.inr (.inl rfl)) h))
  · exact .inl (.inr ⟨o, k _ (.inr (.inr (.inr ⟨_, rfl⟩))) h⟩)
  · exact .inr h
theorem Seq1.keep {K : PySem.W.Frag} {H H' : Hp} {p : Addr} {us : List V} (hp : Seq1 K H p us) (k : ∀ o, SeqO us o → H p = some o → H' p = some o) : Seq1 K H' p us := hp.elim (fun h => .inl (SeqL.keep h k)) (fun h => .inr (SeqT.keep h k))
theorem SeqO.ndK {us : List V} {kvs : List (Key × V)} : ¬ SeqO us (.dK kvs) := by
  rintro (h | h | ⟨_, h⟩ | ⟨_, h⟩) <;> cases h
theorem SeqO.nins {us : List V} {C dx : Addr} {fs : List (Str × V)} : ¬ SeqO us (.ins C dx fs) := by
  rintro (h | h | ⟨_, h⟩ | ⟨_, h⟩) <;> cases h
/-- a walk over a list or a tuple -/
theorem rd_iSeqF {K : PySem.W.Frag} {tl : TE} {σ : L2.St} {H : Hp} {R : It → Hp → Prop} {p : Addr} {us : List V} (hv : ∀ Q : VK, Q (.ref p) H → tl σ H Q) (hp : Seq1 K H p us)
    (q : ∀ (J : It) (G : Hp → Prop), Walk J us.length G (YAt us) → (∀ H', (∀ o, SeqO us o → H p = some o → H' p = some o) → G H') → R J H) : iSeq K tl σ H R := by
  rcases hp with hp | hp
  · exact .inl (rd_iList (hv _ ⟨p, rfl, ⟨us, hp⟩, q _ _ walk_list fun H' k => SeqL.keep hp k⟩))
  · exact .inr (rd_iTup (hv _ ⟨p, rfl, ⟨us, hp⟩, q _ _ walk_tup fun H' k => SeqT.keep hp k⟩))
/-! ### many keys taken away, or put -/
def dropsT (m : Tab) (ks : List (List Nat)) : Tab := ks.foldl dropT m
def putsT (m : Tab) (ks : List (List Nat)) (v : Int) : Tab := ks.foldl (fun m k => putT m k v) m
theorem drops_snoc {m : Tab} {ks : List (List Nat)} {i : Nat} {k : List Nat} (h : ks[i]? = some k) : dropsT m (ks.take (i + 1)) = dropT (dropsT m (ks.take i)) k := by
  unfold dropsT
  rw [List.take_add_one, h, Option.toList_some, List.foldl_append]
  rfl
theorem puts_snoc {m : Tab} {ks : List (List Nat)} {i : Nat} {k : List Nat} {v : Int} (h : ks[i]? = some k) : putsT m (ks.take (i + 1)) v = putT (putsT m (ks.take i) v) k v := by
  unfold putsT
  rw [List.take_add_one, h, Option.toList_some, List.foldl_append]
  rfl
theorem mem_drop {m : Tab} {j k : List Nat} : k ∈ keysT (dropT m j) ↔ k ∈ keysT m ∧ k ≠ j := by
  unfold keysT dropT
  rw [List.mem_map, List.mem_map]
  constructor
  · rintro ⟨p, hp, rfl⟩
    obtain ⟨h1, h2⟩ := List.mem_filter.mp hp
    exact ⟨⟨p, h1, rfl⟩, of_decide_eq_true h2⟩
  · rintro ⟨⟨p, hp, rfl⟩, h⟩
    exact ⟨p, List.mem_filter.mpr ⟨hp, decide_eq_true h⟩, rfl⟩
theorem mem_drops {k : List Nat} : ∀ {ks : List (List Nat)} {m : Tab}, k ∈ keysT (dropsT m ks) ↔ k ∈ keysT m ∧ k ∉ ks
  | [], m => by simp [dropsT]
  | j :: r, m => by
    have h := mem_drops (k := k) (ks := r) (m := dropT m j)
    show k ∈ keysT (dropsT (dropT m j) r) ↔ _
    rw [h, mem_drop, List.mem_cons]
    constructor
    · rintro ⟨⟨a, b⟩, c⟩
      exact ⟨a, fun e => e.elim b c⟩
    · rintro ⟨a, b⟩
      exact ⟨⟨a, fun e => b (.inl e)⟩, fun e => b (.inr e)⟩
theorem drops_nodup : ∀ {ks : List (List Nat)} {m : Tab}, (keysT m).Nodup → (keysT (dropsT m ks)).Nodup
  | [], _, h => h
  | _ :: r, _, h => drops_nodup (ks := r) (dropT_nodup h)
theorem drops_len : ∀ {ks : List (List Nat)} {m : Tab}, (dropsT m ks).length ≤ m.length
  | [], _ => Nat.le_refl _
  | j :: r, m => Nat.le_trans (drops_len (ks := r) (m := dropT m j)) (List.length_filter_le _ _)
theorem puts_keys {v : Int} : ∀ {ks : List (List Nat)} {m : Tab}, (∀ k ∈ ks, k ∈ keysT m) → keysT (putsT m ks v) = keysT m
  | [], _, _ => rfl
  | j :: r, m, h => by
    have e : keysT (putT m j v) = keysT m := by rw [putT_keys, if_pos (h j List.mem_cons_self)]
    show keysT (putsT (putT m j v) r v) = _
    rw [puts_keys (ks := r) (fun k hk => by rw [e]; exact h k (List.mem_cons_of_mem _ hk)), e]
theorem keys_len (m : Tab) : (keysT m).length = m.length := List.length_map _
theorem KR.nodup {m : Tab} {lo : List Nat} {hi af : Option (List Nat)} {ks : List (List Nat)} (a : KR m lo hi af ks) (h : (keysT m).Nodup) : ks.Nodup := (a.1.nodup_iff).mpr (h.sublist List.filter_sublist)
theorem not_before {α : Type} {l : List α} {i : Nat} {x : α} (h : l.Nodup) (hx : l[i]? = some x) : x ∉ l.take i := by
  intro hm
  obtain ⟨j, hj⟩ := List.mem_iff_getElem?.mp hm
  rw [List.getElem?_take] at hj
  split at hj
  · rename_i hji
    have e : l[i]? = l[j]? := by rw [hx, hj]
    have hil : i < l.length := (List.getElem?_eq_some_iff.mp hx).1
    have := (List.getElem?_inj hil h).mp e
    omega
  · cases hj
/-- pairs put one behind another -/
def putsP (m : Tab) (ps : Tab) : Tab := ps.foldl (fun m p => putT m p.1 p.2) m
theorem putsP_snoc {m ps : Tab} {i : Nat} {p : List Nat × Int} (h : ps[i]? = some p) : putsP m (ps.take (i + 1)) = putT (putsP m (ps.take i)) p.1 p.2 := by
  unfold putsP
  rw [List.take_add_one, h, Option.toList_some, List.foldl_append]
  rfl
theorem putT_len (m : Tab) (k : List Nat) (v : Int) : (putT m k v).length ≤ m.length + 1 := by
  rw [← keys_len, ← keys_len, putT_keys]
  split
  · omega
  · simp
theorem putsP_len : ∀ (ps m : Tab), (putsP m ps).length ≤ m.length + ps.length
  | [], _ => Nat.le_refl _
  | p :: r, m => by
    have h1 := putsP_len r (putT m p.1 p.2)
    have h2 := putT_len m p.1 p.2
    show (putsP (putT m p.1 p.2) r).length ≤ _
    rw [List.length_cons]
    omega
theorem putsP_nodup : ∀ {ps m : Tab}, (keysT m).Nodup → (keysT (putsP m ps)).Nodup
  | [], _, h => h
  | _ :: r, _, h => putsP_nodup (ps := r) (putT_nodup h)
theorem prs_of_items {H : Hp} : ∀ {m : Tab} {ts : List Addr}, Paired (fun (t : Addr) (q : Key × V) => H t = some (.tup [kV q.1, q.2])) ts (encT m) → Prs H m (ts.map V.ref)
  | [], _, h => by
    cases h
    exact .nil
  | _ :: _, _, h => by
    cases h with
    | cons a b => exact .cons ⟨_, rfl, a⟩ (prs_of_items b)
theorem putT_new {m : Tab} {k : List Nat} {v : Int} (h : k ∉ keysT m) : putT m k v = m ++ [(k, v)] := by
  unfold putT
  rw [if_neg]
  rw [List.any_eq_true]
  rintro ⟨p, hp, e⟩
  exact h (List.mem_map.mpr ⟨p, hp, of_decide_eq_true e⟩)
theorem putsP_same : ∀ (m acc : Tab), (keysT (acc ++ m)).Nodup → putsP acc m = acc ++ m
  | [], acc, _ => (List.append_nil acc).symm
  | p :: r, acc, h => by
    have h1 : p.1 ∉ keysT acc := fun hm => by
      unfold keysT at h hm
      rw [List.map_append] at h
      exact (List.nodup_append.mp h).2.2 p.1 hm p.1 List.mem_cons_self rfl
    show putsP (putT acc p.1 p.2) r = _
    rw [putT_new h1]
    have e : acc ++ p :: r = (acc ++ [(p.1, p.2)]) ++ r := by simp
    rw [e] at h ⊢
    exact putsP_same r _ h
theorem cutL_take (xs : List Nat) (n : Nat) : cutL xs none (some (n : Int)) = xs.take n := by
  unfold cutL
  rw [HT.sIx_none, HT.sIx_nat, List.drop_zero, Nat.sub_zero]
  by_cases h : n ≤ xs.length
  · rw [Nat.min_eq_left h]
  · rw [Nat.min_eq_right (by omega), List.take_length, List.take_of_length_le (by omega)]
theorem reps_mem {l : List Nat} {c n : Nat} (h : c ∈ reps n l) : c ∈ l := by
  unfold reps at h
  obtain ⟨x, h1, h2⟩ := List.mem_flatten.mp h
  rw [(List.mem_replicate.mp h1).2] at h2
  exact h2
/-- as data -/
def pD (p : List Nat × Int) : PyData := .tuple [.str (tx p.1), .int p.2]
theorem rd_lock {t : TE} {σ : L2.St} {H : Hp} {Q : VK} {d : Addr} {u : HO} (h : H d = some u) (mt : Mut (some u)) (q : ∀ od, t σ (upd H d (.frz od u)) fun v H' => H' d = some (.frz od u) ∧ Q v (upd H' d u)) : tLockE t σ H Q := ⟨d, u, h, mt, q⟩
theorem txs_of : ∀ (ys : List Str), ∃ ks : List (List Nat), ys = ks.map tx
  | [] => ⟨[], rfl⟩
  | z :: r => by
    obtain ⟨ks, e⟩ := txs_of r
    exact ⟨z.cps.toList :: ks, by rw [List.map_cons, tx_of, ← e]⟩
theorem rd_sortT {K : PySem.W.Frag} {H : Hp} {Q : VK} {a : Addr} {ks : List (List Nat)} (hs : SqL K H a (ks.map fun k => V.str (tx k)))
    (q : ∀ (js : List (List Nat)) (p : Addr), js.Perm ks → js.Pairwise (fun a b => ¬ b < a) → H p = none → Q (.ref p) (upd H p (.lst (js.map fun k => V.str (tx k))))) : rSortedT K [.ref a] H Q := by
  refine ⟨a, ks.map tx, rfl, by rw [List.map_map]; exact hs, fun ys p hp hss hn => ?_⟩
  obtain ⟨js, rfl⟩ := txs_of ys
  rw [List.map_map]
  exact q js p (by
    have h := hp.map fun z => z.cps.toList
    rw [List.map_map, List.map_map] at h
    have e : ∀ l : List (List Nat), l.map ((fun z => z.cps.toList) ∘ tx) = l := fun l => by
      conv => rhs; rw [← List.map_id l]
      congr 1
    rw [e, e] at h
    exact h) (sortedS_le hss) hn
theorem pe_fldK {X : Cx} {e : Expr} {ta : TE} {f : Str} {pos : Pos} {K : PySem.W.Frag} (hK : X.K = K) (he : PE X e ta) (hb : attributeBase e f X.env (eval e X.env) = eval e X.env) : PE X (.Attribute e f pos) (tFld K ta f) := by
  subst hK
  exact pe_fld he hb
theorem same_none {H H' : Hp} {p : Addr} (s : Same H H') (h : H' p = none) : H p = none := by
  cases z : H p with
  | none => rfl
  | some o =>
    rw [s _ _ z] at h
    cases h
theorem cutV_take (xs : List V) (n : Nat) : cutV xs none (some (n : Int)) = xs.take n := by
  unfold cutV
  rw [HT.sIx_none, HT.sIx_nat, List.drop_zero, Nat.sub_zero]
  by_cases h : n ≤ xs.length
  · rw [Nat.min_eq_left h]
  · rw [Nat.min_eq_right (by omega), List.take_length, List.take_of_length_le (by omega)]
/-- low <= key and (high is None or key < high) and (after is None or key > after) -/
theorem rd_up {σ : L2.St} {H : Hp} {Q : Bool → Hp → Prop} {h j : Nat} {k : List Nat} {hi : Option (List Nat)} (e2 : σ[h]? = some (some (bnd hi))) (e1 : σ[j]? = some (some (.str (tx k)))) (q : Q (upB hi k) H) :
    tOr (tTest (tOp rIsN1 (tVar h) (tC V.non))) (tTest (tOp rLtX (tVar j) (tVar h))) σ H Q := by
  refine rd_or (rd_test (rd_op (rd_var e2 (rd_c (rd_isN1 (rd_bl ?_))))))
  cases hi with
  | none => exact q
  | some u =>
    refine rd_ite (fun h => by cases h) (fun _ => ?_)
    exact rd_test (rd_op (rd_var e1 (rd_var e2 (rd_ltX (rd_bl q)))))
theorem rd_af {σ : L2.St} {H : Hp} {Q : Bool → Hp → Prop} {h j : Nat} {k : List Nat} {af : Option (List Nat)} (e2 : σ[h]? = some (some (bnd af))) (e1 : σ[j]? = some (some (.str (tx k)))) (q : Q (afB af k) H) :
    tOr (tTest (tOp rIsN1 (tVar h) (tC V.non))) (tTest (tOp rGtX (tVar j) (tVar h))) σ H Q := by
  refine rd_or (rd_test (rd_op (rd_var e2 (rd_c (rd_isN1 (rd_bl ?_))))))
  cases af with
  | none => exact q
  | some u =>
    refine rd_ite (fun h => by cases h) (fun _ => ?_)
    exact rd_test (rd_op (rd_var e1 (rd_var e2 (rd_gtX (rd_bl q)))))
theorem rd_stretch {σ : L2.St} {H : Hp} {Q : Bool → Hp → Prop} {l h g j : Nat} {lo k : List Nat} {hi af : Option (List Nat)} (e0 : σ[l]? = some (some (.str (tx lo)))) (e2 : σ[h]? = some (some (bnd hi))) (e3 : σ[g]? = some (some (bnd af)))
    (e1 : σ[j]? = some (some (.str (tx k)))) (q : Q (inR lo hi af k) H) :
    tAnd (tTest (tOp rLeX (tVar l) (tVar j))) (tAnd (tOr (tTest (tOp rIsN1 (tVar h) (tC V.non))) (tTest (tOp rLtX (tVar j) (tVar h)))) (tOr (tTest (tOp rIsN1 (tVar g) (tC V.non))) (tTest (tOp rGtX (tVar j) (tVar g))))) σ H Q := by
  refine rd_and (rd_test (rd_op (rd_var e0 (rd_var e1 (rd_leX (rd_bl ?_))))))
  unfold inR at q
  refine rd_ite (fun h1 => ?_) (fun h1 => ?_)
  · rw [h1, Bool.true_and] at q
    refine rd_and (rd_up e2 e1 ?_)
    refine rd_ite (fun h2 => ?_) (fun h2 => ?_)
    · rw [h2, Bool.true_and] at q
      exact rd_af e3 e1 q
    · rw [h2, Bool.false_and] at q
      exact q
  · rw [h1, Bool.false_and] at q
    exact q
theorem filt_snoc {α : Type} {l : List α} {i : Nat} {x : α} {p : α → Bool} (h : l[i]? = some x) (hp : p x = true) : (l.take (i + 1)).filter p = (l.take i).filter p ++ [x] := by
  rw [List.take_add_one, h, Option.toList_some, List.filter_append]
  simp [hp]
theorem filt_skip {α : Type} {l : List α} {i : Nat} {x : α} {p : α → Bool} (h : l[i]? = some x) (hp : p x = false) : (l.take (i + 1)).filter p = (l.take i).filter p := by
  rw [List.take_add_one, h, Option.toList_some, List.filter_append]
  simp [hp]
theorem filt_len {α : Type} (l : List α) (i : Nat) (p : α → Bool) : ((l.take i).filter p).length ≤ l.length := by
  have := List.length_filter_le p (l.take i)
  rw [List.length_take] at this
  omega
theorem keys_at {m : Tab} {i : Nat} {k : Key} {v : V} (hk : (encT m)[i]? = some (k, v)) : ∃ key, (keysT m)[i]? = some key ∧ k = Sum.inr (tx key) := by
  unfold encT at hk
  rw [List.getElem?_map] at hk
  cases hmi : m[i]? with
  | none => rw [hmi] at hk; cases hk
  | some p =>
    rw [hmi] at hk
    cases hk
    exact ⟨p.1, by unfold keysT; rw [List.getElem?_map, hmi]; rfl, rfl⟩
end Un

/-! UnZ: repr of lists of pairs. -/
namespace Un
open PySem PySem.Spec PyProof.Rows L2
/-- how a value is shown, and that it can be: depth and weight bounded -/
structure GoodZ (z w : Nat) (d : PyData) : Prop where
  s : d.showable = true
  n : d.hasDict = false
  z : d.depth ≤ z
  l : d.leavesShort 62 = true
  w : d.weight ≤ w
def rReprZ (K : PySem.W.Frag) : List V → Hp → VK → Prop := fun xs H Q => ∃ (x : V) (d : PyData), xs = [x] ∧ Dp K H x d ∧ GoodZ 20 200000 d ∧ Q (.str d.shown) H
theorem call_reprZ {X : Cx} {k : Nat} (hgd : X.A.guards = some []) (hr : Room k X.A) : CallR X (.builtin "repr") (rReprZ X.K) := by
  intro pins s σ H xs us Q I r h
  obtain ⟨x, d, rfl, hd, g, q⟩ := h
  have hsz : d.shown.length ≤ sizeLine := by
    have h1 := PyData.shown_le 62 (by decide) d g.l
    have h2 := g.w
    rw [sizeLine_eq]
    omega
  have base : scalR x → reprS x = d.shown → wpAny (model X.prog X.w) X.A (call (.builtin "repr") us) (EP X pins σ Q) X.xe s := fun h1 h2 => call_reprS pins s σ H [x] us Q I r ⟨x, rfl, h1, by rw [h2]; exact q⟩
  cases hd with
  | non => exact base trivial (by simp only [PyData.shown]; rfl)
  | bl b => exact base trivial (by simp only [PyData.shown]; rfl)
  | int i => exact base (by have h0 := g.s; simp only [PyData.showable, decide_eq_true_eq] at h0; exact h0) (by simp only [PyData.shown]; rfl)
  | str z => exact base (by have := hsz; simp only [PyData.shown] at this; exact this) (by simp only [PyData.shown]; rfl)
  | lst h1 h2 => exact call_reprD hgd hr pins s σ H _ us Q I r ⟨_, _, rfl, .lst h1 h2, g.s, g.n, by have := g.z; omega, hsz, q⟩
  | tup h1 h2 => exact call_reprD hgd hr pins s σ H _ us Q I r ⟨_, _, rfl, .tup h1 h2, g.s, g.n, by have := g.z; omega, hsz, q⟩
theorem rd_reprZ {K : PySem.W.Frag} {H : Hp} {Q : VK} {x : V} {d : PyData} (h : Dp K H x d) (g : GoodZ 20 200000 d) (q : Q (.str d.shown) H) : rReprZ K [x] H Q := ⟨x, d, rfl, h, g, q⟩
theorem GoodZ.mono {z w z' w' : Nat} {d : PyData} (g : GoodZ z w d) (h1 : z ≤ z') (h2 : w ≤ w') : GoodZ z' w' d := ⟨g.s, g.n, Nat.le_trans g.z h1, g.l, Nat.le_trans g.w h2⟩
/-- a pair that may be shown -/
structure OkP (q : List Nat × Int) : Prop where
  k : q.1.length ≤ 300
  c : ∀ c ∈ q.1, c < 1000
  v : q.2.natAbs < 2 ^ 60
theorem int_good {i : Int} (h : i.natAbs < 2 ^ 60) : GoodZ 0 61 (.int i) := by
  have h1 : i.natAbs.log2 < 60 := PySem.Flt.log2_lt_of (by decide) h
  have h2 := PySem.int_text_length_le (a := i) (k := 60) (by decide) h1
  refine ⟨?_, rfl, ?_, ?_, ?_⟩
  · simp only [PyData.showable, decide_eq_true_eq]
    omega
  · simp [PyData.depth]
  · simp only [PyData.leavesShort, PyData.shown]
    refine decide_eq_true ?_
    show (Str.ofString (toString i)).length ≤ 62
    rw [PySem.ofString_length]
    omega
  · simp only [PyData.weight]
    split <;> omega
theorem str_good {l : List Nat} (h : ∀ c ∈ l, c < 1000) : GoodZ 0 l.length (.str (tx l)) := by
  refine ⟨rfl, rfl, by simp [PyData.depth], ?_, ?_⟩
  · simp only [PyData.leavesShort, List.all_eq_true, decide_eq_true_eq]
    intro c hc
    rw [tx_cps] at hc
    have := h c hc
    have e : (1000 : Nat) < 16 ^ 8 := by decide
    omega
  · simp only [PyData.weight]
    simp [tx]
theorem bool_good (b : Bool) : GoodZ 0 0 (.bool b) := by cases b <;> exact ⟨rfl, rfl, by decide +kernel, rfl, by decide +kernel⟩
theorem pair_good {q : List Nat × Int} (o : OkP q) : GoodZ 1 400 (pD q) := by
  have a := str_good o.c
  have b := int_good o.v
  have k := o.k
  unfold pD
  refine ⟨?_, ?_, ?_, ?_, ?_⟩
  · simp only [PyData.showable, PyData.showableAll, Bool.and_eq_true]
    exact ⟨trivial, b.s, trivial⟩
  · simp only [PyData.hasDict, PyData.hasDictAll, Bool.or_false]
  · simp [PyData.depth, PyData.depthAll]
  · simp only [PyData.leavesShort, PyData.leavesShortAll, Bool.and_true, Bool.and_eq_true]
    exact ⟨a.l, b.l⟩
  · have h1 := a.w
    have h2 := b.w
    simp only [PyData.weight, PyData.weightAll] at h1 h2 ⊢
    omega
/-- a list of pairs -/
def plD (m : Tab) : PyData := .list (m.map pD)
theorem plD_all : ∀ {m : Tab}, (∀ q ∈ m, OkP q) → PyData.showableAll (m.map pD) = true ∧ PyData.hasDictAll (m.map pD) = false ∧ PyData.depthAll (m.map pD) ≤ 1 ∧ PyData.leavesShortAll 62 (m.map pD) = true ∧ PyData.weightAll (m.map pD) ≤ 401 * m.length
  | [], _ => by simp [PyData.showableAll, PyData.hasDictAll, PyData.depthAll, PyData.leavesShortAll, PyData.weightAll]
  | q :: r, h => by
    obtain ⟨h1, h2, h3, h4, h5⟩ := plD_all (m := r) fun x hx => h x (List.mem_cons_of_mem _ hx)
    have g := pair_good (h q List.mem_cons_self)
    have gz := g.z
    have gw := g.w
    rw [List.map_cons]
    refine ⟨?_, ?_, ?_, ?_, ?_⟩
    · simp only [PyData.showableAll, g.s, h1, Bool.and_true]
    · simp only [PyData.hasDictAll, g.n, h2, Bool.or_false]
    · simp only [PyData.depthAll]
      omega
    · simp only [PyData.leavesShortAll, g.l, h4, Bool.and_true]
    · simp only [PyData.weightAll, List.length_cons]
      omega
theorem plD_good {m : Tab} (h : ∀ q ∈ m, OkP q) (hm : m.length ≤ 200) : GoodZ 2 80200 (plD m) := by
  obtain ⟨h1, h2, h3, h4, h5⟩ := plD_all h
  unfold plD
  refine ⟨?_, ?_, ?_, ?_, ?_⟩
  · simp only [PyData.showable, h1]
  · simp only [PyData.hasDict, h2]
  · simp only [PyData.depth]
    omega
  · simp only [PyData.leavesShort, h4]
  · simp only [PyData.weight]
    omega
theorem two_good {z w : Nat} {a b : PyData} (g : GoodZ z w a) (k : GoodZ z w b) : GoodZ (z + 1) (2 * w + 2) (.list [a, b]) := by
  have gz := g.z
  have kz := k.z
  have gw := g.w
  have kw := k.w
  refine ⟨?_, ?_, ?_, ?_, ?_⟩
  · simp only [PyData.showable, PyData.showableAll, g.s, k.s, Bool.and_true]
  · simp only [PyData.hasDict, PyData.hasDictAll, g.n, k.n, Bool.or_false]
  · simp only [PyData.depth, PyData.depthAll]
    omega
  · simp only [PyData.leavesShort, PyData.leavesShortAll, g.l, k.l, Bool.and_true]
  · simp only [PyData.weight, PyData.weightAll]
    omega
theorem Prs.dp {K : PySem.W.Frag} {H : Hp} : ∀ {m : Tab} {us : List V}, Prs H m us → DpAll K H us (m.map pD)
  | _, _, .nil => .nil
  | _, _, .cons ⟨T, e, h⟩ t => by
    subst e
    exact .cons (.tup (SqT.of h) (.cons (.str _) (.cons (.int _) .nil))) (Prs.dp t)
theorem Prs.list {K : PySem.W.Frag} {H : Hp} {a : Addr} {m : Tab} {us : List V} (h : H a = some (.lst us)) (p : Prs H m us) : Dp K H (.ref a) (plD m) := .lst (SqL.of h) p.dp
/-- [(key, table[key]) for key in keys] -/
theorem lc_prs {K : PySem.W.Frag} {g : TG} {tt : TT} {te : TE} {vs : List Nat} {σ : L2.St} {H1 : Hp} {r e : Addr} {m : Tab} {js : List (List Nat)} {Qd : Hp → Prop} (er : H1 r = some (.lst (js.map fun k => V.str (tx k)))) (ne : H1 e = none) (hin : ∀ k ∈ js, k ∈ keysT m) (hl : js.length ≤ 1000)
    (hs : ∀ (key : List Nat) (v : Int) (H2 : Hp) (Q' : VK) (B : Hp → Prop), key ∈ js → getT m key = some v → Same H1 H2 → (∀ p, H2 p = none → Q' (.ref p) (upd H2 p (.tup [.str (tx key), .int v]))) →
      g (.str (tx key)) (wipe σ vs) H2 fun σ2 H3 => wipe σ2 vs = wipe σ vs ∧ tt σ2 H3 fun b H4 => if b = true then te σ2 H4 Q' else B H4)
    (hd : ∀ us H, Same H1 H → H e = some (.lst us) → Prs H (prT m js) us → Qd H) :
    ∃ W : Nat → Nat → Hp → Prop, (∃ n, W 0 n (upd H1 e (.lst []))) ∧ ∀ i n H, W i n H →
      ((Itl K r).stop i H ∧ Qd H) ∨ ((Itl K r).go i H ∧ ∃ Nx : Hp → Prop, (∀ H', Nx H' → ∃ m', m' < n ∧ W (i + 1) m' H') ∧ ∀ x H', (Itl K r).yld i H x H' → g x (wipe σ vs) H' fun σ2 H2 => wipe σ2 vs = wipe σ vs ∧ tt σ2 H2 fun b H3 =>
        if b = true then te σ2 H3 fun y H4 => ∃ acc, H4 e = some (.lst acc) ∧ acc.length < sizeLine ∧ Nx (upd H4 e (.lst (acc ++ [y]))) else Nx H3) := by
  refine lc_it (walk_list (K := K) (a := r) (xs := js.map fun k => V.str (tx k))) (fun i H' => Same H1 H' ∧ ∃ us, H' e = some (.lst us) ∧ Prs H' (prT m (js.take i)) us) ⟨same_upd ne, [], upd_same, .nil⟩ (fun i H' _ h => SqL.of (h.1 _ _ er)) ?_ ?_
  · rintro i x H2 H2' hi ⟨s2, us, eu, pu⟩ ⟨rfl, hx⟩
    obtain ⟨key, hk, rfl⟩ := get_map hx
    have hkj := List.mem_of_getElem? hk
    obtain ⟨v, hv⟩ := getT_some (hin key hkj)
    refine hs key v _ _ _ hkj hv s2 (fun p hp => ?_)
    have hpe : e ≠ p := fun z => by
      rw [← z, eu] at hp
      cases hp
    have hz : us.length < sizeLine := by
      rw [← pu.len, prT_len, List.length_take]
      exact small1000 (by omega)
    refine ⟨us, by rw [upd_ne hpe]; exact eu, hz, same_mut (same_mut s2 (same_none s2 hp)) ne, _, upd_same, ?_⟩
    have e1 : prT m (js.take (i + 1)) = prT m (js.take i) ++ [(key, v)] := by
      unfold prT
      rw [List.take_add_one, hk, Option.toList_some, List.map_append]
      show _ ++ [(key, (getT m key).getD 0)] = _
      rw [hv]
      rfl
    rw [e1]
    refine (pu.keep fun T l h => ?_).app (Prs.one ?_)
    · have h1 : T ≠ e := fun z => by
        rw [z, eu] at h
        cases h
      have h2 : T ≠ p := fun z => by
        rw [z, hp] at h
        cases h
      rw [upd_ne h1, upd_ne h2]
      exact h
    · rw [upd_ne hpe.symm, upd_same]
  · rintro H2 ⟨s2, us, eu, pu⟩
    rw [List.length_map, List.take_length] at pu
    exact hd us H2 s2 eu pu
theorem prT_ok {m : Tab} {ks : List (List Nat)} (h : ∀ q ∈ m, OkP q) (hk : ∀ k ∈ ks, k ∈ keysT m) : ∀ q ∈ prT m ks, OkP q := by
  intro q hq
  obtain ⟨k, hk1, rfl⟩ := List.mem_map.mp hq
  obtain ⟨v, hv⟩ := getT_some (hk k hk1)
  rw [hv]
  unfold getT at hv
  cases e : m.find? fun p => decide (p.1 = k) with
  | none => rw [e] at hv; cases hv
  | some p =>
    rw [e] at hv
    cases hv
    have h1 := List.find?_some e
    have h2 := h p (List.mem_of_find?_eq_some e)
    have h3 : p.1 = k := of_decide_eq_true h1
    rw [← h3]
    exact h2
end Un

/-! UnTry: o[i] of an own class within try; isinstance of a caught error with a field. -/
namespace Un
open PySem PySem.Spec PyProof.Rows L2
section
variable {X : Cx} {CX : CXT} {k : Nat} {C f : Addr} {fd : FuncData} {ps : List Str} {sp : Sp} {E : XK}
theorem run_in1S {pins : List (Addr × Obj)} {σ : L2.St} {H : Hp} {s : Shared} {Q : VK} {us : List Value} {vs : List V} (F : FnOk X.prog X.w X.K X.mg X.base CX k f fd ps sp) (hr : Room (k + 1) X.A) (hb : Binds X.K fd ps []) (hx : PassesAt CX X σ E)
    (I : Inv X pins σ H s) (r : Vals vs us) (h : sp vs H Q E) : wpAny (model X.prog X.w) X.A.in1 (call (.ref f) us) (EP X pins σ Q) X.xe s := by
  have hl : us.length = ps.length := by
    rw [← r.length]
    exact F.len _ _ _ _ h
  have hbd := hb s us I.kIn (by simpa using hl)
  rw [List.append_nil] at hbd
  refine wpAny_call (codeAny_mono (F.run X.A.in1 X.stack s H ⟨us, []⟩ us vs Q E hr.in1 I.env0.in1 hbd r h) fun q s' hq => ?_)
  match q, hq with
  | .error e, hq => exact hx pins H s e s' I hq
  | .ok (.ret u), hq => exact I.after hq
  | .ok .next, hq => exact hq.elim
  | .ok .brk, hq => exact hq.elim
  | .ok .cont, hq => exact hq.elim
def tGetS (C : Addr) (sp : Sp) (E : L2.St → XK) (ta tb : TE) : TE := fun σ H Q => ta σ H fun x H1 => tb σ H1 fun y H2 => rGetO C sp (E σ) x y H2 Q
theorem pe_getGS {a b : Expr} {ta tb : TE} {pos : Pos} {j : Nat} {E : L2.St → XK} (g : MetG X.prog X.w X.K X.mg X.base CX C "__getitem__" ps k sp) (hr : Room j X.A) (hk : k + 1 ≤ j) (hx : ∀ σ, PassesAt CX X σ (E σ)) (pa : PE X a ta) (pb : PE X b tb)
    (hs : ∀ (x : Addr) (i : Value), subscripted b true (.ref x) i = runValue (.builtin "lifetime.subscript" ⟨[.ref x, i], []⟩) := by exact fun _ _ => by with_unfolding_all rfl) : PE X (.Subscript a b pos) (tGetS C sp E ta tb) := by
  obtain ⟨f, fd, c, hm, F, hfn, hb⟩ := g
  refine ⟨fun pins s σ H Q I h => Subscript_ (binT pa pb I h fun v u s2 x y H2 I2 rx ry q => ?_)⟩
  obtain ⟨p, dx, fs, rfl, hp, q⟩ := q
  cases (show v = Value.ref p from rx)
  obtain ⟨mA, O, _⟩ := ins_get I2.hok hp
  obtain ⟨od, J, _⟩ := O.look
  obtain ⟨m, hF⟩ := I2.fr
  exact PySem.W.sub_K hF I2.ok.mod.kin J hm.at_ hfn hm.fn (run_in1S F (hr.mono hk) hb (hx σ) I2 (show Vals [V.ref p, y] [Value.ref p, u] from .cons rfl (.cons ry .nil)) q) (hs p u)
end
theorem rd_getS {C : Addr} {sp : Sp} {E : L2.St → XK} {ta tb : TE} {σ : L2.St} {H : Hp} {Q : VK} (h : ta σ H fun x H1 => tb σ H1 fun y H2 => rGetO C sp (E σ) x y H2 Q) : tGetS C sp E ta tb σ H Q := h
/-- repr within a suite -/
theorem call_reprU {X : Cx} (hgd : X.A.guards = some []) (hu : X.A.units + 64 < cLine) : CallR X (.builtin "repr") (rReprZ X.K) := by
  intro pins s σ H xs us Q I r h
  obtain ⟨x, d, rfl, hd, g, q⟩ := h
  have hsz : d.shown.length ≤ sizeLine := by
    have h1 := PyData.shown_le 62 (by decide) d g.l
    have h2 := g.w
    rw [sizeLine_eq]
    omega
  have base : scalR x → reprS x = d.shown → wpAny (model X.prog X.w) X.A (call (.builtin "repr") us) (EP X pins σ Q) X.xe s := fun h1 h2 => call_reprS pins s σ H [x] us Q I r ⟨x, rfl, h1, by rw [h2]; exact q⟩
  have deep : ∀ a, x = .ref a → wpAny (model X.prog X.w) X.A (call (.builtin "repr") us) (EP X pins σ Q) X.xe s := by
    rintro a rfl
    obtain ⟨u, rfl, rx⟩ := vals1 r
    obtain ⟨as, rd⟩ := Dp.reads I d _ u hd rx
    cases rx
    have hz := g.z
    refine repr_of_reads' rd g.s (PyData.noDict_hsm g.n) hgd (by omega) (fun _ _ e => e) (fun h' u tk hk => ?_) hsz
    exact ⟨.str d.shown, H, I.kept (t' := tk) hk, ⟨u, rfl⟩, q⟩
  cases hd with
  | non => exact base trivial (by simp only [PyData.shown]; rfl)
  | bl b => exact base trivial (by simp only [PyData.shown]; rfl)
  | int i => exact base (by have h0 := g.s; simp only [PyData.showable, decide_eq_true_eq] at h0; exact h0) (by simp only [PyData.shown]; rfl)
  | str z => exact base (by have := hsz; simp only [PyData.shown] at this; exact this) (by simp only [PyData.shown]; rfl)
  | lst h1 h2 => exact deep _ rfl
  | tup h1 h2 => exact deep _ rfl
/-- isinstance(e, T): e just caught, of an own class, with its fields -/
def rIsS (K : PySem.W.Frag) (a : Addr) (cls : Value) (d : Option Addr) : List V → Hp → VK → Prop := fun xs H Q => ∃ (D : Addr) (T : String) (b : Bool) (dd : Addr) (fs : List (Str × V)), xs = [.ref a, .ty T] ∧ cls = .ref D ∧ d = some dd ∧ H dd = some (.xd fs) ∧ ExcC K D ∧
  PySem.W.kitOne K (.ref D) (.type T) = some b ∧ Q (.bl b) H
theorem call_isS {X : Cx} {a : Addr} {oe : Obj} {cls : Value} {d : Option Addr} {pn : List (Addr × Obj)} (hz : Zc cls d oe) (hf : ∃ vs, oe.data = .fields vs) : CallR (X.suite a ((a, oe) :: pn)) (.builtin "isinstance") (rIsS X.K a cls d) := by
  intro pins s σ H xs us Q I r h
  obtain ⟨D, T', b, dd, fs, rfl, rfl, rfl, ea, T, e, q⟩ := h
  obtain ⟨u1, u2, rfl, r1, r2⟩ := vals2 r
  cases (show u1 = Value.ref a from r1)
  cases (show u2 = Value.type T' from r2)
  obtain ⟨ha, _⟩ := I.pin (a, oe) (List.mem_append_left _ List.mem_cons_self)
  obtain ⟨vs, hd⟩ := hf
  have hx : ObjOk X.prog X.w H s.heap dd (.xd fs) := I.hok dd _ ea
  obtain ⟨mA, hns, hr⟩ := hx
  obtain ⟨od, ho, hl⟩ := lookIn_ns hns
  have J : PySem.W.InstAt s.heap a oe D (some od) := ⟨ha, hz.1, by unfold PySem.W.notCls; rw [hd] <;> rfl, by rw [hz.2]; exact ho⟩
  exact PySem.W.kia_one (PySem.W.kitx_excD T.hg T.hk T.hs T.hd T.ha T.hn T.ht T.hm) I.kIn J e (fun z => nomatch z) fun tk => ⟨.bl b, H, I.tok tk, rfl, q⟩
end Un

/-! UnNe: x != y where x's own class has __eq__ and no __ne__. -/
namespace Un
open PySem PySem.Spec PyProof.Rows L2
section
variable {prog : Program} {w : World} {A : Around} {E : Value → Shared → Prop} {s : Shared} {K : PySem.W.Frag} {x C f L : Addr} {ox : Obj} {od : Option Obj} {b tb : Value} {h₀ : Heap} {m : Str → Option Value}
theorem ne_entry (X : K.In s.heap) (I : PySem.W.InstAt s.heap x ox C od) (hs : PySem.W.findIn K (.ref C) "__eq__" = some (some (.ref f))) (hf : PySem.W.isFn K (.ref f) = true) (hu : A.units < cLine) {Q : Fin → Shared → Prop}
    (hcall : wpAny (model prog w) A (call (.ref f) [.ref x, b]) (fun v s' => ∃ c, v = .bool c ∧ Q (.done (.ret (.bool (!c)))) s') E s) :
    wpAny (model prog w) A (Builtin.«object.__ne__» ⟨[.ref x, b], []⟩) Q E s := by
  unfold Builtin.«object.__ne__»
  repeat (first
    | with_reducible refine wpAny_cRoomFor hu ?_
    | (refine wpAny_bind (m := callSpecialIfBound? (.ref x) (Str.ofString "__eq__") [b])
        (PySem.W.ifBound_K X I hs hf (wpAny_mono hcall (fun r s' hr => by
          obtain ⟨c, rfl, hq⟩ := hr
          repeat (first | exact hq | exact wpAny_pure hq | exact wpAny_truthy_bool hq | (refine wpAny_bind (m := truthy (.bool _)) (wpAny_truthy_bool ?_)) | wp_step)) fun _ _ e => e)))
    | wp_step)
theorem ifBound_ne {M : Model} {args : List Value} {Q : Option Value → Shared → Prop} (X : K.In s.heap) (I : PySem.W.InstAt s.heap x ox C od) (hs : PySem.W.findIn K (.ref C) "__ne__" = some (some (.builtin "object.__ne__")))
    (h : wpAny M A (call (.builtin "object.__ne__") (.ref x :: args)) (fun v => Q (some v)) E s) : wpAny M A (callSpecialIfBound? (.ref x) "__ne__" args) Q E s := by
  simp only [callSpecialIfBound?, bindSpecialIfBound?]
  refine wpAny_holding (wpAny_bind (wpAny_bind (wpAny_bind (I.type.here ((PySem.W.looks_findIn X hs).here ?_)))))
  refine wpAny_bind (wpAny_askSetting (wpAny_ite ?_))
  have fin : wpAny M A (call (.builtin "object.__ne__") ([.ref x] ++ args) >>= fun v => pure (some v)) Q E s := wpAny_bind (wpAny_mono h (fun v s' h' => wpAny_pure h') fun _ _ h' => h')
  split
  · exact wpAny_bind (wpAny_of_eq (PySem.F.cmp_object.ne.bind _) (wpAny_pure (by exact fin)))
  · exact wpAny_tryCatch (wpAny_bind (wpAny_of_eq (PySem.F.cmp_object.ne.bind _) (wpAny_pure (by exact fin))))
theorem ne_K {Q : Value → Shared → Prop} (hu : A.units + 1 < cLine) (X : K.In s.heap) (I : PySem.W.InstAt s.heap x ox C od) (hb : PySem.W.Looks (model prog w) s.heap (typeOf b) tb) (hn : PySem.W.notFirst K C tb = true)
    (he : PySem.W.findIn K (.ref C) "__eq__" = some (some (.ref f))) (hf : PySem.W.isFn K (.ref f) = true) (hne : PySem.W.findIn K (.ref C) "__ne__" = some (some (.builtin "object.__ne__"))) (hm : PySem.W.mroIn K C (.type "object") = some true)
    (h : wpAny (model prog w) A.in1 (call (.ref f) [.ref x, b]) (fun v s' => ∃ c, v = .bool c ∧ Q (.bool (!c)) s') E s) : wpAny (model prog w) A (richCompare .NotEq (.ref x) b) Q E s := by
  have one : wpAny (model prog w) A (tryCompare (.ref x) "__ne__" b) (fun r s' => ∃ v, r = some v ∧ Q v s') E s := by
    unfold tryCompare
    refine wpAny_bind (ifBound_ne X I hne (wpAny_call (codeAny_call_builtin PySem.F.cmp_object.ne.plain PySem.F.cmpEntry_ne (PySem.W.check_slot PySem.F.cmpKind_ne PySem.F.cmpSplit_ne (I.type.andThen (PySem.W.looks_mroIn X hm)) (PySem.F.cmpArgs_ne _ _)
      (ne_entry (A := A.in1) X I he hf hu (wpAny_mono h (fun v s' hv => ?_) fun _ _ e => e))))))
    obtain ⟨c, rfl, hq⟩ := hv
    refine ⟨c, rfl, ?_⟩
    first | exact wpAny_pure ⟨_, rfl, hq⟩ | exact wpAny_pure (wpAny_pure ⟨_, rfl, hq⟩) | exact ⟨_, rfl, hq⟩
  unfold richCompare
  simp only [oneThing_ref]
  refine wpAny_holding (wpAny_bind (wpAny_cRoomFor (Nat.lt_of_succ_lt hu) ?_))
  rw [cmpInfo_NotEq]
  dsimp only
  refine wpAny_bind (I.type.here (wpAny_bind (hb.here ?_)))
  split
  · rename_i q
    have e : PySem.W.subIn K tb (.ref C) = some false := by
      rcases Bool.or_eq_true_iff.mp hn with e | e
      · rw [beq_iff_eq.mp e] at q; simp at q
      · exact beq_iff_eq.mp e
    refine wpAny_bind ((PySem.W.looks_subIn X e).here ?_)
    simp only [Bool.false_eq_true, if_false]
    refine wpAny_bind (wpAny_mono one (fun r s' z => ?_) fun _ _ e => e)
    obtain ⟨v, rfl, hq⟩ := z
    exact wpAny_pure hq
  · refine wpAny_bind (wpAny_pure ?_)
    simp only [Bool.false_eq_true, if_false]
    refine wpAny_bind (wpAny_mono one (fun r s' z => ?_) fun _ _ e => e)
    obtain ⟨v, rfl, hq⟩ := z
    exact wpAny_pure hq
end
section
variable {X : Cx} {CX : CXT} {k : Nat} {C f : Addr} {fd : FuncData} {ps : List Str} {sp : Sp} {E : XK}
/-- o != y -/
def rNeO (C : Addr) (sp : Sp) (E : XK) (T : V → Hp → Prop) : R2 := fun x y H Q => ∃ a dx fs, x = .ref a ∧ H a = some (.ins C dx fs) ∧ T y H ∧ sp [.ref a, y] H (fun r H' => ∃ b, r = .bl b ∧ Q (.bl (!b)) H') E
/-- no __ne__ of its own -/
structure NeK (K : PySem.W.Frag) (C : Addr) : Prop where
  ne : PySem.W.findIn K (.ref C) "__ne__" = some (some (.builtin "object.__ne__"))
  mr : PySem.W.mroIn K C (.type "object") = some true
theorem op_neO {T : V → Hp → Prop} (hT : Right X C T) (hN : NeK X.K C) (hm : Meth X.K C "__eq__" f) (F : FnOk X.prog X.w X.K X.mg X.base CX k f fd ps sp) (hr : Room (k + 1) X.A) (hb : Binds X.K fd ps []) (hx : Passes CX X E) : OpR X (compareOp .NotEq) (rNeO C sp E T) := by
  intro pins s σ H x y v u Q I rx ry h
  obtain ⟨a, dx, fs, rfl, ha, ht, h⟩ := h
  cases (show v = Value.ref a from rx)
  obtain ⟨mA, O, _⟩ := ins_get I.hok ha
  obtain ⟨od, J, _⟩ := O.look
  obtain ⟨t, hL, hn⟩ := hT pins σ H s y u I ry ht
  have hu : X.A.units + 1 < cLine := by have := hr.units; omega
  unfold compareOp
  refine ne_K hu I.kIn J hL hn hm.at_ hm.fn hN.ne hN.mr (wpAny_mono (run_in1 F hr hb hx I (show Vals [V.ref a, y] [Value.ref a, u] from .cons rfl (.cons ry .nil)) h) (fun r s' hs => ?_) fun _ _ e => e)
  obtain ⟨z, H', I', rz, b, rfl, q⟩ := hs
  cases (show r = Value.bool b from rz)
  exact ⟨b, rfl, .bl (!b), H', I', rfl, q⟩
theorem ne_G {j : Nat} {T : V → Hp → Prop} (hT : Right X C T) (hN : NeK X.K C) (g : MetG X.prog X.w X.K X.mg X.base CX0 C "__eq__" ps k sp) (hr : Room j X.A) (hk : k + 1 ≤ j) : OpR X (compareOp .NotEq) (rNeO C sp E0 T) := by
  obtain ⟨f, fd, c, M, F, i, b⟩ := g
  exact op_neO hT hN M F (hr.mono hk) b pass0
end
/-- what may stand on the right of == and != : a store, a list, a dict -/
def RightO (C : Addr) (y : V) (H : Hp) : Prop := ∃ a, y = .ref a ∧ ((∃ dx fs, H a = some (.ins C dx fs)) ∨ (∃ xs, H a = some (.lst xs)) ∨ ∃ kvs, H a = some (.dK kvs))
theorem right_o {X : Cx} {C : Addr} (hi : InsK X.K C) : Right X C (RightO C) := by
  rintro pins σ H s y u I ry ⟨a, rfl, h⟩
  cases (show u = Value.ref a from ry)
  rcases h with ⟨dx, fs, h⟩ | ⟨xs, h⟩ | ⟨kvs, h⟩
  · obtain ⟨mA, O, _⟩ := ins_get I.hok h
    obtain ⟨od, J, _⟩ := O.look
    exact ⟨.ref C, J.type, hi.nf⟩
  · obtain ⟨_, its, n, _, e⟩ := (show ObjOk X.prog X.w H s.heap a (.lst xs) from I.hok a _ h)
    exact ⟨.type "list", (PySem.W.Looks.ld e).andThen .now, (hi.no "list" (by decide)).2⟩
  · obtain ⟨_, _, vs, _, o, es, ep, e, x, _⟩ := (show ObjOk X.prog X.w H s.heap a (.dK kvs) from I.hok a _ h)
    have hc : o.cls = .type "dict" := x.1
    exact ⟨.type "dict", hc ▸ (PySem.W.Looks.ld e).andThen .now, (hi.no "dict" (by decide)).2⟩
end Un

/-! UnMin: min of two texts. -/
namespace Un
open PySem PySem.Spec PyProof.Rows L2
theorem cmp_txt {prog : Program} {w : World} {A : Around} {its : Array Value} (z : Nat → Str) (hz : ∀ (i : Nat) (v : Value), its[i]? = some v → ∃ t, v = Value.str (z i) t) :
    CmpOf prog w A .Lt (fun i v => its[i]? = some v) (fun i j => decide ((z i).cps.toList < (z j).cps.toList)) := by
  intro i j a b s Q E ha hb q
  obtain ⟨t, rfl⟩ := hz i a ha
  obtain ⟨u, rfl⟩ := hz j b hb
  exact P.lt_str q
theorem min_txt {prog : Program} {w : World} {A : Around} {E : Value → Shared → Prop} {s : Shared} {x y : Str} {t u : Tok} {Q : Value → Shared → Prop} (hh : A.handled = none)
    (q : ∀ g tk (v : Value), (v = Value.str x t ∨ v = Value.str y u) → (∀ d o, s.heap.get? d = some o → g.get? d = some o) → Q v { s with heap := g, toks := tk }) : wpAny (model prog w) A (call (.builtin "min") [.str x t, .str y u]) Q E s := by
  have sz : (s.heap.push { cls := .type "tuple", data := .seq #[.str x t, .str y u] }).objs.size = s.heap.objs.size + 1 := by rw [Heap.size_push]
  have tp : (s.heap.push { cls := .type "tuple", data := .seq #[.str x t, .str y u] }).IsTuple s.heap.objs.size #[.str x t, .str y u] := ⟨_, Heap.get?_push_size _ rfl, rfl, 0, rfl⟩
  have two : ∀ (i : Nat) (v : Value), (#[Value.str x t, Value.str y u])[i]? = some v → v = .str x t ∧ i = 0 ∨ v = .str y u ∧ i = 1 := fun i v e => by
    match i, e with
    | 0, e => exact .inl ⟨(Option.some.inj e).symm, rfl⟩
    | 1, e => exact .inr ⟨(Option.some.inj e).symm, rfl⟩
    | i + 2, e => simp at e
  refine call_min_two (wpAny_pyIter_tuple tp ?_)
  refine ⟨_, _, [_], _, _, _, _, rfl, Walks.tuple (A := A.in1) hh _ s.heap.objs.size (by rw [sz]; exact (Nat.succ_ne_self _).symm) #[.str x t, .str y u], ⟨⟨_, Heap.get?_push_size _ rfl, rfl, rfl⟩, tp.push _⟩, fun d hd => ?_, by simp, cmp_txt (fun i => if i = 0 then x else y) (fun i v e => ?_), fun v g tk hp hk => ?_⟩
  · show d < ((s.heap.push _).push _).objs.size
    rw [Heap.size_push, sz]
    simp only [List.mem_cons, List.not_mem_nil, or_false] at hd
    rcases hd with rfl | rfl
    · rw [sz]; exact Nat.lt_succ_self _
    · exact Nat.lt_succ_of_lt (Nat.lt_succ_self _)
  · rcases two i v e with ⟨rfl, rfl⟩ | ⟨rfl, rfl⟩
    · exact ⟨t, rfl⟩
    · exact ⟨u, rfl⟩
  · refine q g tk v ?_ fun d o e => ?_
    · rcases two _ v hp with h | h
      · exact .inl h.1
      · exact .inr h.1
    · refine hk d o (fun hm => ?_) (Heap.get?_push_of_some _ (Heap.get?_push_of_some _ e))
      have l := Heap.lt_size e
      rw [List.mem_singleton.mp hm, sz] at l
      exact absurd l (Nat.not_lt_of_le (Nat.le_succ _))
def rMinX : List V → Hp → VK → Prop := fun xs H Q => ∃ a b, xs = [.str (tx a), .str (tx b)] ∧ ∀ c, (c = a ∨ c = b) → Q (.str (tx c)) H
theorem call_minX {X : Cx} (hc : X.calm = true) : CallR X (.builtin "min") rMinX := by
  intro pins s σ H xs us Q I r h
  obtain ⟨a, b, rfl, q⟩ := h
  obtain ⟨u1, u2, rfl, ⟨t1, rfl⟩, ⟨t2, rfl⟩⟩ := vals2 r
  refine min_txt (I.ok.hd hc) fun g tk v hv hk => ?_
  rcases hv with rfl | rfl
  · exact ⟨.str (tx a), H, I.kept hk, ⟨t1, rfl⟩, q a (.inl rfl)⟩
  · exact ⟨.str (tx b), H, I.kept hk, ⟨t2, rfl⟩, q b (.inr rfl)⟩
theorem rd_minX {H : Hp} {Q : VK} {a b : List Nat} (q : ∀ c, (c = a ∨ c = b) → Q (.str (tx c)) H) : rMinX [.str (tx a), .str (tx b)] H Q := ⟨a, b, rfl, q⟩
def rMinI : List V → Hp → VK → Prop := fun xs H Q => ∃ i j, xs = [.int i, .int j] ∧ Q (.int (if j < i then j else i)) H
theorem call_min2X {X : Cx} (hc : X.calm = true) : CallR X (.builtin "min") rMinI := call_min2 hc
theorem rd_minI {H : Hp} {Q : VK} {i j : Int} (q : Q (.int (if j < i then j else i)) H) : rMinI [.int i, .int j] H Q := ⟨i, j, rfl, q⟩
end Un

/-! UnHds: try with several except clauses, each with a name or without. -/
namespace Un
open PySem PySem.Spec PyProof.Rows L2
/-- an except clause: its class, the slot of its name, its suite's reading -/
abbrev Hd := Value × Option Nat × (Addr → Value → Option Addr → TS)
def clause (a : Addr) (cls : Value) (d : Option Addr) (D : Ends) : Option Nat → (Addr → Value → Option Addr → TS) → L2.St → Hp → Prop
  | none, t, ρ, G => t a cls d D ρ G
  | some i, t, ρ, G => t a cls d { nx := fun ρ1 G1 => D.nx (ρ1.set i none) G1, rt := D.rt, bk := fun ρ1 G1 => D.bk (ρ1.set i none) G1, ct := fun ρ1 G1 => D.ct (ρ1.set i none) G1 } (ρ.set i (some (.ref a))) G
def wHds (K : PySem.W.Frag) (W0 : WX) (D : Ends) : List Hd → WX
  | [] => W0
  | (c, i, t) :: r => fun cls d ρ G => ∃ b, PySem.W.exmOne K cls c = some b ∧ (b = true → ∀ a, G a = none → clause a cls d D i t ρ G) ∧ (b = false → wHds K W0 D r cls d ρ G)
inductive Hds (X : Cx) : List ExceptHandler → List Hd → Prop
  | nil : Hds X [] []
  | bare {x : Str} {c : Value} {t : Addr → Value → Option Addr → TS} {st : Stmt} {sts : List Stmt} {p1 p2 : Pos} {es : List ExceptHandler} {l : List Hd} (nc : Names X x c)
      (su : ∀ (a : Addr) (ob : Obj) (cls : Value) (d : Option Addr) (pn : List (Addr × Obj)), Zc cls d ob → (∃ fs, ob.data = .fields fs) → PSs (X.suite a ((a, ob) :: pn)) (st :: sts) (t a cls d)) (r : Hds X es l) :
      Hds X (.ExceptHandler (some (.Name x p1)) none (st :: sts) p2 :: es) ((c, none, t) :: l)
  | as {x n : Str} {i : Nat} {c : Value} {t : Addr → Value → Option Addr → TS} {st : Stmt} {sts : List Stmt} {p1 p2 : Pos} {es : List ExceptHandler} {l : List Hd} (ni : X.N[i]? = some n) (nl : X.env.kindOf n = some .local) (nc : Names X x c)
      (su : ∀ (a : Addr) (ob : Obj) (cls : Value) (d : Option Addr) (pn : List (Addr × Obj)), Zc cls d ob → (∃ fs, ob.data = .fields fs) → PSs (X.suite a ((a, ob) :: pn)) (st :: sts) (t a cls d)) (r : Hds X es l) :
      Hds X (.ExceptHandler (some (.Name x p1)) (some n) (st :: sts) p2 :: es) ((c, some i, t) :: l)
section
variable {X : Cx} {body : List Stmt} {e0 : ExceptHandler} {es : List ExceptHandler} {l : List Hd} {tp : Pos} {tb : WX → TS} {W0 : WX}
theorem ps_try_hds (st : X.stack = X.env :: X.outer) (fr : X.env.frame = some X.env.locals) (nd : X.N.Nodup) (tk : Takes X W0)
    (pb : ∀ (W : WX) (pn : List (Addr × Obj)) (xe : Value → Shared → Prop), Takes (X.tr pn xe) W → PassesOwn (model X.prog X.w) X.A X.env xe → PSs (X.tr pn xe) body (tb W))
    (ph : Hds X (e0 :: es) l) : PS X (.Try body (e0 :: es) [] [] tp) (fun D ρ G => tb (wHds X.K W0 D l) D ρ G) := by
  refine ⟨fun pins z ρ G D J0 rd => ?_⟩
  have okX := J0.ok
  have frs0 : X.A.frames = some (X.env :: X.outer) := by rw [okX.frames, st]
  refine wpAny_Try_except ?_
  refine wpAny_mono ((pb (wHds X.K W0 D l) (X.pn ++ pins) (fun e z1 => wpAny (model X.prog X.w) X.A (noteFrame e X.env) (fun _ z2 => wpAny (model X.prog X.w) X.A (setFlight e none) (fun _ z3 =>
    wpAny (model X.prog X.w) X.A (handleBy e X.env (e0 :: es)) (SP X pins D) X.xe z3) X.xe z2) X.xe z1) (fun u z1 thrown => ?_) PassesOwn.looking).run [] z ρ G D (J0.toTry _) rd) (fun fl z1 fin => ?_) (fun e z1 he => he)
  · obtain ⟨a, B, zI, pins', ρ1, G1, cls, d, rfl, J1, nb, up, sky, na, os, ag, wish⟩ := thrown
    have JI : Inv X pins ρ1 G1 zI := J1.ofTry okX
    have skyE : Sky B (X.env :: X.outer) a (Zc cls d) X.env.locals z1.heap := by rw [← st]; exact sky
    show wpAny (model X.prog X.w) X.A (noteFrame (.ref a) X.env) _ _ _
    refine Sky.land Zc.steady frs0 fr skyE fun g3 fl3 up3 => ?_
    have J3 : Inv X pins ρ1 G1 { z1 with heap := g3 } := JI.landed nb fl3.1 (up.trans up3) os ag
    obtain ⟨ob3, fs3, at3, zc3, da3⟩ := fl3.there
    have apart : a ∉ frs (X.env :: X.outer) := fun hm => by
      obtain ⟨_, ob', at', nof⟩ := fl3.2.2.1.mem hm
      rw [at3] at at'
      cases at'
      exact nof _ da3
    have aL : a ≠ X.env.locals := fun q => apart (List.mem_filterMap.mpr ⟨X.env, List.mem_cons_self, by rw [fr, q]⟩)
    have aF : a ∉ X.fs := fun hm => by
      obtain ⟨ev, hev, q⟩ := List.mem_filterMap.mp hm
      exact apart (List.mem_filterMap.mpr ⟨ev, List.mem_cons_of_mem _ hev, q⟩)
    have S3 := J3.suite at3 da3 na aL aF
    have looks : PySem.W.Looks (model X.prog X.w) g3 (typeOf (.ref a)) cls := fun A Q E s k q => wpAny_typeOf_ref (k _ _ at3) (by rw [zc3.1]; exact q)
    have named : ∀ {x : Str} {c : Value} {p1 : Pos} {Q : Value → Shared → Prop} {E : Value → Shared → Prop}, Names X x c → Q c { z1 with heap := g3 } → wpAny (model X.prog X.w) (X.A.mark (some (.ref a))) (eval (.Name x p1) X.env) Q E { z1 with heap := g3 } := fun {x c p1 Q E} nc q => by
      obtain ⟨gl, db, m | ⟨m, hv, nn⟩⟩ := nc
      · exact ld_glob (X := X.suite a ((a, ob3) :: (X.pn ++ pins))) S3 gl m q db
      · exact ld_blt (X := X.suite a ((a, ob3) :: (X.pn ++ pins))) S3 gl m hv q nn db
    have each : ∀ {es' : List ExceptHandler} {l' : List Hd}, Hds X es' l' → wHds X.K W0 D l' cls d ρ1 G1 → wpAny (model X.prog X.w) X.A (handleBy (.ref a) X.env es') (SP X pins D) X.xe { z1 with heap := g3 } := by
      intro es' l' hk
      induction hk with
      | nil =>
        intro wish
        refine wpAny_handleBy_nil ?_
        obtain ⟨k1, k2, k3, ob, fs, T, oT, tl, at0, zc0, da0, f1, f2⟩ := id fl3
        unfold PySem.passOn
        refine wpAny_bind (wpAny_field at0 da0 f1 ?_)
        rw [if_neg (show ¬ ((Value.ref T == Value.none) = true) from by simp)]
        have go : wpAny (model X.prog X.w) X.A (setFlight (.ref a) X.env.frame) (fun _ z4 => wpAny (model X.prog X.w) X.A (throw (.ref a) : Sem Flow) (SP X pins D) X.xe z4) X.xe { z1 with heap := g3 } := by
          rw [fr]
          refine HandSPX.setFlight_upZ fl3 fun g4 sk4 up4 => wpAny_throw (tk _ _ ?_)
          exact ⟨a, B, zI, pins, ρ1, G1, cls, d, rfl, JI, nb, (up.trans up3).trans up4, .inr (.inr (by rw [st]; exact sk4)), na, os, ag, wish⟩
        first
          | exact wpAny_bind (wpAny_pure (wpAny_bind go))
          | exact wpAny_bind go
      | @bare x c t st1 sts p1 p2 es2 l2 nc su r ih =>
        rintro ⟨b, m1, yes, no⟩
        refine wpAny_handleBy_cons (codeAny_handlers_test ?_) (by intro q; cases q)
        refine named nc ((PySem.W.exm_one (M := model X.prog X.w) (J3.kIn) looks m1).here ?_)
        cases b with
        | false =>
          show wpAny _ X.A (handleBy (.ref a) X.env es2) _ _ _
          exact ih (no rfl)
        | true =>
          refine codeAny_handlers_suite ?_
          refine HandSPX.lands_againZ fl3 fun g4 fl4 up4 => ?_
          have J4 : Inv X pins ρ1 G1 { z1 with heap := g4 } := JI.landed nb fl4.1 ((up.trans up3).trans up4) os ag
          obtain ⟨ob4, fs4, at4, zc4, da4⟩ := fl4.there
          have S4 := J4.suite at4 da4 na aL aF
          refine wpAny_mono ((su a ob4 cls d (X.pn ++ pins) zc4 ⟨_, da4⟩).run [] _ _ G1 _ S4 (yes rfl a na)) (fun fl z6 fin => ?_) (fun _ _ q => False.elim q)
          cases fl with
          | next => obtain ⟨ρ6, G6, S6, q6⟩ := fin; exact ⟨_, _, S6.unsuite okX, q6⟩
          | brk => obtain ⟨ρ6, G6, S6, q6⟩ := fin; exact ⟨_, _, S6.unsuite okX, q6⟩
          | cont => obtain ⟨ρ6, G6, S6, q6⟩ := fin; exact ⟨_, _, S6.unsuite okX, q6⟩
          | ret u => obtain ⟨v6, ρ6, G6, S6, r6, q6⟩ := fin; exact ⟨_, _, _, S6.unsuite okX, r6, q6⟩
      | @as x n i c t st1 sts p1 p2 es2 l2 ni nl nc su r ih =>
        rintro ⟨b, m1, yes, no⟩
        refine wpAny_handleBy_cons (codeAny_handlers_test ?_) (by intro q; cases q)
        refine named nc ((PySem.W.exm_one (M := model X.prog X.w) (J3.kIn) looks m1).here ?_)
        cases b with
        | false =>
          show wpAny _ X.A (handleBy (.ref a) X.env es2) _ _ _
          exact ih (no rfl)
        | true =>
          refine codeAny_handlers_suite_as ?_
          refine HandSPX.lands_againZ fl3 fun g4 fl4 up4 => ?_
          have J4 : Inv X pins ρ1 G1 { z1 with heap := g4 } := JI.landed nb fl4.1 ((up.trans up3).trans up4) os ag
          obtain ⟨ob4, fs4, at4, zc4, da4⟩ := fl4.there
          have S4 := J4.suite at4 da4 na aL aF
          refine store_ok (X := X.suite a ((a, ob4) :: (X.pn ++ pins))) (v := .ref a) S4 nd ni (.inl nl) rfl (fun z5 S5 => ?_) (.inr nl)
          refine wpAny_mono ((su a ob4 cls d (X.pn ++ pins) zc4 ⟨_, da4⟩).run [] z5 _ G1 _ S5 (yes rfl a na)) (fun fl z6 fin => ?_) (fun _ _ q => False.elim q)
          have shut : ∀ {ρ6 : L2.St} {G6 : Hp} {Q : Shared → Prop}, Inv (X.suite a ((a, ob4) :: (X.pn ++ pins))) [] ρ6 G6 z6 → (∀ z7, Inv X pins (ρ6.set i none) G6 z7 → Q z7) →
              wpAny (model X.prog X.w) X.A (do bindName X.env n .none; unbindBehindTheSuite X.env n p2) (fun _ z7 => Q z7) X.xe z6 := fun {ρ6 G6 Q} S6 hq => gone_ok (S6.unsuite okX) nd ni nl hq
          cases fl with
          | next => obtain ⟨ρ6, G6, S6, q6⟩ := fin; exact shut S6 fun z7 J7 => ⟨_, _, J7, q6⟩
          | brk => obtain ⟨ρ6, G6, S6, q6⟩ := fin; exact shut S6 fun z7 J7 => ⟨_, _, J7, q6⟩
          | cont => obtain ⟨ρ6, G6, S6, q6⟩ := fin; exact shut S6 fun z7 J7 => ⟨_, _, J7, q6⟩
          | ret u => obtain ⟨v6, ρ6, G6, S6, r6, q6⟩ := fin; exact shut S6 fun z7 J7 => ⟨_, _, _, J7, r6, q6⟩
    exact each ph wish
  · cases fl with
    | next => obtain ⟨ρ1, G1, J1, q⟩ := fin; exact wpAny_execs_nil ⟨ρ1, G1, J1.ofTry okX, q⟩
    | brk => obtain ⟨ρ1, G1, J1, q⟩ := fin; exact ⟨ρ1, G1, J1.ofTry okX, q⟩
    | cont => obtain ⟨ρ1, G1, J1, q⟩ := fin; exact ⟨ρ1, G1, J1.ofTry okX, q⟩
    | ret u => obtain ⟨v, ρ1, G1, J1, r, q⟩ := fin; exact ⟨v, ρ1, G1, J1.ofTry okX, r, q⟩
end
end Un

/-! UnTab: the end of a law whose defs make lambdas, and show values. -/
namespace Un
open PySem PySem.Spec PyProof.Rows L2
theorem runTG {P : Program} {w : World} {K : PySem.W.Frag} {mg mb : Str → Option Value} {k : Nat} {fa a : Addr} {cs : List (Addr × Addr)} {fd : FuncData} {x : Str} {sp : Sp} {z : Shared} {vs : List Value} {ns : List Int}
    (KX : K.In z.heap) (hns : z.heap.Ns mainGlobals mg) (hb : z.heap.Ns builtinsNs mb) (hbb : ∀ y : Str, y ≠ "__name__" → mb y = bootBuiltins y) (lim : z.heap.NoLimit) (hg : z.gens = #[])
    (tabs : ∀ p ∈ cs, z.heap.get? p.2 = some { cls := .none, data := .fields #[] }) (nT : ∀ p ∈ cs, K.lookup p.2 = none) (hd : ∀ p ∈ cs, PySem.W.CodeHd z.heap p.1 p.2)
    (bmn : ∃ (bm : Addr) (ob : Obj), mg "__builtins__" = some (.ref bm) ∧ bm ≠ builtinsNs ∧ z.heap.get? bm = some ob ∧ ob.cls = .type "module" ∧ ob.dict = some builtinsNs ∧ ob.data = .plain)
    (ha : z.heap.get? a = some { cls := .type "list", data := .seq vs.toArray }) (hi : IntsAre vs ns) (hl : ns.length ≤ sizeLine) (room : Room k callerA)
    (F : ∀ base : Heap, K.In base → base.Ns mainGlobals mg → (∀ p ∈ cs, LamX.TabB base mg p.1 p.2) → FnG P w K mg base k fa fd [x] sp) (bind1 : ∀ (s : Shared) (u : Value), BindsTo s fd ⟨[u], []⟩ [(x, u)])
    (told : ∀ H : Hp, (∀ p ∈ cs, H p.2 = some (.tbl #[])) → SqL K H a (ns.map V.int) → sp [.ref a] H (fun v _ => v = .bl true) fun _ _ _ => False) :
    codeAny (model P w) callerA (.call (.ref fa) ⟨[.ref a], []⟩) (fun r s' => r = .ok (.ret (.bool true)) ∧ OldK z.heap s'.heap ∧ s'.os = z.os ∧ AllBare s'.gens) z := by
  have relV := vals_ints hi
  have sizes := hi.length
  have tabAt : ∀ b : Addr, b ∈ cs.map (·.2) → z.heap.get? b = some { cls := .none, data := .fields #[] } := fun b m => by
    obtain ⟨p, hp, rfl⟩ := List.mem_map.mp m
    exact tabs p hp
  have apart : a ∉ cs.map (·.2) := fun m => by
    have e := tabAt a m
    rw [ha] at e
    cases congrArg Obj.data (Option.some.inj e)
  have inT : ∀ p ∈ cs, p.2 ∈ cs.map (·.2) := fun p hp => List.mem_map.mpr ⟨p, hp, rfl⟩
  suffices from_ : ∀ H : Hp, (∀ b u, H b = some u → (b = a ∧ K.lookup a = none ∧ u = .frz { cls := .type "list", data := .seq vs.toArray } (.lst (ns.map V.int))) ∨ (b ∈ cs.map (·.2) ∧ u = .tbl #[])) → (∀ p ∈ cs, H p.2 = some (.tbl #[])) → SqL K H a (ns.map V.int) →
      codeAny (model P w) callerA (.call (.ref fa) ⟨[.ref a], []⟩) (fun r s' => r = .ok (.ret (.bool true)) ∧ OldK z.heap s'.heap ∧ s'.os = z.os ∧ AllBare s'.gens) z by
    cases look : K.lookup a with
    | some o =>
      have there := KX a o look
      rw [ha] at there
      obtain rfl := Option.some.inj there
      refine from_ (fun b => if b ∈ cs.map (·.2) then some (.tbl #[]) else none) (fun b u e => ?_) (fun p hp => if_pos (inT p hp)) (.inr ⟨_, vs.toArray, _, look, rfl, rfl, rfl, by rw [List.size_toArray, sizes]; exact hl, by simpa using relV⟩)
      by_cases m : b ∈ cs.map (·.2)
      · rw [if_pos m] at e
        exact .inr ⟨m, (Option.some.inj e).symm⟩
      · rw [if_neg m] at e
        cases e
    | none =>
      refine from_ (fun b => if b = a then some (.frz { cls := .type "list", data := .seq vs.toArray } (.lst (ns.map V.int))) else if b ∈ cs.map (·.2) then some (.tbl #[]) else none) (fun b u e => ?_) (fun p hp => ?_) (.inl (.inr ⟨_, if_pos rfl⟩))
      · by_cases q : b = a
        · rw [if_pos q] at e
          exact .inl ⟨q, look, (Option.some.inj e).symm⟩
        · rw [if_neg q] at e
          by_cases m : b ∈ cs.map (·.2)
          · rw [if_pos m] at e
            exact .inr ⟨m, (Option.some.inj e).symm⟩
          · rw [if_neg m] at e
            cases e
      · have q : ¬ p.2 = a := fun q => apart (by rw [← q]; exact inT p hp)
        exact (if_neg q).trans (if_pos (inT p hp))
  intro H hH hT hS
  have held : HOk P w H z.heap := fun b u e => by
    rcases hH b u e with ⟨rfl, _, rfl⟩ | ⟨m, rfl⟩
    · exact ⟨ha, by rw [List.length_map]; exact hl, vs, _, relV, ha⟩
    · exact tabAt b m
  have unseen : ∀ {b : Addr} {o : Obj}, z.heap.get? b = some o → (∀ us n, o.data ≠ .seq us n) → o.data ≠ .fields #[] → H b = none := fun {b o} e h1 h2 => by
    cases q : H b with
    | none => rfl
    | some u =>
      rcases hH b u q with ⟨rfl, _, _⟩ | ⟨m, _⟩
      · rw [ha] at e
        cases e
        exact (h1 _ _ rfl).elim
      · rw [tabAt b m] at e
        cases e
        exact (h2 rfl).elim
  have hidden : ∀ {b : Addr} {m : Str → Option Value}, z.heap.Ns b m → (hidT z.heap H).Ns b m := by
    rintro b m ⟨o, es, ep, e, d, r⟩
    exact ⟨o, es, ep, hidT_get e (unseen e (fun us n q => by rw [d] at q; cases q) fun q => by rw [d] at q; cases q), d, r⟩
  have kIn : K.In (hidT z.heap H) := fun b o e => hidT_get (KX b o e) (by
    cases q : H b with
    | none => rfl
    | some u =>
      rcases hH b u q with ⟨rfl, n, _⟩ | ⟨m, _⟩
      · rw [n] at e
        cases e
      · obtain ⟨p, hp, rfl⟩ := List.mem_map.mp m
        rw [nT p hp] at e
        cases e)
  have md : Mod K mg (hidT z.heap H) := ⟨kIn, hidden hns, ⟨mb, hidden hb, hbb⟩, match lim with | ⟨mc, h1, h2⟩ => ⟨mc, hidden h1, h2⟩⟩
  have tb : ∀ p ∈ cs, LamX.TabB (hidT z.heap H) mg p.1 p.2 := fun p hp => by
    have at_ := tabs p hp
    obtain ⟨og, es, ep, eg, dg, _⟩ := id hns
    refine ⟨?_, ?_, fun q => ?_⟩
    · obtain ⟨o, us, file, tf, flags, tg, inF, text, tt, e1, r1, r2, r3, rest⟩ := hd p hp
      refine ⟨o, us, file, tf, flags, tg, inF, text, tt, hidT_get e1 (unseen e1 (fun us n q => by rw [r2] at q; cases q) fun q => ?_), r1, r2, r3, rest⟩
      rw [r2] at q
      cases q
      simp at r3
    · obtain ⟨bm, ob, b1, b2, b3, b4, b5, b6⟩ := bmn
      refine ⟨bm, ob, b1, b2, fun q => ?_, fun q => ?_, hidT_get b3 (unseen b3 (fun us n q => by rw [b6] at q; cases q) fun q => by rw [b6] at q; cases q), b4, b5, b6⟩
      · rw [q, eg] at b3
        cases b3
        rw [dg] at b6
        cases b6
      · rw [q, at_] at b3
        cases b3
        cases b6
    · rw [q, at_] at eg
      cases eg
      cases dg
  have none_in : ∀ b : Addr, b ∈ ([] : List Addr) → False := fun b m => by cases m
  have env0 : Env0 P w K mg (hidT z.heap H) callerA [] z H := ⟨rfl, md, fun b o e => of_hidT e, Nat.le_of_eq (hidT_size _ _), trivial, fun b m => (none_in b m).elim, held, .of_eq hg⟩
  refine codeAny_mono ((F _ kIn (hidden hns) tb).run callerA [] z H ⟨[.ref a], []⟩ [.ref a] [.ref a] _ _ rfl room env0 (bind1 z (.ref a)) (.cons rfl .nil) (told H hT hS)) fun r s' h => ?_
  match r, h with
  | .error e, h => exact (show False from h).elim
  | .ok .next, h => exact (show False from h).elim
  | .ok .brk, h => exact (show False from h).elim
  | .ok .cont, h => exact (show False from h).elim
  | .ok (.ret u), h =>
    obtain ⟨v, H', hos, bare, un, held', rv, rfl⟩ := h
    obtain rfl : u = Value.bool true := rv
    have kept : ∀ b o, b ∉ cs.map (·.2) → z.heap.get? b = some o → s'.heap.get? b = some o := fun b o nb e => by
      cases q : H b with
      | none => exact un.keep b o e q (none_in b) (none_in b)
      | some y =>
        rcases hH b y q with ⟨rfl, _, rfl⟩ | ⟨m, _⟩
        · have e1 := (held _ _ q).1
          rw [e] at e1
          rw [Option.some.inj e1]
          exact (held' _ _ (un.frzs _ _ _ q)).1
        · exact (nb m).elim
    have grown : ∀ p ∈ cs, ∃ more : Array Value, s'.heap.get? p.2 = some { cls := .none, data := .fields more } := fun p hp => by
      obtain ⟨more, q⟩ := un.tbls p.2 #[] (hT p hp)
      exact ⟨_, held' p.2 _ q⟩
    refine ⟨rfl, ⟨fun b o e => ?_, fun b o e => ?_⟩, hos, bare⟩
    · by_cases m : b ∈ cs.map (·.2)
      · obtain ⟨p, hp, rfl⟩ := List.mem_map.mp m
        obtain ⟨more, hm⟩ := grown p hp
        rw [tabs p hp] at e
        cases e
        exact .inr (.inl ⟨((hd p hp).tab (tabs p hp)).isCodeTable, rfl, #[], more, rfl, by rw [Array.empty_append]; exact hm⟩)
      · exact .inl (kept b o m e)
    · by_cases m : b ∈ cs.map (·.2)
      · obtain ⟨p, hp, rfl⟩ := List.mem_map.mp m
        obtain ⟨more, hm⟩ := grown p hp
        exact ⟨_, hm⟩
      · exact ⟨o, kept b o m e⟩
/-- what the end asks at the head's heap -/
def LawTG (l : PySem.W.OpenLaw) (w : World) (K : PySem.W.Frag) (k n : Nat) (x : Str) (mg : Str → Option Value) (fa : Addr) (h : Heap) : Prop :=
  ∃ (fd : FuncData) (cs : List (Addr × Addr)) (sp : Sp), (∀ p ∈ cs, h.get? p.2 = some { cls := .none, data := .fields #[] }) ∧ (∀ p ∈ cs, K.lookup p.2 = none) ∧ (∀ p ∈ cs, PySem.W.CodeHd h p.1 p.2) ∧ (∀ (s : Shared) (u : Value), BindsTo s fd ⟨[u], []⟩ [(x, u)]) ∧
    (∀ (H : Hp) (a : Addr) (ns : List Int), ns.length ≤ n → (∀ p ∈ cs, H p.2 = some (.tbl #[])) → SqL K H a (ns.map V.int) → sp [.ref a] H (fun v _ => v = .bl true) fun _ _ _ => False) ∧
    ∀ base : Heap, K.In base → base.Ns mainGlobals mg → (∀ p ∈ cs, LamX.TabB base mg p.1 p.2) → FnG l.prog w K mg base k fa fd [x] sp
theorem walk_ofTG {l : PySem.W.OpenLaw} {n k : Nat} {q : Program} {loose : List Str} {XP : (Str → Option Value) → Heap → Prop} {YP : World → Heap → Prop} {d : DefRec} {K : Params → PySem.W.Frag} {x : Str}
    (hn : l.most = some n) (hn2 : n ≤ sizeLine) (hdf : d.params.defaults = []) (room : Room k callerA) (hY : ∀ (w : World) (h : Heap), YP w h → (K w.params).In h)
    (F : ∀ (w : World) (mg : Str → Option Value) (fa : Addr) (h : Heap), YP w h → (K w.params).In h → h.Ns mainGlobals mg → mg d.name = some (.ref fa) → LawTG l w (K w.params) k n x mg fa h) :
    PySem.W.WalkO q loose XP YP l.row.toRowW d [] (fun f vs => PySem.call f vs) := by
  refine Att.attach_callB hn hdf fun w s₀ z mg mb fa o pm cd doc a vs ns G Y ho hd hcd hmg hobj hints hlen hbits hg => ?_
  have KX := hY w _ Y
  obtain ⟨fd, cs, sp, hT, nT, C, hb, told, hF⟩ := F w mg fa _ Y KX G.T.g hmg
  exact runTG KX G.T.g G.T.b G.T.builtins G.T.nolimit hg hT nT C G.T.bmain hobj hints (Nat.le_trans hlen hn2) room hF hb fun H hH hS => told H a ns hlen hH hS
end Un

namespace GT
open PySem
theorem runs_one {M : Model} {Γ : Ctx} {p : Pos} {t : Sem Fin} {fs : List Frame} {s s' : Shared} {e : End} (h : Runs M Γ p t fs s e s') : ∀ {e' : End} {s'' : Shared}, Runs M Γ p t fs s e' s'' → e = e' ∧ s' = s'' := by
  induction h with
  | done => intro e' s'' h2; cases h2; exact ⟨rfl, rfl⟩
  | raise => intro e' s'' h2; cases h2; exact ⟨rfl, rfl⟩
  | again _ _ ih => intro e' s'' h2; cases h2 with | again _ h => exact ih h
  | rule _ ih => intro e' s'' h2; cases h2 with | rule h => exact ih h
  | «at» _ ih => intro e' s'' h2; cases h2 with | «at» h => exact ih h
  | load e _ ih => intro e' s'' h2; cases h2 with | load e2 h => rw [e] at e2; cases e2; exact ih h
  | update _ _ ih => intro e' s'' h2; cases h2 with | update _ h => exact ih h
  | loadIfAlive _ ih => intro e' s'' h2; cases h2 with | loadIfAlive h => exact ih h
  | point _ ih => intro e' s'' h2; cases h2 with | point h => exact ih h
  | alloc _ ih => intro e' s'' h2; cases h2 with | alloc h => exact ih h
  | fresh _ ih => intro e' s'' h2; cases h2 with | fresh h => exact ih h
  | ask _ ih => intro e' s'' h2; cases h2 with | ask h => exact ih h
  | choose _ _ ih => intro e' s'' h2; cases h2 with | choose _ h => exact ih h
  | os _ ih => intro e' s'' h2; cases h2 with | os h => exact ih h
  | handled _ ih => intro e' s'' h2; cases h2 with | handled h => exact ih h
  | genState e _ ih => intro e' s'' h2; cases h2 with | genState e2 h => rw [e] at e2; cases e2; exact ih h
  | stack _ ih => intro e' s'' h2; cases h2 with | stack h => exact ih h
  | thread _ ih => intro e' s'' h2; cases h2 with | thread h => exact ih h
  | newGen _ ih => intro e' s'' h2; cases h2 with | newGen h => exact ih h
  | call _ _ ih1 ih2 =>
    intro e' s'' h2
    cases h2 with
    | call a b =>
      obtain ⟨e1, e2⟩ := ih1 a
      cases e1
      subst e2
      exact ih2 b
    | callSusp a => cases (ih1 a).1
  | callSusp _ ih1 =>
    intro e' s'' h2
    cases h2 with
    | call a b => cases (ih1 a).1
    | callSusp a =>
      obtain ⟨e1, e2⟩ := ih1 a
      cases e1
      subst e2
      exact ⟨rfl, rfl⟩
  | yield => intro e' s'' h2; cases h2; exact ⟨rfl, rfl⟩
  | resumeFresh e _ _ _ ih1 ih2 =>
    intro e' s'' h2
    cases h2 with
    | resumeFresh a b _ c =>
      rw [e] at a; cases a
      obtain ⟨e1, e2⟩ := ih1 b
      subst e1; subst e2
      exact ih2 c
    | resumeSuspended a => rw [e] at a; cases a
    | resumeRunning a => rw [e] at a; cases a
    | resumeFinished a => rw [e] at a; cases a
    | resumeJustStarted a hv => exact absurd rfl hv
  | resumeSuspended e _ _ _ ih1 ih2 =>
    intro e' s'' h2
    cases h2 with
    | resumeSuspended a b _ c =>
      rw [e] at a; cases a
      obtain ⟨e1, e2⟩ := ih1 b
      subst e1; subst e2
      exact ih2 c
    | resumeFresh a => rw [e] at a; cases a
    | resumeRunning a => rw [e] at a; cases a
    | resumeFinished a => rw [e] at a; cases a
    | resumeJustStarted a _ _ => rw [e] at a; cases a
    | resumeThrowFresh a _ => rw [e] at a; cases a
  | resumeJustStarted e hv _ ih =>
    intro e' s'' h2
    cases h2 with
    | resumeJustStarted a _ b => exact ih b
    | resumeFresh a => exact absurd rfl hv
    | resumeSuspended a => rw [e] at a; cases a
    | resumeRunning a => rw [e] at a; cases a
    | resumeFinished a => rw [e] at a; cases a
  | resumeThrowFresh e _ ih =>
    intro e' s'' h2
    cases h2 with
    | resumeThrowFresh a b => exact ih b
    | resumeSuspended a => rw [e] at a; cases a
    | resumeRunning a => rw [e] at a; cases a
    | resumeFinished a => rw [e] at a; cases a
  | resumeRunning e _ ih =>
    intro e' s'' h2
    cases h2 with
    | resumeRunning a b => exact ih b
    | resumeFresh a => rw [e] at a; cases a
    | resumeSuspended a => rw [e] at a; cases a
    | resumeJustStarted a _ _ => rw [e] at a; cases a
    | resumeThrowFresh a _ => rw [e] at a; cases a
    | resumeFinished a => rw [e] at a; cases a
  | resumeFinished e _ ih =>
    intro e' s'' h2
    cases h2 with
    | resumeFinished a b => exact ih b
    | resumeFresh a => rw [e] at a; cases a
    | resumeSuspended a => rw [e] at a; cases a
    | resumeJustStarted a _ _ => rw [e] at a; cases a
    | resumeThrowFresh a _ => rw [e] at a; cases a
    | resumeRunning a => rw [e] at a; cases a
  | segRet _ _ ih1 ih2 =>
    intro e' s'' h2
    cases h2 with
    | segRet a b =>
      obtain ⟨e1, e2⟩ := ih1 a
      cases e1; subst e2
      exact ih2 b
    | segSuspOut _ a => cases (ih1 a).1
    | segSuspGen _ a => cases (ih1 a).1
  | segGen _ _ ih1 ih2 =>
    intro e' s'' h2
    cases h2 with
    | segGen a b =>
      obtain ⟨e1, e2⟩ := ih1 a
      cases e1; subst e2
      exact ih2 b
    | segSuspOut _ a => cases (ih1 a).1
    | segSuspGen _ a => cases (ih1 a).1
  | segSuspOut n _ ih1 =>
    intro e' s'' h2
    cases h2 with
    | segRet a b => cases (ih1 a).1
    | segGen a b => cases (ih1 a).1
    | segSuspOut _ a =>
      obtain ⟨e1, e2⟩ := ih1 a
      cases e1; subst e2
      exact ⟨rfl, rfl⟩
    | segSuspGen m => rw [n] at m; cases m
  | segSuspGen n _ _ _ ih1 ih2 =>
    intro e' s'' h2
    cases h2 with
    | segRet a b => cases (ih1 a).1
    | segGen a b => cases (ih1 a).1
    | segSuspOut m => rw [n] at m; cases m
    | segSuspGen m a _ b =>
      rw [n] at m; cases m
      obtain ⟨e1, e2⟩ := ih1 a
      cases e1; subst e2
      exact ih2 b
theorem wakes_one {M : Model} {Γ : Ctx} {p : Pos} {g : Nat} {r : Resume} {s s' s'' : Shared} {x y : GenResult} (h : Wakes M Γ p g r s x s') (h2 : Wakes M Γ p g r s y s'') : x = y ∧ s' = s'' := by
  unfold Wakes at h h2
  split at h
  · exact h.elim
  · rename_i c e
    rw [e] at h2
    simp only at h2
    split at h
    · obtain ⟨e1, s1, h1, _, rfl, rfl⟩ := h
      obtain ⟨e2, s2, h2, _, rfl, rfl⟩ := h2
      obtain ⟨q1, q2⟩ := runs_one h1 h2
      subst q1; subst q2
      exact ⟨rfl, rfl⟩
    · rename_i v hv
      split at h2
      · rename_i z; injection z with z; exact (hv z).elim
      · exact ⟨h.1.trans h2.1.symm, h.2.trans h2.2.symm⟩
      · rename_i z; cases z
    · exact ⟨h.1.trans h2.1.symm, h.2.trans h2.2.symm⟩
  · rename_i e
    rw [e] at h2
    obtain ⟨e1, s1, h1, _, rfl, rfl⟩ := h
    obtain ⟨e2, s2, h2, _, rfl, rfl⟩ := h2
    obtain ⟨q1, q2⟩ := runs_one h1 h2
    subst q1; subst q2
    exact ⟨rfl, rfl⟩
  · rename_i e
    rw [e] at h2
    exact ⟨h.1.trans h2.1.symm, h.2.trans h2.2.symm⟩
  · rename_i e
    rw [e] at h2
    exact ⟨h.1.trans h2.1.symm, h.2.trans h2.2.symm⟩
theorem wp_both {α : Type} (M : Model) (Γ : Ctx) (t : Sem α) : ∀ (Q Q' : α → Pos → Shared → Prop) (E E' : Value → Pos → Shared → Prop) (p : Pos) (s : Shared), Sem.wp M Γ t Q E p s → Sem.wp M Γ t Q' E' p s →
    Sem.wp M Γ t (fun a p' s' => Q a p' s' ∧ Q' a p' s') (fun e p' s' => E e p' s' ∧ E' e p' s') p s := by
  induction t with
  | pure a => intro Q Q' E E' p s h h'; exact ⟨h, h'⟩
  | raise e => intro Q Q' E E' p s h h'; exact ⟨h, h'⟩
  | unsupported _ => intro Q Q' E E' p s h h'; exact h
  | finish _ => intro Q Q' E E' p s h h'; exact h
  | rule _ k ih => intro Q Q' E E' p s h h'; exact ih () Q Q' E E' p s h h'
  | «at» p' k ih => intro Q Q' E E' p s h h'; exact ih () Q Q' E E' p' s h h'
  | load a _ k ih => intro Q Q' E E' p s h h'; obtain ⟨o, ho, h⟩ := h; obtain ⟨o2, ho2, h'⟩ := h'; rw [ho] at ho2; cases ho2; exact ⟨o, ho, ih o Q Q' E E' p s h h'⟩
  | update a _ f k ih => intro Q Q' E E' p s h h'; exact ⟨h.1, ih () Q Q' E E' p _ h.2 h'.2⟩
  | loadIfAlive a k ih => intro Q Q' E E' p s h h'; exact ih _ Q Q' E E' p s h h'
  | point _ k ih => intro Q Q' E E' p s h h'; exact ih () Q Q' E E' p s h h'
  | register _ _ => intro Q Q' E E' p s h h'; exact h
  | alloc o k ih => intro Q Q' E E' p s h h'; exact ih _ Q Q' E E' p _ h h'
  | fresh k ih => intro Q Q' E E' p s h h'; exact ih _ Q Q' E E' p _ h h'
  | ask k ih => intro Q Q' E E' p s h h'; exact ih _ Q Q' E E' p s h h'
  | choose src m k ih => intro Q Q' E E' p s h h'; exact ⟨h.1, ih _ Q Q' E E' p _ h.2 h'.2⟩
  | os q _ k ih => intro Q Q' E E' p s h h'; exact ih _ Q Q' E E' p _ h h'
  | call c hd _ _ k ih =>
    intro Q Q' E E' p s h h'
    obtain ⟨r, s1, hr, h⟩ := h
    obtain ⟨r2, s2, hr2, h'⟩ := h'
    obtain ⟨e1, e2⟩ := runs_one hr hr2
    cases e1; subst e2
    exact ⟨r, s1, hr, ih r Q Q' E E' p s1 h h'⟩
  | handled own k ih => intro Q Q' E E' p s h h'; exact ih _ Q Q' E E' p s h h'
  | genState g k ih => intro Q Q' E E' p s h h'; obtain ⟨st, hs, h⟩ := h; obtain ⟨st2, hs2, h'⟩ := h'; rw [hs] at hs2; cases hs2; exact ⟨st, hs, ih _ Q Q' E E' p s h h'⟩
  | newGen c k ih => intro Q Q' E E' p s h h'; exact ih _ Q Q' E E' p _ h h'
  | resume g r _ k ih =>
    intro Q Q' E E' p s h h'
    obtain ⟨res, s1, hw, h⟩ := h
    obtain ⟨res2, s2, hw2, h'⟩ := h'
    obtain ⟨e1, e2⟩ := wakes_one hw hw2
    subst e1; subst e2
    exact ⟨res, s1, hw, ih res Q Q' E E' p s1 h h'⟩
  | yield _ _ _ _ => intro Q Q' E E' p s h h'; exact h
  | stack k ih => intro Q Q' E E' p s h h'; exact ih _ Q Q' E E' p s h h'
  | fork _ _ => intro Q Q' E E' p s h h'; exact h
  | thread k ih => intro Q Q' E E' p s h h'; exact ih _ Q Q' E E' p s h h'
  | await _ _ _ _ _ => intro Q Q' E E' p s h h'; exact h
section
variable {α : Type} {M : Model} {A : Around} {s : Shared} {t : Sem α} {Q Q' : α → Shared → Prop} {E E' : Value → Shared → Prop}
/-- a run is one: what two promises say of it holds together -/
theorem both (h : wpAny M A t Q E s) (h' : wpAny M A t Q' E' s) : wpAny M A t (fun a s' => Q a s' ∧ Q' a s') (fun e s' => E e s' ∧ E' e s') s :=
  fun Γ p hΓ => wp_both M Γ t _ _ _ _ p s (h Γ p hΓ) (h' Γ p hΓ)
theorem bothT (h : wpAny M A t Q E s) (h' : wpAny M A t Q' (fun _ _ => True) s) {R : α → Shared → Prop} (f : ∀ a s', Q a s' → Q' a s' → R a s') : wpAny M A t R E s :=
  wpAny_mono (both h h') (fun a s' x => f a s' x.1 x.2) fun e s' x => x.1
theorem both_code {c : Code} {R R' : Result → Shared → Prop} (h : codeAny M A c R s) (h' : codeAny M A c R' s) : codeAny M A c (fun r s' => R r s' ∧ R' r s') s := fun Γ p hc hΓ => by
  obtain ⟨r, s1, hr, q⟩ := h Γ p hc hΓ
  obtain ⟨r2, s2, hr2, q'⟩ := h' Γ p hc hΓ
  obtain ⟨e1, e2⟩ := runs_one hr hr2
  cases e1; subst e2
  exact ⟨r, s1, hr, q, q'⟩
end
end GT

/-! UnGA: walks that know of each text that its token is a right one: the invariant, the judgements, what stays. -/
namespace GT
open PySem PySem.Spec PyProof.Rows Un

/-- the mark's token, and a bound of all tokens at the start -/
structure TK where
  t : Nat
  n : Nat
  lt : t < n
/-- a value that is no text with a wrong token: not none at all, not the one of the mark unless it is the mark, none that is still to come -/
def Gv (T : TK) (b : Nat) : Value → Prop
  | .str x t => t ≠ 0 ∧ (t = T.t → x = "@") ∧ t < b
  | _ => True
theorem Gv.new {T : TK} {b : Nat} {x : Str} (h : T.n ≤ b) : Gv T (b + 1) (.str x b) :=
  ⟨Nat.ne_of_gt (Nat.lt_of_le_of_lt (Nat.zero_le T.t) (Nat.lt_of_lt_of_le T.lt h)), fun e => absurd e (Nat.ne_of_gt (Nat.lt_of_lt_of_le T.lt h)), Nat.lt_succ_self b⟩
theorem Gv.at {T : TK} {b c : Nat} {x : Str} (h : T.n ≤ c) (l : c < b) : Gv T b (.str x c) :=
  ⟨Nat.ne_of_gt (Nat.lt_of_le_of_lt (Nat.zero_le T.t) (Nat.lt_of_lt_of_le T.lt h)), fun e => absurd e (Nat.ne_of_gt (Nat.lt_of_lt_of_le T.lt h)), l⟩
theorem Gv.up {T : TK} {b c : Nat} {v : Value} (g : Gv T b v) (h : b ≤ c) : Gv T c v := by
  cases v with
  | str x t => exact ⟨g.1, g.2.1, Nat.lt_of_lt_of_le g.2.2 h⟩
  | _ => exact trivial
/-- what an object holds -/
def Gd (T : TK) (b : Nat) : Data → Prop
  | .seq its _ => ∀ v ∈ its.toList, Gv T b v
  | .dict es _ => ∀ e ∈ es.toList, Gv T b e.val
  | _ => True
def Od (T : TK) (b : Nat) (h : Heap) (a : Addr) : Prop := ∃ o, h.get? a = some o ∧ Gd T b o.data
/-- the keys of a dict -/
def Gk (T : TK) (b : Nat) : Data → Prop
  | .dict es _ => ∀ e ∈ es.toList, Gv T b e.key
  | _ => True
def Ok2 (T : TK) (b : Nat) (h : Heap) (a : Addr) : Prop := ∃ o, h.get? a = some o ∧ Gd T b o.data ∧ Gk T b o.data
/-- what a namespace's names hold -/
def Ng (T : TK) (b : Nat) (h : Heap) (a : Addr) : Prop := ∃ m, h.Ns a m ∧ ∀ x u, m x = some u → Gv T b u
theorem Ng.get {T : TK} {bb : Nat} {h : Heap} {a : Addr} {m : Str → Option Value} (x : Ng T bb h a) (n : h.Ns a m) {f : Str} {u : Value} (e : m f = some u) : Gv T bb u := by
  obtain ⟨m2, ⟨o2, es2, ep2, e2, d2, _, f2⟩, g⟩ := x
  obtain ⟨o1, es1, ep1, e1, d1, _, f1⟩ := n
  rw [e1] at e2
  cases e2
  rw [d1] at d2
  cases d2
  exact g f u (by rw [← f2, f1, e])
def Og (T : TK) (b : Nat) (h : Heap) (a : Addr) : L2.HO → Prop
  | .lst _ => Od T b h a
  | .tup _ => Od T b h a
  | .dK _ => Ok2 T b h a
  | .dT _ => Od T b h a
  | .xd _ => Ng T b h a
  | .ins _ dx _ => Ng T b h dx
  | .frz ob _ => Gd T b ob.data
  | _ => True
section
variable {T : TK} {bb : Nat} {h h' : Heap} {a : Addr} {o : L2.HO}
theorem Od.kept (x : Od T bb h a) (k : ∀ b u, h.get? b = some u → h'.get? b = some u) : Od T bb h' a := by
  obtain ⟨o, e, g⟩ := x
  exact ⟨o, k a o e, g⟩
theorem Ok2.kept (x : Ok2 T bb h a) (k : ∀ b u, h.get? b = some u → h'.get? b = some u) : Ok2 T bb h' a := by
  obtain ⟨o, e, g⟩ := x
  exact ⟨o, k a o e, g⟩
theorem Ng.kept (x : Ng T bb h a) (k : ∀ b u, h.get? b = some u → h'.get? b = some u) : Ng T bb h' a := by
  obtain ⟨m, n, g⟩ := x
  exact ⟨m, n.keeps k, g⟩
theorem Ng.one (x : Ng T bb h a) (k : ∀ o, h.get? a = some o → h'.get? a = some o) : Ng T bb h' a := by
  obtain ⟨m, ⟨o, es, ep, e, r⟩, g⟩ := x
  exact ⟨m, ⟨o, es, ep, k o e, r⟩, g⟩
theorem Og.kept (x : Og T bb h a o) (k : ∀ b u, h.get? b = some u → h'.get? b = some u) : Og T bb h' a o := by
  cases o with
  | lst _ => exact Od.kept x k
  | tup _ => exact Od.kept x k
  | dK _ => exact Ok2.kept x k
  | dT _ => exact Od.kept x k
  | xd _ => exact Ng.kept x k
  | ins _ _ _ => exact Ng.kept x k
  | frz _ u => exact x
  | _ => exact True.intro
/-- what it leans on: its own object, its own dict -/
theorem Og.stay {P : Program} {w : World} {H : L2.Hp} (x : Og T bb h a o) (ok : L2.ObjOk P w H h a o) (k : ∀ b u, (b = a ∨ H b = some (.own a)) → h.get? b = some u → h'.get? b = some u) : Og T bb h' a o := by
  have self : Od T bb h a → Od T bb h' a := fun ⟨o, q, g⟩ => ⟨o, k _ _ (.inl rfl) q, g⟩
  have self2 : Ok2 T bb h a → Ok2 T bb h' a := fun ⟨o, q, g⟩ => ⟨o, k _ _ (.inl rfl) q, g⟩
  cases o with
  | lst _ => exact self x
  | tup _ => exact self x
  | dK _ => exact self2 x
  | dT _ => exact self x
  | xd _ => exact Ng.one x fun o q => k _ _ (.inl rfl) q
  | ins C dx fs =>
    obtain ⟨d, _⟩ := ok
    exact Ng.one (show Ng T bb h dx from x) fun o q => k _ _ (.inr d) q
  | frz ob u => exact x
  | _ => exact True.intro
end
/-- what stands in the module's lists and tuples -/
def Kg (T : TK) (K : PySem.W.Frag) : Prop := ∀ a o its n, K.lookup a = some o → o.data = .seq its n → ∀ v ∈ its.toList, Gv T T.n v

section
variable {T : TK} {b c : Nat} {h : Heap} {a : Addr} {o : L2.HO}
theorem Gd.up {d : Data} (x : Gd T b d) (l : b ≤ c) : Gd T c d := by
  cases d with
  | seq its n => exact fun v hv => (show ∀ v ∈ its.toList, Gv T b v from x) v hv |>.up l
  | dict es n => exact fun e he => ((show ∀ e ∈ es.toList, Gv T b e.val from x) e he).up l
  | _ => exact trivial
theorem Gk.up {d : Data} (x : Gk T b d) (l : b ≤ c) : Gk T c d := by
  cases d with
  | dict es n => exact fun e he => ((show ∀ e ∈ es.toList, Gv T b e.key from x) e he).up l
  | _ => exact trivial
theorem Od.up (x : Od T b h a) (l : b ≤ c) : Od T c h a := by
  obtain ⟨o, e, g⟩ := x
  exact ⟨o, e, g.up l⟩
theorem Ok2.up (x : Ok2 T b h a) (l : b ≤ c) : Ok2 T c h a := by
  obtain ⟨o, e, g, k⟩ := x
  exact ⟨o, e, g.up l, k.up l⟩
theorem Ng.up (x : Ng T b h a) (l : b ≤ c) : Ng T c h a := by
  obtain ⟨m, n, g⟩ := x
  exact ⟨m, n, fun x u e => (g x u e).up l⟩
theorem Og.up (x : Og T b h a o) (l : b ≤ c) : Og T c h a o := by
  cases o with
  | lst _ => exact Od.up x l
  | tup _ => exact Od.up x l
  | dK _ => exact Ok2.up x l
  | dT _ => exact Od.up x l
  | xd _ => exact Ng.up x l
  | ins _ _ _ => exact Ng.up x l
  | frz ob u => exact Gd.up (show Gd T b ob.data from x) l
  | _ => exact True.intro
end

/-- the layer's invariant, and right tokens wherever a text stands -/
structure Inv (T : TK) (X : L2.Cx) (pins : List (Addr × Obj)) (σ : L2.St) (H : L2.Hp) (s : Shared) : Prop where
  i : L2.Inv X pins σ H s
  t : T.n ≤ s.toks
  l : ∀ m, s.heap.Ns X.env.locals m → ∀ (i : Nat) x v u, X.N[i]? = some x → σ[i]? = some (some v) → X.env.scope.names.lookup x = some .local → m x = some u → Gv T s.toks u
  c : ∀ x c v, X.env.cells.lookup x = some c → s.heap.IsCell c (some v) → Gv T s.toks v
  h : ∀ a o, H a = some o → Og T s.toks s.heap a o
  k : Kg T X.K
section
variable {T : TK} {X : L2.Cx} {pins : List (Addr × Obj)} {σ σ' : L2.St} {H H' : L2.Hp} {s s' : Shared} {h' : Heap}
/-- the same data at an address -/
def Sd (h h' : Heap) (a : Addr) : Prop := ∀ o, h.get? a = some o → ∃ o', h'.get? a = some o' ∧ o'.data = o.data
theorem Sd.ns {a : Addr} {m : Str → Option Value} {h h' : Heap} {o : Obj} (k : Sd h h' a) (there : h.get? a = some o) (n : h'.Ns a m) : h.Ns a m := by
  obtain ⟨o1, es, ep, e1, d1, r⟩ := n
  obtain ⟨o', e', d'⟩ := k o there
  rw [e'] at e1
  cases e1
  exact ⟨o, es, ep, there, by rw [← d', d1], r⟩
theorem Sd.cell {c : Addr} {v : Option Value} {h h' : Heap} {o : Obj} (k : Sd h h' c) (there : h.get? c = some o) (n : h'.IsCell c v) : h.IsCell c v := by
  obtain ⟨o1, e1, d1⟩ := n
  obtain ⟨o', e', d'⟩ := k o there
  rw [e'] at e1
  cases e1
  exact ⟨o, there, by rw [← d', d1]⟩
theorem Inv.toL (I : Inv T X pins σ H s) : ∃ o, s.heap.get? X.env.locals = some o := by
  obtain ⟨m, ⟨o, _, _, e, _⟩, _⟩ := I.i.loc
  exact ⟨o, e⟩
theorem Inv.toC (I : Inv T X pins σ H s) {x : Str} {c : Addr} (e : X.env.cells.lookup x = some c) : ∃ o, s.heap.get? c = some o := by
  obtain ⟨v, o, e', _⟩ := I.i.cell x c e
  exact ⟨o, e'⟩
/-- behind a step: the frame's data and the cells' as they were -/
theorem Inv.step (I : Inv T X pins σ H s) (J : L2.Inv X pins σ H' s') (ht : s.toks ≤ s'.toks) (kl : Sd s.heap s'.heap X.env.locals) (kc : ∀ x c, X.env.cells.lookup x = some c → Sd s.heap s'.heap c)
    (hh : ∀ a o, H' a = some o → Og T s'.toks s'.heap a o) : Inv T X pins σ H' s' where
  i := J
  t := Nat.le_trans I.t ht
  l := fun m hn => by
    obtain ⟨o, e⟩ := I.toL
    exact fun i x v u hN hs hk q => (I.l m (kl.ns e hn) i x v u hN hs hk q).up ht
  c := fun x c v e hc => by
    obtain ⟨o, e'⟩ := I.toC e
    exact (I.c x c v e ((kc x c e).cell e' hc)).up ht
  h := hh
  k := I.k
theorem Inv.tok (I : Inv T X pins σ H s) {n : Nat} (hn : s.toks ≤ n) : Inv T X pins σ H { s with toks := n } :=
  I.step (I.i.tok n) hn (fun o e => ⟨o, e, rfl⟩) (fun _ _ _ o e => ⟨o, e, rfl⟩) fun a o e => (I.h a o e).up hn
theorem Inv.up (I : Inv T X pins σ H s) : Inv T X pins σ H { s with toks := s.toks + 1 } := I.tok (Nat.le_succ _)
/-- all objects are kept -/
theorem Inv.kept {t' : Nat} (I : Inv T X pins σ H s) (k : ∀ b u, s.heap.get? b = some u → h'.get? b = some u) (hn : s.toks ≤ t') : Inv T X pins σ H { s with heap := h', toks := t' } :=
  I.step (I.i.kept k) hn (fun o e => ⟨o, k _ _ e, rfl⟩) (fun _ _ _ o e => ⟨o, k _ _ e, rfl⟩) fun a o e => ((I.h a o e).kept k).up hn
/-- a new object is laid and tracked -/
theorem Inv.laid {a : Addr} {o : L2.HO} {t' : Nat} (I : Inv T X pins σ H s) (k : ∀ b u, s.heap.get? b = some u → h'.get? b = some u) (hp : s.heap.objs.size ≤ a) (new : L2.ObjOk X.prog X.w (L2.upd H a o) h' a o) (g : Og T t' h' a o) (hn : s.toks ≤ t') :
    Inv T X pins σ (L2.upd H a o) { s with heap := h', toks := t' } :=
  I.step (I.i.laid k hp new) hn (fun o e => ⟨o, k _ _ e, rfl⟩) (fun _ _ _ o e => ⟨o, k _ _ e, rfl⟩) fun b u e => by
    by_cases hb : b = a
    · subst hb
      rw [L2.upd_same] at e
      cases e
      exact g
    · rw [L2.upd_ne hb] at e
      exact ((I.h b u e).kept k).up hn
/-- an untracked record of ours has turned -/
theorem Inv.turned {t' : Nat} {it : Addr} (I : Inv T X pins σ H s) (k : ∀ b o, b ≠ it → s.heap.get? b = some o → h'.get? b = some o) (f : L2.FpOk X pins H it) (hn : s.toks ≤ t') : Inv T X pins σ H { s with heap := h', toks := t' } := by
  obtain ⟨f0, f1, f2, f3, f4, f5⟩ := f
  refine I.step (I.i.turned (t' := t') k f0 f1 f3 f4 f5) hn (fun o e => ⟨o, k _ _ (Ne.symm f1) e, rfl⟩) (fun x c e o e' => ⟨o, k _ _ (f4 x c e) e', rfl⟩) fun a o e => ?_
  refine (Og.stay (I.h a o e) (I.i.hok a o e) fun b u hb q => k b u ?_ q).up hn
  rintro rfl
  rcases hb with rfl | hb
  · rw [f0] at e; cases e
  · rw [f0] at hb; cases hb
/-- a tracked object is written -/
theorem Inv.write {x e : Addr} {o : L2.HO} {t' : Nat} (I : Inv T X pins σ H s) (mu : L2.Mut (H x)) (he : e = x ∨ H e = some (.own x)) (k : ∀ b u, b ≠ e → s.heap.get? b = some u → h'.get? b = some u) (heo : ∃ u, h'.get? e = some u)
    (new : L2.ObjOk X.prog X.w (L2.upd H x o) h' x o) (g : Og T t' h' x o) (hn : s.toks ≤ t') : Inv T X pins σ (L2.upd H x o) { s with heap := h', toks := t' } := by
  have hx : ∀ b, H b = none → b ≠ e := fun b n z => by
    subst z
    rcases he with r | r
    · rw [← r, n] at mu; exact mu
    · rw [n] at r; cases r
  refine I.step (I.i.write (t' := t') mu he k heo new) hn (fun o q => ⟨o, k _ _ (hx _ I.i.free) q, rfl⟩) (fun y c q o q' => ⟨o, k _ _ (hx _ (I.i.freeC y c q)) q', rfl⟩) fun b u q => ?_
  by_cases hb : b = x
  · subst hb
    rw [L2.upd_same] at q
    cases q
    exact g
  · rw [L2.upd_ne hb] at q
    by_cases hbe : b = e
    · rcases he with z | z
      · exact absurd (hbe.trans z) hb
      · rw [hbe, z] at q
        cases q
        exact True.intro
    refine (Og.stay (I.h b u q) (I.i.hok b u q) fun c v hc r => ?_).up hn
    refine k c v ?_ r
    rintro rfl
    rcases hc with rfl | hc
    · exact hbe rfl
    · rcases he with z | z
      · rw [z] at hc
        rw [hc] at mu
        exact mu
      · rw [hc] at z
        cases z
        exact hb rfl
/-- behind a call -/
theorem Inv.call {ch : List Addr} (I : Inv T X pins σ H s) (ho : s'.os = s.os) (u : L2.Un (L2.frs X.stack) ch H H' s.heap s'.heap) (hok : L2.HOk X.prog X.w H' s'.heap) (hg : AllBare s'.gens)
    (hch : ∀ b ∈ ch, (b ∈ X.ex ∨ X.s_0.heap.objs.size ≤ b) ∧ b ≠ X.env.locals ∧ (∀ x c, X.env.cells.lookup x = some c → c ≠ b) ∧ ∀ p ∈ X.pn ++ pins, p.1 ≠ b) (ht : s.toks ≤ s'.toks) (hh : ∀ a o, H' a = some o → Og T s'.toks s'.heap a o) : Inv T X pins σ H' s' := by
  refine I.step (I.i.call' ho u hok hg hch) ht (fun o e => ?_) (fun x c e o e' => ?_) hh
  · obtain ⟨sl, q⟩ := u.any e I.i.free fun z => (hch _ z).2.1 rfl
    exact ⟨_, q, rfl⟩
  · obtain ⟨sl, q⟩ := u.any e' (I.i.freeC x c e) fun z => (hch _ z).2.2.1 x c e rfl
    exact ⟨_, q, rfl⟩
theorem Inv.weak {σ' : L2.St} (I : Inv T X pins σ H s) (hl : σ'.length = σ.length) (w : ∀ (i : Nat) v, σ'[i]? = some (some v) → σ[i]? = some (some v)) : Inv T X pins σ' H s :=
  ⟨I.i.weak hl w, I.t, fun m hn i x v u hN e hk q => I.l m hn i x v u hN (w i v e) hk q, I.c, I.h, I.k⟩
theorem Inv.pins_of {pins' : List (Addr × Obj)} (I : Inv T X pins σ H s) (J : L2.Inv X pins' σ H s) : Inv T X pins' σ H s := ⟨J, I.t, I.l, I.c, I.h, I.k⟩
/-- a name is stored -/
theorem store_ok {M : Model} {A : Around} {E : Value → Shared → Prop} {i : Nat} {x : Str} {v : L2.V} {u : Value} {Q : Unit → Shared → Prop} (I : Inv T X pins σ H s) (hN : X.N.Nodup) (hi : X.N[i]? = some x) (hx : L2.Loc X.env.scope x) (r : L2.RelV v u) (g : Gv T s.toks u)
    (h : ∀ s', Inv T X pins (σ.set i (some v)) H s' → Q () s') (hf : X.fn x = true ∨ X.env.scope.names.lookup x = some .local := by first | exact .inl rfl | exact .inr rfl | assumption) : wpAny M A (storeName X.env x u) Q E s := by
  obtain ⟨o, toL⟩ := I.toL
  have base : wpAny M A (storeName X.env x u) (fun _ s' => L2.Inv X pins (σ.set i (some v)) H s' ∧ ∃ a, Heap.SameBut a s.heap s'.heap ∧ (a = X.env.locals ∨ X.env.cells.lookup x = some a)) (fun _ _ => False) s := L2.store_ok2 I.i hN hi hx r (fun s' J z => ⟨J, z⟩) hf
  have raw : wpAny M A (storeName X.env x u) (fun _ s' => (∀ m, s'.heap.Ns X.env.locals m → ∀ (j : Nat) y z w, X.N[j]? = some y → (σ.set i (some v))[j]? = some (some z) → X.env.scope.names.lookup y = some .local → m y = some w → Gv T s.toks w) ∧ ∀ y c w, X.env.cells.lookup y = some c → s'.heap.IsCell c (some w) → Gv T s.toks w) (fun _ _ => True) s := by
    obtain ⟨m, hn, _⟩ := id I.i.loc
    rcases hx with hk | hk
    · refine wpAny_storeName_local hk hn (fun h' hn' sb => ⟨fun m' hm j y z w jN js jk e => ?_, fun y c w e hc => ?_⟩) (by rw [I.i.ok.kind]; rfl)
      · have em : m' y = (fun z => if z = x then some u else m z) y := by
          obtain ⟨o1, es1, ep1, e1, d1, _, f1⟩ := hm
          obtain ⟨o2, es2, ep2, e2, d2, _, f2⟩ := hn'
          rw [e1] at e2
          cases e2
          rw [d1] at d2
          cases d2
          rw [← f1, ← f2]
        rw [em] at e
        dsimp only at e
        by_cases hy : y = x
        · rw [if_pos hy] at e
          cases e
          exact g
        · rw [if_neg hy] at e
          have ji : i ≠ j := fun q => hy (by subst q; rw [hi] at jN; exact (Option.some.inj jN).symm)
          rw [List.getElem?_set_ne ji] at js
          exact I.l m hn j y z w jN js jk e
      · obtain ⟨o', e'⟩ := I.toC e
        refine I.c y c w e ?_
        obtain ⟨o1, e1, d1⟩ := hc
        exact ⟨o1, by rw [← sb.2 c (I.i.cne y c e)]; exact e1, d1⟩
    · obtain ⟨c0, hc0⟩ := I.i.ok.has x (.inl hk)
      obtain ⟨w0, z⟩ := I.i.cell x c0 hc0
      refine wpAny_storeName_cell I.i.ok.kind hk hc0 z fun h' hc' sb => ⟨fun m' hm j y z w jN js jk e => ?_, fun y c w e hc => ?_⟩
      · have ji : i ≠ j := fun q => by
          subst q
          rw [hi] at jN
          cases jN
          rw [show X.env.scope.names.lookup x = some .cell from hk] at jk
          cases jk
        rw [List.getElem?_set_ne ji] at js
        refine I.l m' ?_ j y z w jN js jk e
        obtain ⟨o1, es1, ep1, e1, r1⟩ := hm
        exact ⟨o1, es1, ep1, by rw [← sb.2 _ (Ne.symm (I.i.cne x c0 hc0))]; exact e1, r1⟩
      · by_cases q : c = c0
        · subst q
          obtain ⟨o1, e1, d1⟩ := hc
          obtain ⟨o2, e2, d2⟩ := hc'
          rw [e1] at e2
          cases e2
          rw [d1] at d2
          cases d2
          exact g
        · refine I.c y c w e ?_
          obtain ⟨o1, e1, d1⟩ := hc
          exact ⟨o1, by rw [← sb.2 c q]; exact e1, d1⟩
  refine wpAny_mono (wpAny_toks (both base raw)) (fun _ s' z => ?_) fun _ _ z => z.2.1.elim
  obtain ⟨hk, ⟨J, a, sb, ha⟩, lc1, lc2⟩ := z
  refine h s' ⟨J, Nat.le_trans I.t hk, fun m hm j y z w jN js jk e => (lc1 m hm j y z w jN js jk e).up hk, fun y c w e hc => (lc2 y c w e hc).up hk, fun b o e => ?_, I.k⟩
  refine (Og.stay (I.h b o e) (I.i.hok b o e) fun c w hc q => (sb.2 c ?_).trans q).up hk
  rintro rfl
  rcases ha with z | z
  · rcases hc with rfl | hc
    · rw [z, I.i.free] at e; cases e
    · rw [z, I.i.free] at hc; cases hc
  · rcases hc with rfl | hc
    · rw [I.i.freeC x _ z] at e; cases e
    · rw [I.i.freeC x _ z] at hc; cases hc
end
end GT

/-! UnGB: the judgements and the rules of expressions and statements. -/
namespace GT
open PySem PySem.Spec PyProof.Rows L2 Un
abbrev St := L2.St
/-- tokens only grow -/
theorem up {α : Type} {M : Model} {A : Around} {s : Shared} {t : Sem α} {Q : α → Shared → Prop} {E : Value → Shared → Prop} (h : wpAny M A t Q E s) : wpAny M A t (fun a s' => s.toks ≤ s'.toks ∧ Q a s') E s :=
  wpAny_mono (wpAny_toks h) (fun _ _ x => x) fun _ _ x => x.2
theorem grownC {M : Model} {A : Around} {s : Shared} {c : Code} {R : Result → Shared → Prop} (h : codeAny M A c (fun r s' => s.toks ≤ s'.toks → R r s') s) : codeAny M A c R s := fun Γ p hc hΓ => by
  obtain ⟨r, s', hr, q⟩ := h Γ p hc hΓ
  exact ⟨r, s', hr, q hr.toks_le⟩
def Gvs (T : TK) (b : Nat) (us : List Value) : Prop := ∀ u ∈ us, Gv T b u
theorem Gvs.up {T : TK} {b c : Nat} {us : List Value} (g : Gvs T b us) (h : b ≤ c) : Gvs T c us := fun u hu => (g u hu).up h
theorem Gvs.nil {T : TK} {b : Nat} : Gvs T b [] := fun _ h => nomatch h
theorem Gvs.cons {T : TK} {b : Nat} {u : Value} {us : List Value} (g : Gv T b u) (h : Gvs T b us) : Gvs T b (u :: us) := fun v hv => by
  rcases List.mem_cons.mp hv with rfl | hv
  · exact g
  · exact h v hv
theorem Gvs.app {T : TK} {b : Nat} {us ws : List Value} (g : Gvs T b us) (h : Gvs T b ws) : Gvs T b (us ++ ws) := fun v hv => (List.mem_append.mp hv).elim (g v) (h v)
theorem Gvs.hd {T : TK} {b : Nat} {u : Value} {us : List Value} (h : Gvs T b (u :: us)) : Gv T b u := h u List.mem_cons_self
theorem Gvs.tl {T : TK} {b : Nat} {u : Value} {us : List Value} (h : Gvs T b (u :: us)) : Gvs T b us := fun v hv => h v (List.mem_cons_of_mem _ hv)
def EP (T : TK) (X : Cx) (pins : List (Addr × Obj)) (σ : St) (Q : VK) (u : Value) (s' : Shared) : Prop := ∃ v H', Inv T X pins σ H' s' ∧ RelV v u ∧ Gv T s'.toks u ∧ Q v H'
def TP (T : TK) (X : Cx) (pins : List (Addr × Obj)) (σ : St) (Q : Bool → Hp → Prop) (b : Bool) (s' : Shared) : Prop := ∃ H', Inv T X pins σ H' s' ∧ Q b H'
def AP (T : TK) (X : Cx) (pins : List (Addr × Obj)) (σ : St) (Q : List V → Hp → Prop) (us : List Value) (s' : Shared) : Prop := ∃ vs H', Inv T X pins σ H' s' ∧ Vals vs us ∧ Gvs T s'.toks us ∧ Q vs H'
def SP (T : TK) (X : Cx) (pins : List (Addr × Obj)) (D : Ends) (f : Flow) (s' : Shared) : Prop :=
  match f with
  | .next => ∃ σ' H', Inv T X pins σ' H' s' ∧ D.nx σ' H'
  | .brk => ∃ σ' H', Inv T X pins σ' H' s' ∧ D.bk σ' H'
  | .cont => ∃ σ' H', Inv T X pins σ' H' s' ∧ D.ct σ' H'
  | .ret u => ∃ v σ' H', Inv T X pins σ' H' s' ∧ RelV v u ∧ Gv T s'.toks u ∧ D.rt v H'
structure PE (T : TK) (X : Cx) (e : Expr) (t : TE) : Prop where
  run : ∀ (pins : List (Addr × Obj)) (s : Shared) (σ : St) (H : Hp) (Q : VK), Inv T X pins σ H s → t σ H Q → wpAny (model X.prog X.w) X.A (eval e X.env) (EP T X pins σ Q) X.xe s
structure PT (T : TK) (X : Cx) (e : Expr) (t : TT) : Prop where
  run : ∀ (pins : List (Addr × Obj)) (s : Shared) (σ : St) (H : Hp) (Q : Bool → Hp → Prop), Inv T X pins σ H s → t σ H Q → wpAny (model X.prog X.w) X.A (isTrue e X.env (eval e X.env)) (TP T X pins σ Q) X.xe s
structure PW (T : TK) (X : Cx) (e : Expr) (t : TT) : Prop where
  run : ∀ (whole : Sem Value) (pins : List (Addr × Obj)) (s : Shared) (σ : St) (H : Hp) (Q : Bool → Hp → Prop), Inv T X pins σ H s → t σ H Q → wpAny (model X.prog X.w) X.A (isTrue e X.env whole) (TP T X pins σ Q) X.xe s
structure PA (T : TK) (X : Cx) (es : List Expr) (t : TA) : Prop where
  run : ∀ (pos : Pos) (pins : List (Addr × Obj)) (s : Shared) (σ : St) (H : Hp) (Q : List V → Hp → Prop), Inv T X pins σ H s → t σ H Q → wpAny (model X.prog X.w) X.A (spliced (backTo pos (starEach es X.env))) (AP T X pins σ Q) X.xe s
structure PS (T : TK) (X : Cx) (st : Stmt) (t : TS) : Prop where
  run : ∀ (pins : List (Addr × Obj)) (s : Shared) (σ : St) (H : Hp) (D : Ends), Inv T X pins σ H s → t D σ H → wpAny (model X.prog X.w) X.A (exec st X.env) (SP T X pins D) X.xe s
structure PSs (T : TK) (X : Cx) (st : List Stmt) (t : TS) : Prop where
  run : ∀ (pins : List (Addr × Obj)) (s : Shared) (σ : St) (H : Hp) (D : Ends), Inv T X pins σ H s → t D σ H → wpAny (model X.prog X.w) X.A (execs st X.env) (SP T X pins D) X.xe s
theorem PW.pt {T : TK} {X : Cx} {e : Expr} {t : TT} (h : PW T X e t) : PT T X e t := ⟨h.run _⟩
/-- by values -/
def OpR (T : TK) (X : Cx) (f : Value → Value → Sem Value) (r : R2) : Prop :=
  ∀ (pins : List (Addr × Obj)) (s : Shared) (σ : St) (H : Hp) (x y : V) (v u : Value) (Q : VK), Inv T X pins σ H s → RelV x v → RelV y u → Gv T s.toks v → Gv T s.toks u → r x y H Q → wpAny (model X.prog X.w) X.A (f v u) (EP T X pins σ Q) X.xe s
def UnR (T : TK) (X : Cx) (f : Value → Sem Value) (r : V → Hp → VK → Prop) : Prop :=
  ∀ (pins : List (Addr × Obj)) (s : Shared) (σ : St) (H : Hp) (x : V) (v : Value) (Q : VK), Inv T X pins σ H s → RelV x v → Gv T s.toks v → r x H Q → wpAny (model X.prog X.w) X.A (f v) (EP T X pins σ Q) X.xe s
def CallR (T : TK) (X : Cx) (f : Value) (r : List V → Hp → VK → Prop) : Prop :=
  ∀ (pins : List (Addr × Obj)) (s : Shared) (σ : St) (H : Hp) (xs : List V) (us : List Value) (Q : VK), Inv T X pins σ H s → Vals xs us → Gvs T s.toks us → r xs H Q → wpAny (model X.prog X.w) X.A (call f us) (EP T X pins σ Q) X.xe s
section
variable {T : TK} {X : Cx} {a b c e : Expr} {ta tb tc te : TE} {pos : Pos}
theorem bin (ha : PE T X a ta) (hb : PE T X b tb) {pins : List (Addr × Obj)} {s : Shared} {σ : St} {H : Hp} {R : V → V → Hp → Prop} (I : Inv T X pins σ H s) (h : ta σ H fun x H1 => tb σ H1 fun y H2 => R x y H2) {α : Type} {Q : α → Shared → Prop} {f : Value → Value → Sem α}
    (hf : ∀ v u s2 x y H2, Inv T X pins σ H2 s2 → RelV x v → RelV y u → Gv T s2.toks v → Gv T s2.toks u → R x y H2 → wpAny (model X.prog X.w) X.A (f v u) Q X.xe s2) :
    wpAny (model X.prog X.w) X.A (eval a X.env) (fun v z => wpAny (model X.prog X.w) X.A (eval b X.env) (fun u z' => wpAny (model X.prog X.w) X.A (f v u) Q X.xe z') X.xe z) X.xe s :=
  thn (ha.run pins s σ H _ I h) fun v s1 ⟨x, H1, I1, r1, g1, q1⟩ => thn (up (hb.run pins s1 σ H1 _ I1 q1)) fun u s2 ⟨lt, y, H2, I2, r2, g2, q2⟩ => hf v u s2 x y H2 I2 r1 r2 (g1.up lt) g2 q2

/-! ### names, constants -/
theorem pe_var {i : Nat} {x : Str} {pos : Pos} (hN : X.N[i]? = some x) (hv : Vis X.env.scope x) (hd : (x == ("__debug__" : Str)) = false := by decide) (hcd : (x == ("__classdict__" : Str)) = false := by decide) : PE T X (.Name x pos) (tVar i) := by
  refine ⟨fun pins s σ H Q I hq => ?_⟩
  obtain ⟨v, e, hq⟩ := hq
  obtain ⟨m, hn, hl⟩ := I.i.loc
  obtain ⟨u, r, l⟩ := hl i x v hN e hv
  rcases l with ⟨hk, hm⟩ | ⟨hk | hk, c, hc, hcell⟩
  · exact wpAny_Name (wpAny_loadName_local I.i.ok.kind hk hn hm ⟨v, H, I, r, I.l m hn i x v u hN e hk hm, hq⟩) hd
  · exact wpAny_Name (wpAny_loadName_cell I.i.ok.kind hk hc hcell ⟨v, H, I, r, I.c x c u hc hcell, hq⟩) hd
  · exact wpAny_Name (wpAny_loadName_free I.i.ok.kind hk hc hcell ⟨v, H, I, r, I.c x c u hc hcell, hq⟩ hcd) hd
theorem pe_int {i j pos} : PE T X (.Constant (.int i) j pos) (tC (.int i)) := ⟨fun _ _ _ H _ I q => wpAny_Constant_int ⟨.int i, H, I.up, ⟨_, rfl⟩, trivial, q⟩⟩
theorem pe_bl {b j pos} : PE T X (.Constant (.bool b) j pos) (tC (.bl b)) := ⟨fun _ _ _ H _ I q => Constant_bool ⟨.bl b, H, I, rfl, trivial, q⟩⟩
theorem pe_non {j pos} : PE T X (.Constant .none j pos) (tC .non) := ⟨fun _ _ _ H _ I q => Constant_none ⟨.non, H, I, rfl, trivial, q⟩⟩
theorem pe_str {x j pos} : PE T X (.Constant (.str x) j pos) (tC (.str x)) := ⟨fun _ _ _ H _ I q => Calls.Constant_str ⟨.str x, H, I.up, ⟨_, rfl⟩, Gv.new I.t, q⟩⟩
theorem pe_strX {x : Str} {j : Nat} {pos : Pos} (l : List Nat) (hx : x = tx l) : PE T X (.Constant (.str x) j pos) (tC (.str (tx l))) := by
  subst hx
  exact pe_str
theorem pe_glob {x : Str} {v : V} {u : Value} {pos : Pos} (hg : Gl X x) (hm : X.mg x = some u) (r : RelV v u) (g : Gv T T.n u) (hd : (x == ("__debug__" : Str)) = false := by decide) : PE T X (.Name x pos) (tC v) :=
  ⟨fun _ _ _ H _ I q => ld_glob I.i hg hm ⟨v, H, I, r, g.up I.t, q⟩ hd⟩
theorem pe_bltn {x : Str} {v : V} {u : Value} {pos : Pos} (hg : Gl X x) (hm : X.mg x = none) (hv : bootBuiltins x = some u) (r : RelV v u) (g : Gv T T.n u := by trivial) (hn : x ≠ "__name__" := by decide) (hd : (x == ("__debug__" : Str)) = false := by decide) : PE T X (.Name x pos) (tC v) :=
  ⟨fun _ _ _ H _ I q => ld_blt I.i hg hm hv ⟨v, H, I, r, g.up I.t, q⟩ hn hd⟩

/-! ### operators, tests -/
theorem pe_op {op : Operator} {r : R2} (ho : OpR T X (binaryOp op) r) (ha : PE T X a ta) (hb : PE T X b tb) : PE T X (.BinOp a op b pos) (tOp r ta tb) :=
  ⟨fun pins s σ H Q I q => wpAny_BinOp (bin ha hb I q fun v u s2 x y H2 I2 rx ry gx gy z => ho pins s2 σ H2 x y v u Q I2 rx ry gx gy z)⟩
theorem pe_un {op : UnaryOp} {r : V → Hp → VK → Prop} (ho : UnR T X (unaryOp op) r) (ha : PE T X a ta) : PE T X (.UnaryOp op a pos) (tUn r ta) :=
  ⟨fun pins s σ H Q I q => UnaryOp_ (thn (ha.run pins s σ H _ I q) fun v s1 ⟨x, H1, I1, r1, g1, q1⟩ => ho pins s1 σ H1 x v Q I1 r1 g1 q1)⟩
theorem pe_cmpR {op : CmpOp} {r : R2} (ho : OpR T X (compareOp op) r) (ha : PE T X a ta) (hb : PE T X b tb) (hm : behindInMarks op b = false) : PE T X (.Compare a [op] [b] pos) (tOp r ta tb) :=
  ⟨fun pins s σ H Q I q => wpAny_Compare1 (bin ha hb I q fun v u s2 x y H2 I2 rx ry gx gy z => ho pins s2 σ H2 x y v u Q I2 rx ry gx gy z) hm⟩
theorem pt_cmpR {op : CmpOp} {r : R2} (ho : OpR T X (compareOp op) r) (ha : PE T X a ta) (hb : PE T X b tb) (hm : behindInMarks op b = false) : PT T X (.Compare a [op] [b] pos) (tTest (tOp r ta tb)) := by
  refine ⟨fun pins s σ H Q I q => wpAny_isTrue_Compare1 (bin ha hb I q fun v u s2 x y H2 I2 rx ry gx gy z => thn (ho pins s2 σ H2 x y v u _ I2 rx ry gx gy z) fun d s3 ⟨w, H3, I3, r3, _, k, e, q3⟩ => ?_) hm⟩
  subst e
  cases r3
  exact wpAny_truthy_bool ⟨H3, I3, q3⟩
theorem pt_val {t : TE} (h : PE T X e t) (he : ∀ whole, isTrue e X.env whole = (do let v ← whole; standAt e.pos; holding [v] (truthy v)) := by intro _; rfl) : PT T X e (tB t) := by
  refine ⟨fun pins s σ H Q I q => isTrue_plain (thn (h.run pins s σ H _ I q) fun v s1 ⟨x, H1, I1, r1, _, d, e1, q1⟩ => ?_) (he _)⟩
  subst e1
  cases r1
  exact wpAny_truthy_bool ⟨H1, I1, q1⟩
variable {tA tB' : TT} {rest : List Expr}
theorem pw_and1 (ha : PT T X a tA) : PW T X (.BoolOp .And [a] pos) tA := by
  refine ⟨fun wh pins s σ H Q I q => isTrue_and (thn (ha.run pins s σ H Q I q) fun d s1 e => ?_)⟩
  cases d
  · exact e
  · exact isTrue_and_nil e
theorem pw_or1 (ha : PT T X a tA) : PW T X (.BoolOp .Or [a] pos) tA := by
  refine ⟨fun wh pins s σ H Q I q => isTrue_or (thn (ha.run pins s σ H Q I q) fun d s1 e => ?_)⟩
  cases d
  · exact isTrue_or_nil e
  · exact e
theorem pw_and (ha : PT T X a tA) (hb : PW T X (.BoolOp .And (b :: rest) pos) tB') : PW T X (.BoolOp .And (a :: b :: rest) pos) (tAnd tA tB') := by
  refine ⟨fun wh pins s σ H Q I q => isTrue_and (thn (ha.run pins s σ H _ I q) fun d s1 ⟨H1, I1, q1⟩ => ?_)⟩
  cases d
  · exact ⟨H1, I1, q1⟩
  · exact hb.run wh pins s1 σ H1 Q I1 q1
theorem pw_or (ha : PT T X a tA) (hb : PW T X (.BoolOp .Or (b :: rest) pos) tB') : PW T X (.BoolOp .Or (a :: b :: rest) pos) (tOr tA tB') := by
  refine ⟨fun wh pins s σ H Q I q => isTrue_or (thn (ha.run pins s σ H _ I q) fun d s1 ⟨H1, I1, q1⟩ => ?_)⟩
  cases d
  · exact hb.run wh pins s1 σ H1 Q I1 q1
  · exact ⟨H1, I1, q1⟩
theorem pt_not (ha : PT T X a tA) : PT T X (.UnaryOp .Not a pos) (tNot tA) := ⟨fun pins s σ H Q I q => isTrue_not (ha.run pins s σ H (fun d H1 => Q (!d) H1) I q)⟩
theorem pe_one {op} {t : TE} (h : PE T X a t) : PE T X (.BoolOp op [a] pos) t := ⟨fun pins s σ H Q I q => BoolOp_one (h.run pins s σ H Q I q)⟩
theorem pe_and (ha : PE T X a ta) (hb : PE T X (.BoolOp .And (b :: rest) pos) tb) : PE T X (.BoolOp .And (a :: b :: rest) pos) (tAndV ta tb) := by
  refine ⟨fun pins s σ H Q I q => BoolOp_and (thn (ha.run pins s σ H _ I q) fun v s1 ⟨x, H1, I1, r1, _, d, e1, q1⟩ => ?_)⟩
  subst e1
  cases r1
  refine wpAny_truthy_bool ?_
  cases d
  · exact ⟨.bl false, H1, I1, rfl, trivial, q1⟩
  · exact hb.run pins s1 σ H1 Q I1 q1
theorem pe_or (ha : PE T X a ta) (hb : PE T X (.BoolOp .Or (b :: rest) pos) tb) : PE T X (.BoolOp .Or (a :: b :: rest) pos) (tOrV ta tb) := by
  refine ⟨fun pins s σ H Q I q => BoolOp_or (thn (ha.run pins s σ H _ I q) fun v s1 ⟨x, H1, I1, r1, _, d, e1, q1⟩ => ?_)⟩
  subst e1
  cases r1
  refine wpAny_truthy_bool ?_
  cases d
  · exact hb.run pins s1 σ H1 Q I1 q1
  · exact ⟨.bl true, H1, I1, rfl, trivial, q1⟩
theorem pe_not (ha : PE T X a ta) : PE T X (.UnaryOp .Not a pos) (tNotV ta) := by
  refine ⟨fun pins s σ H Q I q => UnaryOp_ (thn (ha.run pins s σ H _ I q) fun v s1 ⟨x, H1, I1, r1, _, d, e1, q1⟩ => ?_)⟩
  subst e1
  cases r1
  exact not_of (wpAny_truthy_bool ⟨.bl (!d), H1, I1, rfl, trivial, q1⟩)
theorem pe_ifExp {c : Expr} (hc : PT T X c tA) (ha : PE T X a ta) (hb : PE T X b tb) : PE T X (.IfExp c a b pos) (tIf tA ta tb) := by
  refine ⟨fun pins s σ H Q I q => wpAny_IfExp (thn (hc.run pins s σ H _ I q) fun d s1 ⟨H1, I1, q1⟩ => ?_)⟩
  cases d
  · exact hb.run pins s1 σ H1 Q I1 q1
  · exact ha.run pins s1 σ H1 Q I1 q1

/-! ### arguments, displays -/
variable {es : List Expr} {t : TA}
theorem pa_nil : PA T X [] tNil := ⟨fun _ _ _ _ H Q I q => Calls.spliced_nil ⟨[], H, I, .nil, .nil, q⟩⟩
theorem pa_cons (ha : PE T X e te) (hr : PA T X es t) (hs : starEach (e :: es) X.env = (false, eval e X.env) :: starEach es X.env := by rfl) : PA T X (e :: es) (tCons te t) := by
  refine ⟨fun pos pins s σ H Q I q => ?_⟩
  rw [hs]
  show wpAny _ _ (spliced ((false, eval e X.env) :: backTo pos (starEach es X.env))) _ _ s
  exact Calls.spliced_cons (thn (ha.run pins s σ H _ I q) fun u s1 ⟨x, H1, I1, r1, g1, q1⟩ => thn (up (hr.run pos pins s1 σ H1 _ I1 q1)) fun us s2 ⟨lt, xs, H2, I2, r2, g2, q2⟩ => ⟨x :: xs, H2, I2, .cons r1 r2, .cons (g1.up lt) g2, q2⟩)
theorem Og.lst_new {us : List Value} {h : Heap} {xs : List V} {cls : Value} {n b : Nat} (g : Gvs T b us) : Od T b (h.push { cls := cls, data := .seq us.toArray n }) h.objs.size :=
  ⟨_, Heap.get?_push_size _ rfl, fun v hv => g v (by simpa using hv)⟩
theorem pe_tup {x1} (h : PA T X es t) : PE T X (.Tuple es x1 pos) (tTup t) := by
  refine ⟨fun pins s σ H Q I q => wpAny_Tuple_spliced (thn (h.run pos pins s σ H _ I q) fun us s1 ⟨xs, H1, I1, r, g, z, q1⟩ => ⟨by rw [← r.length]; exact z, ?_⟩)⟩
  have hf : H1 s1.heap.objs.size = none := I1.i.hok.fresh (Nat.le_refl _)
  refine ⟨.ref s1.heap.objs.size, upd H1 s1.heap.objs.size (.tup xs), I1.laid (t' := s1.toks) (fun b u e => Heap.get?_push_of_some _ e) (Nat.le_refl _) ?_ ?_ (Nat.le_refl _), rfl, trivial, q1 _ hf⟩
  · exact ⟨z, us, r, ⟨_, Heap.get?_push_size _ rfl, rfl, _, rfl⟩⟩
  · exact ⟨_, Heap.get?_push_size _ rfl, fun v hv => g v (by simpa using hv)⟩
theorem pe_lst (h : PA T X es t) : PE T X (.List es pos) (tLst t) := by
  refine ⟨fun pins s σ H Q I q => wpAny_List_spliced (thn (h.run pos pins s σ H _ I q) fun us s1 ⟨xs, H1, I1, r, g, z, q1⟩ => ⟨by rw [← r.length]; exact z, ?_⟩)⟩
  have hf : H1 s1.heap.objs.size = none := I1.i.hok.fresh (Nat.le_refl _)
  refine ⟨.ref s1.heap.objs.size, upd H1 s1.heap.objs.size (.lst xs), I1.laid (t' := s1.toks) (fun b u e => Heap.get?_push_of_some _ e) (Nat.le_refl _) ?_ ?_ (Nat.le_refl _), rfl, trivial, q1 _ hf⟩
  · exact ⟨z, us, 0, r, Heap.get?_push_size _ rfl⟩
  · exact ⟨_, Heap.get?_push_size _ rfl, fun v hv => g v (by simpa using hv)⟩

/-! ### statements -/
variable {st : Stmt} {more : List Stmt} {ts us : TS}
theorem pss_nil : PSs T X [] tNext := ⟨fun _ _ σ H _ I q => wpAny_execs_nil ⟨σ, H, I, q⟩⟩
theorem pss_cons (h1 : PS T X st ts) (h2 : PSs T X more us) : PSs T X (st :: more) (tSeq ts us) := by
  refine ⟨fun pins s σ H D I q => wpAny_execs_cons (thn (h1.run pins s σ H { D with nx := us D } I q) fun f s1 q1 => ?_)⟩
  cases f with
  | next =>
    obtain ⟨σ', H', I', q1⟩ := q1
    exact h2.run pins s1 σ' H' D I' q1
  | ret v => exact q1
  | brk => exact q1
  | cont => exact q1
theorem pss_one (h1 : PS T X st ts) : PSs T X [st] ts := by
  refine ⟨fun pins s σ H D I q => wpAny_execs_cons (thn (h1.run pins s σ H D I q) fun f s1 q1 => ?_)⟩
  cases f with
  | next => exact wpAny_execs_nil q1
  | ret v => exact q1
  | brk => exact q1
  | cont => exact q1
theorem pss_cut (h1 : PS T X st ts) (h2 : PSs T X more us) : PSs T X (st :: more) (Evl.tCut ts us) := by
  refine ⟨fun pins s σ H D I q => ?_⟩
  obtain ⟨Mid, hm, hu⟩ := q
  refine wpAny_execs_cons (thn (h1.run pins s σ H { D with nx := Mid } I hm) fun f s1 q1 => ?_)
  cases f with
  | next =>
    obtain ⟨σ', H', I', q1⟩ := q1
    exact h2.run pins s1 σ' H' D I' (hu σ' H' q1)
  | ret v => exact q1
  | brk => exact q1
  | cont => exact q1
theorem ps_pass : PS T X (.Pass pos) tNext := ⟨fun _ _ σ H _ I q => wpAny_Pass ⟨σ, H, I, q⟩⟩
theorem ps_break : PS T X (.Break pos) tBreak := ⟨fun _ _ σ H _ I q => wpAny_Break ⟨σ, H, I, q⟩⟩
theorem ps_continue : PS T X (.Continue pos) tCont := ⟨fun _ _ σ H _ I q => wpAny_Continue ⟨σ, H, I, q⟩⟩
theorem ps_doc {x j pos pos'} : PS T X (.Expr (.Constant (.str x) j pos) pos') tNext := ⟨fun _ s σ H _ I q => wpAny_Expr (Calls.Constant_str (show SP T X _ _ .next { s with toks := s.toks + 1 } from ⟨σ, H, I.up, q⟩)) I.i.quiet⟩
theorem ps_expr (he : PE T X e te) (hs : swapsWith e none pos.line X.env = pure false := by rfl) : PS T X (.Expr e pos) (tDrop te) :=
  ⟨fun pins s σ H D I q => wpAny_Expr_any (thn (he.run pins s σ H _ I q) fun v s1 ⟨x, H1, I1, _, _, q1⟩ => ⟨σ, H1, I1, q1⟩) I.i.quiet hs⟩
theorem ps_ret (he : PE T X e te) : PS T X (.Return (some e) pos) (tRet te) :=
  ⟨fun pins s σ H D I q => wpAny_Return_some (thn (he.run pins s σ H _ I q) fun v s1 ⟨x, H1, I1, r1, g1, q1⟩ => ⟨x, σ, H1, I1, r1, g1, q1⟩)⟩
theorem ps_retN : PS T X (.Return none pos) tRetN := ⟨fun _ _ σ H _ I q => wpAny_Return_none ⟨.non, σ, H, I, rfl, trivial, q⟩⟩
theorem ps_if {c : Expr} {x y : List Stmt} {tc : TT} (hc : PT T X c tc) (ha : PSs T X x ts) (hb : PSs T X y us) : PS T X (.If c x y pos) (tIfS tc ts us) := by
  refine ⟨fun pins s σ H D I q => wpAny_If (thn (hc.run pins s σ H _ I q) fun d s1 ⟨H1, I1, q1⟩ => ?_)⟩
  cases d
  · exact hb.run pins s1 σ H1 D I1 q1
  · exact ha.run pins s1 σ H1 D I1 q1
theorem ps_dead : PS T X st (fun _ _ _ => False) := ⟨fun _ _ _ _ _ _ q => q.elim⟩
theorem pss_dead : PSs T X more (fun _ _ _ => False) := ⟨fun _ _ _ _ _ _ q => q.elim⟩
end
end GT

/-! UnGC: targets, stores, loops. -/
namespace GT
open PySem PySem.Spec PyProof.Rows L2 Un
structure PG (T : TK) (X : Cx) (target : Expr) (t : TG) : Prop where
  run : ∀ (pins : List (Addr × Obj)) (s : Shared) (σ : St) (H : Hp) (v : V) (u : Value) (Q : St → Hp → Prop), Inv T X pins σ H s → RelV v u → Gv T s.toks u → t v σ H Q →
    wpAny (model X.prog X.w) X.A (assign target X.env u) (fun _ s' => ∃ σ' H', Inv T X pins σ' H' s' ∧ Q σ' H') X.xe s
structure PGs (T : TK) (X : Cx) (ts : List Expr) (t : TGs) : Prop where
  run : ∀ (pins : List (Addr × Obj)) (s : Shared) (σ : St) (H : Hp) (vs : List V) (us : List Value) (Q : St → Hp → Prop), Inv T X pins σ H s → Vals vs us → Gvs T s.toks us → t vs σ H Q →
    wpAny (model X.prog X.w) X.A (assignInOrder ((assignEach ts X.env).map (·.2)) us) (fun _ s' => ∃ σ' H', Inv T X pins σ' H' s' ∧ Q σ' H') X.xe s
def PSet (T : TK) (X : Cx) (t : TSet) : Prop :=
  ∀ (pins : List (Addr × Obj)) (s : Shared) (σ : St) (H : Hp) (o i v : V) (ov iv u : Value) (Q : Hp → Prop), Inv T X pins σ H s → RelV o ov → RelV i iv → RelV v u → Gv T s.toks iv → Gv T s.toks u → t o i v H Q →
    wpAny (model X.prog X.w) X.A (setItem ov iv u) (fun _ s' => ∃ H', Inv T X pins σ H' s' ∧ Q H') X.xe s
section
variable {T : TK} {X : Cx} {pins : List (Addr × Obj)} {σ : St} {H : Hp} {s : Shared} {a : Addr} {xs : List V} {pos : Pos}
/-- a list's items, raw -/
theorem Inv.lst (I : Inv T X pins σ H s) (h : SqL X.K H a xs) : ∃ its : List Value, Vals xs its ∧ PlainL s.heap a its.toArray ∧ xs.length ≤ sizeLine ∧ Gvs T s.toks its := by
  rcases h with h | ⟨o, its, n, hk, hc, hd, hs, hz, r⟩
  · obtain ⟨z, its, n, r, e⟩ := h.ok I.i.hok
    refine ⟨its, r, ⟨_, n, e, rfl, rfl, rfl⟩, z, ?_⟩
    rcases h with h | ⟨ob, h⟩
    · obtain ⟨o1, e1, g⟩ := (show Od T s.toks s.heap a from I.h a _ h)
      rw [e] at e1
      cases e1
      exact fun v hv => g v (by simpa using hv)
    · have g : Gd T s.toks ob.data := I.h a _ h
      obtain ⟨e1, _⟩ := I.i.hok a _ h
      rw [e] at e1
      cases e1
      exact fun v hv => g v (by simpa using hv)
  · refine ⟨its.toList, r, ⟨o, n, I.i.kIn a o hk, hc, hd, by simpa using hs⟩, ?_, fun v hv => (I.k a o its n hk hs v hv).up I.t⟩
    have e := r.length
    simp only [Array.length_toList] at e
    omega
theorem Inv.tpl (I : Inv T X pins σ H s) (h : SqT X.K H a xs) : ∃ its : List Value, Vals xs its ∧ IsTup s.heap a its.toArray ∧ xs.length ≤ sizeLine ∧ Gvs T s.toks its := by
  rcases h with h | ⟨o, its, n, hk, hc, hs, hz, r⟩
  · obtain ⟨z, its, r, p⟩ := h.ok I.i.hok
    refine ⟨its, r, p, z, ?_⟩
    obtain ⟨ot, et, ct, nt, dt⟩ := p
    rcases h with h | ⟨ob, h⟩
    · obtain ⟨o1, e1, g⟩ := (show Od T s.toks s.heap a from I.h a _ h)
      rw [et] at e1
      cases e1
      rw [dt] at g
      exact fun v hv => g v (by simpa using hv)
    · have g : Gd T s.toks ob.data := I.h a _ h
      obtain ⟨e1, _⟩ := I.i.hok a _ h
      rw [et] at e1
      cases e1
      rw [dt] at g
      exact fun v hv => g v (by simpa using hv)
  · refine ⟨its.toList, r, ⟨o, I.i.kIn a o hk, hc, n, by simpa using hs⟩, ?_, fun v hv => (I.k a o its n hk hs v hv).up I.t⟩
    have e := r.length
    simp only [Array.length_toList] at e
    omega
theorem pg_name {i : Nat} {x : Str} (hN : X.N.Nodup) (hi : X.N[i]? = some x) (hx : Loc X.env.scope x) (hf : X.fn x = true ∨ X.env.scope.names.lookup x = some .local := by first | exact .inl rfl | exact .inr rfl | assumption) : PG T X (.Name x pos) (gName i) :=
  ⟨fun pins s σ H v u Q I r g q => wpAny_assign_Name (store_ok I hN hi hx r g (fun s' I' => ⟨_, H, I', q⟩) hf)⟩
theorem pgs_nil : PGs T X [] gNil := by
  refine ⟨fun pins s σ H vs us Q I r g q => ?_⟩
  obtain ⟨rfl, q⟩ := q
  cases r
  exact assignInOrder_nil ⟨σ, H, I, q⟩
theorem pgs_cons {e : Expr} {es : List Expr} {t : TG} {u : TGs} (h1 : PG T X e t) (h2 : PGs T X es u)
    (hs : (assignEach (e :: es) X.env).map (·.2) = assign e X.env :: (assignEach es X.env).map (·.2) := by rfl) : PGs T X (e :: es) (gCons t u) := by
  refine ⟨fun pins s σ H vs us Q I r g q => ?_⟩
  obtain ⟨v, vr, rfl, q⟩ := q
  cases r with
  | cons r rr =>
    rw [hs]
    exact assignInOrder_cons (thn (up (h1.run pins s σ H _ _ _ I r g.hd q)) fun _ s1 ⟨lt, σ1, H1, I1, q1⟩ => h2.run pins s1 σ1 H1 _ _ Q I1 rr (g.tl.up lt) q1)
theorem pg_tup {es : List Expr} {k : Nat} {t : TGs} {n : Nat} (hc : X.calm = true) (h : PGs T X es t)
    (hn : (assignEach es X.env).length = n := by rfl) (hst : (assignEach es X.env).findIdx? (·.1) = none := by rfl) : PG T X (.Tuple es k pos) (gTup X.K n t) := by
  refine ⟨fun pins s σ H v u Q I r g q => ?_⟩
  obtain ⟨a, xs, rfl, hq, hl, q⟩ := q
  cases r
  obtain ⟨its, rv, ht, hz, gi⟩ := I.tpl hq
  refine assign_Tuple_tuple (I.i.ok.hd hc) ht (by simp [hn, ← hl, rv.length]) hst fun h' hx => ?_
  exact h.run pins _ σ H xs _ Q (I.kept (t' := s.toks) (fun b o e => hx b o (Nat.ne_of_lt (Heap.lt_size e)) e) (Nat.le_refl _)) (by simpa using rv) (by simpa using gi) q
theorem pg_sub {o i : Expr} {to ti : TE} {t : TSet} (ho : PE T X o to) (hi : PE T X i ti) (hs : PSet T X t)
    (ha : ∀ v, assign (.Subscript o i pos) X.env v = (do
      let ov ← holding [v] (eval o X.env)
      let iv ← holding [v, ov] (eval i X.env)
      standAt pos
      holding [v, ov, iv] (setItem ov iv v)
      release [v, ov, iv] []) := by intro _; rfl) : PG T X (.Subscript o i pos) (gSub to ti t) := by
  refine ⟨fun pins s σ H v u Q I r g q => ?_⟩
  rw [ha]
  refine wpAny_bind (wpAny_holding (thn (up (ho.run pins s σ H _ I q)) fun ov s1 ⟨l1, x, H1, I1, r1, g1, q1⟩ => ?_))
  refine wpAny_bind (wpAny_holding (thn (up (hi.run pins s1 σ H1 _ I1 q1)) fun iv s2 ⟨l2, y, H2, I2, r2, g2, q2⟩ => ?_))
  exact wpAny_bind (wpAny_standAt (wpAny_bind (wpAny_holding (thn (hs pins s2 σ H2 x y v ov iv u _ I2 r1 r2 r g2 (g.up (Nat.le_trans l1 l2)) q2) fun _ s3 ⟨H3, I3, q3⟩ => wpAny_release ⟨σ, H3, I3, q3⟩))))
theorem ps_asg {tg e : Expr} {te : TE} {g : TG} (he : PE T X e te) (hg : PG T X tg g) (hs : swapsWithSole [tg] e pos.line X.env = pure false := by rfl) (hw : swappedStores [tg] e X.env = pure none := by rfl)
    (h1 : (assignEach [tg] X.env).map (·.2) = [assign tg X.env] := by rfl) : PS T X (.Assign [tg] e pos) (tAsg te g) := by
  refine ⟨fun pins s σ H D I q => wpAny_Assign_stores (thn (he.run pins s σ H _ I q) fun v s1 ⟨x, H1, I1, r1, g1, q1⟩ => ?_) hs hw⟩
  rw [h1]
  exact thn (hg.run pins s1 σ H1 x v _ I1 r1 g1 q1) fun _ s2 z => z
theorem ps_set {i : Nat} {x : Str} {e : Expr} {te : TE} {pos' : Pos} (hN : X.N.Nodup) (hi : X.N[i]? = some x) (hx : Loc X.env.scope x) (he : PE T X e te) (hs : swapsWith e (some (.Name x pos')) pos.line X.env = pure false := by rfl) (hf : X.fn x = true ∨ X.env.scope.names.lookup x = some .local := by first | exact .inl rfl | exact .inr rfl | assumption) :
    PS T X (.Assign [.Name x pos'] e pos) (tAsg te (gName i)) :=
  ⟨fun pins s σ H D I q => wpAny_Assign_Name (thn (he.run pins s σ H _ I q) fun v s1 ⟨y, H1, I1, r1, g1, q1⟩ => store_ok I1 hN hi hx r1 g1 (fun s2 I2 => ⟨_, H1, I2, q1⟩) hf) hs⟩
/-! ### while, for -/
theorem ps_while {c : Expr} {body : List Stmt} {tc : TT} {tb : TS} (hp : PassesOwn (model X.prog X.w) X.A X.env X.xe) (hc : PT T X c tc) (hb : PSs T X body tb) : PS T X (.While c body [] pos) (tWhile tc tb) := by
  refine ⟨fun pins s σ H D I q => ?_⟩
  obtain ⟨W, ⟨m0, w0⟩, turn⟩ := q
  refine wpAny_While (codeAny_whileLoop (fun n z => ∃ σ1 H1, Inv T X pins σ1 H1 z ∧ W n σ1 H1) ?_ m0 ⟨σ, H, I, w0⟩)
  rintro n z ⟨σ1, H1, I1, w1⟩
  refine wpAny_passesOwn hp (thn (hc.run pins z σ1 H1 _ I1 (turn n σ1 H1 w1)) fun d z2 ⟨H2, I2, q2⟩ => ?_)
  cases d
  · rw [if_neg Bool.false_ne_true]
    exact wpAny_execs_nil ⟨σ1, H2, I2, q2⟩
  · obtain ⟨N, hN, q2⟩ := q2
    rw [if_pos rfl]
    have back : ∀ {z3 : Shared}, (∃ σ3 H3, Inv T X pins σ3 H3 z3 ∧ N σ3 H3) → ∃ m', m' < n ∧ ∃ σ1 H1, Inv T X pins σ1 H1 z3 ∧ W m' σ1 H1 := fun {z3} ⟨σ3, H3, I3, n3⟩ => by
      obtain ⟨m', hm, w3⟩ := hN σ3 H3 n3
      exact ⟨m', hm, σ3, H3, I3, w3⟩
    refine wpAny_passesOwn hp (thn (hb.run pins z2 σ1 H2 _ I2 q2) fun f z3 q3 => ?_)
    cases f with
    | next => exact back q3
    | cont => exact back q3
    | brk => exact q3
    | ret v => exact q3
end
/-- an iterator whose items are right ones -/
structure Turn (T : TK) (P : Program) (w : World) (K : PySem.W.Frag) (tg : Expr) (J : It) (fp : List Addr) (it : Addr) (tn : Nat → Heap → Prop) : Prop where
  v : L2.Turn P w K tg J fp it tn
  item : ∀ (X : Cx), X.prog = P → X.w = w → X.K = K → X.calm = true → ∀ (i : Nat) (pins : List (Addr × Obj)) (s : Shared) (σ : St) (H : Hp) (E : Value → Shared → Prop), Inv T X pins σ H s → (∀ b ∈ fp, FpOk X pins H b) → tn i s.heap → J.go i H →
    wpAny (model P w) X.A (pyNext (.ref it)) (fun r s1 => ∃ u, r = some u ∧
      wpAny (model P w) X.A (letOwnedTupleGo tg (.ref it) u) (fun _ s2 => ∃ x H', Inv T X pins σ H' s2 ∧ RelV x u ∧ Gv T s2.toks u ∧ J.yld i H x H' ∧ tn (i + 1) s2.heap ∧ ∀ b ∈ fp, H' b = none) E s1) E s
  done : ∀ (X : Cx), X.prog = P → X.w = w → X.K = K → X.calm = true → ∀ (i : Nat) (pins : List (Addr × Obj)) (s : Shared) (σ : St) (H : Hp) (E : Value → Shared → Prop), Inv T X pins σ H s → (∀ b ∈ fp, FpOk X pins H b) → tn i s.heap → J.stop i H →
    wpAny (model P w) X.A (pyNext (.ref it)) (fun r s1 => r = none ∧ Inv T X pins σ H s1) E s
def PIE (T : TK) (X : Cx) (pins : List (Addr × Obj)) (σ : St) (tg : Expr) (R : It → Hp → Prop) (itv : Value) (s2 : Shared) : Prop :=
  ∃ (it : Addr) (fp : List Addr) (tn : Nat → Heap → Prop) (J : It) (H' : Hp), itv = .ref it ∧ Inv T X pins σ H' s2 ∧ Turn T X.prog X.w X.K tg J fp it tn ∧ tn 0 s2.heap ∧ (∀ b ∈ fp, FpOk X pins H' b) ∧ R J H'
structure PI (T : TK) (X : Cx) (tg iter : Expr) (wi : TI) : Prop where
  run : ∀ (pins : List (Addr × Obj)) (s : Shared) (σ : St) (H : Hp) (R : It → Hp → Prop), Inv T X pins σ H s → wi σ H R →
    wpAny (model X.prog X.w) X.A (eval iter X.env) (fun v s1 => wpAny (model X.prog X.w) X.A (pyIter v) (PIE T X pins σ tg R) X.xe s1) X.xe s
section
variable {T : TK} {X : Cx} {pins : List (Addr × Obj)} {σ : St} {H : Hp} {s : Shared} {tg : Expr} {pos : Pos}
theorem Inv.pinned {fp : List Addr} (I : Inv T X pins σ H s) (hf : ∀ b ∈ fp, FpOk X pins H b) (ho : ∀ b ∈ fp, ∃ o, s.heap.get? b = some o ∧ ∀ v, o.data ≠ .cell v) : Inv T X (pins ++ pinsAt fp s.heap) σ H s := I.pins_of (I.i.pinned hf ho)
theorem Inv.unpinned {pl : List (Addr × Obj)} (I : Inv T X (pins ++ pl) σ H s) : Inv T X pins σ H s := I.pins_of I.i.unpinned
theorem ps_for {iter : Expr} {body : List Stmt} {wi : TI} {g : TG} {tb : TS} (hp : PassesOwn (model X.prog X.w) X.A X.env X.xe) (hc : X.calm = true) (hi : PI T X tg iter wi) (hg : PG T X tg g) (hb : PSs T X body tb)
    (hs : ∀ x, foldedSetIterable iter X.env x = pure x := by intro _; rfl) : PS T X (.For tg iter body [] pos) (tFor wi g tb) := by
  refine ⟨fun pins s σ H D I q => wpAny_For (thn (hi.run pins s σ H _ I q) fun v s1 q1 => thn q1 fun itv s2 q2 => ?_) hs⟩
  obtain ⟨it, fp, tn, J, H2, rfl, I2, U, st2, f2, W, ⟨m0, w0⟩, turn⟩ := q2
  have ours : ∀ {H' : Hp}, (∀ b ∈ fp, H' b = none) → ∀ b ∈ fp, FpOk X pins H' b := fun hn b hb => ⟨hn b hb, (f2 b hb).2⟩
  refine codeAny_forLoop_any (fun n z => ∃ i σ1 H1, Inv T X pins σ1 H1 z ∧ tn i z.heap ∧ (∀ b ∈ fp, H1 b = none) ∧ W i n σ1 H1) ?_ m0 ⟨0, σ, H2, I2, st2, fun b hb => (f2 b hb).1, w0⟩
  rintro n z ⟨i, σ3, H3, I3, st3, fr3, w3⟩
  rcases turn i n σ3 H3 w3 with ⟨stop, qn⟩ | ⟨go, N, hN, each⟩
  · refine wpAny_passesOwn hp (thn (U.done X rfl rfl rfl hc i pins z σ3 H3 X.xe I3 (ours fr3) st3 stop) fun r z4 ⟨hr, I4⟩ => ?_)
    subst hr
    exact wpAny_execs_nil ⟨σ3, H3, I4, qn⟩
  · refine wpAny_passesOwn hp (thn (U.item X rfl rfl rfl hc i pins z σ3 H3 X.xe I3 (ours fr3) st3 go) fun r z4 ⟨u, hr, q4⟩ => ?_)
    subst hr
    refine wpAny_passesOwn hp (thn q4 fun _ z5 ⟨x, H5, I5, r5, g5, y5, st5, fr5⟩ => ?_)
    have held := I5.pinned (ours fr5) (U.v.obj _ _ st5)
    refine wpAny_passesOwn hp (thn (hg.run _ z5 σ3 H5 x u _ held r5 g5 (each x H5 y5)) fun _ z6 ⟨σ6, H6, I6, q6⟩ => ?_)
    refine wpAny_passesOwn hp (thn (hb.run _ z6 σ6 H6 _ I6 q6) fun f z7 q7 => ?_)
    have back : ∀ {z7 : Shared}, (∃ σ7 H7, Inv T X (pins ++ pinsAt fp z5.heap) σ7 H7 z7 ∧ N σ7 H7) → ∃ m, m < n ∧ ∃ i σ1 H1, Inv T X pins σ1 H1 z7 ∧ tn i z7.heap ∧ (∀ b ∈ fp, H1 b = none) ∧ W i m σ1 H1 := fun {z7} ⟨σ7, H7, I7, n7⟩ => by
      obtain ⟨m', hm, w7⟩ := hN σ7 H7 n7
      have there : ∀ b ∈ fp, ∀ o, z5.heap.get? b = some o → z7.heap.get? b = some o ∧ H7 b = none := fun b hb o e =>
        let q := I7.i.pin (b, o) (List.mem_append_right _ (List.mem_append_right _ (mem_pinsAt hb e)))
        ⟨q.1, q.2.1⟩
      refine ⟨m', hm, i + 1, σ7, H7, I7.unpinned, U.v.keep _ _ _ st5 fun b hb o e => (there b hb o e).1, fun b hb => ?_, w7⟩
      obtain ⟨o, e, _⟩ := U.v.obj _ _ st5 b hb
      exact (there b hb o e).2
    cases f with
    | next => exact back q7
    | cont => exact back q7
    | brk =>
      obtain ⟨σ7, H7, I7, q7⟩ := q7
      exact ⟨σ7, H7, I7.unpinned, q7⟩
    | ret v =>
      obtain ⟨x7, σ7, H7, I7, r7, g7, q7⟩ := q7
      exact ⟨x7, σ7, H7, I7.unpinned, r7, g7, q7⟩
theorem get_good {its : List Value} (g : Gvs T s.toks its) {i : Nat} {u : Value} (e : its[i]? = some u) : Gv T s.toks u := g u (List.mem_of_getElem? e)
theorem turn_list {P : Program} {w : World} {K : PySem.W.Frag} {tg : Expr} (a it : Addr) : Turn T P w K tg (Itl K a) [it] it (fun i h => h.IsListIter it a i) where
  v := L2.turn_list a it
  item := by
    intro X hP hw hK hc i pins s σ H E I hf st hg
    subst hP hw hK
    obtain ⟨xs, x, hq, hx⟩ := hg
    obtain ⟨its, rv, p, hz, gi⟩ := I.lst hq
    obtain ⟨u, hu, ru⟩ := rv.get hx
    refine wpAny_pyNext_list_item st p.isList (x := u) (by simpa using hu) fun h2 st2 sb => ?_
    have I2 : Inv T X pins σ H { s with heap := h2 } := I.turned (t' := s.toks) (fun b o hb e => (sb.2 b hb).trans e) (hf it (List.mem_singleton.mpr rfl)) (Nat.le_refl _)
    obtain ⟨o, e, c, d⟩ := id st2
    exact ⟨u, rfl, go_of (s := { s with heap := h2 }) e c d (by decide) ⟨x, H, I2, ru, get_good gi hu, ⟨rfl, fun ys hy => by rw [I.i.list_inj hy hq]; exact hx⟩, st2, fun b hb => (hf b hb).1⟩⟩
  done := by
    intro X hP hw hK hc i pins s σ H E I hf st hg
    subst hP hw hK
    obtain ⟨xs, hq, hx⟩ := hg
    obtain ⟨its, rv, p, hz, _⟩ := I.lst hq
    have hl := rv.length
    exact wpAny_pyNext_list_end (I.i.ok.hd hc) st p.isList (by simp; omega) fun h2 eb => ⟨rfl, I.turned (t' := s.toks) (fun b o hb e => eb b o hb e) (hf it (List.mem_singleton.mpr rfl)) (Nat.le_refl _)⟩
theorem turn_tuple {P : Program} {w : World} {K : PySem.W.Frag} {tg : Expr} (a it : Addr) : Turn T P w K tg (Itt K a) [it] it (fun i h => h.IsTupleIter it a i) where
  v := L2.turn_tuple a it
  item := by
    intro X hP hw hK hc i pins s σ H E I hf st hg
    subst hP hw hK
    obtain ⟨xs, x, hq, hx⟩ := hg
    obtain ⟨its, rv, p, hz, gi⟩ := I.tpl hq
    obtain ⟨u, hu, ru⟩ := rv.get hx
    refine wpAny_pyNext_tuple_item st (show s.heap.IsTuple a its.toArray from p) (x := u) (by simpa using hu) fun h2 st2 sb => ?_
    have I2 : Inv T X pins σ H { s with heap := h2 } := I.turned (t' := s.toks) (fun b o hb e => (sb.2 b hb).trans e) (hf it (List.mem_singleton.mpr rfl)) (Nat.le_refl _)
    obtain ⟨o, e, c, d⟩ := id st2
    exact ⟨u, rfl, go_of (s := { s with heap := h2 }) e c d (by decide) ⟨x, H, I2, ru, get_good gi hu, ⟨rfl, fun ys hy => by rw [I.i.tuple_inj hy hq]; exact hx⟩, st2, fun b hb => (hf b hb).1⟩⟩
  done := by
    intro X hP hw hK hc i pins s σ H E I hf st hg
    subst hP hw hK
    obtain ⟨xs, hq, hx⟩ := hg
    obtain ⟨its, rv, p, hz, _⟩ := I.tpl hq
    have hl := rv.length
    exact wpAny_pyNext_tuple_end (I.i.ok.hd hc) st (show s.heap.IsTuple a its.toArray from p) (by simp; omega) fun h2 eb => ⟨rfl, I.turned (t' := s.toks) (fun b o hb e => eb b o hb e) (hf it (List.mem_singleton.mpr rfl)) (Nat.le_refl _)⟩
theorem turn_range {P : Program} {w : World} {K : PySem.W.Frag} {tg : Expr} (it : Addr) (lo : Int) (n : Nat) : Turn T P w K tg (Itr lo n) [it] it (fun i h => IsRangeIter h it (lo + (i : Nat) * 1) ((n : Int) - (i : Nat)) 1) where
  v := L2.turn_range it lo n
  item := by
    intro X hP hw hK hc i pins s σ H E I hf st hg
    subst hP hw hK
    refine wpAny_mono (wpAny_toks ((Walks.range (prog := X.prog) (w := X.w) (I.i.ok.hd hc) it lo 1 n).item i s (fun r z => ∃ v, r = some v ∧ (∃ t, v = .int (lo + (i : Nat) * 1) t) ∧ IsRangeIter z.heap it (lo + ((i + 1 : Nat) : Int) * 1) ((n : Int) - ((i + 1 : Nat) : Int)) 1 ∧ (∀ b o, b ≠ it → s.heap.get? b = some o → z.heap.get? b = some o) ∧ ∃ h2 tk, z = { s with heap := h2, toks := tk }) (fun _ _ => False) hg st fun v h2 tk hv st2 kk => ⟨v, rfl, hv, st2, fun b o hb e => kk b o (by simpa using hb) e, h2, tk, rfl⟩)) (fun r z hz => ?_) fun _ _ hz => hz.2.elim
    obtain ⟨hk, v, rfl, ⟨t, rfl⟩, st2, kk, h2, tk, rfl⟩ := hz
    have I2 : Inv T X pins σ H { s with heap := h2, toks := tk } := I.turned kk (hf it (List.mem_singleton.mpr rfl)) hk
    refine ⟨_, rfl, go_of (s := { s with heap := h2, toks := tk }) (n := "range_iterator") st2 rfl rfl (by decide) ⟨.int (lo + i), H, I2, ⟨t, ?_⟩, trivial, ⟨rfl, rfl⟩, st2, fun b hb => (hf b hb).1⟩⟩
    rw [Int.mul_one]
  done := by
    intro X hP hw hK hc i pins s σ H E I hf st hg
    subst hP hw hK
    exact wpAny_pyNext_range_end (I.i.ok.hd hc) st (by have : n ≤ i := hg; omega) fun h2 eb => ⟨rfl, I.turned (t' := s.toks) (fun b o hb e => eb b o hb e) (hf it (List.mem_singleton.mpr rfl)) (Nat.le_refl _)⟩
end
end GT

/-! UnGD: what is walked; comprehensions. -/
namespace GT
open PySem PySem.Spec PyProof.Rows L2 Un
section
variable {T : TK} {X : Cx} {pins : List (Addr × Obj)} {σ : St} {H : Hp} {s : Shared} {tg : Expr} {pos : Pos}
theorem turn_str {P : Program} {w : World} {K : PySem.W.Frag} {tg : Expr} (it : Addr) (x : Str) (t : Tok) (ty : String) (hty : ty = "str_ascii_iterator" ∨ ty = "str_iterator") :
    Turn T P w K tg (Its x) [it] it (fun i h => h.IsStrIter it ty x t i) where
  v := L2.turn_str it x t ty hty
  item := by
    intro X hP hw hK hc i pins s σ H E I hf st hg
    subst hP hw hK
    have hi : i < x.cps.size := hg
    have hx : x.cps[i]? = some x.cps[i] := Array.getElem?_eq_getElem hi
    have fin : ∀ h2, h2.IsStrIter it ty x t (i + 1) → Heap.SameBut it s.heap h2 → ∃ u, some (Value.str ⟨#[x.cps[i]]⟩ s.toks) = some u ∧
        wpAny (model X.prog X.w) X.A (letOwnedTupleGo tg (.ref it) u) (fun _ s2 => ∃ y H2, Inv T X pins σ H2 s2 ∧ RelV y u ∧ Gv T s2.toks u ∧ (Its x).yld i H y H2 ∧ s2.heap.IsStrIter it ty x t (i + 1) ∧ ∀ b ∈ [it], H2 b = none) E { s with heap := h2, toks := s.toks + 1 } := fun h2 st2 sb => by
      have I2 : Inv T X pins σ H { s with heap := h2, toks := s.toks + 1 } := I.turned (fun b o hb e => (sb.2 b hb).trans e) (hf it (List.mem_singleton.mpr rfl)) (Nat.le_succ _)
      obtain ⟨oi, e, cc, dd⟩ := id st2
      have hno : ["enumerate", "zip", "dict_itemiterator", "dict_reverseitemiterator", "odict_iterator", "itertools.zip_longest", "itertools.pairwise"].contains ty = false := by
        rcases hty with z | z
        · rw [z]; decide
        · rw [z]; decide
      exact ⟨_, rfl, go_of (s := { s with heap := h2, toks := s.toks + 1 }) e cc dd hno ⟨.str ⟨#[x.cps[i]]⟩, H, I2, ⟨_, rfl⟩, Gv.new I.t, ⟨rfl, _, hx, rfl⟩, st2, fun b hb => (hf b hb).1⟩⟩
    rcases hty with z | z
    · subst z
      exact wpAny_pyNext_ascii_item st hx fin
    · subst z
      exact wpAny_pyNext_wide_item st hx fin
  done := by
    intro X hP hw hK hc i pins s σ H E I hf st hg
    subst hP hw hK
    have hx : x.cps[i]? = none := Array.getElem?_eq_none hg
    have fin : ∀ h2, Heap.ExtBut it s.heap h2 → (none : Option Value) = none ∧ Inv T X pins σ H { s with heap := h2 } := fun h2 eb => ⟨rfl, I.turned (t' := s.toks) (fun b o hb e => eb b o hb e) (hf it (List.mem_singleton.mpr rfl)) (Nat.le_refl _)⟩
    rcases hty with z | z
    · subst z
      exact wpAny_pyNext_ascii_end (I.i.ok.hd hc) st hx fin
    · subst z
      exact wpAny_pyNext_wide_end (I.i.ok.hd hc) st hx fin
/-- an iterator of one object, just laid -/
theorem pi_one {R : It → Hp → Prop} {J : It} {tn : Nat → Heap → Prop} {tk : Nat} (I : Inv T X pins σ H s) (o : Obj) (U : Turn T X.prog X.w X.K tg J [s.heap.objs.size] s.heap.objs.size tn) (st : tn 0 (s.heap.push o)) (ht : s.toks ≤ tk) (q : R J H) :
    PIE T X pins σ tg R (.ref s.heap.objs.size) { s with heap := s.heap.push o, toks := tk } := by
  refine ⟨_, _, tn, J, H, rfl, I.kept (fun b ob e => Heap.get?_push_of_some _ e) ht, U, st, fun b hb => ?_, q⟩
  obtain rfl := List.mem_singleton.mp hb
  exact I.i.fpOk (Nat.le_refl _) (I.i.hok.fresh (Nat.le_refl _))
theorem pi_str {e : Expr} {te : TE} (he : PE T X e te) : PI T X tg e (iStr te) := by
  refine ⟨fun pins s σ H R I q => thn (he.run pins s σ H _ I q) fun v s1 ⟨y, H1, I1, r1, _, x, ex, q1⟩ => ?_⟩
  subst ex
  obtain ⟨t, rfl⟩ := r1
  cases ha : x.cps.all (· < 128)
  · exact wpAny_pyIter_wide ha (pi_one I1 _ (turn_str _ x t "str_iterator" (.inr rfl)) ⟨_, Heap.get?_push_size _ rfl, rfl, rfl⟩ (Nat.le_refl _) q1)
  · exact wpAny_pyIter_ascii ha (pi_one I1 _ (turn_str _ x t "str_ascii_iterator" (.inl rfl)) ⟨_, Heap.get?_push_size _ rfl, rfl, rfl⟩ (Nat.le_refl _) q1)
theorem pi_list {l : Expr} {tl : TE} (hl : PE T X l tl) : PI T X tg l (iList X.K tl) := by
  refine ⟨fun pins s σ H R I q => thn (hl.run pins s σ H _ I q) fun v s1 ⟨x, H1, I1, r1, _, a, e, ⟨xs, hq⟩, q1⟩ => ?_⟩
  subst e
  cases r1
  obtain ⟨its, _, p, _, _⟩ := I1.lst hq
  exact wpAny_pyIter_list p.isList (pi_one I1 _ (turn_list a _) ⟨_, Heap.get?_push_size _ rfl, rfl, rfl⟩ (Nat.le_refl _) q1)
theorem pi_tup {l : Expr} {tl : TE} (hl : PE T X l tl) : PI T X tg l (iTup X.K tl) := by
  refine ⟨fun pins s σ H R I q => thn (hl.run pins s σ H _ I q) fun v s1 ⟨x, H1, I1, r1, _, a, e, ⟨xs, hq⟩, q1⟩ => ?_⟩
  subst e
  cases r1
  obtain ⟨its, _, p, _, _⟩ := I1.tpl hq
  exact wpAny_pyIter_tuple (show s1.heap.IsTuple a its.toArray from p) (pi_one I1 _ (turn_tuple a _) ⟨_, Heap.get?_push_size _ rfl, rfl, rfl⟩ (Nat.le_refl _) q1)
theorem range_it {R : It → Hp → Prop} {E : Value → Shared → Prop} {lo hi : Int} {t u v : Tok} {tk : Nat} (I : Inv T X pins σ H s) (ht : s.toks ≤ tk) (h1 : -(2 ^ 62) ≤ lo) (h2 : lo < 2 ^ 62) (h3 : -(2 ^ 62) ≤ hi) (h4 : hi < 2 ^ 62)
    (q : R (Itr lo (hi - lo).toNat) H) : wpAny (model X.prog X.w) X.A (pyIter (.ref s.heap.objs.size)) (PIE T X pins σ tg R) E { s with heap := s.heap.push { cls := .type "range", data := .fields #[.int lo t, .int hi u, .int 1 v] }, toks := tk } := by
  refine wpAny_pyIter_range (IsRange.new ..) (small_one h1 h2 h3 h4) ?_
  have I1 : Inv T X pins σ H { s with heap := s.heap.push { cls := .type "range", data := .fields #[.int lo t, .int hi u, .int 1 v] }, toks := tk } := I.kept (fun b o e => Heap.get?_push_of_some _ e) ht
  refine pi_one I1 _ (turn_range _ lo (hi - lo).toNat) ?_ (Nat.le_refl _) q
  have e2 : (((hi - lo).toNat : Nat) : Int) - ((0 : Nat) : Int) = Builtin.Range.rangeSize lo hi 1 := by rw [rangeSize_one]; split <;> omega
  show IsRangeIter _ _ (lo + ((0 : Nat) : Int) * 1) ((((hi - lo).toNat : Nat) : Int) - ((0 : Nat) : Int)) 1
  rw [show lo + ((0 : Nat) : Int) * 1 = lo by simp, e2]
  exact Heap.get?_push_size _ rfl
theorem pi_range1 {a : Expr} {ta : TA} {p pos : Pos} (hg : Gl X "range") (hm : X.mg "range" = none) (ha : PA T X [a] ta) (hs : starEach [a] X.env = [(false, eval a X.env)] := by rfl) : PI T X tg (.Call (.Name "range" p) [a] [] pos) (iRng1 ta) := by
  refine ⟨fun pins s σ H R I q => Call_ (ld_blt I.i hg hm boot_range (PyProof.Rows.callWith_type1 (thn (ha.run pos pins s σ H _ I q) fun us s1 ⟨vs, H1, I1, r1, _, j, e, q1, q2, q3⟩ => ?_) hs rfl))⟩
  subst e
  obtain ⟨u, rfl, t, rfl⟩ := vals1 r1
  exact call_range_1 (range_it I1 (Nat.le_add_right _ 2) (by omega) (by omega) q1 q2 (by simpa using q3))
theorem pi_range2 {a b : Expr} {ta : TA} {p pos : Pos} (hg : Gl X "range") (hm : X.mg "range" = none) (ha : PA T X [a, b] ta) (hs : starEach [a, b] X.env = [(false, eval a X.env), (false, eval b X.env)] := by rfl) (hs2 : starEach [b] X.env = [(false, eval b X.env)] := by rfl) :
    PI T X tg (.Call (.Name "range" p) [a, b] [] pos) (iRng2 ta) := by
  refine ⟨fun pins s σ H R I q => Call_ (ld_blt I.i hg hm boot_range (PyProof.Rows.callWith_type1 (thn (ha.run pos pins s σ H _ I q) fun us s1 ⟨vs, H1, I1, r1, _, i, j, e, ⟨q1, q2, q3, q4⟩, q5⟩ => ?_) (by rw [hs, hs2]) (by rw [hs2]; rfl)))⟩
  subst e
  cases r1 with
  | cons r rr =>
    cases rr with
    | cons r2 rr =>
      cases rr
      obtain ⟨t, rfl⟩ := r
      obtain ⟨t2, rfl⟩ := r2
      exact call_range_2 (range_it I1 (Nat.le_succ _) q1 q2 q3 q4 q5)
/-! ### comprehensions -/
structure PTs (T : TK) (X : Cx) (ifs : List Expr) (t : TT) : Prop where
  run : ∀ (pins : List (Addr × Obj)) (s : Shared) (σ : St) (H : Hp) (Q : Bool → Hp → Prop), Inv T X pins σ H s → t σ H Q →
    wpAny (model X.prog X.w) X.A (forIn ifs true fun c r => if r = true then do let ok ← isTrue c X.env (eval c X.env); pure (ForInStep.yield ok) else pure (ForInStep.yield r)) (TP T X pins σ Q) X.xe s
theorem pts_nil : PTs T X [] tYes := ⟨fun _ _ _ H _ I q => wpAny_tests_nil ⟨H, I, q⟩⟩
theorem pts_one {c : Expr} {t : TT} (h : PT T X c t) : PTs T X [c] t := ⟨fun pins s σ H Q I q => wpAny_tests_one (h.run pins s σ H Q I q)⟩
theorem app_ok {E : Value → Shared → Prop} {D : Addr} {xs : List V} {y : V} {v : Value} {Q : Value → Shared → Prop} (I : Inv T X pins σ H s) (hD : H D = some (.lst xs)) (hz : xs.length < sizeLine) (r : RelV y v) (g : Gv T s.toks v)
    (h : ∀ s', Inv T X pins σ (upd H D (.lst (xs ++ [y]))) s' → Q .none s') : wpAny (model X.prog X.w) X.A (call (.builtin "list.append") [.ref D, v]) Q E s := by
  obtain ⟨_, its, n, ri, e⟩ := I.i.hok D _ hD
  have hl := ri.length
  have gi : Gvs T s.toks its := by
    obtain ⟨o1, e1, g1⟩ := (show Od T s.toks s.heap D from I.h D _ hD)
    rw [e] at e1
    cases e1
    exact fun v hv => g1 v (by simpa using hv)
  refine append_at (hsz := by rw [List.size_toArray]; omega) e fun h2 sb ho2 => h { s with heap := h2 } ?_
  have e2 : h2.get? D = some { cls := .type "list", data := .seq (its ++ [v]).toArray (n + 1) } := by rw [ho2]; simp
  refine I.write (t' := s.toks) (by rw [hD]; trivial) (.inl rfl) (fun b u hb q => (sb.2 b hb).trans q) ⟨_, e2⟩ ⟨by rw [List.length_append]; exact hz, its ++ [v], n + 1, ri.append (.cons r .nil), e2⟩ ⟨_, e2, ?_⟩ (Nat.le_refl _)
  intro u hu
  exact (gi.app (Gvs.nil.cons g)) u (by simpa using hu)
/-- the block begins -/
theorem block {scope : Scope} {own : List (Str × Nat)} {fp : List Addr} (I : Inv T X pins σ H s) (ok : BlkOk X.N X.env.scope scope own) (hN : X.N.Nodup) (hfp : ∀ b ∈ fp, FpOk X pins H b ∧ b < s.heap.objs.size) :
    Inv T (X.blk s H scope (compEnvC scope (cellsFrom (s.heap.objs.size + 1) scope.names (cloFrom X.env.cells scope.names [])) s.heap.objs.size X.env) fp) [] (wipe σ (own.map (·.2))) H { s with heap := pushCells (s.heap.push { cls := .type "dict", data := .dict #[] }) scope.names } where
  i := block_start I.i ok hN hfp
  t := I.t
  l := fun m hn _ x _ u _ _ _ e => by
    obtain ⟨o, es, ep, e1, d1, _, f1⟩ := hn
    have e2 : (pushCells (s.heap.push { cls := .type "dict", data := .dict #[] }) scope.names).get? s.heap.objs.size = some { cls := .type "dict", data := .dict #[] } := pushCells_keeps _ _ _ _ (Heap.get?_push_size _ rfl)
    rw [show (compEnvC scope (cellsFrom (s.heap.objs.size + 1) scope.names (cloFrom X.env.cells scope.names [])) s.heap.objs.size X.env).locals = s.heap.objs.size from rfl] at e1
    rw [e2] at e1
    cases e1
    cases d1
    rw [← f1] at e
    cases e
  c := fun x c v e hc => by
    have e : (cellsFrom (s.heap.objs.size + 1) scope.names (cloFrom X.env.cells scope.names [])).lookup x = some c := e
    rw [← Heap.size_push s.heap { cls := .type "dict", data := .dict #[] }] at e
    rcases cells_mem (PySem.mem_of_lookup e) with hm | ⟨_, _, h3⟩
    · rcases cloFrom_mem hm with hm | ⟨h1, rfl⟩
      · cases hm
      · obtain ⟨c, hcl⟩ : ∃ c, X.env.cells.lookup x = some c := by
          rcases ok.free _ h1 rfl with z | z
          · exact I.i.ok.has _ (.inl z)
          · exact I.i.ok.has _ (.inr z)
        rw [hcl] at hc
        obtain ⟨o, eo⟩ := I.toC hcl
        refine I.c x c v hcl ?_
        obtain ⟨o2, e2, d2⟩ := hc
        have e3 := pushCells_keeps scope.names (s.heap.push { cls := .type "dict", data := .dict #[] }) c o (Heap.get?_push_of_some _ eo)
        have e2 : (pushCells (s.heap.push { cls := .type "dict", data := .dict #[] }) scope.names).get? c = some o2 := e2
        rw [e3] at e2
        cases e2
        exact ⟨o, eo, d2⟩
    · obtain ⟨o2, e2, d2⟩ := hc
      have e2 : (pushCells (s.heap.push { cls := .type "dict", data := .dict #[] }) scope.names).get? c = some o2 := e2
      obtain ⟨o3, e3, d3⟩ := h3
      rw [e2] at e3
      cases e3
      rw [d2] at d3
      cases d3
  h := fun a o e => (I.h a o e).kept fun b u q => pushCells_keeps _ _ _ _ (Heap.get?_push_of_some _ q)
  k := I.k
theorem thnF {α : Type} {t : Sem α} {Q Q' : α → Shared → Prop} {M : Model} {A : Around} {E : Value → Shared → Prop} {s : Shared} (h : wpAny M A t Q (fun _ _ => False) s) (f : ∀ a s, Q a s → Q' a s) : wpAny M A t Q' E s := wpAny_mono h f fun _ _ z => z.elim
theorem lc_core {Q : VK} {elt tg iter : Expr} {ifs : List Expr} {scope : Scope} {own : List (Str × Nat)} {pos pos' : Pos} {wi : TI} {g : TG} {tt : TT} {te : TE} {use : Option (Value → Sem Unit)} {Qf : Value → Shared → Prop}
    (calm : X.calm = true) (nd : X.N.Nodup) (I : Inv T X pins σ H s) (hi : PI T X tg iter wi) (ok : BlkOk X.N X.env.scope scope own)
    (hg : ∀ (s : Shared) (H : Hp) (C : Addr) (cl : List (Str × Addr)) (fp : List Addr), PG T (X.blk s H scope (compEnvC scope cl C X.env) fp) tg g) (ht : ∀ (s : Shared) (H : Hp) (C : Addr) (cl : List (Str × Addr)) (fp : List Addr), PTs T (X.blk s H scope (compEnvC scope cl C X.env) fp) ifs tt)
    (he : ∀ (s : Shared) (H : Hp) (C : Addr) (cl : List (Str × Addr)) (fp : List Addr), PE T (X.blk s H scope (compEnvC scope cl C X.env) fp) elt te) (fs : ∀ x, foldedSetIterable iter X.env x = pure x)
    (q : tLc wi g tt te (own.map (·.2)) σ H Q)
    (fin : ∀ D C s' m H', Inv T X pins σ H' s' → Q (.ref D) H' → s'.heap.Ns C m → FpOk X pins H' C → compPost (model X.prog X.w) X.A X.xe use Qf (.ref D) C (.ok .next) s') :
    wpAny (model X.prog X.w) X.A (comprehension (.ListComp elt [⟨tg, iter, ifs, 0⟩] scope pos) scope X.env pos' (newList []) false (eval iter X.env) use) Qf X.xe s := by
  have caught : ∀ y ∈ scope.names, y.2 = .free → ∃ c, X.env.cells.lookup y.1 = some c := fun y hy e => (ok.free y hy e).elim (fun z => I.i.ok.has _ (.inl z)) fun z => I.i.ok.has _ (.inr z)
  refine wpAny_comprehension_free (use := use) rfl fs (closure_ok caught) ok.kind (fun y hy e => by rw [ok.uniq y hy, e]) (thn (hi.run pins s σ H _ I q) fun xv s1 q1 => thn q1 fun itv s2 q2 => ?_)
  obtain ⟨it, fp, tn, J, H2, rfl, I2, U, st2, f2, q3⟩ := q2
  refine wpAny_newObj_type (newEnv_comp ?_) (by show 0 ≤ sizeLine; decide)
  obtain ⟨D, hD⟩ : ∃ D, s2.heap.objs.size = D := ⟨_, rfl⟩
  rw [hD]
  have fresh : H2 D = none := I2.i.hok.fresh (Nat.le_of_eq hD)
  obtain ⟨W, ⟨m0, w0⟩, turn⟩ := q3 D fresh
  generalize hz3 : ({ s2 with heap := s2.heap.push { cls := .type "list", data := .seq ([] : List Value).toArray } } : Shared) = z3
  have I3 : Inv T X pins σ (upd H2 D (.lst [])) z3 := by
    have there : (s2.heap.push { cls := .type "list", data := .seq ([] : List Value).toArray }).get? D = some { cls := .type "list", data := .seq ([] : List Value).toArray } := by
      rw [← hD]
      exact Heap.get?_push_size _ rfl
    rw [← hz3]
    exact I2.laid (t' := s2.toks) (fun b o e => Heap.get?_push_of_some _ e) (Nat.le_of_eq hD) ⟨Nat.zero_le _, [], 0, .nil, there⟩ ⟨_, there, fun v hv => by simp at hv⟩ (Nat.le_refl _)
  have heap3 : z3.heap = s2.heap.push { cls := .type "list", data := .seq ([] : List Value).toArray } := by rw [← hz3]
  have f3 : ∀ b ∈ fp, FpOk X pins (upd H2 D (.lst [])) b ∧ b < z3.heap.objs.size := fun b hb => by
    obtain ⟨ob, eb, _⟩ := U.v.obj _ _ st2 b hb
    have lt := Heap.lt_size eb
    refine ⟨⟨?_, (f2 b hb).2⟩, by rw [heap3, Heap.size_push]; exact Nat.lt_succ_of_lt lt⟩
    rw [upd_ne (by rw [← hD]; exact Nat.ne_of_lt lt)]
    exact (f2 b hb).1
  have st3 : tn 0 z3.heap := U.v.keep _ _ _ st2 fun b _ o e => by rw [heap3]; exact Heap.get?_push_of_some _ e
  have I4 := block I3 ok nd f3
  have pg := hg z3 (upd H2 D (.lst [])) z3.heap.objs.size (cellsFrom (z3.heap.objs.size + 1) scope.names (cloFrom X.env.cells scope.names [])) fp
  have pt := ht z3 (upd H2 D (.lst [])) z3.heap.objs.size (cellsFrom (z3.heap.objs.size + 1) scope.names (cloFrom X.env.cells scope.names [])) fp
  have pe := he z3 (upd H2 D (.lst [])) z3.heap.objs.size (cellsFrom (z3.heap.objs.size + 1) scope.names (cloFrom X.env.cells scope.names [])) fp
  show codeAny _ _ (.compStart (.ListComp elt [⟨tg, iter, ifs, 0⟩] scope pos) 0 (.ref it) (.ref D) (compEnvC scope (cellsFrom (z3.heap.objs.size + 1) scope.names (cloFrom X.env.cells scope.names [])) z3.heap.objs.size X.env)) (compPost (model X.prog X.w) X.A X.xe use Qf (.ref D) z3.heap.objs.size) { z3 with heap := pushCells (z3.heap.push { cls := .type "dict", data := .dict #[] }) scope.names }
  have none3 : ∀ b ∈ fp, (upd H2 D (.lst [])) b = none := fun b hb => (f3 b hb).1.1
  generalize ece : compEnvC scope (cellsFrom (z3.heap.objs.size + 1) scope.names (cloFrom X.env.cells scope.names [])) z3.heap.objs.size X.env = ce at I4 pg pt pe ⊢
  have loc : ce.locals = z3.heap.objs.size := by subst ece; rfl
  generalize eH3 : upd H2 D (.lst []) = H3 at I3 I4 pg pt pe w0 none3 f3
  generalize ez4 : ({ z3 with heap := pushCells (z3.heap.push { cls := .type "dict", data := .dict #[] }) scope.names } : Shared) = z4 at I4 ⊢
  have st4 : tn 0 z4.heap := U.v.keep _ _ _ st3 fun b _ o e => by rw [← ez4]; exact pushCells_keeps _ _ _ _ (Heap.get?_push_of_some _ e)
  have ours : ∀ {σ' : St} {H' : Hp} {z : Shared}, Inv T (X.blk z3 H3 scope ce fp) [] σ' H' z → (∀ b ∈ fp, H' b = none) → ∀ b ∈ fp, FpOk (X.blk z3 H3 scope ce fp) [] H' b := fun {σ' H' z} I' hn b hb =>
    ⟨hn b hb, (I'.i.ok.exf b hb).1, I'.i.ok.exfs b hb, .inl hb, (I'.i.ok.exf b hb).2, fun p hp => by cases hp⟩
  have loop : codeAny (model X.prog X.w) X.A (.compLoop (.ListComp elt [⟨tg, iter, ifs, 0⟩] scope pos) 0 (.ref it) (.ref D) ce) (compPost (model X.prog X.w) X.A X.xe use Qf (.ref D) z3.heap.objs.size) z4 := by
    have tz : z4.toks = z3.toks := by rw [← ez4]
    refine grownC (compLoop_any (fun n z => ∃ i H', Inv T (X.blk z3 H3 scope ce fp) [] (wipe σ (own.map (·.2))) H' z ∧ tn i z.heap ∧ (∀ b ∈ fp, H' b = none) ∧ W i n H') ?_ m0 ⟨0, H3, I4, st4, none3, w0⟩)
    rintro n z5 ⟨i, H5, I5, st5, n5, w5⟩
    rcases turn i n H5 w5 with ⟨stop, qq⟩ | ⟨go, Nx, hNx, each⟩
    · refine thnF (U.done (X.blk z3 H3 scope ce fp) rfl rfl rfl calm i [] z5 _ H5 (fun _ _ => False) I5 (ours I5 n5) st5 stop) fun r z6 ⟨hr, I6⟩ => ?_
      subst hr
      intro le
      have I7 : Inv T X pins σ H5 z6 := I3.call (ch := fp) I6.i.os I6.i.base I6.i.hok I6.i.bare (fun b hb => ⟨(f3 b hb).1.2.2.2.1, (f3 b hb).1.2.1, (f3 b hb).1.2.2.2.2.1, (f3 b hb).1.2.2.2.2.2⟩) (tz ▸ le) I6.h
      have free : H5 z3.heap.objs.size = none := by
        have z : H5 ce.locals = none := I6.i.free
        rw [loc] at z
        exact z
      obtain ⟨m, hn, _⟩ := I6.i.loc
      have hn : z6.heap.Ns ce.locals m := hn
      rw [loc] at hn
      exact fin D z3.heap.objs.size z6 m H5 I7 qq hn (I3.i.fpOk (Nat.le_refl _) free)
    · refine thnF (U.item (X.blk z3 H3 scope ce fp) rfl rfl rfl calm i [] z5 _ H5 (fun _ _ => False) I5 (ours I5 n5) st5 go) fun r z6 ⟨u, hr, q6⟩ => ?_
      subst hr
      refine thnF q6 fun _ z7 ⟨x, H7, I7, r7, g7, y7, st7, n7⟩ => ?_
      have held := I7.pinned (ours I7 n7) (U.v.obj _ _ st7)
      refine thnF (pg.run _ z7 _ H7 x u _ held r7 g7 (each x H7 y7)) fun _ z8 ⟨σ8, H8, I8, hw8, q8⟩ => ?_
      refine thnF (pt.run _ z8 σ8 H8 _ I8 q8) fun b z9 ⟨H9, I9, q9⟩ => ?_
      have on : ∀ {z : Shared} {H' : Hp}, Inv T (X.blk z3 H3 scope ce fp) ([] ++ pinsAt fp z7.heap) σ8 H' z → Nx H' → ∃ m, m < n ∧ ∃ i H', Inv T (X.blk z3 H3 scope ce fp) [] (wipe σ (own.map (·.2))) H' z ∧ tn i z.heap ∧ (∀ b ∈ fp, H' b = none) ∧ W i m H' := fun {z H'} I' nx => by
        obtain ⟨m', hm, w'⟩ := hNx H' nx
        have there : ∀ b ∈ fp, ∀ o, z7.heap.get? b = some o → z.heap.get? b = some o ∧ H' b = none := fun b hb o e =>
          let t := I'.i.pin (b, o) (List.mem_append_right _ (List.mem_append_right _ (mem_pinsAt hb e)))
          ⟨t.1, t.2.1⟩
        refine ⟨m', hm, i + 1, H', (I'.unpinned (pins := [])).weak (by rw [← hw8, wipe_length]) (fun j v e => ?_), U.v.keep _ _ _ st7 fun b hb o e => (there b hb o e).1, fun b hb => ?_, w'⟩
        · rw [← hw8] at e
          exact (wipe_some e).1
        · obtain ⟨o, e, _⟩ := U.v.obj _ _ st7 b hb
          exact (there b hb o e).2
      cases b
      · simp only [Bool.false_eq_true, if_false] at q9 ⊢
        exact on I9 q9
      · simp only [if_true] at q9 ⊢
        exact thnF (pe.run _ z9 σ8 H9 _ I9 q9) fun z z10 ⟨yv, H10, I10, r10, g10, acc, hD10, lt10, nx⟩ => app_ok (X := X.blk z3 H3 scope ce fp) I10 hD10 lt10 r10 g10 fun z11 I11 => on I11 nx
  exact codeAny_compStart_list loop (U.v.self X.A 0 _ _ _ st4 loop)
theorem pe_lc {elt tg iter : Expr} {ifs : List Expr} {scope : Scope} {own : List (Str × Nat)} {pos : Pos} {wi : TI} {g : TG} {tt : TT} {te : TE} (hc : X.calm = true) (hN : X.N.Nodup) (hi : PI T X tg iter wi) (ok : BlkOk X.N X.env.scope scope own)
    (hg : ∀ (s : Shared) (H : Hp) (C : Addr) (cl : List (Str × Addr)) (fp : List Addr), PG T (X.blk s H scope (compEnvC scope cl C X.env) fp) tg g) (ht : ∀ (s : Shared) (H : Hp) (C : Addr) (cl : List (Str × Addr)) (fp : List Addr), PTs T (X.blk s H scope (compEnvC scope cl C X.env) fp) ifs tt)
    (he : ∀ (s : Shared) (H : Hp) (C : Addr) (cl : List (Str × Addr)) (fp : List Addr), PE T (X.blk s H scope (compEnvC scope cl C X.env) fp) elt te) (hs : ∀ x, foldedSetIterable iter X.env x = pure x := by intro _; rfl) :
    PE T X (.ListComp elt [⟨tg, iter, ifs, 0⟩] scope pos) (tLc wi g tt te (own.map (·.2))) := by
  refine ⟨fun pins s σ H Q I q => ?_⟩
  rw [eval_ListComp]
  exact lc_core hc hN I hi ok hg ht he hs q fun D C s' m H' I' z hn f => ⟨m, hn, fun h2 sb => ⟨.ref D, H', I'.turned (t' := s'.toks) (fun b o hb e => (sb.2 b hb).trans e) f (Nat.le_refl _), rfl, trivial, z⟩⟩
end
end GT

/-! UnGE: rules by values. -/
namespace GT
open PySem PySem.Spec PyProof.Rows L2 Un
/-- tokens only grow -/
theorem grown {α : Type} {M : Model} {A : Around} {s : Shared} {t : Sem α} {Q : α → Shared → Prop} {E : Value → Shared → Prop} (h : wpAny M A t (fun a s' => s.toks ≤ s'.toks → Q a s') E s) : wpAny M A t Q E s :=
  wpAny_mono (wpAny_toks h) (fun _ _ x => x.2 x.1) fun _ _ x => x.2
section
variable {T : TK} {X : Cx} {a b c e : Expr} {ta tb tc te : TE} {pos : Pos}
/-! ### ints -/
theorem opI {f : Value → Value → Sem Value} {C : Int → Int → Prop} {g : Int → Int → Int}
    (rule : ∀ (i j : Int) (t u : Tok) (s : Shared) (Q : Value → Shared → Prop) (E : Value → Shared → Prop), C i j → Q (.int (g i j) s.toks) { s with toks := s.toks + 1 } → wpAny (model X.prog X.w) X.A (f (.int i t) (.int j u)) Q E s) : OpR T X f (rI C fun i j => .int (g i j)) := by
  rintro pins s σ H x y v u Q I rx ry _ _ ⟨i, j, rfl, rfl, hc, q⟩
  obtain ⟨t, rfl⟩ := rx
  obtain ⟨t2, rfl⟩ := ry
  exact rule i j t t2 s _ _ hc ⟨.int (g i j), H, I.up, ⟨_, rfl⟩, trivial, q⟩
theorem opI0 {f : Value → Value → Sem Value} {g : Int → Int → Int}
    (rule : ∀ (i j : Int) (t u : Tok) (s : Shared) (Q : Value → Shared → Prop) (E : Value → Shared → Prop), Q (.int (g i j) s.toks) { s with toks := s.toks + 1 } → wpAny (model X.prog X.w) X.A (f (.int i t) (.int j u)) Q E s) : OpR T X f (rI0 fun i j => .int (g i j)) := by
  rintro pins s σ H x y v u Q I rx ry _ _ ⟨i, j, rfl, rfl, q⟩
  obtain ⟨t, rfl⟩ := rx
  obtain ⟨t2, rfl⟩ := ry
  exact rule i j t t2 s _ _ ⟨.int (g i j), H, I.up, ⟨_, rfl⟩, trivial, q⟩
theorem opB0 {f : Value → Value → Sem Value} {g : Int → Int → Bool}
    (rule : ∀ (i j : Int) (t u : Tok) (s : Shared) (Q : Value → Shared → Prop) (E : Value → Shared → Prop), Q (.bool (g i j)) s → wpAny (model X.prog X.w) X.A (f (.int i t) (.int j u)) Q E s) : OpR T X f (rI0 fun i j => .bl (g i j)) := by
  rintro pins s σ H x y v u Q I rx ry _ _ ⟨i, j, rfl, rfl, q⟩
  obtain ⟨t, rfl⟩ := rx
  obtain ⟨t2, rfl⟩ := ry
  exact rule i j t t2 s _ _ ⟨.bl (g i j), H, I, rfl, trivial, q⟩
theorem op_add : OpR T X (binaryOp .Add) (rI0 fun i j => .int (i + j)) := opI0 fun _ _ _ _ _ _ _ q => add_int q
theorem op_sub : OpR T X (binaryOp .Sub) (rI0 fun i j => .int (i - j)) := opI0 fun _ _ _ _ _ _ _ q => sub_int q
theorem op_mul : OpR T X (binaryOp .Mult) (rI CMul fun i j => .int (i * j)) := opI fun _ _ _ _ _ _ _ hc q => mul_int q hc.ok
theorem op_mulW : OpR T X (binaryOp .Mult) (rI CMulW fun i j => .int (i * j)) := opI fun _ _ _ _ _ _ _ hc q => mul_int q hc.ok
theorem op_mod : OpR T X (binaryOp .Mod) (rI (fun _ j => 0 < j) fun i j => .int (i % j)) := opI fun i j _ _ _ _ _ (hc : 0 < j) q => mod_int' (by omega) (by rw [Int.fmod_eq_emod_of_nonneg i (by omega)]; exact q)
theorem op_fdivW : OpR T X (binaryOp .FloorDiv) (rI CDivW fun i j => .int (i / j)) := opI fun i j _ _ _ _ _ hc q => by
  have pos : (0 : Int) < j := hc.1
  exact floordiv_int (by omega) (by rw [Int.fdiv_eq_ediv_of_nonneg i (by omega)]; exact q) (.inl (PyProof.noPylong_of_log2 hc.2))
theorem op_pow : OpR T X (binaryOp .Pow) (rI CPow fun i j => .int (i ^ j.toNat)) := opI fun _ _ _ _ _ _ _ hc q => pow_int_small hc.1 hc.2.1 hc.2.2 q
theorem op_lt : OpR T X (compareOp .Lt) (rI0 fun i j => .bl (decide (i < j))) := opB0 fun _ _ _ _ _ _ _ q => lt_int q
theorem op_le : OpR T X (compareOp .LtE) (rI0 fun i j => .bl (decide (i ≤ j))) := opB0 fun _ _ _ _ _ _ _ q => le_int q
theorem op_gt : OpR T X (compareOp .Gt) (rI0 fun i j => .bl (decide (j < i))) := opB0 fun _ _ _ _ _ _ _ q => gt_int q
theorem op_ge : OpR T X (compareOp .GtE) (rI0 fun i j => .bl (decide (j ≤ i))) := opB0 fun _ _ _ _ _ _ _ q => ge_int q
theorem un_neg : UnR T X (unaryOp .USub) (rU fun i => .int (-i)) := by
  rintro pins s σ H x v Q I rx _ ⟨i, rfl, q⟩
  obtain ⟨t, rfl⟩ := rx
  exact neg_int ⟨.int (-i), H, I.up, ⟨_, rfl⟩, trivial, q⟩
/-! ### the scalars that == tells apart -/
theorem fin_bl {pins : List (Addr × Obj)} {σ : St} {H : Hp} {s : Shared} {Q : VK} {k k' : Bool} (I : Inv T X pins σ H s) (q : Q (.bl k) H) (e : k = k') : EP T X pins σ Q (.bool k') s := by
  subst e
  exact ⟨.bl k, H, I, rfl, trivial, q⟩
theorem op_eq : OpR T X (compareOp .Eq) rEq := by
  rintro pins s σ H x y v u Q I rx ry _ _ ⟨hs, q⟩
  cases x <;> cases y <;> first | (exact absurd (show false = true from hs) Bool.false_ne_true) | skip
  · cases rx; cases ry; exact PySem.EqNone.eq_none_none (fin_bl I q (by simp))
  · cases rx; cases ry; exact PySem.EqNone.eq_none_bool (fin_bl I q (by simp))
  · cases rx; obtain ⟨_, rfl⟩ := ry; exact PySem.EqNone.eq_none_int (fin_bl I q (by simp))
  · cases rx; obtain ⟨_, rfl⟩ := ry; exact PySem.EqNone.eq_none_str (fin_bl I q (by simp))
  · cases rx; cases ry; exact PySem.EqNone.eq_bool_none (fin_bl I q (by simp))
  · cases rx; cases ry; exact eq_bool (fin_bl I q dec_bl)
  · cases rx; obtain ⟨_, rfl⟩ := ry; exact PySem.EqMixed.eq_bool_str (fin_bl I q (by simp))
  · obtain ⟨_, rfl⟩ := rx; cases ry; exact PySem.EqNone.eq_int_none (fin_bl I q (by simp))
  · obtain ⟨_, rfl⟩ := rx; obtain ⟨_, rfl⟩ := ry; exact eq_int (fin_bl I q dec_int)
  · obtain ⟨_, rfl⟩ := rx; obtain ⟨_, rfl⟩ := ry; exact PySem.EqMixed.eq_int_str (fin_bl I q (by simp))
  · obtain ⟨_, rfl⟩ := rx; cases ry; exact PySem.EqNone.eq_str_none (fin_bl I q (by simp))
  · obtain ⟨_, rfl⟩ := rx; cases ry; exact PySem.EqMixed.eq_str_bool (fin_bl I q (by simp))
  · obtain ⟨_, rfl⟩ := rx; obtain ⟨_, rfl⟩ := ry; exact PySem.EqMixed.eq_str_int (fin_bl I q (by simp))
  · obtain ⟨_, rfl⟩ := rx; obtain ⟨_, rfl⟩ := ry; exact eq_str (fin_bl I q dec_str)
  · obtain ⟨_, rfl⟩ := rx; obtain ⟨_, rfl⟩ := ry; exact PySem.W.eq_bytes (fin_bl I q dec_byt)
theorem op_ne : OpR T X (compareOp .NotEq) rNe := by
  rintro pins s σ H x y v u Q I rx ry _ _ ⟨hs, q⟩
  cases x <;> cases y <;> first | (exact absurd (show false = true from hs) Bool.false_ne_true) | skip
  · cases rx; cases ry; exact PySem.EqNone.ne_none_none (fin_bl I q (by simp))
  · cases rx; cases ry; exact PySem.EqNone.ne_none_bool (fin_bl I q (by simp))
  · cases rx; obtain ⟨_, rfl⟩ := ry; exact PySem.EqNone.ne_none_int (fin_bl I q (by simp))
  · cases rx; obtain ⟨_, rfl⟩ := ry; exact PySem.EqNone.ne_none_str (fin_bl I q (by simp))
  · cases rx; cases ry; exact PySem.EqNone.ne_bool_none (fin_bl I q (by simp))
  · cases rx; cases ry; exact ne_bool (fin_bl I q (congrArg not dec_bl))
  · cases rx; obtain ⟨_, rfl⟩ := ry; exact PySem.EqMixed.ne_bool_str (fin_bl I q (by simp))
  · obtain ⟨_, rfl⟩ := rx; cases ry; exact PySem.EqNone.ne_int_none (fin_bl I q (by simp))
  · obtain ⟨_, rfl⟩ := rx; obtain ⟨_, rfl⟩ := ry; exact ne_int (fin_bl I q (congrArg not dec_int))
  · obtain ⟨_, rfl⟩ := rx; obtain ⟨_, rfl⟩ := ry; exact PySem.EqMixed.ne_int_str (fin_bl I q (by simp))
  · obtain ⟨_, rfl⟩ := rx; cases ry; exact PySem.EqNone.ne_str_none (fin_bl I q (by simp))
  · obtain ⟨_, rfl⟩ := rx; cases ry; exact PySem.EqMixed.ne_str_bool (fin_bl I q (by simp))
  · obtain ⟨_, rfl⟩ := rx; obtain ⟨_, rfl⟩ := ry; exact PySem.EqMixed.ne_str_int (fin_bl I q (by simp))
  · obtain ⟨_, rfl⟩ := rx; obtain ⟨_, rfl⟩ := ry; exact ne_str (fin_bl I q (congrArg not dec_str))
  · obtain ⟨_, rfl⟩ := rx; obtain ⟨_, rfl⟩ := ry; exact PySem.W.ne_bytes (fin_bl I q (congrArg not dec_byt))
theorem op_isN' : OpR T X (compareOp .Is) rIsN1 := by
  rintro pins s σ H x y v u Q I rx ry _ _ ⟨rfl, q⟩
  cases ry
  exact is_none_gen (fin_bl I q (by rw [← rx.none_iff]))
theorem op_notN' : OpR T X (compareOp .IsNot) rNotN1 := by
  rintro pins s σ H x y v u Q I rx ry _ _ ⟨rfl, q⟩
  cases ry
  exact isnot_none_gen (fin_bl I q (by rw [← rx.none_iff]))
/-! ### texts -/
theorem op_addX : OpR T X (binaryOp .Add) rAddX := by
  rintro pins s σ H x y v u Q I rx ry gx gy ⟨l, m, rfl, rfl, hz, q⟩
  obtain ⟨t, rfl⟩ := rx
  obtain ⟨t2, rfl⟩ := ry
  refine PySem.P.add_str ?_
  rw [← tx_app] at q
  by_cases h1 : (tx l).length = 0
  · rw [if_pos (by simp [h1])]
    have e : l = [] := by rw [tx_len] at h1; exact List.length_eq_zero_iff.mp h1
    subst e
    exact ⟨.str (tx m), H, I, ⟨t2, rfl⟩, gy, by rw [tx_app] at q; exact q⟩
  · rw [if_neg (by simp [h1])]
    by_cases h2 : (tx m).length = 0
    · rw [if_pos (by simp [h2])]
      have e : m = [] := by rw [tx_len] at h2; exact List.length_eq_zero_iff.mp h2
      subst e
      exact ⟨.str (tx l), H, I, ⟨t, rfl⟩, gx, by rw [tx_app, List.append_nil] at q; exact q⟩
    · rw [if_neg (by simp [h2])]
      exact ⟨by rw [tx_app, tx_len, List.length_append]; exact hz, .str _, H, I.up, ⟨_, rfl⟩, Gv.new I.t, q⟩
theorem op_mulT : OpR T X (binaryOp .Mult) rMulX := by
  rintro pins s σ H x y v u Q I rx ry gx gy ⟨l, n, rfl, rfl, h0, h1, hl, q⟩
  obtain ⟨t, rfl⟩ := rx
  obtain ⟨t2, rfl⟩ := ry
  have lenl : (tx l).length = l.length := tx_len l
  rw [← txt_mul] at q
  unfold Txt.mul at q
  have line : (100000 : Nat) ≤ sizeLine := by decide
  have ok3 : ¬ n < 1 → (n == 1 || (tx l).length == 0) = false → Builtin.Str.tooLong ((tx l).length * n.toNat) = false := fun _ _ => by
    rw [lenl]
    unfold Builtin.Str.tooLong
    exact decide_eq_false (by omega)
  refine PySem.P.mul_str (by simp only [Bool.or_eq_false_iff, decide_eq_false_iff_not]; omega) (fun h1' _ => ?_) ok3 ?_
  · rw [lenl]
    have h2 : l.length * 1 ≤ l.length * n.toNat := Nat.mul_le_mul_left _ (by omega)
    have h3 : (100000 : Int) ≤ (2 ^ 63 - 1) / n := (Int.le_ediv_iff_mul_le (by omega)).mpr (by omega)
    omega
  · by_cases c1 : n < 1
    · rw [if_pos c1] at q ⊢
      exact ⟨by decide, .str _, H, I.up, ⟨_, rfl⟩, Gv.new I.t, q⟩
    · rw [if_neg c1] at q ⊢
      by_cases c2 : (n == 1 || (tx l).length == 0) = true
      · rw [if_pos c2] at q ⊢
        exact ⟨.str _, H, I, ⟨_, rfl⟩, gx, q⟩
      · rw [if_neg c2] at q ⊢
        exact ⟨fits_reps (ok3 c1 (by simpa using c2)), .str _, H, I.up, ⟨_, rfl⟩, Gv.new I.t, q⟩
theorem op_ltX : OpR T X (compareOp .Lt) rLtX := by
  rintro pins s σ H x y v u Q I rx ry _ _ ⟨l, m, rfl, rfl, q⟩
  obtain ⟨t, rfl⟩ := rx
  obtain ⟨t2, rfl⟩ := ry
  exact lt_str (fin_bl I q (by rw [tx_cps, tx_cps]))
theorem op_leX : OpR T X (compareOp .LtE) rLeX := by
  rintro pins s σ H x y v u Q I rx ry _ _ ⟨l, m, rfl, rfl, q⟩
  obtain ⟨t, rfl⟩ := rx
  obtain ⟨t2, rfl⟩ := ry
  exact PySem.P.le_str (fin_bl I q (by rw [tx_cps, tx_cps]))
theorem op_inX : OpR T X (compareOp .In) (rInX false) := by
  rintro pins s σ H x y v u Q I rx ry _ _ ⟨d, z, rfl, rfl, q⟩
  obtain ⟨t, rfl⟩ := rx
  obtain ⟨t2, rfl⟩ := ry
  have f := PySem.StrLaws.found_one (tx z) d
  rw [tx_cps] at f
  exact PyProof.Rows.in_str (fin_bl I q f.symm)
theorem op_notInX : OpR T X (compareOp .NotIn) (rInX true) := by
  rintro pins s σ H x y v u Q I rx ry _ _ ⟨d, z, rfl, rfl, q⟩
  obtain ⟨t, rfl⟩ := rx
  obtain ⟨t2, rfl⟩ := ry
  have f := PySem.StrLaws.found_one (tx z) d
  rw [tx_cps] at f
  exact PyProof.Rows.notIn_str (fin_bl I q (congrArg Bool.not f.symm))
/-! ### subscripts, slices -/
def IxR (T : TK) (X : Cx) (r : R2) : Prop :=
  ∀ (value slice : Expr) (pins : List (Addr × Obj)) (s : Shared) (σ : St) (H : Hp) (x y : V) (v u : Value) (Q : VK), Inv T X pins σ H s → RelV x v → RelV y u → Gv T s.toks v → Gv T s.toks u → r x y H Q →
    subscripted slice false v u = operate [v, u] (getItem v u) → wpAny (model X.prog X.w) X.A (subscriptTail value slice v u) (EP T X pins σ Q) X.xe s
theorem pe_ix {r : R2} (hr : IxR T X r) (ha : PE T X a ta) (hb : PE T X b tb) (hs : PlainIx b) : PE T X (.Subscript a b pos) (tOp r ta tb) :=
  ⟨fun pins s σ H Q I q => Subscript_ (bin ha hb I q fun v u s2 x y H2 I2 rx ry gx gy z => hr a b pins s2 σ H2 x y v u Q I2 rx ry gx gy z (hs _ _))⟩
theorem ix_list : IxR T X (rIxL X.K) := by
  rintro value slice pins s σ H x y v u Q I rx ry _ _ ⟨p, xs, i, z, rfl, rfl, hq, he, q⟩ hs
  cases rx
  obtain ⟨t, rfl⟩ := ry
  obtain ⟨its, r, pl, hz, gi⟩ := I.lst hq
  obtain ⟨j, h1, h2, h3, h4, h5⟩ := atI_get he
  obtain ⟨w, ew, rw'⟩ := r.get h2
  have hl := r.length
  have hn := line63
  have fin : EP T X pins σ Q w s := ⟨z, H, I, rw', get_good gi ew, q⟩
  by_cases h0 : 0 ≤ i
  · have hj : i.toNat = j := Option.some.inj ((seqIndex_of h0 h5).symm.trans h1)
    exact item_listR pl.isList h0 (by omega) (by rw [hj]; simpa using ew) fin hs
  · have hj : (i + (its.toArray.size : Int)).toNat = j := by
      have e := (seqIndex_neg (by omega) h4).symm.trans h1
      rw [List.size_toArray, ← hl]
      exact Option.some.inj e
    exact subscriptTail_builtinR (x := w) pl.isList.typeIs slot_list_getitem.lookup
      (wpAny_getItem_list_neg (Q := fun r z' => r = w ∧ EP T X pins σ Q r z') pl.isList (by omega) (by rw [List.size_toArray]; omega) (by omega) (by rw [hj]; simpa using ew) ⟨rfl, fin⟩) hs
theorem ix_tup : IxR T X (rIxT X.K) := by
  rintro value slice pins s σ H x y v u Q I rx ry _ _ ⟨p, xs, i, z, rfl, rfl, hq, he, q⟩ hs
  cases rx
  obtain ⟨t, rfl⟩ := ry
  obtain ⟨its, r, pl, hz, gi⟩ := I.tpl hq
  obtain ⟨j, h1, h2, h3, h4, h5⟩ := atI_get he
  obtain ⟨w, ew, rw'⟩ := r.get h2
  have hl := r.length
  have hn := line63
  exact subscriptTail_builtinR (x := w) pl.typeIs slot_tuple_getitem.lookup
    (getItem_tuple (j := j) (Q := fun r z' => r = w ∧ EP T X pins σ Q r z') pl (by omega) (by omega) (by rw [List.size_toArray, ← hl]; exact h1) (by simpa using ew) ⟨rfl, z, H, I, rw', get_good gi ew, q⟩) hs
theorem ix_strX : IxR T X rIxX := by
  rintro value slice pins s σ H x y v u Q I rx ry _ _ ⟨l, i, d, rfl, rfl, hz, he, q⟩ hs
  obtain ⟨t, rfl⟩ := rx
  obtain ⟨t2, rfl⟩ := ry
  obtain ⟨j, h1, h2, h3, h4, h5⟩ := atI_get he
  have hn := line63
  refine tail_any (typeIs_str s (tx l) t) slot_str_getitem.lookup (getItem_str (c := d) ?_ ?_ ⟨.str ⟨#[d]⟩, H, I.up, ⟨_, rfl⟩, Gv.new I.t, q⟩) hs
  · rw [decide_eq_false (by omega), decide_eq_false (by omega)]
    rfl
  · rw [tx_len, h1]
    simpa [tx] using h2
structure PO (T : TK) (X : Cx) (e : Option Expr) (t : TO) : Prop where
  run : ∀ (pins : List (Addr × Obj)) (s : Shared) (σ : St) (H : Hp) (Q : Option Int → Hp → Prop), Inv T X pins σ H s → t σ H Q →
    wpAny (model X.prog X.w) X.A (evalPart e X.env) (fun u s' => ∃ o H', Inv T X pins σ H' s' ∧ IsPart u o ∧ Q o H') X.xe s
theorem po_none : PO T X none tNoPart := by
  refine ⟨fun pins s σ H Q I q => ?_⟩
  rw [evalPart_none]
  exact wpAny_pure ⟨none, H, I, .none, q⟩
theorem po_some (h : PE T X e te) : PO T X (some e) (tPart te) := by
  refine ⟨fun pins s σ H Q I q => ?_⟩
  rw [evalPart_some]
  refine thn (h.run pins s σ H _ I q) fun u s1 ⟨x, H1, I1, r1, _, i, e1, q1⟩ => ?_
  subst e1
  obtain ⟨t, rfl⟩ := r1
  exact ⟨some i, H1, I1, .int i t, q1⟩
def SlR (T : TK) (X : Cx) (r : V → Option Int → Option Int → Hp → VK → Prop) : Prop :=
  ∀ (pins : List (Addr × Obj)) (s : Shared) (σ : St) (H : Hp) (x : V) (v vl vu : Value) (lo hi : Option Int) (sl : Addr) (Q : VK), Inv T X pins σ H s → RelV x v → Gv T s.toks v → s.heap.IsSliceOf sl vl vu .none → IsPart vl lo → IsPart vu hi → r x lo hi H Q →
    ∃ Ty id, typeLookup (.type Ty) "__getitem__" = pure (some (.builtin id)) ∧ s.TypeIs v Ty ∧ wpAny (model X.prog X.w) X.A (getItem v (.ref sl)) (EP T X pins σ Q) X.xe s
theorem pe_slice {r : V → Option Int → Option Int → Hp → VK → Prop} {lo hi : Option Expr} {tl th : TO} {p2 : Pos} (hr : SlR T X r) (he : PE T X e te) (hl : PO T X lo tl) (hu : PO T X hi th) : PE T X (.Subscript e (.Slice lo hi none p2) pos) (tSl r te tl th) := by
  refine ⟨fun pins s σ H Q I q => Subscript_ (thn (he.run pins s σ H _ I q) fun v s1 ⟨x, H1, I1, r1, g1, q1⟩ => ?_)⟩
  refine wpAny_Slice (thn (up (hl.run pins s1 σ H1 _ I1 q1)) fun vl s2 ⟨l1, l, H2, I2, pl, q2⟩ => thn (up (hu.run pins s2 σ H2 _ I2 q2)) fun vu s3 ⟨l2, u, H3, I3, pu, q3⟩ => ?_)
  rw [evalPart_none]
  refine wpAny_pure ?_
  have I4 : Inv T X pins σ H3 { s3 with heap := s3.heap.push { cls := .type "slice", data := .fields #[vl, vu, .none] } } := I3.kept (t' := s3.toks) (fun b ob z => Heap.get?_push_of_some _ z) (Nat.le_refl _)
  obtain ⟨Ty, id, hT, ht, run⟩ := hr pins _ σ H3 x v vl vu l u s3.heap.objs.size Q I4 r1 (g1.up (Nat.le_trans l1 l2)) (Heap.IsSliceOf.new ..) pl pu q3
  show wpAny _ _ (subscriptTail e (.Slice lo hi none p2) v (.ref s3.heap.objs.size)) _ _ _
  exact tail_any (ops := [.ref s3.heap.objs.size, v]) ht hT run (by with_unfolding_all rfl)
theorem Gvs.drop {us : List Value} {b : Nat} (g : Gvs T b us) (n : Nat) : Gvs T b (us.drop n) := fun v hv => g v (List.mem_of_mem_drop hv)
theorem Gvs.take {us : List Value} {b : Nat} (g : Gvs T b us) (n : Nat) : Gvs T b (us.take n) := fun v hv => g v (List.mem_of_mem_take hv)
theorem sl_list : SlR T X (rSlL X.K) := by
  rintro pins s σ H x v vl vu lo hi sl Q I rx _ hs pl pu ⟨a, xs, rfl, hx, q⟩
  cases rx
  obtain ⟨its, r, ht, hz, gi⟩ := I.lst hx
  have hlen := r.length
  refine ⟨"list", _, slot_list_getitem.lookup, ht.isList.typeIs, wpAny_getItem_list_slice ht.isList hs pl pu .none (by simp) ?_ (by rw [List.size_toArray]; omega)⟩
  rw [slicePick_cut, ← hlen]
  have new := Heap.get?_push_size s.heap (o := { cls := .type "list", data := .seq ((its.drop (HT.sIx xs.length 0 lo)).take (HT.sIx xs.length xs.length hi - HT.sIx xs.length 0 lo)).toArray }) rfl
  exact ⟨.ref s.heap.objs.size, _, I.laid (t' := s.toks) (o := .lst (cutV xs lo hi)) (fun b ob z => Heap.get?_push_of_some _ z) (Nat.le_refl _) ⟨Nat.le_trans (cutV_length xs lo hi) hz, _, 0, (r.drop (HT.sIx xs.length 0 lo)).take _, new⟩
    ⟨_, new, fun w hw => ((gi.drop _).take _) w (by simpa using hw)⟩ (Nat.le_refl _), rfl, trivial, q _ (I.i.hok.fresh (Nat.le_refl _))⟩
theorem sl_strX : SlR T X rSlX := by
  rintro pins s σ H x v vl vu lo hi sl Q I rx gx ⟨os, hos, hcs, hds⟩ pl pu ⟨z, rfl, hz, q⟩
  obtain ⟨t, rfl⟩ := rx
  obtain ⟨l, rfl, rfl⟩ := IsPart.raw pl
  obtain ⟨u, rfl, rfl⟩ := IsPart.raw pu
  refine ⟨"str", _, F.slot_str_getitem.lookup, typeIs_str _ _ _, wpAny_getItem_str_slice (l := l) (u := u) (st := none) ⟨os, hos, hcs, hds⟩ rfl ?_⟩
  have fits : (PySem.StrLaws.sliceText (tx z) (l.map (·.1)) (u.map (·.1))).length ≤ sizeLine := by
    rw [sliceText_cut]
    exact Nat.le_trans (cutS_length (tx z) _ _) (by rw [tx_len]; exact hz)
  rw [← cutS_tx, ← sliceText_cut] at q
  unfold PySem.StrLaws.sliceText at q fits
  show Made.post (if ((1 : Int) == 1 && (Builtin.Str.strSliceIndices (l.map (·.1)) (u.map (·.1)) 1 (tx z).length).length == (tx z).length) = true then Made.val (.str (tx z) t)
    else Made.str ⟨((Builtin.Str.strSliceIndices (l.map (·.1)) (u.map (·.1)) 1 (tx z).length).filterMap ((tx z).cps[·]?)).toArray⟩) (EP T X pins σ Q) s
  by_cases d : ((1 : Int) == 1 && (Builtin.Str.strSliceIndices (l.map (·.1)) (u.map (·.1)) 1 (tx z).length).length == (tx z).length) = true
  · rw [if_pos d] at q ⊢
    exact ⟨.str (tx z), H, I, ⟨t, rfl⟩, gx, q⟩
  · rw [if_neg d] at q fits ⊢
    exact ⟨fits, .str _, H, I.up, ⟨_, rfl⟩, Gv.new I.t, q⟩
end
end GT

/-! UnGF: instances, calls, defs. -/
namespace GT
open PySem PySem.Spec PyProof.Rows L2 Un
section
variable {T : TK} {X : Cx} {pins : List (Addr × Obj)} {σ : St} {H : Hp} {s : Shared} {a C dx : Addr} {fs : List (Str × V)} {f : Str} {v : V} {A : Around} {E : Value → Shared → Prop}
theorem getattr_ok {b : Bool} {Q : Value → Shared → Prop} (I : Inv T X pins σ H s) (e : H a = some (.ins C dx fs)) (c : Cls X.K C) (n : NoAttr X.K C f) (l : fs.lookup f = some v)
    (h : ∀ u s', Inv T X pins σ H s' → RelV v u → Gv T s'.toks u → Q u s') : wpAny (model X.prog X.w) A (getAttr (.ref a) f b) Q E s := by
  obtain ⟨mA, O, r, _, _, _⟩ := ins_get I.i.hok e
  obtain ⟨u, hu, ru⟩ := RelO.some_of (v := v) (o := mA f) (by rw [← l]; exact r f)
  exact get_map I.i.kIn O (c.get f) c.hd n hu (handed_of ru) (h u _ I.up ru (((show Ng T s.toks s.heap dx from I.h a _ e).get O.ns.ns hu).up (Nat.le_succ _)))
theorem getmeth_ok {m : Str} {g : Addr} {pl : Sem Bool} {Q : Value × List Value → Shared → Prop} (I : Inv T X pins σ H s) (e : H a = some (.ins C dx fs)) (c : Cls X.K C) (k : Meth X.K C m g) (l : fs.lookup m = none) (h : Q (.ref g, [.ref a]) s) :
    wpAny (model X.prog X.w) A (getMethod (.ref a) m pl) Q E s := L2.getmeth_ok I.i e c k l h
theorem setattr_ok {y : V} {u : Value} {Q : Unit → Shared → Prop} (I : Inv T X pins σ H s) (e : H a = some (.ins C dx fs)) (c : Cls X.K C) (n : NoAttr X.K C f) (hl : fs.length < 1000) (ry : RelV y u) (g : Gv T s.toks u)
    (h : ∀ s', Inv T X pins σ (upd H a (.ins C dx (putF f y fs))) s' → Q () s') : wpAny (model X.prog X.w) A (setAttr (.ref a) f u) Q E s := by
  obtain ⟨mA, O, r, wi, _, ho⟩ := ins_get I.i.hok e
  have own := (show Ng T s.toks s.heap dx from I.h a _ e)
  have few : (fs.map (·.1)).length ≤ sizeLine := by rw [List.length_map, sizeLine_eq]; omega
  refine set_map I.i.kIn O c.sa c.po n.taker c.hd wi few fun h2 O2 sb => h _ ?_
  refine I.write (x := a) (e := dx) (by rw [e]; exact True.intro) (.inr ho) (fun b q hb z => (sb.2 b hb).trans z) (let ⟨o, _, _, z, _⟩ := O2.ns; ⟨o, z⟩) ?_ ⟨_, O2.ns.ns, fun x w hw => ?_⟩ (Nat.le_add_right _ _)
  · refine ⟨by rw [upd_ne O.ne]; exact ho, ?_, O.ne, O2.obj, _, O2.ns, fun k => ?_, fun k hk => ?_⟩
    · have := length_putF f y fs
      omega
    · show RelO ((putF f y fs).lookup k) (if k = f then some u else mA k)
      rw [lookup_putF]
      split
      · exact ry
      · exact r k
    · by_cases z : k = f
      · rw [z]
        exact (keys_putF f y fs).1
      · refine (keys_putF f y fs).2 k (wi k fun w => hk ?_)
        show (if k = f then some u else mA k) = none
        rw [if_neg z]
        exact w
  · have hw : (if x = f then some u else mA x) = some w := hw
    split at hw
    · cases hw
      exact g.up (Nat.le_add_right _ _)
    · exact (own.get O.ns.ns hw).up (Nat.le_add_right _ _)
theorem Inv.made (I : Inv T X pins σ H s) : Inv T X pins σ (upd (upd H s.heap.objs.size (.own (s.heap.objs.size + 1))) (s.heap.objs.size + 1) (.ins C s.heap.objs.size []))
    { s with heap := (s.heap.push PySem.W.emptyDict).push (PySem.W.instObj C s.heap.objs.size) } := by
  have k : ∀ b u, s.heap.get? b = some u → ((s.heap.push PySem.W.emptyDict).push (PySem.W.instObj C s.heap.objs.size)).get? b = some u := fun b u q => Heap.get?_push_of_some _ (Heap.get?_push_of_some _ q)
  refine I.step (L2.Inv.made I.i) (Nat.le_refl _) (fun o e => ⟨o, k _ _ e, rfl⟩) (fun _ _ _ o e => ⟨o, k _ _ e, rfl⟩) fun b o q => ?_
  by_cases h1 : b = s.heap.objs.size + 1
  · subst h1
    rw [upd_same] at q
    cases q
    have e1 : (s.heap.push PySem.W.emptyDict).get? s.heap.objs.size = some PySem.W.emptyDict := Heap.get?_push_size s.heap rfl
    exact (show Ng T _ _ s.heap.objs.size from ⟨fun _ => none, ⟨PySem.W.emptyDict, #[], _, Heap.get?_push_of_some _ e1, rfl, fun e he => absurd he (by simp), fun _ => rfl⟩, fun _ _ z => by cases z⟩)
  · rw [upd_ne h1] at q
    by_cases h2 : b = s.heap.objs.size
    · subst h2
      rw [upd_same] at q
      cases q
      exact True.intro
    · rw [upd_ne h2] at q
      exact (I.h b o q).kept k
end
section
variable {T : TK} {X : Cx} {o e value : Expr} {es : List Expr} {f x m : Str} {p pos pos' apos tpos : Pos} {ta tv te to : TE} {t : TA}
theorem pe_fld (he : PE T X e ta) (hb : attributeBase e f X.env (eval e X.env) = eval e X.env) : PE T X (.Attribute e f pos) (tFld X.K ta f) := by
  refine ⟨fun pins s σ H Q I q => attr_of hb (thn (he.run pins s σ H _ I q) fun u s1 ⟨x, H1, I1, rx, _, a, C, dx, fs, v, ex, ea, c, n, l, q1⟩ => ?_)⟩
  subst ex
  obtain rfl : u = Value.ref a := rx
  exact getattr_ok I1 ea c n l fun w s2 I2 rw' gw => ⟨v, H1, I2, rw', gw, q1⟩
theorem pe_fldK {K : PySem.W.Frag} (hK : X.K = K) (he : PE T X e ta) (hb : attributeBase e f X.env (eval e X.env) = eval e X.env) : PE T X (.Attribute e f pos) (tFld K ta f) := by
  subst hK
  exact pe_fld he hb
theorem ps_fld (ha : PE T X o ta) (hv : PE T X value tv) (hs : swapsWith value (some (.Attribute o f pos')) pos.line X.env = pure false) : PS T X (.Assign [.Attribute o f pos'] value pos) (sFld X.K ta tv f) := by
  refine ⟨fun pins s σ H D I q => plainObj_wpAny_Assign_Attribute (thn (hv.run pins s σ H _ I q) fun u s1 ⟨y, H1, I1, ry, gy, q1⟩ => thn (up (ha.run pins s1 σ H1 _ I1 q1)) fun ov s2 ⟨lt, x, H2, I2, rx, _, a, C, dx, fs, ex, ea, c, n, l, q2⟩ => ?_) hs⟩
  subst ex
  obtain rfl : ov = Value.ref a := rx
  exact setattr_ok I2 ea c n l ry (gy.up lt) fun s3 I3 => ⟨σ, _, I3, q2⟩
/-! ### built-ins -/
def MtR (T : TK) (X : Cx) (id : String) (r : V → List V → Hp → VK → Prop) : Prop :=
  ∀ (pins : List (Addr × Obj)) (s : Shared) (σ : St) (H : Hp) (x : V) (xs : List V) (v : Value) (us : List Value) (Q : VK), Inv T X pins σ H s → RelV x v → Vals xs us → Gv T s.toks v → Gvs T s.toks us → r x xs H Q →
    wpAny (model X.prog X.w) X.A (call (.builtin id) (v :: us)) (EP T X pins σ Q) X.xe s
theorem pe_bm0 {Ty : String} {name : Str} {id : String} {r : V → List V → Hp → VK → Prop} (pa : PlainAttrs Ty) (slot : Slot Ty name id) (hty : typeOf (.builtin id) = pure (.type "method_descriptor")) (hm : MtR T X id r) (ho : PE T X o to)
    (hbase : attributeBase o name X.env (eval o X.env) = eval o X.env := by rfl) (hline : (apos.endLine == pos.line) = true := by rfl) : PE T X (.Call (.Attribute o name apos) [] [] pos) (tBM0 X.K Ty r to) := by
  refine ⟨fun pins s σ H Q I q => wpAny_Call_method0_late hbase hline (thn (ho.run pins s σ H _ I q) fun v s1 ⟨x, H1, I1, r1, g1, ty, q1⟩ => ?_)⟩
  obtain ⟨h1, h2⟩ := tyV_is I1.i r1 ty
  exact ⟨Ty, id, pa, slot, hty, h1, h2, Calls.callWith_builtin rfl (PySem.evalArgs_none (hm pins s1 σ H1 x [] v [] Q I1 r1 .nil g1 .nil q1))⟩
theorem pe_bm {Ty : String} {name : Str} {id : String} {r : V → List V → Hp → VK → Prop} (pa : PlainAttrs Ty) (slot : Slot Ty name id) (hty : typeOf (.builtin id) = pure (.type "method_descriptor")) (hm : MtR T X id r) (ho : PE T X o to) (ha : PA T X (e :: es) t)
    (hbase : attributeBase o name X.env (eval o X.env) = eval o X.env := by rfl)
    (hfew : ((backTo pos (starEach (e :: es) X.env)).all (fun x => !x.1) && (backToKw pos (keywordEach [] X.env)).all (fun x => x.1.isSome)
      && decide ((e :: es).length + ([] : List Keyword).length + (if ([] : List Keyword).isEmpty then 0 else 1) < 30)) = true := by rfl)
    (hline : (apos.endLine == pos.line) = true := by rfl) (hs : starEach (e :: es) X.env = (false, eval e X.env) :: starEach es X.env := by rfl) (hplain : (backTo pos (starEach es X.env)).any (·.1) = false := by rfl) :
    PE T X (.Call (.Attribute o name apos) (e :: es) [] pos) (tBM X.K Ty r to t) := by
  refine ⟨fun pins s σ H Q I q => wpAny_Call_method_late hbase hfew hline rfl (thn (ho.run pins s σ H _ I q) fun v s1 ⟨x, H1, I1, r1, g1, ty, q1⟩ => ?_)⟩
  obtain ⟨h1, h2⟩ := tyV_is I1.i r1 ty
  refine ⟨Ty, id, pa, slot, hty, h1, h2, ?_⟩
  have args := ha.run pos pins s1 σ H1 _ I1 q1
  rw [hs] at args ⊢
  exact Calls.callWith_builtin (by show (false || (backTo pos (starEach es X.env)).any (·.1)) = false; rw [hplain]; rfl) (Calls.evalArgs_plain (thn (up args) fun us s2 ⟨lt, vs, H2, I2, r2, g2, q2⟩ => hm pins s2 σ H2 x vs v us Q I2 r1 r2 (g1.up lt) g2 q2))
theorem pe_callB {id : String} {r : List V → Hp → VK → Prop} (hc : CallR T X (.builtin id) r) (hg : Gl X x) (hm : X.mg x = none) (hv : bootBuiltins x = some (.builtin id)) (ha : PA T X (e :: es) t) (hn : x ≠ "__name__" := by decide) (hdb : (x == ("__debug__" : Str)) = false := by decide)
    (he : starEach (e :: es) X.env = (false, eval e X.env) :: starEach es X.env := by rfl) (hpl : (backTo pos (starEach es X.env)).any (·.1) = false := by rfl) : PE T X (.Call (.Name x p) (e :: es) [] pos) (tCB r t) :=
  ⟨fun pins s σ H Q I q => wpAny_Call_Name_kw (ld_blt I.i hg hm hv (PyProof.Rows.callWith_builtin1 (thn (ha.run pos pins s σ H _ I q) fun us s1 ⟨vs, H1, I1, r1, g1, q1⟩ => hc pins s1 σ H1 vs us Q I1 r1 g1 q1) he hpl) hn hdb)⟩
theorem pe_callTy {Ty : String} {r : List V → Hp → VK → Prop} (hc : CallR T X (.type Ty) r) (hg : Gl X x) (hm : X.mg x = none) (hv : bootBuiltins x = some (.type Ty)) (ha : PA T X (e :: es) t) (hn : x ≠ "__name__" := by decide) (hdb : (x == ("__debug__" : Str)) = false := by decide)
    (he : starEach (e :: es) X.env = (false, eval e X.env) :: starEach es X.env := by rfl) (hpl : (backTo pos (starEach es X.env)).any (·.1) = false := by rfl) : PE T X (.Call (.Name x p) (e :: es) [] pos) (tCB r t) :=
  ⟨fun pins s σ H Q I q => wpAny_Call_Name_kw (ld_blt I.i hg hm hv (PyProof.Rows.callWith_type1 (thn (ha.run pos pins s σ H _ I q) fun us s1 ⟨vs, H1, I1, r1, g1, q1⟩ => hc pins s1 σ H1 vs us Q I1 r1 g1 q1) he hpl) hn hdb)⟩
end
/-! ### what a def promises -/
structure Env0 (T : TK) (P : Program) (w : World) (K : PySem.W.Frag) (mg : Str → Option Value) (base : Heap) (A : Around) (outer : List Env) (s : Shared) (H : Hp) : Prop where
  e : L2.Env0 P w K mg base A outer s H
  t : T.n ≤ s.toks
  h : ∀ a o, H a = some o → Og T s.toks s.heap a o
  k : Kg T K
def CE (T : TK) (outer : List Env) (P : Program) (w : World) (H : Hp) (s : Shared) (Q : VK) (u : Value) (s' : Shared) : Prop :=
  ∃ v H', s'.os = s.os ∧ AllBare s'.gens ∧ Un (frs outer) [] H H' s.heap s'.heap ∧ HOk P w H' s'.heap ∧ RelV v u ∧ Gv T s'.toks u ∧ s.toks ≤ s'.toks ∧ (∀ a o, H' a = some o → Og T s'.toks s'.heap a o) ∧ Q v H'
def CR (T : TK) (outer : List Env) (P : Program) (w : World) (H : Hp) (s : Shared) (Q : VK) (r : Result) (s' : Shared) : Prop :=
  match r with
  | .ok (.ret u) => CE T outer P w H s Q u s'
  | _ => False
/-- gA: what is known of the guards around -/
structure FnT (gA : Around → Prop) (T : TK) (P : Program) (w : World) (K : PySem.W.Frag) (mg : Str → Option Value) (base : Heap) (k : Nat) (f : Addr) (fd : FuncData) (ps : List Str) (sp : Sp) : Prop where
  len : ∀ vs H Q E, sp vs H Q E → vs.length = ps.length
  run : ∀ (A : Around) (outer : List Env) (s : Shared) (H : Hp) (args : Args) (us : List Value) (vs : List V) (Q : VK) (E : XK), gA A → Room k A → Env0 T P w K mg base A outer s H → BindsTo s fd args (ps.zip us) → Vals vs us → Gvs T s.toks us → sp vs H Q E →
    codeAny (model P w) A (.call (.ref f) args) (CR T outer P w H s Q) s
def noG : Around → Prop := fun _ => True
def clear : Around → Prop := fun A => A.guards = some []
section
variable {gA : Around → Prop} {T : TK} {P : Program} {w : World} {K : PySem.W.Frag} {mg : Str → Option Value} {base : Heap}
theorem FnT.mono {j k : Nat} {f : Addr} {fd : FuncData} {ps : List Str} {sp : Sp} (F : FnT gA T P w K mg base j f fd ps sp) (h : j ≤ k) : FnT gA T P w K mg base k f fd ps sp := ⟨F.len, fun A outer s H args us vs Q E ga hr => F.run A outer s H args us vs Q E ga (hr.mono h)⟩
theorem bindL_from {kindOf : Str → Option NameKind} {x : Str} {u : Value} : ∀ {b : List (Str × Value)} {m : Str → Option Value}, bindL kindOf b m x = some u → m x = some u ∨ ∃ n, (n, u) ∈ b
  | [], _, e => .inl e
  | (n, v) :: r, m, e => by
    unfold bindL at e
    rcases bindL_from e with h | ⟨n2, h⟩
    · split at h
      · dsimp only at h
        by_cases q : x = n
        · rw [if_pos q] at h
          cases h
          exact .inr ⟨n, List.mem_cons_self⟩
        · rw [if_neg q] at h
          exact .inl h
      · exact .inl h
    · exact .inr ⟨n2, List.mem_cons_of_mem _ h⟩
theorem bindC_from {kindOf : Str → Option NameKind} {x : Str} {u : Value} : ∀ {b : List (Str × Value)} {m : Str → Option Value}, bindC kindOf b m x = some u → m x = some u ∨ ∃ n, (n, u) ∈ b
  | [], _, e => .inl e
  | (n, v) :: r, m, e => by
    unfold bindC at e
    rcases bindC_from e with h | ⟨n2, h⟩
    · split at h
      · exact .inl h
      · dsimp only at h
        by_cases q : x = n
        · rw [if_pos q] at h
          cases h
          exact .inr ⟨n, List.mem_cons_self⟩
        · rw [if_neg q] at h
          exact .inl h
    · exact .inr ⟨n2, List.mem_cons_of_mem _ h⟩
/-- a def by its body -/
theorem ok {nm qual : Str} {st : Stmt} {f : Addr} {fd : FuncData} {N ps : List Str} {k : Nat} {sp : Sp} (F : Fun K nm qual st f fd) (S : FnScope N ps (defScope st)) (hlen : ∀ vs H Q E, sp vs H Q E → vs.length = ps.length)
    (hb : ∀ (cdv : Value) (A : Around) (outer : List Env) (s : Shared) (H : Hp) (vs : List V) (Q : VK) (E : XK), gA A → Room k (A.deeper (envOfC qual (defScope st) s.heap.objs.size f cdv)) → sp vs H Q E →
      ∃ t, PSs T (cxOf CX0 P w K mg base N qual (defScope st) f cdv A outer s H E).nox (defBody st) t ∧ t { nx := fun _ H' => Q .non H', rt := Q } (start N vs) H) : FnT gA T P w K mg base (k + 1) f fd ps sp := by
  obtain ⟨c1, c2, c3, c4, c5, c6, cdv, c7, c8, rfl, look, code⟩ := F.ex
  refine ⟨hlen, fun A outer s H args us vs Q E ga room e0 bd rel good asked => ?_⟩
  have same := hlen _ _ _ _ asked
  have inHeap : K.In s.heap := e0.e.mod.kin.keeps fun b o z => (e0.e.bs b o z).1
  have free := e0.e.mod.nolimit.keeps (h' := s.heap) fun b o z => (e0.e.bs b o z).1
  have kinds : ∀ y ∈ ps.zip us, (defScope st).names.lookup y.1 = some .local ∨ ((defScope st).names.lookup y.1 = some .cell ∧ ((cellsFrom (s.heap.objs.size + 1) (defScope st).names []).lookup y.1).isSome = true) := by
    rintro ⟨n, v⟩ hy
    exact (S.par n (List.of_mem_zip hy).1).imp id fun hc => ⟨hc, PySem.W.cellsFrom_some _ _ _ (.inl hc)⟩
  have given : ∀ n u, (n, u) ∈ ps.zip us → Gv T s.toks u := fun n u z => good u (List.of_mem_zip z).2
  refine codeAny_call_function room.depth (inHeap _ _ look) rfl S.co S.gen rfl (PySem.W.codeRec_of inHeap code) (bd _ _ _ _ ?_)
  refine grown (wpAny_newFunctionEnv_cells S.kind kinds fun env henv s1 entry lt1 => ?_)
  subst henv
  obtain ⟨t, ht, hq⟩ := hb cdv A outer s H vs Q E ga (room.deeper _) asked
  have J : L2.Inv (cxOf CX0 P w K mg base N qual (defScope st) f cdv A outer s H E).nox [] (start N vs) H s1 := (inv_start S room.hd e0.e same rel entry).wish _
  have I0 : Inv T (cxOf CX0 P w K mg base N qual (defScope st) f cdv A outer s H E).nox [] (start N vs) H s1 := by
    refine ⟨J, Nat.le_trans e0.t lt1, fun m hn _ x _ u _ _ _ e => ?_, fun x c v hc hcell => ?_, fun a o z => ((e0.h a o z).kept entry.toInCall.keep).up lt1, e0.k⟩
    · have hn : s1.heap.Ns s.heap.objs.size m := hn
      have em : m x = bindL (envOfC qual (defScope st) s.heap.objs.size f cdv).kindOf (ps.zip us) (fun _ => none) x := by
        obtain ⟨o1, es1, ep1, e1, d1, _, f1⟩ := hn
        obtain ⟨o2, es2, ep2, e2, d2, _, f2⟩ := (show s1.heap.Ns s.heap.objs.size (bindL (envOfC qual (defScope st) s.heap.objs.size f cdv).kindOf (ps.zip us) (fun _ => none)) from entry.toInCall.ns)
        rw [e1] at e2
        cases e2
        rw [d1] at d2
        cases d2
        rw [← f1, ← f2]
      rw [em] at e
      rcases bindL_from e with z | ⟨n, z⟩
      · cases z
      · exact (given n u z).up lt1
    · have here := entry.cell x c hc
      obtain ⟨o1, e1, d1⟩ := here
      obtain ⟨o2, e2, d2⟩ := hcell
      rw [e1] at e2
      cases e2
      rw [d1] at d2
      injection d2 with d2
      rcases bindC_from d2 with z | ⟨n, z⟩
      · cases z
      · exact (given n v z).up lt1
  refine ⟨free.keeps entry.toInCall.keep, codeAny_func (wpAny_mono (up (ht.run [] s1 (start N vs) H _ I0 hq)) (fun flow s' hs => ?_) fun e s' hs => hs.elim)⟩
  obtain ⟨le, hs⟩ := hs
  have le := Nat.le_trans lt1 le
  cases flow with
  | ret u => exact match hs with | ⟨v, σ', H', J, rv, gv, q⟩ => ⟨v, H', J.i.os, J.i.bare, J.i.base, J.i.hok, rv, gv, le, J.h, q⟩
  | next => exact match hs with | ⟨σ', H', J, q⟩ => ⟨V.non, H', J.i.os, J.i.bare, J.i.base, J.i.hok, rfl, trivial, le, J.h, q⟩
  | brk => exact match hs with | ⟨_, _, _, q⟩ => False.elim q
  | cont => exact match hs with | ⟨_, _, _, q⟩ => False.elim q
/-- a def under its name -/
def Cl (gA : Around → Prop) (T : TK) (P : Program) (w : World) (K : PySem.W.Frag) (mg : Str → Option Value) (base : Heap) (nm : Str) (ps : List Str) (k : Nat) (sp : Sp) : Prop :=
  ∃ (f : Addr) (fd : FuncData), mg nm = some (.ref f) ∧ FnT gA T P w K mg base k f fd ps sp ∧ PySem.W.keepIn K (.ref f) = true ∧ Binds K fd ps []
theorem cl_of {nm : Str} {st : Stmt} {ps : List Str} {k : Nat} {sp : Sp} (a : At K mg nm st ps) (h : ∀ f fd, Fun K nm nm st f fd → FnT gA T P w K mg base k f fd ps sp) : Cl gA T P w K mg base nm ps k sp := by
  obtain ⟨f, fd, F, m, b⟩ := a
  exact ⟨f, fd, m, h f fd F, F.kp, b⟩
/-- an instance made by its __init__ -/
def Mak (gA : Around → Prop) (T : TK) (P : Program) (w : World) (K : PySem.W.Frag) (mg : Str → Option Value) (base : Heap) (x : Str) (C : Addr) (k : Nat) (sp : Sp) (dvs : List V) : Prop :=
  ∃ (f : Addr) (fd : FuncData) (ps : List Str) (ds : List Value), L2.Mk K C f ∧ FnT gA T P w K mg base k f fd ps sp ∧ mg x = some (.ref C) ∧ Binds K fd ps ds ∧ Vals dvs ds ∧ Gvs T T.n ds
def Met (gA : Around → Prop) (T : TK) (P : Program) (w : World) (K : PySem.W.Frag) (mg : Str → Option Value) (base : Heap) (C : Addr) (m : Str) (k : Nat) (sp : Sp) (dvs : List V) : Prop :=
  ∃ (f : Addr) (fd : FuncData) (ps : List Str) (ds : List Value), Cls K C ∧ Meth K C m f ∧ FnT gA T P w K mg base k f fd ps sp ∧ Binds K fd ps ds ∧ Vals dvs ds ∧ Gvs T T.n ds
end
section
variable {gA : Around → Prop} {T : TK} {X : Cx} {pins : List (Addr × Obj)} {σ : St} {H : Hp} {s s' : Shared}
theorem Inv.env0 (I : Inv T X pins σ H s) : Env0 T X.prog X.w X.K X.mg X.base X.A X.stack s H := ⟨I.i.env0, I.t, I.h, I.k⟩
theorem Inv.after {Q : VK} {u : Value} (I : Inv T X pins σ H s) (h : CE T X.stack X.prog X.w H s Q u s') : EP T X pins σ Q u s' := by
  obtain ⟨v, H', os, bare, un, hok, r, g, t, hh, q⟩ := h
  exact ⟨v, H', I.call (ch := []) os un hok bare (fun b z => nomatch z) t hh, r, g, q⟩
theorem run_fn {k : Nat} {f : Addr} {fd : FuncData} {ps : List Str} {sp : Sp} {dvs : List V} {ds : List Value} {Q : VK} {us : List Value} {vs : List V} {E : XK} (F : FnT gA T X.prog X.w X.K X.mg X.base k f fd ps sp) (ga : gA X.A) (hr : Room k X.A) (hb : Binds X.K fd ps ds) (hd : Vals dvs ds) (gd : Gvs T T.n ds)
    (I : Inv T X pins σ H s) (r : Vals vs us) (g : Gvs T s.toks us) (h : sp (vs ++ dvs) H Q E) : wpAny (model X.prog X.w) X.A (call (.ref f) us) (EP T X pins σ Q) X.xe s := by
  have r2 : Vals (vs ++ dvs) (us ++ ds) := r.append hd
  have n : (us ++ ds).length = ps.length := by rw [← r2.length]; exact F.len _ _ _ _ h
  refine wpAny_call (codeAny_mono (F.run X.A X.stack s H ⟨us, []⟩ (us ++ ds) (vs ++ dvs) Q E ga hr I.env0 (hb s us I.i.kIn n) r2 (g.app (gd.up I.t)) h) fun res s' hq => ?_)
  match res, hq with
  | .error e, hq => exact (show False from hq).elim
  | .ok (.ret u), hq => exact I.after hq
  | .ok .next, hq => exact (show False from hq).elim
  | .ok .brk, hq => exact (show False from hq).elim
  | .ok .cont, hq => exact (show False from hq).elim
variable {nm m x : Str} {ps : List Str} {j k : Nat} {sp : Sp} {e o : Expr} {es : List Expr} {t : TA} {ta : TE} {p pos apos : Pos} {C : Addr} {dvs : List V}
theorem pe_clT (c : Cl gA T X.prog X.w X.K X.mg X.base nm ps k sp) (ga : gA X.A) (hr : Room k X.A) (hg : Gl X nm) (ha : PA T X (e :: es) t)
    (hdb : (nm == ("__debug__" : Str)) = false := by decide) (he : starEach (e :: es) X.env = (false, eval e X.env) :: starEach es X.env := by rfl) (hpl : (backTo pos (starEach es X.env)).any (·.1) = false := by rfl) :
    PE T X (.Call (.Name nm p) (e :: es) [] pos) (tCall sp [] E0 t) := by
  obtain ⟨f, fd, m, F, kp, b⟩ := c
  refine ⟨fun pins s σ H Q I q => wpAny_Call_Name_kw (ld_glob I.i hg m (PySem.W.callWith_K (h₀ := X.base) I.i.ok.mod.kin kp (thn (ha.run pos pins s σ H _ I q) fun us s1 ⟨vs, H1, I1, r, g, q1⟩ => ⟨I1.i.kIn, ?_⟩) he hpl) hdb)⟩
  exact run_fn F ga hr b .nil .nil I1 r g q1
theorem pe_cl (c : Cl noG T X.prog X.w X.K X.mg X.base nm ps k sp) (hr : Room k X.A) (hg : Gl X nm) (ha : PA T X (e :: es) t)
    (hdb : (nm == ("__debug__" : Str)) = false := by decide) (he : starEach (e :: es) X.env = (false, eval e X.env) :: starEach es X.env := by rfl) (hpl : (backTo pos (starEach es X.env)).any (·.1) = false := by rfl) :
    PE T X (.Call (.Name nm p) (e :: es) [] pos) (tCall sp [] E0 t) := pe_clT c trivial hr hg ha hdb he hpl
theorem pe_clG (c : Cl clear T X.prog X.w X.K X.mg X.base nm ps k sp) (hgd : X.A.guards = some []) (hr : Room k X.A) (hg : Gl X nm) (ha : PA T X (e :: es) t)
    (hdb : (nm == ("__debug__" : Str)) = false := by decide) (he : starEach (e :: es) X.env = (false, eval e X.env) :: starEach es X.env := by rfl) (hpl : (backTo pos (starEach es X.env)).any (·.1) = false := by rfl) :
    PE T X (.Call (.Name nm p) (e :: es) [] pos) (tCall sp [] E0 t) := pe_clT c hgd hr hg ha hdb he hpl
/-- C(..) -/
theorem pe_mkD (g : Mak noG T X.prog X.w X.K X.mg X.base x C k sp dvs) (hr : Room j X.A) (hk : k + 1 ≤ j) (hg : Gl X x) (ha : PA T X (e :: es) t)
    (hdb : (x == ("__debug__" : Str)) = false := by decide) (he : starEach (e :: es) X.env = (false, eval e X.env) :: starEach es X.env := by rfl) (hpl : (backTo pos (starEach es X.env)).any (·.1) = false := by rfl) :
    PE T X (.Call (.Name x p) (e :: es) [] pos) (tMake C sp dvs E0 t) := by
  obtain ⟨f, fd, ps, ds, M, F, hm, b, d, gd⟩ := g
  refine ⟨fun pins s σ H Q I q => wpAny_Call_Name_kw (ld_glob I.i hg hm (PySem.W.callWith_K (h₀ := X.base) I.i.ok.mod.kin M.kp (thn (ha.run pos pins s σ H _ I q) fun us s1 ⟨vs, H1, I1, r, g, q1⟩ => ⟨I1.i.kIn, ?_⟩) he hpl) hdb)⟩
  have room := hr.mono hk
  have hq := q1 (s1.heap.objs.size + 1) s1.heap.objs.size (I1.i.hok.fresh (Nat.le_succ _)) (I1.i.hok.fresh (Nat.le_refl _)) (Nat.ne_of_lt (Nat.lt_succ_self _))
  have I2 := Inv.made (C := C) I1
  have r2 : Vals (V.ref (s1.heap.objs.size + 1) :: (vs ++ dvs)) (Value.ref (s1.heap.objs.size + 1) :: (us ++ ds)) := .cons rfl (r.append d)
  have n : (Value.ref (s1.heap.objs.size + 1) :: us ++ ds).length = ps.length := (r2.length.symm.trans (F.len _ _ _ _ hq))
  have e2 : Env0 T X.prog X.w X.K X.mg X.base (X.A.under (.builtin "type.__call__" ⟨.ref C :: us, []⟩)) X.stack _ _ := ⟨I2.i.env0.make C us [], I2.t, I2.h, I2.k⟩
  refine wpAny_call (make_map (f := f) I1.i.kIn M.makes M.init (beq_iff_eq.mp M.fn) (codeAny_mono (F.run _ X.stack _ _ ⟨Value.ref (s1.heap.objs.size + 1) :: us, []⟩ (Value.ref (s1.heap.objs.size + 1) :: (us ++ ds)) _ _ E0 trivial (room.make C us [])
    e2 (b _ (Value.ref (s1.heap.objs.size + 1) :: us) I2.i.kIn n) r2 (Gvs.cons trivial (g.app (gd.up I1.t))) hq) fun res s' hres => ?_))
  match res, hres with
  | .error e, hres => exact (show False from hres).elim
  | .ok (.ret u), hres =>
    obtain ⟨v, H', I3, rv, _, ev, q3⟩ := I2.after hres
    subst ev
    exact ⟨rv, ⟨V.ref (s1.heap.objs.size + 1), H', I3, rfl, trivial, q3⟩⟩
  | .ok .next, hres => exact (show False from hres).elim
  | .ok .brk, hres => exact (show False from hres).elim
  | .ok .cont, hres => exact (show False from hres).elim
/-- o.m(..) -/
theorem pe_mtD {pl : Sem Bool} (g : Met noG T X.prog X.w X.K X.mg X.base C m k sp dvs) (hr : Room j X.A) (hk : k ≤ j) (he : PE T X o ta) (ha : PA T X (e :: es) t)
    (hst : starEach (e :: es) X.env = (false, eval e X.env) :: starEach es X.env := by rfl) (hpl : (backTo pos (starEach es X.env)).any (·.1) = false := by rfl)
    (ht : eval (.Call (.Attribute o m apos) (e :: es) [] pos) X.env = (do let ov ← eval o X.env; standAt apos.atName; let (f, first) ← holding [ov] (getMethod ov m pl); callWith pos f first (backTo pos (starEach (e :: es) X.env)) (backToKw pos (keywordEach [] X.env))) := by rfl) :
    PE T X (.Call (.Attribute o m apos) (e :: es) [] pos) (tMeth C m sp dvs E0 ta t) := by
  obtain ⟨f, fd, ps, ds, c, M, F, b, d, gd⟩ := g
  refine ⟨fun pins s σ H Q I q => PySem.W.methodCall_KW (pl := pl) (thn (he.run pins s σ H _ I q) fun u s1 ⟨x, H1, I1, rx, _, a, dx, fs, ex, ea, l, q1⟩ => ?_) ht⟩
  subst ex
  obtain rfl : u = Value.ref a := rx
  refine getmeth_ok I1 ea c M l (PySem.W.callWith_K (first := [.ref a]) (h₀ := X.base) I.i.ok.mod.kin M.kp (thn (ha.run pos pins s1 σ H1 _ I1 q1) fun us s2 ⟨vs, H2, I2, r, g, q2⟩ => ⟨I2.i.kIn, ?_⟩) hst hpl)
  exact run_fn (us := .ref a :: us) (vs := .ref a :: vs) F trivial (hr.mono hk) b d gd I2 (.cons rfl r) (Gvs.cons trivial g) q2
theorem pe_mtD0 {pl : Sem Bool} (g : Met noG T X.prog X.w X.K X.mg X.base C m k sp dvs) (hr : Room j X.A) (hk : k ≤ j) (he : PE T X o ta)
    (ht : eval (.Call (.Attribute o m apos) [] [] pos) X.env = (do let ov ← eval o X.env; standAt apos.atName; let (f, first) ← holding [ov] (getMethod ov m pl); callWith pos f first (backTo pos (starEach [] X.env)) (backToKw pos (keywordEach [] X.env))) := by rfl) :
    PE T X (.Call (.Attribute o m apos) [] [] pos) (tMeth C m sp dvs E0 ta tNil) := by
  obtain ⟨f, fd, ps, ds, c, M, F, b, d, gd⟩ := g
  refine ⟨fun pins s σ H Q I q => PySem.W.methodCall_KW (pl := pl) (thn (he.run pins s σ H _ I q) fun u s1 ⟨x, H1, I1, rx, _, a, dx, fs, ex, ea, l, q1⟩ => ?_) ht⟩
  subst ex
  obtain rfl : u = Value.ref a := rx
  exact getmeth_ok I1 ea c M l (PySem.W.callWith_K0 (first := [.ref a]) I1.i.kIn M.kp (run_fn (us := [.ref a]) (vs := [.ref a]) F trivial (hr.mono hk) b d gd I1 (.cons rfl .nil) (Gvs.cons trivial Gvs.nil) q1))
theorem pe_cls (hm : X.mg x = some (.ref C)) (hg : Gl X x) (hdb : (x == ("__debug__" : Str)) = false := by decide) : PE T X (.Name x pos) (tC (.ref C)) := pe_glob hg hm rfl trivial hdb
end
end GT

set_option maxHeartbeats 4000000
/-! UnGV: own errors with tokens: raised, let out of a def, caught. -/
namespace GT
open PySem PySem.Spec PyProof.Rows L2 Un
section
variable {T : TK} {X : Cx} {pins : List (Addr × Obj)} {σ : St} {H : Hp} {sI s s' : Shared} {B : Heap}
/-- an exception in the air of X: sI is the state without it -/
def XE (T : TK) (X : Cx) (W : WX) (u : Value) (s' : Shared) : Prop :=
  ∃ (a : Addr) (B : Heap) (sI : Shared) (pins : List (Addr × Obj)) (σ : St) (H : Hp) (cls : Value) (d : Option Addr),
    u = .ref a ∧ Inv T X pins σ H sI ∧ (∀ b o, sI.heap.get? b = some o → b ∉ frs X.stack → B.get? b = some o) ∧ sI.heap.UpToSlots s'.heap ∧
      Sky B X.stack a (Zc cls d) X.env.locals s'.heap ∧ H a = none ∧ s'.os = sI.os ∧ AllBare s'.gens ∧ sI.toks ≤ s'.toks ∧ W cls d σ H
def Takes (T : TK) (X : Cx) (W : WX) : Prop := ∀ u s', XE T X W u s' → X.xe u s'
/-- behind a call that let an exception out -/
def CX (T : TK) (P : Program) (w : World) (outer : List Env) (H : Hp) (s : Shared) (E : XK) (u : Value) (s' : Shared) : Prop :=
  ∃ (a : Addr) (B : Heap) (H' : Hp) (cls : Value) (d : Option Addr), u = .ref a ∧ HandSPX.FlyingZ B outer a (Zc cls d) s'.heap ∧ HOk P w H' B ∧ UB (frs outer) H H' s.heap B s'.heap ∧ H' a = none ∧ s'.os = s.os ∧ AllBare s'.gens ∧
    (∀ b o, H' b = some o → Og T s'.toks B b o) ∧ E cls d H'
theorem Inv.offFrame (I : Inv T X pins σ H sI) {b c : Addr} {o : HO} (q : H b = some o) (hc : c = b ∨ H c = some (.own b)) : c ∉ frs X.stack := fun hm => by
  have z := I.i.stkFree c hm
  rcases hc with hc | hc
  · rw [hc, q] at z; cases z
  · rw [hc] at z; cases z
theorem Inv.ground (I : Inv T X pins σ H sI) (nb : ∀ b o, sI.heap.get? b = some o → b ∉ frs X.stack → B.get? b = some o) {n : Nat} (hn : sI.toks ≤ n) : ∀ b o, H b = some o → Og T n B b o := fun b o q =>
  (Og.stay (I.h b o q) (I.i.hok b o q) fun c u hc r => nb c u r (I.offFrame q hc)).up hn
/-- back on the ground -/
theorem Inv.landed (I : Inv T X pins σ H sI) (nb : ∀ b o, sI.heap.get? b = some o → b ∉ frs X.stack → B.get? b = some o) (st : B.StaysIn s'.heap) (up : sI.heap.UpToSlots s'.heap) (os : s'.os = sI.os) (ag : AllBare s'.gens) (ht : sI.toks ≤ s'.toks) : Inv T X pins σ H s' := by
  have sd : ∀ b o, sI.heap.get? b = some o → ∃ o', s'.heap.get? b = some o' ∧ o'.data = o.data := fun b o e => by
    by_cases hb : b ∈ frs X.stack
    · obtain ⟨_, o', e', hd⟩ := I.i.stack.mem hb
      rw [e] at e'; cases e'
      obtain ⟨sl, q⟩ := up b o e hd
      exact ⟨_, q, rfl⟩
    · exact ⟨o, st b o (nb b o e hb), rfl⟩
  exact I.step (I.i.landed nb st up os ag) ht (fun o e => sd _ o e) (fun _ c _ o e => sd c o e) fun b o q =>
    (Og.stay (I.h b o q) (I.i.hok b o q) fun c u hc r => st c u (nb c u r (I.offFrame q hc))).up ht
variable {W : WX} {E : XK}
/-- a call's exception is in our air -/
theorem XE.of_call (I : Inv T X pins σ H s) (ht : s.toks ≤ s'.toks) (hW : ∀ cls d H', E cls d H' → W cls d σ H') {u : Value} (c : CX T X.prog X.w X.stack H s E u s') : XE T X W u s' := by
  obtain ⟨a, B, H', cls, d, rfl, fl, hok, ub, na, os, ag, hg, hE⟩ := c
  obtain ⟨G, g1, g2⟩ := restrict s'.heap fun b => (B.get? b).isSome || decide (b ∈ frs X.stack)
  have st : B.StaysIn s'.heap := fl.1
  have gB : ∀ b o, B.get? b = some o → G.get? b = some o := fun b o e => by
    rw [g1 b (by simp [e])]
    exact st b o e
  have gF : ∀ b, b ∈ frs X.stack → G.get? b = s'.heap.get? b := fun b hb => g1 b (by simp [hb])
  have og : ∀ b o, G.get? b = some o → s'.heap.get? b = some o ∧ ((B.get? b).isSome = true ∨ b ∈ frs X.stack) := fun b o e => by
    cases q : ((B.get? b).isSome || decide (b ∈ frs X.stack)) with
    | false => rw [g2 b q] at e; cases e
    | true =>
      rw [g1 b q] at e
      exact ⟨e, by simpa [Bool.or_eq_true] using q⟩
  refine ⟨a, B, { s with heap := G, gens := s'.gens, drawn := s'.drawn, toks := s'.toks }, pins, σ, H', cls, d, rfl, ?_, fun b o e hb => ?_, Heap.UpToSlots.of_keeps fun b o e => (og b o e).1, .inr (.inl fl), na, os, ag, Nat.le_refl _, hW _ _ _ hE⟩
  · refine I.call (ch := []) rfl ⟨fun b o e n hb _ => gB b o (ub.keep b o e n hb), fun b o e n hb _ => ?_, fun b o e n _ => ub.free b o e n, fun b o e _ => ?_, ub.tups, ub.frzs, ub.tbls⟩ (hok.kept gB) ag (fun _ z => nomatch z) ht (fun b o q => (hg b o q).kept gB)
    · obtain ⟨sl, q⟩ := ub.slot b o e hb
      exact ⟨sl, by rw [gF b hb]; exact q⟩
    · by_cases hb : b ∈ frs X.stack
      · obtain ⟨sl, q⟩ := ub.slot b o e hb
        exact ⟨_, by rw [gF b hb]; exact q⟩
      · obtain ⟨o', q⟩ := ub.there b o e hb
        exact ⟨o', gB b o' q⟩
  · obtain ⟨e', h⟩ := og b o e
    rcases h with h | h
    · obtain ⟨o', q⟩ := Option.isSome_iff_exists.mp h
      have z := st b o' q
      rw [e'] at z; cases z
      exact q
    · exact absurd h hb
/-- a new exception is in our air -/
theorem XE.new {a : Addr} {oe : Obj} {vs : Array Value} {cls : Value} {d : Option Addr} (I : Inv T X pins σ H sI) (k : ∀ b o, sI.heap.get? b = some o → s'.heap.get? b = some o) (hne : sI.heap.get? a = none) (he : s'.heap.get? a = some oe)
    (hz : Zc cls d oe) (hd : oe.data = .fields vs) (h1 : vs[1]? = some .none) (na : H a = none) (os : s'.os = sI.os) (ag : AllBare s'.gens) (ht : sI.toks ≤ s'.toks) (w : W cls d σ H) : XE T X W (.ref a) s' := by
  refine ⟨a, PySem.W.hideAll sI.heap (frs X.stack), sI, pins, σ, H, cls, d, rfl, I, fun b o e hb => PySem.W.hideAll_get _ e hb, Heap.UpToSlots.of_keeps k,
    .inl ⟨fun b o e => k b o (PySem.W.of_hideAll _ e), ?_, ?_, oe, vs, he, hz, hd, h1⟩, na, os, ag, ht, w⟩
  · cases q : (PySem.W.hideAll sI.heap (frs X.stack)).get? a with
    | none => rfl
    | some o =>
      have z := PySem.W.of_hideAll _ q
      rw [hne] at z; cases z
  · exact Heap.FunFrames.of_keeps (fun b o e _ => ⟨o, k b o e, rfl⟩) (funFrames_none I.i.stack fun b hb => PySem.W.hideAll_none _ hb)
/-- it leaves the def -/
theorem XE.leave (hs : X.stack = X.env :: X.outer) (hf : X.env.frame = some X.env.locals) (hex : X.ex = []) {E₁ : Value → Shared → Prop} (hW : ∀ cls d σ H, W cls d σ H → E cls d H) {u : Value} (x : XE T X W u s') :
    wpAny (model X.prog X.w) X.A (leaving X.env u) (fun _ s'' => CX T X.prog X.w X.outer X.H_0 X.s_0 E u s'') E₁ s' := by
  obtain ⟨a, B, sI, pins, σ, H, cls, d, rfl, I0, nb, up, sky, na, os, ag, ht, w⟩ := x
  have I := I0.i
  have hfr : X.A.frames = some (X.env :: X.outer) := by rw [I.ok.frames, hs]
  have nst : ∀ b o, X.s_0.heap.get? b = some o → b ∉ X.fs → b ∉ frs X.stack := fun b o e hb hm => by
    rcases List.mem_cons.mp (I.stkSub b hm) with z | z
    · have h1 := Heap.lt_size e
      have h2 := I.ok.above
      rw [z] at h1
      exact absurd (Nat.lt_of_lt_of_le h1 h2) (Nat.lt_irrefl _)
    · exact hb z
  have hex' : ∀ b, b ∉ X.ex := fun b hb => by rw [hex] at hb; cases hb
  have hokB := I.inGround nb
  have gB := I0.ground nb ht
  have fin : ∀ h', HandSPX.FlyingZ B X.outer a (Zc cls d) h' → s'.heap.UpToSlots h' → CX T X.prog X.w X.outer X.H_0 X.s_0 E (.ref a) { s' with heap := h' } := fun h' fl up' => by
    refine ⟨a, B, H, cls, d, rfl, fl, hokB, ⟨fun b o e n hb => nb b o (I.base.keep b o e n hb (hex' b)) (nst b o e hb), fun b o e hb => ?_, fun b o e n => I.base.free b o e n (hex' b), fun b o e hb => ?_, I.base.tups, I.base.frzs, I.base.tbls⟩,
      na, os.trans I.os, ag, gB, hW _ _ _ _ w⟩
    · obtain ⟨_, o₀, e₀, hnf⟩ := I.ok.funs.mem hb
      rw [e] at e₀; cases e₀
      obtain ⟨sl, e1⟩ := I.base.slot b o e (I.ok.frf b hb) hb (hex' b)
      obtain ⟨sl2, e2⟩ := up b _ e1 hnf
      obtain ⟨sl3, e3⟩ := up' b _ e2 hnf
      exact ⟨sl3, e3⟩
    · obtain ⟨o', e1⟩ := I.base.there b o e (hex' b)
      exact ⟨o', nb b o' e1 (nst b o e hb)⟩
  rw [hs] at sky
  rcases sky with ⟨hB, hn, hl, oe, vs, he, hz, hd, h1⟩ | fl | hd
  · exact HandSPX.leaving_firstZ Zc.steady hfr hl hf he hB hn hd h1 hz fin
  · exact HandSPX.leaves_onZ Zc.steady hfr hf fl fin
  · exact HandSPX.leaves_heldZ hf hd fin
theorem takes_of (hs : X.stack = X.env :: X.outer) (hf : X.env.frame = some X.env.locals) (hex : X.ex = []) {E₁ : Value → Shared → Prop}
    (hx : X.xe = fun e s' => wpAny (model X.prog X.w) X.A (leaving X.env e) (fun _ s'' => CX T X.prog X.w X.outer X.H_0 X.s_0 E e s'') E₁ s') : Takes T X (fun cls d _ H => E cls d H) := fun u s' x => by
  rw [hx]
  exact XE.leave (W := fun cls d _ H => E cls d H) (E := E) hs hf hex (fun _ _ _ _ h => h) x
theorem takes0 : Takes T X (fun _ _ _ _ => False) := fun _ _ x => by
  obtain ⟨_, _, _, _, _, _, _, _, _, _, _, _, _, _, _, _, _, w⟩ := x
  exact w.elim
theorem Takes.imp {W W' : WX} (t : Takes T X W) (h : ∀ c d σ H, W' c d σ H → W c d σ H) : Takes T X W' := fun u s' ⟨a, B, sI, pins, σ, H, cls, d, e, I, nb, up, sky, na, os, ag, ht, w⟩ =>
  t u s' ⟨a, B, sI, pins, σ, H, cls, d, e, I, nb, up, sky, na, os, ag, ht, h _ _ _ _ w⟩
/-- an expression that makes an exception -/
def MkP (T : TK) (X : Cx) (pins : List (Addr × Obj)) (σ : St) (Q : XK) (u : Value) (s' : Shared) : Prop :=
  ∃ (a : Addr) (oe : Obj) (vs : Array Value) (sI : Shared) (H' : Hp) (cls : Value) (d : Option Addr), u = .ref a ∧ Inv T X pins σ H' sI ∧ (∀ b o, sI.heap.get? b = some o → s'.heap.get? b = some o) ∧ sI.heap.get? a = none ∧ s'.heap.get? a = some oe ∧
    Zc cls d oe ∧ oe.data = .fields vs ∧ vs[1]? = some .none ∧ H' a = none ∧ s'.os = sI.os ∧ AllBare s'.gens ∧ sI.toks ≤ s'.toks ∧ Raises X cls ∧ Q cls d H'
def PMk (T : TK) (X : Cx) (e : Expr) (t : St → Hp → XK → Prop) : Prop :=
  ∀ (pins : List (Addr × Obj)) (s : Shared) (σ : St) (H : Hp) (Q : XK), Inv T X pins σ H s → t σ H Q → wpAny (model X.prog X.w) X.A (eval e X.env) (MkP T X pins σ Q) X.xe s
theorem ps_raise {W : WX} {e : Expr} {t : St → Hp → XK → Prop} {pos : Pos} (hc : X.calm = true) (tk : Takes T X W) (he : PMk T X e t) : PS T X (.Raise (some e) none pos) (fun _ σ H => t σ H fun cls d H' => W cls d σ H') := by
  refine ⟨fun pins s σ H D I h => ?_⟩
  show wpAny _ _ (do standAt pos; raiseStmt X.env (some (do let v ← eval e X.env; standAt pos; pure v)) none) _ _ _
  refine wpAny_bind (wpAny_standAt (raise_made (I.i.ok.hd hc) (wpAny_bind (wpAny_mono (he pins s σ H _ I h) (fun u s1 hu => wpAny_bind (wpAny_standAt (wpAny_pure ?_))) fun _ _ x => x))))
  obtain ⟨a, oe, vs, sI, H', cls, d, rfl, J, k, hne, ha, hz, hd, h1, na, os, ag, ht, r, q⟩ := hu
  obtain ⟨r1, r2⟩ := r (model X.prog X.w) s1.heap (J.i.kIn.keeps k)
  exact ⟨a, oe, vs, cls, rfl, ha, hz.1, hd, h1, r1, r2, tk _ _ (XE.new J k hne ha hz hd h1 na os ag ht q)⟩
theorem mk_of {Q : XK} {h' : Heap} {e : Addr} {cls : Value} {us : List Value} (I : Inv T X pins σ H s) (hx : Heap.MadeExcOf s.heap h' e cls us) (r : Raises X cls) (q : Q cls none H)
    (na : H e = none) : MkP T X pins σ Q (.ref e) { s with heap := h' } := by
  obtain ⟨t, he, _, _⟩ := hx.there
  exact ⟨e, _, _, s, H, cls, none, rfl, I, hx.keeps, hx.new, he, ⟨rfl, rfl⟩, rfl, rfl, na, rfl, I.i.bare, Nat.le_refl _, r, q⟩
theorem pmk_err0 {x : Str} {C : Addr} {p pos : Pos} (m : Err0 X.K X.mg x C) (hg : Gl X x) (hdb : (x == ("__debug__" : Str)) = false := by decide) : PMk T X (.Call (.Name x p) [] [] pos) (fun _ H Q => Q (.ref C) none H) := by
  intro pins s σ H Q I h
  refine wpAny_Call_Name_kw (ld_glob I.i hg m.1 ?_ hdb)
  refine PySem.W.callWith_K0 (K := X.K) (I.tok (Nat.le_refl _)).i.kIn m.2.1.kC ?_
  show wpAny _ _ (call (.ref C) []) _ _ _
  obtain ⟨bm, N, nm, qn, bs, hdct, sn, sub, ab, col, dd, k0, k1, k2, k3, k5, mN, hC, hN, hni, TT⟩ := exc_obj I.i.kIn m.2.2
  refine wpAny_call_exc_subT F.excBase_ValueError TT hC hN hni (fun h' e hm => ?_) (by show 0 ≤ sizeLine; omega)
  exact mk_of I hm (raises_own m.2.1.xf.exC m.2.1.ty) h (I.i.hok.gone hm.new)
/-! ### try -/
theorem Inv.toTry (I : Inv T X pins σ H s) (xe : Value → Shared → Prop) : Inv T (X.tr (X.pn ++ pins) xe) [] σ H s := ⟨I.i.toTry xe, I.t, I.l, I.c, I.h, I.k⟩
theorem Inv.ofTry {pn' : List (Addr × Obj)} {xe : Value → Shared → Prop} (I : Inv T (X.tr (X.pn ++ pins) xe) pn' σ H s) (ok : X.Ok) : Inv T X pins σ H s := ⟨I.i.ofTry ok, I.t, I.l, I.c, I.h, I.k⟩
theorem Inv.suite (I : Inv T X pins σ H s) {a : Addr} {oe : Obj} {vs : Array Value} (ha : s.heap.get? a = some oe) (hd : oe.data = .fields vs) (na : H a = none) (nL : a ≠ X.env.locals) (nF : a ∉ X.fs) :
    Inv T (X.suite a ((a, oe) :: (X.pn ++ pins))) [] σ H s := ⟨I.i.suite ha hd na nL nF, I.t, I.l, I.c, I.h, I.k⟩
theorem Inv.unsuite {a : Addr} {q : Addr × Obj} {pn' : List (Addr × Obj)} (I : Inv T (X.suite a (q :: (X.pn ++ pins))) pn' σ H s) (ok : X.Ok) : Inv T X pins σ H s := ⟨I.i.unsuite ok, I.t, I.l, I.c, I.h, I.k⟩
end
end GT

set_option maxHeartbeats 4000000
/-! UnGW: except clauses with tokens; defs that may raise. -/
namespace GT
open PySem PySem.Spec PyProof.Rows L2 Un
section
variable {T : TK} {X : Cx} {pins : List (Addr × Obj)} {σ : St} {H : Hp} {s s' : Shared}
/-- the name of an except clause goes -/
theorem gone_ok {M : Model} {A : Around} {E : Value → Shared → Prop} {i : Nat} {n : Str} {pos : Pos} {Q : Unit → Shared → Prop} (I : Inv T X pins σ H s) (hN : X.N.Nodup) (hi : X.N[i]? = some n) (hl : X.env.kindOf n = some .local)
    (h : ∀ s', s.toks ≤ s'.toks → Inv T X pins (σ.set i none) H s' → Q () s') : wpAny M A (do bindName X.env n .none; unbindBehindTheSuite X.env n pos) Q E s := by
  have base : wpAny M A (do bindName X.env n .none; unbindBehindTheSuite X.env n pos) (fun _ s' => L2.Inv X pins (σ.set i none) H s') (fun _ _ => False) s := L2.gone_ok I.i hN hi hl (fun s' J => J)
  have hcls : (X.env.scope.kind == .class || (X.env.scope.kind == .module && X.env.locals != X.env.globals)) = false := by rw [I.i.ok.kind]; rfl
  obtain ⟨m, hn, _⟩ := id I.i.loc
  have raw : wpAny M A (do bindName X.env n .none; unbindBehindTheSuite X.env n pos) (fun _ s' => (∃ v, s'.heap.Ns X.env.locals (fun x => if x = n then v else m x)) ∧ Heap.SameBut X.env.locals s.heap s'.heap ∧ s.toks ≤ s'.toks) (fun _ _ => True) s :=
    wpAny_nameGoes_keeps hl hn hcls fun h' v hn' hs => ⟨⟨v, hn'⟩, hs, Nat.le_succ _⟩
  refine wpAny_mono (both base raw) (fun _ s' z => ?_) fun _ _ z => z.1.elim
  obtain ⟨J, ⟨v, hn'⟩, sb, hk⟩ := z
  refine h s' hk ⟨J, Nat.le_trans I.t hk, fun m' hm j y z w jN js jk e => ?_, fun y c w e hc => ?_, fun b o e => ?_, I.k⟩
  · have ji : i ≠ j := fun q => by
      subst q
      by_cases hlt : i < σ.length
      · rw [List.getElem?_set_self hlt] at js; cases js
      · rw [List.getElem?_eq_none (by simpa using hlt)] at js; cases js
    rw [List.getElem?_set_ne ji] at js
    have hy : y ≠ n := fun q => ji (nodup_ix hN hi (q ▸ jN))
    have em : m' y = (fun x => if x = n then v else m x) y := by
      obtain ⟨o1, es1, ep1, e1, d1, _, f1⟩ := hm
      obtain ⟨o2, es2, ep2, e2, d2, _, f2⟩ := hn'
      rw [e1] at e2
      cases e2
      rw [d1] at d2
      cases d2
      rw [← f1, ← f2]
    rw [em] at e
    dsimp only at e
    rw [if_neg hy] at e
    exact (I.l m hn j y z w jN js jk e).up hk
  · refine (I.c y c w e ?_).up hk
    obtain ⟨o1, e1, d1⟩ := hc
    exact ⟨o1, by rw [← sb.2 c (I.i.cne y c e)]; exact e1, d1⟩
  · refine (Og.stay (I.h b o e) (I.i.hok b o e) fun c w hc q => (sb.2 c ?_).trans q).up hk
    rintro rfl
    rcases hc with rfl | hc
    · rw [I.i.free] at e; cases e
    · rw [I.i.free] at hc; cases hc
variable {x n : Str} {c : Value} {i : Nat} {body suite : List Stmt} {b₀ : Stmt} {np pos pos' : Pos} {tb : WX → TS} {ts : Addr → Value → Option Addr → TS} {Wout : WX}
theorem ps_try_as (hs : X.stack = X.env :: X.outer) (hf : X.env.frame = some X.env.locals) (hN : X.N.Nodup) (hi : X.N[i]? = some n) (hln : X.env.kindOf n = some .local) (hc : Names X x c) (tk : Takes T X Wout)
    (hb : ∀ (W : WX) (pn : List (Addr × Obj)) (xe : Value → Shared → Prop), Takes T (X.tr pn xe) W → PassesOwn (model X.prog X.w) X.A X.env xe → PSs T (X.tr pn xe) body (tb W))
    (hsu : ∀ (a : Addr) (oe : Obj) (cls : Value) (d : Option Addr) (pn : List (Addr × Obj)), Zc cls d oe → (∃ vs, oe.data = .fields vs) → PSs T (X.suite a ((a, oe) :: pn)) (b₀ :: suite) (ts a cls d)) :
    PS T X (.Try body [.ExceptHandler (some (.Name x np)) (some n) (b₀ :: suite) pos'] [] [] pos) (fun D σ H => tb (wAs X.K c i ts Wout D) D σ H) := by
  refine ⟨fun pins s σ H D I h => ?_⟩
  have ok := I.i.ok
  have hfr : X.A.frames = some (X.env :: X.outer) := by rw [ok.frames, hs]
  have hloc : Loc X.env.scope n := .inl hln
  refine wpAny_Try_except ?_
  refine wpAny_mono ((hb (wAs X.K c i ts Wout D) (X.pn ++ pins) (fun e s₁ => wpAny (model X.prog X.w) X.A (noteFrame e X.env) (fun _ s₂ => wpAny (model X.prog X.w) X.A (setFlight e none) (fun _ s₃ =>
    wpAny (model X.prog X.w) X.A (handleBy e X.env [.ExceptHandler (some (.Name x np)) (some n) (b₀ :: suite) pos']) (SP T X pins D) X.xe s₃) X.xe s₂) X.xe s₁) (fun u s' xx => ?_) PassesOwn.looking).run [] s σ H D (I.toTry _) h) (fun f s1 hsp => ?_) (fun e s1 he => he)
  · obtain ⟨a, B, sI, pins', σ', H', cls, d, rfl, J', nb, up, sky, na, os, ag, ht, b, hb1, hyes, hno⟩ := xx
    have J : Inv T X pins σ' H' sI := J'.ofTry ok
    have sky' : Sky B (X.env :: X.outer) a (Zc cls d) X.env.locals s'.heap := by rw [← hs]; exact sky
    show wpAny (model X.prog X.w) X.A (noteFrame (.ref a) X.env) _ _ _
    refine Sky.land Zc.steady hfr hf sky' fun h3 fl3 up3 => ?_
    have J3 : Inv T X pins σ' H' { s' with heap := h3 } := J.landed nb fl3.1 (up.trans up3) os ag ht
    obtain ⟨oe3, vs3, he3, hz3, hd3⟩ := fl3.there
    have notFr : ∀ {h : Heap} {o : Obj} {vs : Array Value}, h.FunFrames B (X.env :: X.outer) → h.get? a = some o → o.data = .fields vs → a ∉ frs (X.env :: X.outer) := fun {h o vs} ff e dd hm => by
      obtain ⟨_, o', e', hnf⟩ := ff.mem hm
      rw [e] at e'; cases e'
      exact hnf _ dd
    have nfr := notFr fl3.2.2.1 he3 hd3
    have nL : a ≠ X.env.locals := fun z => nfr (List.mem_filterMap.mpr ⟨X.env, List.mem_cons_self, by rw [hf, z]⟩)
    have nF : a ∉ X.fs := fun hm => by
      obtain ⟨e, he, q⟩ := List.mem_filterMap.mp hm
      exact nfr (List.mem_filterMap.mpr ⟨e, List.mem_cons_of_mem _ he, q⟩)
    have S3 := J3.suite he3 hd3 na nL nF
    refine wpAny_handleBy_cons (codeAny_handlers_test ?_) (by intro q; cases q)
    have LT : PySem.W.Looks (model X.prog X.w) h3 (typeOf (.ref a)) cls := fun A Q E s k q => wpAny_typeOf_ref (k _ _ he3) (by rw [hz3.1]; exact q)
    have LM := PySem.W.exm_one (M := model X.prog X.w) (J3.i.kIn) LT hb1
    have test : ∀ {Q : Value → Shared → Prop} {E : Value → Shared → Prop}, Q c { s' with heap := h3 } → wpAny (model X.prog X.w) (X.A.mark (some (.ref a))) (eval (.Name x np) X.env) Q E { s' with heap := h3 } := fun {Q E} q => by
      obtain ⟨hg, hdbg, hm | ⟨hm, hv, hnn⟩⟩ := hc
      · exact ld_glob (X := X.suite a ((a, oe3) :: (X.pn ++ pins))) S3.i hg hm q hdbg
      · exact ld_blt (X := X.suite a ((a, oe3) :: (X.pn ++ pins))) S3.i hg hm hv q hnn hdbg
    refine test (LM.here ?_)
    cases b with
    | true =>
      refine codeAny_handlers_suite_as ?_
      refine HandSPX.lands_againZ fl3 fun h4 fl4 up4 => ?_
      have J4 : Inv T X pins σ' H' { s' with heap := h4 } := J.landed nb fl4.1 ((up.trans up3).trans up4) os ag ht
      obtain ⟨oe4, vs4, he4, hz4, hd4⟩ := fl4.there
      have S4 := J4.suite he4 hd4 na nL nF
      refine store_ok (X := X.suite a ((a, oe4) :: (X.pn ++ pins))) (v := .ref a) S4 hN hi hloc rfl trivial (fun s5 S5 => ?_) (.inr hln)
      refine wpAny_mono ((hsu a oe4 cls d (X.pn ++ pins) hz4 ⟨_, hd4⟩).run [] s5 _ H' _ S5 (hyes rfl a na)) (fun f s6 hsp => ?_) (fun _ _ z => False.elim z)
      have end_ : ∀ {σ6 : St} {H6 : Hp} {Q : Shared → Prop}, Inv T (X.suite a ((a, oe4) :: (X.pn ++ pins))) [] σ6 H6 s6 → (∀ s7, s6.toks ≤ s7.toks → Inv T X pins (σ6.set i none) H6 s7 → Q s7) →
          wpAny (model X.prog X.w) X.A (do bindName X.env n .none; unbindBehindTheSuite X.env n pos') (fun _ s7 => Q s7) X.xe s6 := fun {σ6 H6 Q} S6 hq => gone_ok (S6.unsuite ok) hN hi hln hq
      cases f with
      | next =>
        obtain ⟨σ6, H6, S6, q6⟩ := hsp
        exact end_ S6 fun s7 _ J7 => ⟨_, _, J7, q6⟩
      | brk =>
        obtain ⟨σ6, H6, S6, q6⟩ := hsp
        exact end_ S6 fun s7 _ J7 => ⟨_, _, J7, q6⟩
      | cont =>
        obtain ⟨σ6, H6, S6, q6⟩ := hsp
        exact end_ S6 fun s7 _ J7 => ⟨_, _, J7, q6⟩
      | ret u =>
        obtain ⟨v6, σ6, H6, S6, r6, g6, q6⟩ := hsp
        exact end_ S6 fun s7 le J7 => ⟨_, _, _, J7, r6, g6.up le, q6⟩
    | false =>
      show wpAny _ X.A (handleBy (.ref a) X.env []) _ _ _
      refine wpAny_handleBy_nil ?_
      obtain ⟨k1, k2, k3, oe, vs, TT, oT, ts', he, hz, hd, h1, hr⟩ := id fl3
      unfold PySem.passOn
      refine wpAny_bind (wpAny_field he hd h1 ?_)
      rw [if_neg (show ¬ ((Value.ref TT == Value.none) = true) from by simp)]
      have fin : wpAny (model X.prog X.w) X.A (setFlight (.ref a) X.env.frame) (fun _ s4 => wpAny (model X.prog X.w) X.A (throw (.ref a) : Sem Flow) (SP T X pins D) X.xe s4) X.xe { s' with heap := h3 } := by
        rw [hf]
        refine HandSPX.setFlight_upZ fl3 fun h4 hh4 up4 => wpAny_throw (tk _ _ ?_)
        exact ⟨a, B, sI, pins, σ', H', cls, d, rfl, J, nb, (up.trans up3).trans up4, .inr (.inr (by rw [hs]; exact hh4)), na, os, ag, ht, hno rfl⟩
      first
        | exact wpAny_bind (wpAny_pure (wpAny_bind fin))
        | exact wpAny_bind fin
  · cases f with
    | next =>
      obtain ⟨σ', H', J', q⟩ := hsp
      exact wpAny_execs_nil ⟨σ', H', J'.ofTry ok, q⟩
    | brk =>
      obtain ⟨σ', H', J', q⟩ := hsp
      exact ⟨σ', H', J'.ofTry ok, q⟩
    | cont =>
      obtain ⟨σ', H', J', q⟩ := hsp
      exact ⟨σ', H', J'.ofTry ok, q⟩
    | ret u =>
      obtain ⟨v, σ', H', J', r, g, q⟩ := hsp
      exact ⟨v, σ', H', J'.ofTry ok, r, g, q⟩
theorem ps_try_only (hs : X.stack = X.env :: X.outer) (hf : X.env.frame = some X.env.locals) (hc : Names X x c) (tk : Takes T X Wout)
    (hb : ∀ (W : WX) (pn : List (Addr × Obj)) (xe : Value → Shared → Prop), Takes T (X.tr pn xe) W → PassesOwn (model X.prog X.w) X.A X.env xe → PSs T (X.tr pn xe) body (tb W))
    (hsu : ∀ (a : Addr) (oe : Obj) (cls : Value) (d : Option Addr) (pn : List (Addr × Obj)), Zc cls d oe → (∃ vs, oe.data = .fields vs) → PSs T (X.suite a ((a, oe) :: pn)) (b₀ :: suite) (ts a cls d)) :
    PS T X (.Try body [.ExceptHandler (some (.Name x np)) none (b₀ :: suite) pos'] [] [] pos) (fun D σ H => tb (wOnly X.K c ts Wout D) D σ H) := by
  refine ⟨fun pins s σ H D I h => ?_⟩
  have ok := I.i.ok
  have hfr : X.A.frames = some (X.env :: X.outer) := by rw [ok.frames, hs]
  refine wpAny_Try_except ?_
  refine wpAny_mono ((hb (wOnly X.K c ts Wout D) (X.pn ++ pins) (fun e s₁ => wpAny (model X.prog X.w) X.A (noteFrame e X.env) (fun _ s₂ => wpAny (model X.prog X.w) X.A (setFlight e none) (fun _ s₃ =>
    wpAny (model X.prog X.w) X.A (handleBy e X.env [.ExceptHandler (some (.Name x np)) none (b₀ :: suite) pos']) (SP T X pins D) X.xe s₃) X.xe s₂) X.xe s₁) (fun u s' xx => ?_) PassesOwn.looking).run [] s σ H D (I.toTry _) h) (fun f s1 hsp => ?_) (fun e s1 he => he)
  · obtain ⟨a, B, sI, pins', σ', H', cls, d, rfl, J', nb, up, sky, na, os, ag, ht, b, hb1, hyes, hno⟩ := xx
    have J : Inv T X pins σ' H' sI := J'.ofTry ok
    have sky' : Sky B (X.env :: X.outer) a (Zc cls d) X.env.locals s'.heap := by rw [← hs]; exact sky
    show wpAny (model X.prog X.w) X.A (noteFrame (.ref a) X.env) _ _ _
    refine Sky.land Zc.steady hfr hf sky' fun h3 fl3 up3 => ?_
    have J3 : Inv T X pins σ' H' { s' with heap := h3 } := J.landed nb fl3.1 (up.trans up3) os ag ht
    obtain ⟨oe3, vs3, he3, hz3, hd3⟩ := fl3.there
    have notFr : ∀ {h : Heap} {o : Obj} {vs : Array Value}, h.FunFrames B (X.env :: X.outer) → h.get? a = some o → o.data = .fields vs → a ∉ frs (X.env :: X.outer) := fun {h o vs} ff e dd hm => by
      obtain ⟨_, o', e', hnf⟩ := ff.mem hm
      rw [e] at e'; cases e'
      exact hnf _ dd
    have nfr := notFr fl3.2.2.1 he3 hd3
    have nL : a ≠ X.env.locals := fun z => nfr (List.mem_filterMap.mpr ⟨X.env, List.mem_cons_self, by rw [hf, z]⟩)
    have nF : a ∉ X.fs := fun hm => by
      obtain ⟨e, he, q⟩ := List.mem_filterMap.mp hm
      exact nfr (List.mem_filterMap.mpr ⟨e, List.mem_cons_of_mem _ he, q⟩)
    have S3 := J3.suite he3 hd3 na nL nF
    refine wpAny_handleBy_cons (codeAny_handlers_test ?_) (by intro q; cases q)
    have LT : PySem.W.Looks (model X.prog X.w) h3 (typeOf (.ref a)) cls := fun A Q E s k q => wpAny_typeOf_ref (k _ _ he3) (by rw [hz3.1]; exact q)
    have LM := PySem.W.exm_one (M := model X.prog X.w) (J3.i.kIn) LT hb1
    have test : ∀ {Q : Value → Shared → Prop} {E : Value → Shared → Prop}, Q c { s' with heap := h3 } → wpAny (model X.prog X.w) (X.A.mark (some (.ref a))) (eval (.Name x np) X.env) Q E { s' with heap := h3 } := fun {Q E} q => by
      obtain ⟨hg, hdbg, hm | ⟨hm, hv, hnn⟩⟩ := hc
      · exact ld_glob (X := X.suite a ((a, oe3) :: (X.pn ++ pins))) S3.i hg hm q hdbg
      · exact ld_blt (X := X.suite a ((a, oe3) :: (X.pn ++ pins))) S3.i hg hm hv q hnn hdbg
    refine test (LM.here ?_)
    cases b with
    | true =>
      refine codeAny_handlers_suite ?_
      refine HandSPX.lands_againZ fl3 fun h4 fl4 up4 => ?_
      have J4 : Inv T X pins σ' H' { s' with heap := h4 } := J.landed nb fl4.1 ((up.trans up3).trans up4) os ag ht
      obtain ⟨oe4, vs4, he4, hz4, hd4⟩ := fl4.there
      have S4 := J4.suite he4 hd4 na nL nF
      refine wpAny_mono ((hsu a oe4 cls d (X.pn ++ pins) hz4 ⟨_, hd4⟩).run [] _ _ H' _ S4 (hyes rfl a na)) (fun f s6 hsp => ?_) (fun _ _ z => False.elim z)
      cases f with
      | next =>
        obtain ⟨σ6, H6, S6, q6⟩ := hsp
        exact ⟨_, _, S6.unsuite ok, q6⟩
      | brk =>
        obtain ⟨σ6, H6, S6, q6⟩ := hsp
        exact ⟨_, _, S6.unsuite ok, q6⟩
      | cont =>
        obtain ⟨σ6, H6, S6, q6⟩ := hsp
        exact ⟨_, _, S6.unsuite ok, q6⟩
      | ret u =>
        obtain ⟨v6, σ6, H6, S6, r6, g6, q6⟩ := hsp
        exact ⟨_, _, _, S6.unsuite ok, r6, g6, q6⟩
    | false =>
      show wpAny _ X.A (handleBy (.ref a) X.env []) _ _ _
      refine wpAny_handleBy_nil ?_
      obtain ⟨k1, k2, k3, oe, vs, TT, oT, ts', he, hz, hd, h1, hr⟩ := id fl3
      unfold PySem.passOn
      refine wpAny_bind (wpAny_field he hd h1 ?_)
      rw [if_neg (show ¬ ((Value.ref TT == Value.none) = true) from by simp)]
      have fin : wpAny (model X.prog X.w) X.A (setFlight (.ref a) X.env.frame) (fun _ s4 => wpAny (model X.prog X.w) X.A (throw (.ref a) : Sem Flow) (SP T X pins D) X.xe s4) X.xe { s' with heap := h3 } := by
        rw [hf]
        refine HandSPX.setFlight_upZ fl3 fun h4 hh4 up4 => wpAny_throw (tk _ _ ?_)
        exact ⟨a, B, sI, pins, σ', H', cls, d, rfl, J, nb, (up.trans up3).trans up4, .inr (.inr (by rw [hs]; exact hh4)), na, os, ag, ht, hno rfl⟩
      first
        | exact wpAny_bind (wpAny_pure (wpAny_bind fin))
        | exact wpAny_bind fin
  · cases f with
    | next =>
      obtain ⟨σ', H', J', q⟩ := hsp
      exact wpAny_execs_nil ⟨σ', H', J'.ofTry ok, q⟩
    | brk =>
      obtain ⟨σ', H', J', q⟩ := hsp
      exact ⟨σ', H', J'.ofTry ok, q⟩
    | cont =>
      obtain ⟨σ', H', J', q⟩ := hsp
      exact ⟨σ', H', J'.ofTry ok, q⟩
    | ret u =>
      obtain ⟨v, σ', H', J', r, g, q⟩ := hsp
      exact ⟨v, σ', H', J'.ofTry ok, r, g, q⟩
end
end GT

/-! UnSkey: sorted(texts, key=str). -/
namespace Un
open PySem PySem.Spec PyProof.Rows L2
theorem key_str (a : Addr) : Builtin.«list.sort» ⟨[.ref a], [(Str.ofString "key", .type "str")]⟩ = PyProof.Rows.ksk_tree a (.type "str") false := rfl
/-- the order of texts -/
def leS : Str → Str → Bool := PySem.W.dataLe false PyData.str
theorem leS_total : PySem.W.TotalLe leS := PySem.W.sortLe_total (PyProof.Rows.listOrd PyProof.Rows.itemOrd) false fun b => PySem.W.keyToks (PyData.str b)
theorem leS_anti {x y : Str} (h1 : leS x y = true) (h2 : leS y x = true) : x = y := by
  have a1 : (!(PyProof.Rows.listOrd PyProof.Rows.itemOrd).blt (PySem.W.keyToks (.str y)) (PySem.W.keyToks (.str x))) = true := h1
  have a2 : (!(PyProof.Rows.listOrd PyProof.Rows.itemOrd).blt (PySem.W.keyToks (.str x)) (PySem.W.keyToks (.str y))) = true := h2
  rw [Bool.not_eq_true'] at a1 a2
  have e := (PyProof.Rows.listOrd PyProof.Rows.itemOrd).total _ _ a1 a2
  rw [PySem.W.keyToks, PySem.W.keyToks] at e
  injection e with e
  injection e with e
  exact PySem.W.str_of_cps e.symm
/-- two rows of the same texts are one, sorted -/
theorem sort_same {xs ys : List Str} (h : xs.Perm ys) : xs.mergeSort leS = ys.mergeSort leS :=
  List.Perm.eq_of_pairwise (fun a b _ _ => leS_anti) (PySem.W.sort_pairwise leS_total xs) (PySem.W.sort_pairwise leS_total ys) ((List.mergeSort_perm xs leS).trans (h.trans (List.mergeSort_perm ys leS).symm))
def rSortKey (K : PySem.W.Frag) : List V → List V → Hp → VK → Prop := fun vs zs H Q => ∃ (a : Addr) (xs : List Str), vs = [V.ref a] ∧ zs = [V.ty "str"] ∧ SqL K H a (xs.map V.str) ∧
  ∀ p : Addr, H p = none → Q (.ref p) (upd H p (.lst ((xs.mergeSort leS).map V.str)))
theorem each_strs : ∀ {xs : List Str} {us : List Value}, Vals (xs.map V.str) us → PySem.W.EachIs (fun v x => RelV (.str x) v) us xs
  | [], _, .nil => .nil
  | x :: xs, _, .cons r t => .cons r (each_strs t)
theorem vals_each : ∀ {xs : List Str} {us : List Value}, PySem.W.EachIs (fun v x => RelV (.str x) v) us xs → Vals (xs.map V.str) us
  | [], _, .nil => .nil
  | x :: xs, _, .cons r t => .cons r (vals_each t)
theorem cr_sortKey {X : Cx} (hu : X.A.units + 64 < cLine) : CallRK X (.builtin "sorted") [Str.ofString "key"] (rSortKey X.K) := by
  intro pins s σ H vs zs us ws Q I r rz h
  obtain ⟨a, xs, rfl, rfl, hs, q⟩ := h
  obtain rfl := Vals.ref1 r
  obtain ⟨w1, rfl, e1⟩ := vals1 rz
  obtain rfl : w1 = Value.type "str" := e1
  obtain ⟨its, rv, hl, hz⟩ := I.list hs
  rw [List.length_map] at hz
  refine PySem.W.sorted_key_data (R := fun v x => RelV (.str x) v) (b := false) PyData.str hl.isList (each_strs rv) (PySem.W.AllAlike.of fun _ _ => rfl) (PySem.W.Sortable.others fun b => ⟨by simp, by simp⟩) hz
    (fun x _ => by show X.A.units + 2 + PyData.depth (.str x) < cLine; rw [PyData.depth]; omega) (PyProof.Rows.ksk_s1 _ _) (fun _ => PyProof.Rows.ksk_l1 _ _) key_str (fun v x hv _ h1 tk k1 => ?_) fun out c h' tk k fr hD hlen eo => ?_
  · obtain ⟨t, rfl⟩ := hv
    exact PySem.P.str_of_str ⟨h1, tk, rfl, fun _ _ e => e, .str x t⟩
  · refine ⟨.ref _, upd H (s.heap.objs.size + 1) (.lst ((xs.mergeSort leS).map V.str)), I.laid (t' := tk) k (Nat.le_succ _) ⟨?_, out, c, vals_each eo, hD⟩, rfl, q _ (I.hok.fresh (Nat.le_succ _))⟩
    rw [List.length_map, List.length_mergeSort]
    exact hz
theorem rd_cKw {r : List V → List V → Hp → VK → Prop} {t tk : TA} {σ : L2.St} {H : Hp} {Q : VK} (h : t σ H fun vs H1 => tk σ H1 fun zs H2 => r vs zs H2 Q) : tCKw r t tk σ H Q := h
theorem rd_sortKey {K : PySem.W.Frag} {H : Hp} {Q : VK} {a : Addr} {xs : List Str} (e : SqL K H a (xs.map V.str)) (q : ∀ p : Addr, H p = none → Q (.ref p) (upd H p (.lst ((xs.mergeSort leS).map V.str)))) : rSortKey K [.ref a] [.ty "str"] H Q := ⟨a, xs, rfl, rfl, e, q⟩
end Un

/-! UnGH: more rules by values. -/
namespace GT
open PySem PySem.Spec PyProof.Rows L2 Un
section
variable {T : TK} {X : Cx} {a b c e : Expr} {ta tb tc te : TE} {pos : Pos}
theorem pe_gstr {x : Str} {z : Str} (k : ∃ t, X.mg x = some (.str z t) ∧ Gv T T.n (.str z t)) (l : List Nat) (h : z = tx l) (hg : Gl X x) (hdb : (x == ("__debug__" : Str)) = false := by decide) : PE T X (.Name x pos) (tC (.str (tx l))) := by
  obtain ⟨t, k, g⟩ := k
  exact pe_glob hg k ⟨t, by rw [h]⟩ g hdb
theorem pe_gint {x : Str} {i : Int} (k : ∃ t, X.mg x = some (.int i t)) (hg : Gl X x) (hdb : (x == ("__debug__" : Str)) = false := by decide) : PE T X (.Name x pos) (tC (.int i)) := by
  obtain ⟨t, k⟩ := k
  exact pe_glob hg k ⟨t, rfl⟩ trivial hdb
theorem call_abs : CallR T X (.builtin "abs") (fun xs H Q => ∃ i, xs = [.int i] ∧ Q (.int (if i < 0 then -i else i)) H) := by
  rintro pins s σ H xs us Q I r _ ⟨i, rfl, q⟩
  obtain ⟨u, rfl, t, rfl⟩ := vals1 r
  exact grown (call_abs_int fun u tk lt => ⟨.int (if i < 0 then -i else i), H, I.tok lt, ⟨_, rfl⟩, trivial, q⟩)
theorem call_intI : CallR T X (.type "int") rIntI := by
  rintro pins s σ H xs us Q I r _ ⟨i, rfl, q⟩
  obtain ⟨u, rfl, t, rfl⟩ := vals1 r
  exact call_int_int ⟨.int i, H, I, ⟨_, rfl⟩, trivial, q⟩
theorem call_intB : CallR T X (.type "int") rIntB := by
  rintro pins s σ H xs us Q I r _ ⟨k, rfl, q⟩
  obtain ⟨u, rfl, r1⟩ := vals1 r
  cases r1
  exact call_int_bool ⟨.int (if k then 1 else 0), H, I.up, ⟨_, rfl⟩, trivial, q⟩
theorem call_min2X (hc : X.calm = true) : CallR T X (.builtin "min") rMinI := by
  rintro pins s σ H xs us Q I r _ ⟨i, j, rfl, q⟩
  obtain ⟨u, w, rfl, ⟨t, rfl⟩, ⟨t2, rfl⟩⟩ := vals2 r
  refine grown (min_two_ints (I.i.ok.hd hc) fun h2 tk k lt => ⟨_, H, I.kept k lt, ?_, ?_, q⟩)
  · split
    · exact ⟨_, rfl⟩
    · exact ⟨_, rfl⟩
  · split
    · exact trivial
    · exact trivial
theorem call_isi : CallR T X (.builtin "isinstance") (rIsi X.K) := by
  rintro pins s σ H xs us Q I r _ ⟨x, c, t, u, b, rfl, k, ty, e, q⟩
  obtain ⟨u1, u2, rfl, r1, r2⟩ := vals2 r
  have e2 := k.eq r2
  subst e2
  obtain ⟨P, Z, p, hx⟩ := kit_of I.i r1 ty
  exact grown (PySem.W.kia_one Z I.i.kIn p e hx fun tk lt => ⟨.bl b, H, I.tok lt, rfl, trivial, q⟩)
theorem call_lenX : CallR T X (.builtin "len") rLenX := by
  rintro pins s σ H xs us Q I r _ ⟨l, rfl, hz, q⟩
  obtain ⟨u, rfl, t, rfl⟩ := vals1 r
  have hn := line63
  exact len_str (by rw [tx_len]; omega) ⟨.int (l.length : Nat), H, I.tok (Nat.le_add_right _ 2), ⟨s.toks + 1, by rw [tx_len]⟩, trivial, q⟩
theorem call_lenQ : CallR T X (.builtin "len") (rLenQ X.K) := by
  rintro pins s σ H xs us Q I r _ ⟨p, ys, rfl, hq, q⟩
  obtain ⟨u, rfl, rx⟩ := vals1 r
  cases rx
  have hn := line63
  rcases hq with hq | hq
  · obtain ⟨its, r2, pl, hz, _⟩ := I.lst hq
    have hlen := r2.length
    exact Calls.call_len_list pl.isList (by simp only [List.size_toArray]; omega) ⟨.int (ys.length : Nat), H, I.tok (Nat.le_add_right _ 2), ⟨s.toks + 1, by rw [List.size_toArray, hlen]⟩, trivial, q⟩
  · obtain ⟨its, r2, pl, hz, _⟩ := I.tpl hq
    have hlen := r2.length
    exact len_tuple pl (by simp only [List.size_toArray]; omega) ⟨.int (ys.length : Nat), H, I.tok (Nat.le_add_right _ 2), ⟨s.toks + 1, by rw [List.size_toArray, hlen]⟩, trivial, q⟩
theorem call_reprS : CallR T X (.builtin "repr") rRepr := by
  rintro pins s σ H xs us Q I r _ ⟨x, rfl, hx, q⟩
  obtain ⟨u, rfl, rx⟩ := vals1 r
  cases x with
  | non => cases rx; exact PySem.P.repr_of_none ⟨.str _, H, I.up, ⟨_, rfl⟩, Gv.new I.t, q⟩
  | bl b => cases rx; exact PySem.P.repr_of_bool ⟨.str _, H, I.up, ⟨_, rfl⟩, Gv.new I.t, q⟩
  | int i => obtain ⟨t, rfl⟩ := rx; exact PySem.P.repr_of_int hx ⟨.str _, H, I.up, ⟨_, rfl⟩, Gv.new I.t, q⟩
  | str y => obtain ⟨t, rfl⟩ := rx; exact PySem.P.repr_of_str ⟨.str _, H, I.up, ⟨_, rfl⟩, Gv.new I.t, q⟩ (hsz := hx)
  | _ => exact hx.elim
theorem op_eqD (hu : X.A.units + 64 < cLine) : OpR T X (compareOp .Eq) (rEqD X.K) := by
  rintro pins s σ H x y v u Q I rx ry _ _ ⟨d, e, hd, he, sd, se, q⟩
  obtain ⟨as, r1⟩ := Dp.reads I.i d x v hd rx
  obtain ⟨bs, r2⟩ := Dp.reads I.i e y u he ry
  exact SeqAt.compareEq_shaped r1 r2 sd se hu ⟨.bl _, H, I, rfl, trivial, q⟩
theorem op_neD (hu : X.A.units + 64 < cLine) : OpR T X (compareOp .NotEq) (rNeD X.K) := by
  rintro pins s σ H x y v u Q I rx ry _ _ ⟨d, e, hd, he, sd, se, q⟩
  obtain ⟨as, r1⟩ := Dp.reads I.i d x v hd rx
  obtain ⟨bs, r2⟩ := Dp.reads I.i e y u he ry
  exact SeqAt.compareNe_shaped r1 r2 sd se hu ⟨.bl _, H, I, rfl, trivial, q⟩
/-! ### methods of texts -/
theorem mt_startX : MtR T X "str.startswith" rStartX := by
  rintro pins s σ H x xs v us Q I rx rs _ _ ⟨l, m, rfl, rfl, q⟩
  obtain ⟨t, rfl⟩ := rx
  obtain ⟨u, rfl, t2, rfl⟩ := vals1 rs
  exact PySem.SC.startswith (by rw [starts_tx]; exact ⟨.bl _, H, I, rfl, trivial, q⟩)
/-- sep.join(a list or a tuple of texts) -/
def rJoinS (K : PySem.W.Frag) : V → List V → Hp → VK → Prop := fun x xs H Q => ∃ d p, ∃ ys : List Str, x = .str d ∧ xs = [.ref p] ∧ SqL K H p (ys.map V.str) ∧
    (ys.map (·.length)).sum + ys.length * d.length ≤ 16777216 ∧ Q (.str (Txt.join d ys)) H
theorem strs_raw : ∀ {ys : List Str} {us : List Value}, Vals (ys.map V.str) us → ∃ l : List (Str × Tok), us = strValues l ∧ l.map (·.1) = ys
  | [], _, .nil => ⟨[], rfl, rfl⟩
  | y :: ys, _, .cons r t => by
    obtain ⟨k, rfl⟩ := r
    obtain ⟨l, rfl, e⟩ := strs_raw t
    exact ⟨(y, k) :: l, rfl, by rw [List.map_cons, e]⟩
theorem strs_good {b : Nat} : ∀ {l : List (Str × Tok)}, Gvs T b (strValues l) → ∀ p ∈ l, Gv T b (.str p.1 p.2)
  | p :: r, g, q, hq => by
    rcases List.mem_cons.mp hq with rfl | hq
    · exact g.hd
    · exact strs_good (l := r) g.tl q hq
theorem mt_joinS : MtR T X "str.join" (rJoinS X.K) := by
  rintro pins s σ H x xs v us Q I rx rs _ _ ⟨d, p, ys, rfl, rfl, hp, hz, q⟩
  obtain ⟨t, rfl⟩ := rx
  obtain ⟨u, rfl, ru⟩ := vals1 rs
  cases ru
  obtain ⟨its, r, pl, _, gi⟩ := I.lst hp
  obtain ⟨l, rfl, rfl⟩ := strs_raw r
  have ok := joinOk_of (sep := d) hz
  unfold JoinOk at ok
  rw [Bool.not_eq_true'] at ok
  refine PySem.call_meets F.slot_str_join (typeIs_str _ _ _) F.entry_str_join (F.args_str_join_2 _ _) (PySem.meets_str_join_list d t p l ok) ⟨pl.isList, ?_⟩
  have fit := joinFit_length ok
  match l, gi, q, fit with
  | [], gi, q, fit => exact ⟨fit, .str _, H, I.up, ⟨_, rfl⟩, Gv.new I.t, q⟩
  | [w], gi, q, fit => exact ⟨.str w.1, H, I, ⟨w.2, rfl⟩, gi.hd, q⟩
  | _ :: _ :: _, gi, q, fit => exact ⟨fit, .str _, H, I.up, ⟨_, rfl⟩, Gv.new I.t, q⟩
theorem mt_joinX : MtR T X "str.join" (rJoinX X.K) := by
  rintro pins s σ H x xs v us Q I rx rs gx gs ⟨p, ls, rfl, rfl, hp, hz, q⟩
  refine mt_joinS pins s σ H _ _ v us Q I rx rs gx gs ⟨tx [], p, ls.map tx, rfl, rfl, ?_, ?_, ?_⟩
  · rw [List.map_map]
    exact hp
  · have e1 : (List.map (fun x => x.length) (List.map tx ls)) = ls.map List.length := by
      rw [List.map_map]
      exact List.map_congr_left fun l _ => tx_len l
    have e0 : (tx []).length = 0 := rfl
    rw [e1, e0]
    omega
  · have e : Txt.join (tx []) (ls.map tx) = tx ls.flatten := (PySem.StrLaws.glued_eq_join _ _).trans (join_tx ls)
    rw [e]
    exact q
/-! ### lists -/
theorem Inv.lstM {pins : List (Addr × Obj)} {σ : St} {H : Hp} {s : Shared} {l : Addr} {xs : List V} (I : Inv T X pins σ H s) (hH : H l = some (.lst xs)) : xs.length ≤ sizeLine ∧ ∃ (its : List Value) (n : Nat), Vals xs its ∧ xs.length = its.length ∧ s.heap.get? l = some { cls := .type "list", data := .seq its.toArray n } ∧ Gvs T s.toks its := by
  obtain ⟨z, its, n, r, e⟩ := I.i.hok l _ hH
  refine ⟨z, its, n, r, r.length, e, ?_⟩
  obtain ⟨o1, e1, g⟩ := (show Od T s.toks s.heap l from I.h l _ hH)
  rw [e] at e1
  cases e1
  exact fun v hv => g v (by simpa using hv)
theorem Inv.lset {pins : List (Addr × Obj)} {σ : St} {H : Hp} {s : Shared} {l : Addr} {xs ys : List V} {its its' : List Value} {n : Nat} {f : Array Value → Array Value} {t' : Nat} (I : Inv T X pins σ H s) (hH : H l = some (.lst xs))
    (e : s.heap.get? l = some { cls := .type "list", data := .seq its.toArray n }) (hf : f its.toArray = its'.toArray) (hv : Vals ys its') (hz : ys.length ≤ sizeLine) (g : Gvs T t' its') (ht : s.toks ≤ t') :
    Inv T X pins σ (upd H l (.lst ys)) { s with heap := s.heap.update l (Obj.mapSeq f), toks := t' } := by
  have q := PySem.IsL.update e f
  rw [hf] at q
  exact I.write (x := l) (e := l) (by rw [hH]; exact trivial) (.inl rfl) (fun b u hb hu => (Heap.get?_update_other s.heap (Obj.mapSeq f) (Ne.symm hb)).trans hu) ⟨_, q⟩ ⟨hz, its', _, hv, q⟩ ⟨_, q, fun v hm => g v (by simpa using hm)⟩ ht
theorem Inv.lnew {pins : List (Addr × Obj)} {σ : St} {H : Hp} {s : Shared} {ys : List V} {its : List Value} {t' : Nat} (I : Inv T X pins σ H s) (hv : Vals ys its) (hz : ys.length ≤ sizeLine) (g : Gvs T t' its) (ht : s.toks ≤ t') :
    Inv T X pins σ (upd H s.heap.objs.size (.lst ys)) { s with heap := s.heap.push { cls := .type "list", data := .seq its.toArray }, toks := t' } :=
  I.laid (fun _ _ q => Heap.get?_push_of_some _ q) (Nat.le_refl _) ⟨hz, its, 0, hv, Heap.get?_push_size _ rfl⟩ ⟨_, Heap.get?_push_size _ rfl, fun v hm => g v (by simpa using hm)⟩ ht
theorem mt_append : MtR T X "list.append" rAppend := by
  rintro pins s σ H x vs v us Q I rx rv _ gv ⟨l, xs, y, rfl, rfl, hH, hz, q⟩
  cases rx
  obtain ⟨u, rfl, ru⟩ := rv.one
  obtain ⟨z, its, n, r, hl, e, g⟩ := I.lstM hH
  refine call_meets F.slot_list_append ⟨_, e, rfl⟩ F.entry_list_append (F.args_list_append_2 _ _) (PySem.list_append l its.toArray n u (by rw [List.size_toArray]; omega)) ⟨e, ?_⟩
  exact ⟨.non, _, I.lset (its' := its ++ [u]) hH e (by simp) (r.append (.cons ru .nil)) (by rw [List.length_append, List.length_singleton]; omega) (g.app gv) (Nat.le_refl _), rfl, trivial, q⟩
theorem mt_pop : MtR T X "list.pop" rPop := by
  rintro pins s σ H x vs v us Q I rx rv _ _ ⟨l, xs, y, rfl, rfl, hH, hy, q⟩
  cases rx
  have none := rv.zero
  subst none
  obtain ⟨z, its, n, r, hl, e, g⟩ := I.lstM hH
  obtain ⟨u, hu, ru⟩ := r.get hy
  have last : its.toArray[its.toArray.size - 1]? = some u := by
    rw [hl] at hu
    simpa using hu
  refine call_meets F.slot_list_pop ⟨_, e, rfl⟩ F.entry_list_pop (F.args_list_pop_1 _) (MeetsSeq.list_pop_last l its.toArray n u last (by rw [List.size_toArray]; omega)) ⟨e, ?_⟩
  refine ⟨y, _, I.lset (its' := its.dropLast) hH e ?_ r.dropLast (by rw [List.length_dropLast]; omega) (fun v hv => g v ((List.dropLast_sublist its).subset hv)) (Nat.le_refl _), ru, get_good g hu, q⟩
  show its.toArray.eraseIdxIfInBounds (its.toArray.size - 1) = its.dropLast.toArray
  rw [List.size_toArray, List.eraseIdxIfInBounds_toArray, PyProof.Rows.Copied.eraseIdx_last]
theorem op_cat : OpR T X (binaryOp .Add) rCat := by
  rintro pins s σ H x y v u Q I rx ry _ _ ⟨l, b, xs, zs, rfl, rfl, hH, hB, hz, q⟩
  cases rx
  cases ry
  obtain ⟨z, its, n, r, hl, e, g⟩ := I.lstM hH
  obtain ⟨z2, its2, n2, r2, hl2, e2, g2⟩ := I.lstM hB
  refine PySem.P.add_list e e2 ?_ (by rw [List.size_toArray, List.size_toArray]; omega)
  rw [show its.toArray ++ its2.toArray = (its ++ its2).toArray by simp]
  exact ⟨.ref _, _, I.lnew (t' := s.toks) (r.append r2) (by rw [List.length_append]; omega) (g.app g2) (Nat.le_refl _), rfl, trivial, q _ (I.i.hok.fresh (Nat.le_refl _))⟩
theorem set_good {T : TK} {b : Nat} {u : Value} : ∀ {its : List Value} {j : Nat}, Gvs T b its → Gv T b u → Gvs T b (its.set j u)
  | [], _, g, _ => g
  | _ :: _, 0, g, h => .cons h g.tl
  | _ :: _, _ + 1, g, h => .cons g.hd (set_good g.tl h)
theorem set_list : PSet T X rSetL := by
  rintro pins s σ H o i v ov iv u Q I ro ri rv _ gu ⟨p, xs, k, j, rfl, rfl, hp, hj, q⟩
  cases ro
  obtain ⟨t, rfl⟩ := ri
  obtain ⟨hz, its, n, r, hl, ho, g⟩ := I.lstM hp
  obtain ⟨h1, h2, h3, h4⟩ := ixN_seq hj
  have hn := line63
  have J : Inv T X pins σ (upd H p (.lst (xs.set j v))) { s with heap := s.heap.update p (Obj.mapSeq (·.setIfInBounds j u)), toks := s.toks } :=
    I.lset (its' := its.set j u) hp ho (by simp) (r.set rv j) (by rw [List.length_set]; exact hz) (set_good g gu) (Nat.le_refl _)
  by_cases h0 : 0 ≤ k
  · have hk : k.toNat = j := Option.some.inj ((seqIndex_of h0 h4).symm.trans h1)
    exact PySem.W.ki_setAt ho h0 (by omega) (by rw [List.size_toArray, ← hl]; exact h4) (by rw [hk]; exact ⟨_, J, q⟩)
  · have hk : (k + (its.toArray.size : Int)).toNat = j := by
      have e := (seqIndex_neg (by omega) h3).symm.trans h1
      rw [List.size_toArray, ← hl]
      exact Option.some.inj e
    exact PySem.W.ki_setBack ho (by omega) (by rw [List.size_toArray, ← hl]; exact h3) (by omega) (by rw [hk]; exact ⟨_, J, q⟩)
theorem pe_revL {k : Nat} {p1 p2 p3 : Pos} (he : PE T X e te) : PE T X (.Subscript e (.Slice none none (some (.UnaryOp .USub (.Constant (.int 1) k p1) p2)) p3) pos) (tRevL X.K te) := by
  refine ⟨fun pins s σ H Q I q => Subscript_ (thn (he.run pins s σ H _ I q) fun v s1 ⟨x, H1, I1, r1, _, a, xs, ex, hx, q1⟩ => ?_)⟩
  subst ex
  cases r1
  have back : PO T X (some (.UnaryOp .USub (.Constant (.int 1) k p1) p2)) (tPart (tUn (rU fun i => .int (-i)) (tC (.int 1)))) := po_some (pe_un un_neg pe_int)
  refine wpAny_Slice (thn (po_none.run pins s1 σ H1 (fun o H2 => o = none ∧ H2 = H1) I1 ⟨rfl, rfl⟩) fun vl s2 ⟨l, H2, I2, pl, el, e2⟩ => ?_)
  subst el e2
  refine thn (po_none.run pins s2 σ H2 (fun o H3 => o = none ∧ H3 = H2) I2 ⟨rfl, rfl⟩) fun vu s3 ⟨u, H3, I3, pu, eu, e3⟩ => ?_
  subst eu e3
  refine thn (back.run pins s3 σ H3 (fun o H4 => o = some (-1) ∧ H4 = H3) I3 ⟨1, rfl, -1, rfl, rfl, rfl⟩) fun vs s4 ⟨o, H4, I4, ps, eo, e4⟩ => ?_
  subst eo e4
  have I5 : Inv T X pins σ H4 { s4 with heap := s4.heap.push { cls := .type "slice", data := .fields #[vl, vu, vs] } } := I4.kept (t' := s4.toks) (fun b ob z => Heap.get?_push_of_some _ z) (Nat.le_refl _)
  obtain ⟨its, r, ht, hz, g⟩ := I5.lst hx
  have hlen := r.length
  show wpAny (model X.prog X.w) X.A (subscriptTail e _ (.ref a) (.ref s4.heap.objs.size)) _ _ _
  refine tail_any (ops := [.ref a, .ref s4.heap.objs.size]) ht.isList.typeIs (PySem.slot_list_getitem.lookup) ?_ (by with_unfolding_all rfl)
  refine wpAny_getItem_list_slice ht.isList (Heap.IsSliceOf.new _ vl vu vs) pl pu ps (by decide) ?_ (by rw [List.size_toArray]; omega)
  rw [PySem.W.krv_pick]
  exact ⟨.ref _, _, I5.lnew (t' := s4.toks) r.reverse (by rw [List.length_reverse]; exact hz) (fun v hv => g v (List.mem_reverse.mp hv)) (Nat.le_refl _), rfl, trivial, q1 _ (I5.i.hok.fresh (Nat.le_refl _))⟩
/-! ### several names at once -/
theorem store_up {M : Model} {A : Around} {E : Value → Shared → Prop} {pins : List (Addr × Obj)} {σ : St} {H : Hp} {s : Shared} {i : Nat} {x : Str} {v : V} {u : Value} {Q : Unit → Shared → Prop} (I : Inv T X pins σ H s) (hN : X.N.Nodup) (hi : X.N[i]? = some x) (hx : Loc X.env.scope x) (r : RelV v u) (g : Gv T s.toks u)
    (h : ∀ s', s.toks ≤ s'.toks → Inv T X pins (σ.set i (some v)) H s' → Q () s') (hf : X.fn x = true ∨ X.env.scope.names.lookup x = some .local) : wpAny M A (storeName X.env x u) Q E s :=
  wpAny_mono (up (store_ok (Q := fun _ z => Inv T X pins (σ.set i (some v)) H z) I hN hi hx r g (fun _ J => J) hf)) (fun _ s' z => h s' z.1 z.2) fun _ _ z => z
theorem Vals.two {v : V} {vs : List V} {us : List Value} (r : Vals (v :: vs) us) : ∃ u us1, us = u :: us1 ∧ RelV v u ∧ Vals vs us1 := by
  cases r with
  | cons p q => exact ⟨_, _, rfl, p, q⟩
theorem ps_par {i j : Nat} {x y : Str} {ta : TA} {px py pt : Pos} {kt k2 pt2} (hc : X.calm = true) (hN : X.N.Nodup) (hi : X.N[i]? = some x) (hj : X.N[j]? = some y) (hij : i ≠ j)
    (hx : X.env.scope.names.lookup x = some .local) (hy : X.env.scope.names.lookup y = some .local) (ha : PA T X [a, b] ta)
    (hw : swappedStores [.Tuple [.Name x px, .Name y py] kt pt] (.Tuple [a, b] k2 pt2) X.env = pure (some [x, y]))
    (hs : swapsWithSole [.Tuple [.Name x px, .Name y py] kt pt] (.Tuple [a, b] k2 pt2) pos.line X.env = pure false := by rfl) :
    PS T X (.Assign [.Tuple [.Name x px, .Name y py] kt pt] (.Tuple [a, b] k2 pt2) pos) (tPar i j ta) := by
  refine ⟨fun pins s σ H D I q => ?_⟩
  rw [exec_Assign_arm]
  refine wpAny_bind (wpAny_standAt ?_)
  rw [hs]
  refine wpAny_bind (wpAny_pure ?_)
  rw [if_neg (by decide)]
  refine wpAny_bind (Tuple_ (thn (ha.run _ pins s σ H _ I q) fun us s1 ⟨vs, H1, I1, r1, g1, q1⟩ => ?_))
  obtain ⟨v, w, e1, q1⟩ := q1
  subst e1
  obtain ⟨u1, us1, rfl, rv, r2⟩ := (Vals.two r1)
  obtain ⟨u2, us2, rfl, rw', r3⟩ := (Vals.two r2)
  obtain rfl : us2 = [] := r3.zero
  · skip
    refine wpAny_newObj_type ?_ (by show 2 ≤ sizeLine; decide)
    have I2 : Inv T X pins σ H1 { s1 with heap := s1.heap.push { cls := .type "tuple", data := .seq [u1, u2].toArray } } := I1.kept (t' := s1.toks) (fun b o z => Heap.get?_push_of_some _ z) (Nat.le_refl _)
    rw [hw]
    refine wpAny_bind (wpAny_pure ?_)
    show wpAny (model X.prog X.w) X.A (do rule "assign.swapped-stores"; let items ← unpackItems (.ref s1.heap.objs.size) 2 none; assignInOrder [fun v => bindName X.env y v, fun v => bindName X.env x v] items.reverse; pure Flow.next) _ _ _
    refine wpAny_bind (wpAny_rule (wpAny_bind (unpackItems_tuple (items := #[u1, u2]) (I.i.ok.hd hc) (IsTup.new s1.heap _) fun h2 hx2 => ?_)))
    have I3 := I2.kept (h' := h2) (t' := s1.toks) (fun b o z => hx2 b o (Nat.ne_of_lt (Heap.lt_size z)) z) (Nat.le_refl _)
    show wpAny _ _ (assignInOrder [fun v => bindName X.env y v, fun v => bindName X.env x v] [u2, u1] >>= fun _ => pure Flow.next) _ _ _
    refine wpAny_bind (assignInOrder_cons (wpAny_bindName (store_up I3 hN hj (.inl hy) rw' g1.tl.hd (fun s2 l2 I4 => ?_) (.inr hy))))
    refine assignInOrder_cons (wpAny_bindName (store_ok I4 hN hi (.inl hx) rv (g1.hd.up l2) (fun s3 I5 => ?_) (.inr hx)))
    refine assignInOrder_nil (wpAny_pure ?_)
    rw [List.set_comm _ _ (Ne.symm hij)] at I5
    exact ⟨_, H1, I5, q1⟩
theorem ps_par3 {i j l : Nat} {x y z : Str} {ta : TA} {px py pz pt : Pos} {kt k2 pt2} (hc : X.calm = true) (hN : X.N.Nodup) (hi : X.N[i]? = some x) (hj : X.N[j]? = some y) (hl : X.N[l]? = some z) (hij : i ≠ j) (hil : i ≠ l) (hjl : j ≠ l)
    (hx : X.env.scope.names.lookup x = some .local) (hy : X.env.scope.names.lookup y = some .local) (hz : X.env.scope.names.lookup z = some .local) (ha : PA T X [a, b, c] ta)
    (hw : swappedStores [.Tuple [.Name x px, .Name y py, .Name z pz] kt pt] (.Tuple [a, b, c] k2 pt2) X.env = pure (some [x, y, z]))
    (hs : swapsWithSole [.Tuple [.Name x px, .Name y py, .Name z pz] kt pt] (.Tuple [a, b, c] k2 pt2) pos.line X.env = pure false := by rfl) :
    PS T X (.Assign [.Tuple [.Name x px, .Name y py, .Name z pz] kt pt] (.Tuple [a, b, c] k2 pt2) pos) (tPar3 i j l ta) := by
  refine ⟨fun pins s σ H D I q => ?_⟩
  rw [exec_Assign_arm]
  refine wpAny_bind (wpAny_standAt ?_)
  rw [hs]
  refine wpAny_bind (wpAny_pure ?_)
  rw [if_neg (by decide)]
  refine wpAny_bind (Tuple_ (thn (ha.run _ pins s σ H _ I q) fun us s1 ⟨vs, H1, I1, r1, g1, q1⟩ => ?_))
  obtain ⟨v1, v2, v3, e1, q1⟩ := q1
  subst e1
  obtain ⟨u1, us1, rfl, ra, r2⟩ := (Vals.two r1)
  obtain ⟨u2, us2, rfl, rb, r3⟩ := (Vals.two r2)
  obtain ⟨u3, us3, rfl, rc, r4⟩ := (Vals.two r3)
  obtain rfl : us3 = [] := r4.zero
  · skip
    refine wpAny_newObj_type ?_ (by show 3 ≤ sizeLine; decide)
    have I2 : Inv T X pins σ H1 { s1 with heap := s1.heap.push { cls := .type "tuple", data := .seq [u1, u2, u3].toArray } } := I1.kept (t' := s1.toks) (fun b o z => Heap.get?_push_of_some _ z) (Nat.le_refl _)
    rw [hw]
    refine wpAny_bind (wpAny_pure ?_)
    show wpAny (model X.prog X.w) X.A (do rule "assign.swapped-stores"; let items ← unpackItems (.ref s1.heap.objs.size) 3 none; assignInOrder [fun v => bindName X.env z v, fun v => bindName X.env y v, fun v => bindName X.env x v] items.reverse; pure Flow.next) _ _ _
    refine wpAny_bind (wpAny_rule (wpAny_bind (unpackItems_tuple (items := #[u1, u2, u3]) (I.i.ok.hd hc) (IsTup.new s1.heap _) fun h2 hx2 => ?_)))
    have I3 := I2.kept (h' := h2) (t' := s1.toks) (fun b o z => hx2 b o (Nat.ne_of_lt (Heap.lt_size z)) z) (Nat.le_refl _)
    show wpAny _ _ (assignInOrder [fun v => bindName X.env z v, fun v => bindName X.env y v, fun v => bindName X.env x v] [u3, u2, u1] >>= fun _ => pure Flow.next) _ _ _
    refine wpAny_bind (assignInOrder_cons (wpAny_bindName (store_up I3 hN hl (.inl hz) rc g1.tl.tl.hd (fun s2 l2 I4 => ?_) (.inr hz))))
    refine assignInOrder_cons (wpAny_bindName (store_up I4 hN hj (.inl hy) rb (g1.tl.hd.up l2) (fun s3 l3 I5 => ?_) (.inr hy)))
    refine assignInOrder_cons (wpAny_bindName (store_ok I5 hN hi (.inl hx) ra (g1.hd.up (Nat.le_trans l2 l3)) (fun s4 I6 => ?_) (.inr hx)))
    refine assignInOrder_nil (wpAny_pure ?_)
    rw [List.set_comm _ _ (Ne.symm hjl), List.set_comm _ _ (Ne.symm hil), List.set_comm _ _ (Ne.symm hij)] at I6
    exact ⟨_, H1, I6, q1⟩
end
end GT

/-! UnGI: comprehensions on one line, n op= e, split, partition, replace by the mark's own object, shown values compared. -/
namespace GT
open PySem PySem.Spec PyProof.Rows L2 Un
section
variable {T : TK} {X : Cx} {a b c e : Expr} {ta tb tc te to : TE} {pos : Pos}
theorem ps_setLc {i : Nat} {y : Str} {py : Pos} {elt tg iter : Expr} {ifs : List Expr} {scope : Scope} {own : List (Str × Nat)} {pos spos : Pos} {wi : TI} {g : TG} {tt : TT} {te : TE} (hc : X.calm = true) (hN : X.N.Nodup) (hy : X.N[i]? = some y) (hl : X.env.scope.names.lookup y = some .local)
    (hsw : swapsWith (.ListComp elt [⟨tg, iter, ifs, 0⟩] scope pos) (some (.Name y py)) spos.line X.env = pure true) (hi : PI T X tg iter wi) (ok : BlkOk X.N X.env.scope scope own)
    (hg : ∀ (s : Shared) (H : Hp) (C : Addr) (cl : List (Str × Addr)) (fp : List Addr), PG T (X.blk s H scope (compEnvC scope cl C X.env) fp) tg g) (ht : ∀ (s : Shared) (H : Hp) (C : Addr) (cl : List (Str × Addr)) (fp : List Addr), PTs T (X.blk s H scope (compEnvC scope cl C X.env) fp) ifs tt)
    (he : ∀ (s : Shared) (H : Hp) (C : Addr) (cl : List (Str × Addr)) (fp : List Addr), PE T (X.blk s H scope (compEnvC scope cl C X.env) fp) elt te) (hs : ∀ x, foldedSetIterable iter X.env x = pure x := by intro _; rfl) :
    PS T X (.Assign [.Name y py] (.ListComp elt [⟨tg, iter, ifs, 0⟩] scope pos) spos) (tAsg (tLc wi g tt te (own.map (·.2))) (gName i)) := by
  refine ⟨fun pins s σ H D I q => ?_⟩
  rw [exec_Assign_Name_used _ _ _ _ hsw]
  refine wpAny_bind (wpAny_standAt (wpAny_bind ?_))
  show wpAny _ X.A (do let _ ← comprehension (.ListComp elt [⟨tg, iter, ifs, 0⟩] scope pos) scope X.env (firstIterPos [⟨tg, iter, ifs, 0⟩] pos) (newList []) false (eval iter X.env) (some (assign (.Name y py) X.env))) _ _ s
  have q : tLc wi g tt te (own.map (·.2)) σ H (fun x H1 => gName i x σ H1 D.nx) := q
  refine wpAny_bind (thn (lc_core (Qf := fun _ s' => SP T X pins D .next s') hc hN I hi ok hg ht he hs q fun L C s' m H' I' q hn f => ?_) fun _ s' hq => wpAny_pure (wpAny_pure hq))
  show wpAny _ _ (assign (.Name y py) X.env (.ref L)) _ _ _
  have G := wpAny_assign_Name (M := model X.prog X.w) (A := X.A) (pos := py) (store_ok (E := X.xe) (Q := fun _ z => Inv T X pins (σ.set i (some (.ref L))) H' z) I' hN hy (.inl hl) (v := V.ref L) (u := Value.ref L) rfl trivial (fun _ J => J) (.inr hl))
  have B := wpAny_assign_Name (M := model X.prog X.w) (A := X.A) (pos := py) (store_ok2 (E := X.xe) (Q := fun _ z => ∃ w, Heap.SameBut w s'.heap z.heap ∧ (w = X.env.locals ∨ X.env.cells.lookup y = some w)) (v := V.ref L) I'.i hN hy (.inl hl) rfl (fun _ _ z => z) (.inr hl))
  refine wpAny_mono (both G B) (fun _ s2 hz => ?_) fun _ _ x => x.1
  obtain ⟨J, w, sb, hw⟩ := hz
  have ne : C ≠ w := by
    rcases hw with z | z
    · rw [z]; exact f.2.1
    · exact fun e => f.2.2.2.2.1 y w z e.symm
  refine ⟨m, hn.sameBut sb ne, fun h3 sb3 => ⟨_, H', J.turned (t' := s2.toks) (fun b o hb e => (sb3.2 b hb).trans e) f (Nat.le_refl _), q⟩⟩
/-! ### n op= e -/
def PIp (T : TK) (X : Cx) (op : Operator) (t : TIp) : Prop :=
  ∀ (pins : List (Addr × Obj)) (s : Shared) (σ : St) (H : Hp) (x y : V) (v u : Value) (Q : VK), Inv T X pins σ H s → RelV x v → RelV y u → Gv T s.toks v → Gv T s.toks u → t x y H Q → wpAny (model X.prog X.w) X.A (inplaceOp op v u) (EP T X pins σ Q) X.xe s
theorem ip_add : PIp T X .Add (ipI fun i j => i + j) := by
  rintro pins s σ H x y v u Q I r1 r2 _ _ ⟨i, j, rfl, rfl, q⟩
  obtain ⟨t, rfl⟩ := r1
  obtain ⟨k, rfl⟩ := r2
  exact iadd_int ⟨.int _, H, I.up, ⟨_, rfl⟩, trivial, q⟩
theorem ps_aug {i : Nat} {x : Str} {op : Operator} {ti : TIp} {pos' : Pos} (hN : X.N.Nodup) (hi : X.N[i]? = some x) (_ : L2.Loc X.env.scope x) (he : PE T X e te) (ho : PIp T X op ti) (hx : X.env.scope.names.lookup x = some .local := by rfl) :
    PS T X (.AugAssign (.Name x pos') op e pos) (tAug i te ti) := by
  refine ⟨fun pins s σ H D I q => ?_⟩
  obtain ⟨v, e1, q⟩ := q
  obtain ⟨m, hn, hl⟩ := I.i.loc
  obtain ⟨u, r, l⟩ := hl i x v hi e1 (.inl hx)
  refine wpAny_AugAssign_Name ?_
  rcases l with ⟨hk, hm⟩ | ⟨hk, _⟩
  · refine wpAny_loadName_local I.i.ok.kind hk hn hm ?_
    refine thn (up (he.run pins s σ H _ I q)) fun w s1 ⟨lt, y, H1, I1, r1, g1, q1⟩ => ?_
    refine thn (ho pins s1 σ H1 v y u w _ I1 r r1 ((I.l m hn i x v u hi e1 hk hm).up lt) g1 q1) fun z s2 ⟨zv, H2, I2, r2, g2, q2⟩ => ?_
    exact store_ok I2 hN hi (.inl hx) r2 g2 (fun s3 I3 => ⟨_, H2, I3, q2⟩) (.inr hx)
  · rcases hk with hk | hk
    · have : X.env.scope.names.lookup x = some .cell := hk
      rw [hx] at this
      cases this
    · have : X.env.scope.names.lookup x = some .free := hk
      rw [hx] at this
      cases this
/-! ### texts in parts -/
section
variable {pins : List (Addr × Obj)} {σ : St} {H : Hp} {s : Shared} {Q : VK}
theorem new_strs {l : List (Str × Tok)} {ys : List Str} {k : Nat} (I : Inv T X pins σ H s) (e : l.map (·.1) = ys) (hz : ys.length ≤ sizeLine) (g : Gvs T k (strValues l)) (hk : s.toks ≤ k) (h : rNewStrs ys H Q) :
    EP T X pins σ Q (.ref s.heap.objs.size) { s with toks := k, heap := s.heap.push { cls := .type "list", data := .seq (strValues l).toArray } } := by
  refine ⟨.ref _, _, I.lnew (t' := k) (ys := ys.map V.str) ?_ (by rw [List.length_map]; exact hz) g hk, rfl, trivial, h _ (I.i.hok.fresh (Nat.le_refl _))⟩
  rw [← e]
  exact vals_strs l
theorem new_parts {x y z : Str} {t u v : Tok} {k : Nat} (I : Inv T X pins σ H s) (gx : Gv T k (.str x t)) (gy : Gv T k (.str y u)) (gz : Gv T k (.str z v)) (hk : s.toks ≤ k) (h : ∀ p, H p = none → Q (.ref p) (upd H p (.tup [.str x, .str y, .str z]))) :
    EP T X pins σ Q (.ref s.heap.objs.size) { s with toks := k, heap := s.heap.push { cls := .type "tuple", data := .seq [Value.str x t, .str y u, .str z v].toArray } } := by
  refine ⟨.ref _, _, I.laid (t' := k) (a := s.heap.objs.size) (o := .tup [.str x, .str y, .str z]) (fun _ _ q => Heap.get?_push_of_some _ q) (Nat.le_refl _) ?_ ⟨_, Heap.get?_push_size _ rfl, ?_⟩ hk, rfl, trivial, h _ (I.i.hok.fresh (Nat.le_refl _))⟩
  · exact ⟨by show 3 ≤ sizeLine; decide, [Value.str x t, .str y u, .str z v], .cons ⟨t, rfl⟩ (.cons ⟨u, rfl⟩ (.cons ⟨v, rfl⟩ .nil)), _, Heap.get?_push_size _ rfl, rfl, _, rfl⟩
  · exact fun v hv => Gvs.cons gx (Gvs.cons gy (Gvs.cons gz Gvs.nil)) v (by simpa using hv)
theorem strs_new {b : Nat} : ∀ (l : List Str) {n : Nat}, T.n ≤ n → n + l.length ≤ b → Gvs T b (strsFrom n l)
  | [], _, _, _ => Gvs.nil
  | _ :: r, n, h, k => by
    rw [List.length_cons] at k
    exact Gvs.cons (Gv.at h (by omega)) (strs_new r (Nat.le_succ_of_le h) (by omega))
end
def rSplitB : V → List V → Hp → VK → Prop := fun x xs H Q => ∃ a b, x = .str a ∧ xs = [.str b] ∧ (b.length == 0) = false ∧ a.length + 2 ≤ sizeLine ∧ rNewStrs (Txt.split a b) H Q
theorem mt_splitB : MtR T X "str.split" rSplitB := by
  rintro pins s σ H x xs v us Q I rx rs gx _ ⟨a, b, rfl, rfl, hb, hz, q⟩
  obtain ⟨t, rfl⟩ := rx
  obtain ⟨w, rfl, u, rfl⟩ := vals1 rs
  have hl : (Txt.split a b).length ≤ sizeLine := Nat.le_trans (PyProof.Rows.split_le a b) hz
  have hn : (Builtin.Str.partsBetween a (Builtin.Str.occurrences a b 0 a.length (a.length + 1)) b.length).length ≤ sizeLine := by
    have e1 := StrLaws.occ_length_le a b 0 a.length (a.length + 1)
    rw [length_partsBetween]
    omega
  have self : Gvs T s.toks (strValues [(a, t)]) := Gvs.cons gx Gvs.nil
  cases h1 : (decide (a.length < b.length) || decide (Builtin.Str.strKind a < Builtin.Str.strKind b))
  · cases hf : (Builtin.Str.occurrences a b 0 a.length (a.length + 1)).isEmpty
    · refine call_meets F.slot_str_split (typeIs_str _ _ _) F.entry_str_split (F.args_str_split_2 _ _) (meets_str_split_sep a b t u h1 hb hf (by omega) hn) ?_
      have good := strs_new (T := T) (Builtin.Str.partsBetween a (Builtin.Str.occurrences a b 0 a.length (a.length + 1)) b.length) I.t (Nat.le_refl _)
      show EP T X pins σ Q (.ref s.heap.objs.size) { s with toks := _, heap := s.heap.push { cls := .type "list", data := .seq (strsFrom s.toks (Builtin.Str.partsBetween a (Builtin.Str.occurrences a b 0 a.length (a.length + 1)) b.length)).toArray } }
      rw [strsFrom_eq] at good ⊢
      exact new_strs (ys := Txt.split a b) I ((numbered_texts _ _).trans ((if_neg (ne_true_of_eq_false h1)).trans (if_neg (ne_true_of_eq_false hf))).symm) hl good (Nat.le_add_right _ _) q
    · refine call_meets F.slot_str_split (typeIs_str _ _ _) F.entry_str_split (F.args_str_split_2 _ _) (meets_str_split_not_found a b t u h1 hb hf) ?_
      exact new_strs (l := [(a, t)]) (ys := Txt.split a b) (k := s.toks) I ((if_neg (ne_true_of_eq_false h1)).trans (if_pos hf)).symm hl self (Nat.le_refl _) q
  · refine call_meets F.slot_str_split (typeIs_str _ _ _) F.entry_str_split (F.args_str_split_2 _ _) (meets_str_split_cannot_occur a b t u h1) ?_
    exact new_strs (l := [(a, t)]) (ys := Txt.split a b) (k := s.toks) I (if_pos h1).symm hl self (Nat.le_refl _) q
def rPartB : V → List V → Hp → VK → Prop := fun x xs H Q => ∃ a b, x = .str a ∧ xs = [.str b] ∧ (b.length == 0) = false ∧ a.length ≤ sizeLine ∧
    ∀ p, H p = none → Q (.ref p) (upd H p (.tup [.str (Txt.partition a b).1, .str (Txt.partition a b).2.1, .str (Txt.partition a b).2.2]))
theorem mt_partB : MtR T X "str.partition" rPartB := by
  rintro pins s σ H x xs v us Q I rx rs gx gs ⟨a, b, rfl, rfl, hb, hz, q⟩
  obtain ⟨t, rfl⟩ := rx
  obtain ⟨w, rfl, u, rfl⟩ := vals1 rs
  refine call_meets F.slot_str_partition (typeIs_str _ _ _) F.entry_str_partition (F.args_str_partition_2 _ _) (meets_str_partition a b t u hb hz) ?_
  unfold Txt.partition at q
  revert q
  cases Builtin.Str.occurrences a b 0 a.length 1 with
  | nil => intro q; exact new_parts I (gx.up (Nat.le_succ _)) (Gv.new I.t) (Gv.new I.t) (Nat.le_succ _) q
  | cons i r => intro q; exact new_parts I (Gv.at I.t (Nat.lt_succ_of_lt (Nat.lt_succ_self _))) (gs.hd.up (Nat.le_add_right _ 2)) (Gv.at (Nat.le_succ_of_le I.t) (Nat.lt_succ_self _)) (Nat.le_add_right _ 2) q
/-! ### text.replace(MARK, name) -/
theorem repl_ok {A : Around} {E : Value → Shared → Prop} {s : Shared} {x y z : Str} {t u v : Tok} {Q : Value → Shared → Prop} (hT : T.n ≤ s.toks) (gx : Gv T s.toks (.str x t)) (hu : u ≠ 0) (hv : v ≠ 0) (huv : u ≠ v) (hyz : (y == z) = false) (hb : x.length + (x.length + 1) * z.length ≤ 16777216)
    (hq : ∀ t' k, s.toks ≤ k → Gv T k (.str (Txt.replace x y z) t') → Q (.str (Txt.replace x y z) t') { s with toks := k }) :
    wpAny (model X.prog X.w) A (call (.builtin "str.replace") [.str x t, .str y u, .str z v]) Q E s := by
  have hl : Builtin.Str.tooLong (x.length + (Builtin.Str.occurrences x y 0 x.length (x.length + 1)).length * z.length) = false := by
    have h1 := StrLaws.occ_length_le x y 0 x.length (x.length + 1)
    have h2 := Nat.mul_le_mul_right z.length h1
    unfold Builtin.Str.tooLong sizeLine
    exact decide_eq_false (by omega)
  refine call_gives F.slot_str_replace (typeIs_str _ _ _) F.entry_str_replace (F.args_str_replace_3 _ _ _) (gives_str_replace x y z t u v fun _ => ⟨by simp [hu, hv], by simp [huv], hyz, hl⟩) ?_
  unfold Txt.replace at hq
  cases hc : ((Builtin.Str.occurrences x y 0 x.length (x.length + 1)).isEmpty || (y.length == 0 && z.length == 0))
  · rw [hc] at hq
    simp only [Bool.false_eq_true, if_false] at hq ⊢
    exact ⟨fits_replaced y hb, hq _ _ (Nat.le_succ _) (Gv.new hT)⟩
  · rw [hc] at hq
    simp only [if_true] at hq ⊢
    exact hq t s.toks (Nat.le_refl _) gx
def rRepM : V → V → Hp → VK → Prop := fun x z H Q => ∃ d n, x = .str d ∧ z = .str n ∧ n ≠ "@" ∧ d.length + (d.length + 1) * n.length ≤ 16777216 ∧ Q (.str (Txt.replace d "@" n)) H
def tRepM (to tz : TE) : TE := fun σ H Q => to σ H fun x H1 => (∃ d, x = .str d) ∧ tz σ H1 fun z H2 => rRepM x z H2 Q
theorem pe_replM {x : Str} {tz : TE} {o z : Expr} {apos xpos : Pos} (hm : X.mg x = some (.str "@" T.t)) (g : Gv T T.n (.str "@" T.t)) (hg : Gl X x) (ho : PE T X o to) (hz : PE T X z tz) (hdb : (x == ("__debug__" : Str)) = false := by decide)
    (hbase : attributeBase o "replace" X.env (eval o X.env) = eval o X.env := by rfl) (hline : (apos.endLine == pos.line) = true := by rfl)
    (hst : starEach [.Name x xpos, z] X.env = [(false, eval (.Name x xpos) X.env), (false, eval z X.env)] := by rfl) :
    PE T X (.Call (.Attribute o "replace" apos) [.Name x xpos, z] [] pos) (tRepM to tz) := by
  refine ⟨fun pins s σ H Q I q => PySem.Call_method2 hbase hst hline (thn (ho.run pins s σ H _ I q) fun v s1 ⟨xv, H1, I1, r1, g1, ⟨d, ed⟩, q1⟩ => ?_)⟩
  subst ed
  obtain ⟨t, rfl⟩ := r1
  refine ⟨"str", _, F.plainAttrs_str, F.slot_str_replace, F.type_str_replace, typeIs_str _ _ _, (fun _ e => nomatch e), Calls.callWith_builtin rfl (Calls.evalArgs_plain (Calls.spliced_cons ?_))⟩
  refine ld_glob I1.i hg hm (Calls.spliced_cons (thn (up (hz.run pins s1 σ H1 _ I1 q1)) fun w s2 ⟨lt, zv, H2, I2, r2, g2, d2, n, e1, e2, hn, hb, q2⟩ => Calls.spliced_nil ?_)) hdb
  subst e2
  cases e1
  obtain ⟨tv, rfl⟩ := r2
  exact repl_ok I2.t (g1.up lt) g.1 g2.1 (fun e => hn (g2.2.1 e.symm)) (by rw [beq_eq_false_iff_ne]; exact fun e => hn e.symm) hb fun t' k hk gk => ⟨.str _, H2, I2.tok hk, ⟨t', rfl⟩, gk, q2⟩
/-! ### values whose object is not known -/
theorem op_neW {T : TK} {X : Cx} (pins : List (Addr × Obj)) (s : Shared) (σ : St) (H : Hp) (x y : V) (v u : Value) (Q : VK) (I : Inv T X pins σ H s) (rx : RelV x v) (ry : RelV y u) (h : rNe x y H Q) : wpAny (model X.prog X.w) X.A (compareOp .NotEq v u) (EP T X pins σ Q) X.xe s := by
  obtain ⟨hs, q⟩ := h
  cases x <;> cases y <;> first | (exact absurd (show false = true from hs) Bool.false_ne_true) | skip
  · cases rx; cases ry; exact PySem.EqNone.ne_none_none (fin_bl I q (by simp))
  · cases rx; cases ry; exact PySem.EqNone.ne_none_bool (fin_bl I q (by simp))
  · cases rx; obtain ⟨_, rfl⟩ := ry; exact PySem.EqNone.ne_none_int (fin_bl I q (by simp))
  · cases rx; obtain ⟨_, rfl⟩ := ry; exact PySem.EqNone.ne_none_str (fin_bl I q (by simp))
  · cases rx; cases ry; exact PySem.EqNone.ne_bool_none (fin_bl I q (by simp))
  · cases rx; cases ry; exact ne_bool (fin_bl I q (congrArg not dec_bl))
  · cases rx; obtain ⟨_, rfl⟩ := ry; exact PySem.EqMixed.ne_bool_str (fin_bl I q (by simp))
  · obtain ⟨_, rfl⟩ := rx; cases ry; exact PySem.EqNone.ne_int_none (fin_bl I q (by simp))
  · obtain ⟨_, rfl⟩ := rx; obtain ⟨_, rfl⟩ := ry; exact ne_int (fin_bl I q (congrArg not dec_int))
  · obtain ⟨_, rfl⟩ := rx; obtain ⟨_, rfl⟩ := ry; exact PySem.EqMixed.ne_int_str (fin_bl I q (by simp))
  · obtain ⟨_, rfl⟩ := rx; cases ry; exact PySem.EqNone.ne_str_none (fin_bl I q (by simp))
  · obtain ⟨_, rfl⟩ := rx; cases ry; exact PySem.EqMixed.ne_str_bool (fin_bl I q (by simp))
  · obtain ⟨_, rfl⟩ := rx; obtain ⟨_, rfl⟩ := ry; exact PySem.EqMixed.ne_str_int (fin_bl I q (by simp))
  · obtain ⟨_, rfl⟩ := rx; obtain ⟨_, rfl⟩ := ry; exact ne_str (fin_bl I q (congrArg not dec_str))
  · obtain ⟨_, rfl⟩ := rx; obtain ⟨_, rfl⟩ := ry; exact PySem.W.ne_bytes (fin_bl I q (congrArg not dec_byt))
structure PEW (T : TK) (X : Cx) (e : Expr) (t : TE) : Prop where
  run : ∀ (pins : List (Addr × Obj)) (s : Shared) (σ : St) (H : Hp) (Q : VK), Inv T X pins σ H s → t σ H Q → wpAny (model X.prog X.w) X.A (eval e X.env) (fun u s' => ∃ v H', Inv T X pins σ H' s' ∧ RelV v u ∧ Q v H') X.xe s
theorem call_reprW {k : Nat} {pins : List (Addr × Obj)} {s : Shared} {σ : St} {H : Hp} {us : List Value} {Q : VK} {xs : List V} (hgd : X.A.guards = some []) (hr : Room k X.A) (I : Inv T X pins σ H s) (r : Vals xs us) (gs : Gvs T s.toks us) (h : rReprA X.K xs H Q) :
    wpAny (model X.prog X.w) X.A (call (.builtin "repr") us) (fun u s' => ∃ v H', Inv T X pins σ H' s' ∧ RelV v u ∧ Q v H') X.xe s := by
  obtain ⟨x, d, rfl, hd, g, q⟩ := h
  have hsz : d.shown.length ≤ sizeLine := Nat.le_trans g.l (by decide)
  have base : scalR x → reprS x = d.shown → wpAny (model X.prog X.w) X.A (call (.builtin "repr") us) (fun u s' => ∃ v H', Inv T X pins σ H' s' ∧ RelV v u ∧ Q v H') X.xe s := fun h1 h2 =>
    thn (call_reprS pins s σ H [x] us Q I r gs ⟨x, rfl, h1, by rw [h2]; exact q⟩) fun u s2 ⟨v, H2, I2, r2, _, q2⟩ => ⟨v, H2, I2, r2, q2⟩
  have deep : ∀ p : Addr, x = .ref p → wpAny (model X.prog X.w) X.A (call (.builtin "repr") us) (fun u s' => ∃ v H', Inv T X pins σ H' s' ∧ RelV v u ∧ Q v H') X.xe s := by
    intro p e
    subst e
    obtain ⟨u, rfl, rx⟩ := vals1 r
    obtain ⟨as, rd⟩ := Dp.reads I.i d _ u hd rx
    cases rx
    have hu := hr.units
    have hz := g.z
    exact grown (repr_of_reads' rd g.s (PyData.noDict_hsm g.n) hgd (by omega) (fun _ _ e => e) (fun h' u tk hk lt => ⟨.str d.shown, H, I.kept (t' := tk) hk lt, ⟨u, rfl⟩, q⟩) hsz)
  cases hd with
  | non => exact base trivial (by simp only [PyData.shown]; rfl)
  | bl b => exact base trivial (by simp only [PyData.shown]; rfl)
  | int i => exact base (by have h0 := g.s; simp only [PyData.showable, decide_eq_true_eq] at h0; exact h0) (by simp only [PyData.shown]; rfl)
  | str z => exact base (by have := hsz; simp only [PyData.shown] at this; exact this) (by simp only [PyData.shown]; rfl)
  | lst h1 h2 => exact deep _ rfl
  | tup h1 h2 => exact deep _ rfl
theorem pew_repr {k : Nat} {p : Pos} {x : Str} {t : TA} (hgd : X.A.guards = some []) (hr : Room k X.A) (hg : Gl X x) (hm : X.mg x = none) (hv : bootBuiltins x = some (.builtin "repr")) (ha : PA T X [e] t) (hn : x ≠ "__name__" := by decide) (hdb : (x == ("__debug__" : Str)) = false := by decide)
    (he : starEach [e] X.env = (false, eval e X.env) :: starEach [] X.env := by rfl) (hpl : (backTo pos (starEach [] X.env)).any (·.1) = false := by rfl) : PEW T X (.Call (.Name x p) [e] [] pos) (tCB (rReprA X.K) t) :=
  ⟨fun pins s σ H Q I q => wpAny_Call_Name_kw (ld_blt I.i hg hm hv (PyProof.Rows.callWith_builtin1 (thn (ha.run pos pins s σ H _ I q) fun us s1 ⟨vs, H1, I1, r1, g1, q1⟩ => call_reprW hgd hr I1 r1 g1 q1) he hpl) hn hdb)⟩
theorem pt_reprNe (ha : PEW T X a ta) (hb : PEW T X b tb) (hm : behindInMarks .NotEq b = false) : PT T X (.Compare a [.NotEq] [b] pos) (tTest (tOp rNe ta tb)) := by
  refine ⟨fun pins s σ H Q I q => wpAny_isTrue_Compare1 (thn (ha.run pins s σ H _ I q) fun v s1 ⟨x, H1, I1, rx, q1⟩ => thn (hb.run pins s1 σ H1 _ I1 q1) fun u s2 ⟨y, H2, I2, ry, q2⟩ => ?_) hm⟩
  obtain ⟨hs, k, e, q3⟩ := q2
  have R : wpAny (model X.prog X.w) X.A (compareOp .NotEq v u) (EP T X pins σ fun z H3 => ∃ k, z = .bl k ∧ Q k H3) X.xe s2 := by
    exact op_neW pins s2 σ H2 x y v u _ I2 rx ry ⟨hs, k, e, q3⟩
  refine thn R fun d s3 ⟨w, H3, I3, r3, _, k, e, q3⟩ => ?_
  subst e
  cases r3
  exact wpAny_truthy_bool ⟨H3, I3, q3⟩
end
end GT

/-! UnGL: a def that takes and gives no objects keeps its older promise; the end of a law. -/
namespace GT
open PySem PySem.Spec PyProof.Rows L2 Un
/-- neither a text nor an object -/
def Plain : V → Prop
  | .int _ => True
  | .bl _ => True
  | .non => True
  | _ => False
theorem Plain.good {T : TK} {b : Nat} {v : V} {u : Value} (p : Plain v) (r : RelV v u) : Gv T b u := by
  cases v with
  | int i => obtain ⟨t, rfl⟩ := r; exact trivial
  | bl b => cases r; exact trivial
  | non => cases r; exact trivial
  | _ => exact p.elim
theorem FnT.plain {gA : Around → Prop} {T : TK} {P : Program} {w : World} {K : PySem.W.Frag} {mg : Str → Option Value} {base : Heap} {k : Nat} {f : Addr} {fd : FuncData} {ps : List Str} {sp sp1 : Sp} (F : FnOk P w K mg base CX0 k f fd ps sp1)
    (h : ∀ vs H Q E, sp vs H Q E → sp1 vs (fun _ => none) (fun v _ => Plain v ∧ Q v H) (fun _ _ _ => False)) : FnT gA T P w K mg base k f fd ps sp := by
  refine ⟨fun vs H Q E q => F.len _ _ _ _ (h _ _ _ _ q), fun A outer s H args us vs Q E _ hr e0 hb hv _ hs => ?_⟩
  have e1 : L2.Env0 P w K mg base A outer s (fun _ => none) := ⟨e0.e.frames, e0.e.mod, fun b o z => ⟨(e0.e.bs b o z).1, rfl⟩, e0.e.bsz, e0.e.funs, fun _ _ => rfl, fun _ _ z => (by cases z), e0.e.bare⟩
  refine grownC (codeAny_mono (F.run A outer s (fun _ => none) args us vs _ _ hr e1 hb hv (h _ _ _ _ hs)) fun r s' q lt => ?_)
  match r, q with
  | .error e, q => exact (show False from q).elim
  | .ok .next, q => exact (show False from q).elim
  | .ok .brk, q => exact (show False from q).elim
  | .ok .cont, q => exact (show False from q).elim
  | .ok (.ret u), q =>
    obtain ⟨v, H1, os, bare, un, _, rv, pl, qv⟩ := q
    have raw : ∀ b o, s.heap.get? b = some o → b ∉ frs outer → s'.heap.get? b = some o := fun b o q hf => un.keep b o q rfl hf (by simp)
    have nofr : ∀ b o, H b = some o → b ∉ frs outer := fun b o q hf => by
      rw [e0.e.frf b hf] at q
      cases q
    have near : ∀ a o, H a = some o → ∀ b u, (b = a ∨ H b = some (.own a)) → s.heap.get? b = some u → s'.heap.get? b = some u := fun a o q b u hb hu => by
      rcases hb with rfl | hb
      · exact raw _ _ hu (nofr _ _ q)
      · exact raw _ _ hu (nofr _ _ hb)
    refine ⟨v, H, os, bare, ⟨fun b o q _ hf _ => raw b o q hf, fun b o q _ hf _ => un.slot b o q rfl hf (by simp), fun _ _ _ n _ => n, fun b o q _ => un.there b o q (by simp), fun _ _ q => q, fun _ _ _ q => q, fun _ ps q => ⟨#[], by rw [q]; simp⟩⟩,
      fun a o q => (e0.e.hok a o q).stay (near a o q) (fun _ q => q) fun _ _ q => q, rv, pl.good rv, lt, fun a o q => (Og.stay (e0.h a o q) (e0.e.hok a o q) (near a o q)).up lt, qv⟩
/-! ### the end of a law -/
def gvB (T : TK) : Value → Bool
  | .str x t => (t != 0) && (((t != T.t) || (x == "@")) && decide (t < T.n))
  | _ => true
theorem gvB_ok {T : TK} {v : Value} (h : gvB T v = true) : Gv T T.n v := by
  cases v with
  | str x t =>
    obtain ⟨h1, h2⟩ := Bool.and_eq_true_iff.mp h
    obtain ⟨h2, h4⟩ := Bool.and_eq_true_iff.mp h2
    refine ⟨fun e => by simp [e] at h1, fun e => ?_, of_decide_eq_true h4⟩
    rcases Bool.or_eq_true_iff.mp h2 with h3 | h3
    · simp [e] at h3
    · exact eq_of_beq h3
  | _ => exact trivial
def kgB (T : TK) (K : PySem.W.Frag) : Bool := K.all fun p => match p.2.data with
  | .seq its _ => its.toList.all (gvB T)
  | _ => true
theorem look_mem {K : PySem.W.Frag} {a : Addr} {o : Obj} : K.lookup a = some o → (a, o) ∈ K := by
  induction K with
  | nil => intro h; cases h
  | cons p r ih =>
    intro h
    rw [List.lookup_cons] at h
    split at h
    · rename_i e
      cases h
      rw [eq_of_beq e]
      exact List.mem_cons_self
    · exact List.mem_cons_of_mem _ (ih h)
theorem kgB_ok {T : TK} {K : PySem.W.Frag} (h : kgB T K = true) : Kg T K := by
  intro a o its n hk hd v hv
  have z := List.all_eq_true.mp h _ (look_mem hk)
  dsimp only at z
  rw [hd] at z
  exact gvB_ok (List.all_eq_true.mp z v hv)
theorem ints_good {T : TK} {b : Nat} {vs : List Value} {ns : List Int} (h : IntsAre vs ns) : Gvs T b vs := by
  induction h with
  | nil => exact Gvs.nil
  | cons n t _ ih => exact Gvs.cons trivial ih
theorem runT {T : TK} {P : Program} {w : World} {K : PySem.W.Frag} {mg mb : Str → Option Value} {k : Nat} {fa a : Addr} {fd : FuncData} {x : Str} {sp : Sp} {s₁ : Shared} {vs : List Value} {ns : List Int}
    (KX : K.In s₁.heap) (hns : s₁.heap.Ns mainGlobals mg) (hb : s₁.heap.Ns builtinsNs mb) (hbb : ∀ x : Str, x ≠ "__name__" → mb x = bootBuiltins x) (hlim : s₁.heap.NoLimit) (hg : s₁.gens = #[]) (ht : T.n ≤ s₁.toks) (kg : Kg T K)
    (ha : s₁.heap.get? a = some { cls := .type "list", data := .seq vs.toArray }) (hi : IntsAre vs ns) (hl : ns.length ≤ sizeLine) (room : Room k callerA)
    (F : ∀ base : Heap, K.In base → base.Ns mainGlobals mg → FnT clear T P w K mg base k fa fd [x] sp) (bind1 : ∀ (s : Shared) (u : Value), BindsTo s fd ⟨[u], []⟩ [(x, u)])
    (told : ∀ H : Hp, Only H → SqL K H a (ns.map V.int) → sp [.ref a] H (fun v _ => v = .bl true) fun _ _ _ => False) :
    codeAny (model P w) callerA (.call (.ref fa) ⟨[.ref a], []⟩) (fun r s' => r = .ok (.ret (.bool true)) ∧ OldK s₁.heap s'.heap ∧ s'.os = s₁.os ∧ AllBare s'.gens) s₁ := by
  have relV := vals_ints hi
  have sizes := hi.length
  suffices from_ : ∀ H : Hp, (∀ b u, H b = some u → b = a ∧ K.lookup a = none ∧ u = .frz { cls := .type "list", data := .seq vs.toArray } (.lst (ns.map V.int))) → SqL K H a (ns.map V.int) →
      codeAny (model P w) callerA (.call (.ref fa) ⟨[.ref a], []⟩) (fun r s' => r = .ok (.ret (.bool true)) ∧ OldK s₁.heap s'.heap ∧ s'.os = s₁.os ∧ AllBare s'.gens) s₁ by
    cases look : K.lookup a with
    | some o =>
      have there := KX a o look
      rw [ha] at there
      obtain rfl := Option.some.inj there
      exact from_ (fun _ => none) (fun b u z => by cases z) (.inr ⟨_, vs.toArray, _, look, rfl, rfl, rfl, by rw [List.size_toArray, sizes]; exact hl, by simpa using relV⟩)
    | none =>
      refine from_ (fun b => if b = a then some (.frz { cls := .type "list", data := .seq vs.toArray } (.lst (ns.map V.int))) else none) (fun b u z => ?_) (.inl (.inr ⟨_, if_pos rfl⟩))
      by_cases e : b = a
      · rw [if_pos e] at z
        exact ⟨e, look, (Option.some.inj z).symm⟩
      · rw [if_neg e] at z
        cases z
  intro H hH hS
  have only1 : Only H := fun b => by
    cases z : H b with
    | none => exact .inl rfl
    | some u => exact .inr ⟨_, _, by rw [(hH b u z).2.2]⟩
  have held : HOk P w H s₁.heap := fun b u z => by
    obtain ⟨rfl, _, rfl⟩ := hH b u z
    exact ⟨ha, by rw [List.length_map]; exact hl, vs, _, relV, ha⟩
  have not_dict : ∀ {b : Addr} {o : Obj} {es : Array DictEntry} {ep : Nat}, s₁.heap.get? b = some o → o.data = .dict es ep → H b = none := fun {b o es ep} e d => by
    cases z : H b with
    | none => rfl
    | some u =>
      obtain ⟨rfl, _, _⟩ := hH b u z
      rw [ha] at e
      obtain rfl := Option.some.inj e
      cases (show Data.seq vs.toArray _ = Data.dict es ep from d)
  have hidden : ∀ {b : Addr} {m : Str → Option Value}, s₁.heap.Ns b m → (hidT s₁.heap H).Ns b m := by
    rintro b m ⟨o, es, ep, e, d, r⟩
    exact ⟨o, es, ep, hidT_get e (not_dict e d), d, r⟩
  have kIn : K.In (hidT s₁.heap H) := fun b o e => hidT_get (KX b o e) (by
    cases z : H b with
    | none => rfl
    | some u =>
      obtain ⟨rfl, n, _⟩ := hH b u z
      rw [n] at e
      cases e)
  have md : Mod K mg (hidT s₁.heap H) := ⟨kIn, hidden hns, ⟨mb, hidden hb, hbb⟩, match hlim with | ⟨mc, h1, h2⟩ => ⟨mc, hidden h1, h2⟩⟩
  have none_in : ∀ b : Addr, b ∈ ([] : List Addr) → False := fun b hb => by cases hb
  have env0 : L2.Env0 P w K mg (hidT s₁.heap H) callerA [] s₁ H := ⟨rfl, md, fun b o e => of_hidT e, Nat.le_of_eq (hidT_size _ _), trivial, fun b hb => (none_in b hb).elim, held, .of_eq hg⟩
  have og : ∀ b u, H b = some u → Og T s₁.toks s₁.heap b u := fun b u z => by
    obtain ⟨rfl, _, rfl⟩ := hH b u z
    exact fun v hv => ints_good hi v (by simpa using hv)
  refine codeAny_mono ((F _ kIn (hidden hns)).run callerA [] s₁ H ⟨[.ref a], []⟩ [.ref a] [.ref a] _ _ rfl room ⟨env0, ht, og, kg⟩ (bind1 s₁ (.ref a)) (.cons rfl .nil) (Gvs.cons trivial Gvs.nil) (told H only1 hS)) fun r s' h => ?_
  match r, h with
  | .error e, h => exact (show False from h).elim
  | .ok .next, h => exact (show False from h).elim
  | .ok .brk, h => exact (show False from h).elim
  | .ok .cont, h => exact (show False from h).elim
  | .ok (.ret u), h =>
    obtain ⟨v, H', hos, hbare, un, held', rv, _, _, _, rfl⟩ := h
    obtain rfl : u = Value.bool true := rv
    refine ⟨rfl, OldK.of_keep fun b o e => ?_, hos, hbare⟩
    cases z : H b with
    | none => exact un.keep b o e z (none_in b) (none_in b)
    | some y =>
      obtain ⟨rfl, _, rfl⟩ := hH b y z
      have e1 := (held _ _ z).1
      rw [e] at e1
      rw [Option.some.inj e1]
      exact (held' _ _ (un.frzs _ _ _ z)).1
open PySem.W PySem.W.X Att in
theorem walkT {l : PySem.W.OpenLaw} {n k N t : Nat} {T : TK} {q : Program} {loose : List Str} {XP : (Str → Option Value) → Heap → Prop} {d : DefRec} {K : Params → PySem.W.Frag} {as : List Addr} {sp : World → Sp} {x : Str}
    (hn : l.most = some n) (hn2 : n ≤ sizeLine) (hdf : d.params.defaults = []) (room : Room k callerA) (hK : ∀ P, as = (K P).map (·.1)) (lt : T.n ≤ t) (kg : ∀ P, kgB T (K P) = true)
    (F : ∀ (w : World) (mg : Str → Option Value) (fa : Addr) (h : Heap), (K w.params).In h → h.Ns mainGlobals mg → mg d.name = some (.ref fa) →
      ∃ fd : FuncData, (∀ (s : Shared) (u : Value), BindsTo s fd ⟨[u], []⟩ [(x, u)]) ∧ ∀ base : Heap, (K w.params).In base → base.Ns mainGlobals mg → FnT clear T l.prog w (K w.params) mg base k fa fd [x] (sp w))
    (told : ∀ (w : World) (H : Hp) (a : Addr) (ns : List Int), ns.length ≤ n → Only H → SqL (K w.params) H a (ns.map V.int) → sp w [.ref a] H (fun v _ => v = .bl true) fun _ _ _ => False) :
    PySem.W.WalkX q loose XP (PySem.W.X.obsZ as) (PySem.W.X.valZ K N t) l.row.toRowW d [] (fun f vs => PySem.call f vs) := by
  intro w s₀ s₁ mg mb G Y fa o pm cd doc dV kV ho hd hcd hD hmg hg args vals ad L hpre hlay hrd hwl hlo
  obtain rfl : dV = .none := Dflts.none hD hdf
  obtain rfl : kV = .none := Dflts.noKw hD
  obtain ⟨a, vs, ns, rfl, rfl, hobj, hints, hlen⟩ := script_of hn hpre hwl
  obtain ⟨_, kx, _, tk⟩ := PySem.W.X.z_facts hK Y
  have more : t ≤ s₁.toks := PySem.W.X.script_toks (ns := ns) (by
    have e : ofPys (ns.map PyData.int) = ns.map WData.int := by
      clear hints hlen hpre hlay hrd hwl hobj L
      induction ns with
      | nil => simp [ofPys]
      | cons m r ih => simp [ofPys, ofPy, ih]
    simp only [ofPy, e]
    exact L) tk
  have KX : (K w.params).In s₁.heap := fun b ob e => L.keeps b ob (kx b ob e)
  obtain ⟨fd, bnd, hF⟩ := F w mg fa _ KX G.T.g hmg
  refine enter_call (codeAny_mono (runT KX G.T.g G.T.b G.T.builtins G.T.nolimit hg (Nat.le_trans lt more) (kgB_ok (kg _)) hobj hints (Nat.le_trans hlen hn2) room hF bnd fun H => told w H a ns hlen) fun r s' hq => ?_)
  obtain ⟨rfl, h2, h3, h4⟩ := hq
  exact ⟨.inl ⟨.bool true, .bool true, [], rfl, fun _ => rfl, .bool true, post_true l _, fun _ => ⟨List.Pairwise.nil, fun _ hm => (nomatch hm)⟩⟩, h2, h3, h4⟩
/-! ### text.replace("@", name), the sign written -/
theorem repl_name {pins : List (Addr × Obj)} {σ : St} {H : Hp} {s : Shared} {i : Nat} {x : Str} {pos : Pos} {Q : Value → Shared → Prop} {E : Value → Shared → Prop} {v : V} {T : TK} {X : Cx} (hN : X.N[i]? = some x) (hv : Vis X.env.scope x) (I : Inv T X pins σ H s) (e : σ[i]? = some (some v)) (h : ∀ u, RelV v u → Gv T s.toks u → Q u { s with toks := s.toks + 1 })
    (hd : (x == ("__debug__" : Str)) = false := by decide) (hcd : (x == ("__classdict__" : Str)) = false := by decide) : wpAny (model X.prog X.w) X.A (eval (.Name x pos) X.env) Q E { s with toks := s.toks + 1 } := by
  have J := I.up
  obtain ⟨m, hn, hl⟩ := J.i.loc
  obtain ⟨u, r, l⟩ := hl i x v hN e hv
  rcases l with ⟨hk, hm⟩ | ⟨hk | hk, c, hc, hcell⟩
  · exact wpAny_Name (wpAny_loadName_local J.i.ok.kind hk hn hm (h u r (I.l m hn i x v u hN e hk hm))) hd
  · exact wpAny_Name (wpAny_loadName_cell J.i.ok.kind hk hc hcell (h u r (I.c x c u hc hcell))) hd
  · exact wpAny_Name (wpAny_loadName_free J.i.ok.kind hk hc hcell (h u r (I.c x c u hc hcell)) hcd) hd
def tRepN (to : TE) (i : Nat) : TE := fun σ H Q => to σ H fun x H1 => (∃ d, x = .str d) ∧ ∃ n, σ[i]? = some (some n) ∧ rRepM x n H1 Q
theorem rd_replN {to : TE} {i : Nat} {σ : L2.St} {H : Hp} {Q : VK} (h : to σ H fun x H1 => (∃ d, x = .str d) ∧ ∃ n, σ[i]? = some (some n) ∧ rRepM x n H1 Q) : tRepN to i σ H Q := h
theorem pe_replN {T : TK} {X : Cx} {i j : Nat} {x : Str} {to : TE} {o : Expr} {apos pos cpos xpos : Pos} (hN : X.N[i]? = some x) (hv : Vis X.env.scope x) (ho : PE T X o to)
    (hd : (x == ("__debug__" : Str)) = false := by decide) (hcd : (x == ("__classdict__" : Str)) = false := by decide) (hbase : attributeBase o "replace" X.env (eval o X.env) = eval o X.env := by rfl) (hline : (apos.endLine == pos.line) = true := by rfl)
    (hst : starEach [.Constant (.str "@") j cpos, .Name x xpos] X.env = [(false, eval (.Constant (.str "@") j cpos) X.env), (false, eval (.Name x xpos) X.env)] := by rfl) :
    PE T X (.Call (.Attribute o "replace" apos) [.Constant (.str "@") j cpos, .Name x xpos] [] pos) (tRepN to i) := by
  refine ⟨fun pins s σ H Q I q => PySem.Call_method2 hbase hst hline (thn (ho.run pins s σ H _ I q) fun v s1 ⟨xv, H1, I1, r1, g1, ⟨d, ed⟩, nv, en, q1⟩ => ?_)⟩
  subst ed
  obtain ⟨t, rfl⟩ := r1
  refine ⟨"str", _, F.plainAttrs_str, F.slot_str_replace, F.type_str_replace, typeIs_str _ _ _, (fun _ e => nomatch e), Calls.callWith_builtin rfl (Calls.evalArgs_plain (Calls.spliced_cons ?_))⟩
  refine Calls.Constant_str (Calls.spliced_cons (repl_name hN hv I1 en (fun w r2 g2 => Calls.spliced_nil ?_) hd hcd))
  obtain ⟨d2, n, e1, e2, hn, hb, q2⟩ := q1
  subst e2
  cases e1
  obtain ⟨tv, rfl⟩ := r2
  have fresh := Gv.new (T := T) (x := "@") I1.t
  exact repl_ok I1.up.t (g1.up (Nat.le_succ _)) fresh.1 g2.1 (fun e => Nat.lt_irrefl _ (e ▸ g2.2.2)) (by rw [beq_eq_false_iff_ne]; exact fun e => hn e.symm) hb fun t' k hk gk => ⟨.str _, H1, I1.tok (Nat.le_trans (Nat.le_succ _) hk), ⟨t', rfl⟩, gk, q2⟩
/-- readings -/
theorem rd_replM {to tz : TE} {σ : L2.St} {H : Hp} {Q : VK} (h : to σ H fun x H1 => (∃ d, x = .str d) ∧ tz σ H1 fun z H2 => rRepM x z H2 Q) : tRepM to tz σ H Q := h
/-- the same under its name -/
theorem Cl.plain {gA : Around → Prop} {T : TK} {P : Program} {w : World} {K : PySem.W.Frag} {mg : Str → Option Value} {base : Heap} {nm : Str} {ps : List Str} {k : Nat} {sp sp1 : Sp} (c : Un.Cl P w K mg base nm ps k sp1)
    (h : ∀ vs H Q E, sp vs H Q E → sp1 vs (fun _ => none) (fun v _ => Plain v ∧ Q v H) (fun _ _ _ => False)) : Cl gA T P w K mg base nm ps k sp := by
  obtain ⟨f, fd, m, F, kp, b⟩ := c
  exact ⟨f, fd, m, FnT.plain F h, kp, b⟩
/-- the name that stands in the i-th slot -/
theorem pv {T : TK} {X : Cx} (i : Nat) {x : Str} {pos : Pos} (hN : X.N[i]? = some x := by rfl) (hv : Vis X.env.scope x := by first | exact Or.inl rfl | exact Or.inr (Or.inl rfl) | exact Or.inr (Or.inr rfl)) (hd : (x == ("__debug__" : Str)) = false := by decide)
    (hcd : (x == ("__classdict__" : Str)) = false := by decide) : PE T X (.Name x pos) (tVar i) := pe_var hN hv hd hcd
theorem c0 {p q : Tok → Prop} (h : ∃ t, p t ∧ q t) : ∃ t, p t := by
  obtain ⟨t, a, _⟩ := h
  exact ⟨t, a⟩
/-- an __init__ with defaults that are no objects -/
def AtI1 (K : PySem.W.Frag) (C : Addr) (m qual : Str) (st : Stmt) (dvs : List V) : Prop :=
  ∃ (f : Addr) (fd : FuncData), FunD K m qual (defArgs st) (defBody st) (defScope st) dvs [] f fd ∧ L2.Mk K C f
section
variable {gA : Around → Prop} {T : TK} {P : Program} {w : World} {K : PySem.W.Frag} {mg : Str → Option Value} {base : Heap}
/-- a def with defaults by its body -/
theorem okD {nm qual : Str} {params : Arguments} {body : List Stmt} {scope : Scope} {dvs : List V} {kws : List (Str × V)} {f : Addr} {fd : FuncData} {N ps : List Str} {k : Nat} {sp : Sp} (F : FunD K nm qual params body scope dvs kws f fd) (S : FnScope N ps scope) (hlen : ∀ vs H Q E, sp vs H Q E → vs.length = ps.length)
    (hb : ∀ (cdv : Value) (A : Around) (outer : List Env) (s : Shared) (H : Hp) (vs : List V) (Q : VK) (E : XK), gA A → Room k (A.deeper (envOfC qual scope s.heap.objs.size f cdv)) → sp vs H Q E →
      ∃ t, PSs T (cxOf CX0 P w K mg base N qual scope f cdv A outer s H E).nox body t ∧ t { nx := fun _ H' => Q .non H', rt := Q } (start N vs) H) : FnT gA T P w K mg base (k + 1) f fd ps sp := by
  obtain ⟨c1, c2, cdf, c3, c4, c5, c6, cdv, c7, c8, rfl, look, code, _, _⟩ := F.ex
  refine ⟨hlen, fun A outer s H args us vs Q E ga room e0 bd rel good asked => ?_⟩
  have same := hlen _ _ _ _ asked
  have inHeap : K.In s.heap := e0.e.mod.kin.keeps fun b o z => (e0.e.bs b o z).1
  have free := e0.e.mod.nolimit.keeps (h' := s.heap) fun b o z => (e0.e.bs b o z).1
  have kinds : ∀ y ∈ ps.zip us, scope.names.lookup y.1 = some .local ∨ (scope.names.lookup y.1 = some .cell ∧ ((cellsFrom (s.heap.objs.size + 1) scope.names []).lookup y.1).isSome = true) := by
    rintro ⟨n, v⟩ hy
    exact (S.par n (List.of_mem_zip hy).1).imp id fun hc => ⟨hc, PySem.W.cellsFrom_some _ _ _ (.inl hc)⟩
  have given : ∀ n u, (n, u) ∈ ps.zip us → Gv T s.toks u := fun n u z => good u (List.of_mem_zip z).2
  refine codeAny_call_function room.depth (inHeap _ _ look) rfl S.co S.gen rfl (PySem.W.codeRec_of inHeap code) (bd _ _ _ _ ?_)
  refine grown (wpAny_newFunctionEnv_cells S.kind kinds fun env henv s1 entry lt1 => ?_)
  subst henv
  obtain ⟨t, ht, hq⟩ := hb cdv A outer s H vs Q E ga (room.deeper _) asked
  have J : L2.Inv (cxOf CX0 P w K mg base N qual scope f cdv A outer s H E).nox [] (start N vs) H s1 := (inv_start S room.hd e0.e same rel entry).wish _
  have I0 : Inv T (cxOf CX0 P w K mg base N qual scope f cdv A outer s H E).nox [] (start N vs) H s1 := by
    refine ⟨J, Nat.le_trans e0.t lt1, fun m hn _ x _ u _ _ _ e => ?_, fun x c v hc hcell => ?_, fun a o z => ((e0.h a o z).kept entry.toInCall.keep).up lt1, e0.k⟩
    · have hn : s1.heap.Ns s.heap.objs.size m := hn
      have em : m x = bindL (envOfC qual scope s.heap.objs.size f cdv).kindOf (ps.zip us) (fun _ => none) x := by
        obtain ⟨o1, es1, ep1, e1, d1, _, f1⟩ := hn
        obtain ⟨o2, es2, ep2, e2, d2, _, f2⟩ := (show s1.heap.Ns s.heap.objs.size (bindL (envOfC qual scope s.heap.objs.size f cdv).kindOf (ps.zip us) (fun _ => none)) from entry.toInCall.ns)
        rw [e1] at e2
        cases e2
        rw [d1] at d2
        cases d2
        rw [← f1, ← f2]
      rw [em] at e
      rcases bindL_from e with z | ⟨n, z⟩
      · cases z
      · exact (given n u z).up lt1
    · have here := entry.cell x c hc
      obtain ⟨o1, e1, d1⟩ := here
      obtain ⟨o2, e2, d2⟩ := hcell
      rw [e1] at e2
      cases e2
      rw [d1] at d2
      injection d2 with d2
      rcases bindC_from d2 with z | ⟨n, z⟩
      · cases z
      · exact (given n v z).up lt1
  refine ⟨free.keeps entry.toInCall.keep, codeAny_func (wpAny_mono (up (ht.run [] s1 (start N vs) H _ I0 hq)) (fun flow s' hs => ?_) fun e s' hs => hs.elim)⟩
  obtain ⟨le, hs⟩ := hs
  have le := Nat.le_trans lt1 le
  cases flow with
  | ret u => exact match hs with | ⟨v, σ', H', J, rv, gv, q⟩ => ⟨v, H', J.i.os, J.i.bare, J.i.base, J.i.hok, rv, gv, le, J.h, q⟩
  | next => exact match hs with | ⟨σ', H', J, q⟩ => ⟨V.non, H', J.i.os, J.i.bare, J.i.base, J.i.hok, rfl, trivial, le, J.h, q⟩
  | brk => exact match hs with | ⟨_, _, _, q⟩ => False.elim q
  | cont => exact match hs with | ⟨_, _, _, q⟩ => False.elim q
end
end GT

/-! UnLam: what raises, called by name; isinstance of a caught error of several kinds; a def that calls what it was handed; defs whose code object is told. -/
namespace Un
open PySem PySem.Spec PyProof.Rows L2
/-! ### isinstance(e, C), isinstance(e, (C, D)): e just caught, of an own class -/
def rIsC (K : PySem.W.Frag) (a : Addr) (cls : Value) (d : Option Addr) : List V → Hp → VK → Prop := fun xs H Q =>
  ∃ (D : Addr) (b : Bool), cls = .ref D ∧ ExcC K D ∧ (∀ dd, d = some dd → ∃ fs, H dd = some (.xd fs)) ∧ Q (.bl b) H ∧
    ((∃ c u, xs = [.ref a, c] ∧ ClsV c u ∧ PySem.W.kitOne K (.ref D) u = some b) ∨ (∃ tp cs us, xs = [.ref a, .ref tp] ∧ H tp = some (.tup cs) ∧ Paired ClsV cs us ∧ PySem.W.kitAny K (.ref D) us = some b))
theorem call_isC {X : Cx} {a : Addr} {oe : Obj} {cls : Value} {d : Option Addr} {pn : List (Addr × Obj)} (hz : Zc cls d oe) (hf : ∃ vs, oe.data = .fields vs) : CallR (X.suite a ((a, oe) :: pn)) (.builtin "isinstance") (rIsC X.K a cls d) := by
  intro pins s σ H xs us Q I r h
  obtain ⟨D, b, rfl, T, hd, q, h⟩ := h
  obtain ⟨ha, _⟩ := I.pin (a, oe) (List.mem_append_left _ List.mem_cons_self)
  obtain ⟨vs, hv⟩ := hf
  have Z : ∃ P : Heap → Prop, PySem.W.KitX X.K (.ref a) (.ref D) P ∧ P s.heap := by
    cases d with
    | none => exact ⟨_, PySem.W.handS_kitx_exc T.hg T.hk T.hs T.hd T.ha T.hn T.ht T.hm, show PySem.W.InstAt s.heap a oe D none from ⟨ha, hz.1, by unfold PySem.W.notCls; rw [hv] <;> rfl, by rw [hz.2]; trivial⟩⟩
    | some dd =>
      obtain ⟨fs, ea⟩ := hd dd rfl
      obtain ⟨mA, hns, hr⟩ := (show ObjOk X.prog X.w H s.heap dd (.xd fs) from I.hok dd _ ea)
      obtain ⟨od, ho, hl⟩ := lookIn_ns hns
      exact ⟨_, PySem.W.kitx_excD T.hg T.hk T.hs T.hd T.ha T.hn T.ht T.hm, show PySem.W.InstAt s.heap a oe D (some od) from ⟨ha, hz.1, by unfold PySem.W.notCls; rw [hv] <;> rfl, by rw [hz.2]; exact ho⟩⟩
  obtain ⟨P, z, p⟩ := Z
  rcases h with ⟨c, u, rfl, k, e⟩ | ⟨tp, cs, ws, rfl, hT, k, e⟩
  · obtain ⟨u1, u2, rfl, r1, r2⟩ := vals2 r
    cases (show u1 = Value.ref a from r1)
    have e2 := k.eq r2
    subst e2
    exact PySem.W.kia_one z I.kIn p e (fun z => nomatch z) fun tk => ⟨.bl b, H, I.tok tk, rfl, q⟩
  · obtain ⟨u1, u2, rfl, r1, r2⟩ := vals2 r
    cases (show u1 = Value.ref a from r1)
    cases (show u2 = Value.ref tp from r2)
    obtain ⟨_, its, rv, o, h1, h2, n, h3⟩ := (show ObjOk X.prog X.w H s.heap tp (.tup cs) from I.hok tp _ hT)
    have e3 := ClsV.all k rv
    subst e3
    obtain ⟨oc, od, dt, sl⟩ := o
    simp only at h2 h3
    subst h2 h3
    exact PySem.W.kia_tup z I.kIn p h1 e (fun z => nomatch z) fun tk => ⟨.bl b, H, I.tok tk, rfl, q⟩
theorem rd_isC1 {K : PySem.W.Frag} {a D C : Addr} {d : Option Addr} {H : Hp} {Q : VK} {b : Bool} (T : ExcC K D) (hd : ∀ dd, d = some dd → ∃ fs, H dd = some (.xd fs)) (k : PySem.W.kitOne K (.ref D) (.ref C) = some b) (q : Q (.bl b) H) : rIsC K a (.ref D) d [.ref a, .ref C] H Q :=
  ⟨D, b, rfl, T, hd, q, .inl ⟨_, _, rfl, .own C, k⟩⟩
theorem rd_isC2 {K : PySem.W.Frag} {a D C1 C2 tp : Addr} {d : Option Addr} {H : Hp} {Q : VK} (T : ExcC K D) (hd : ∀ dd, d = some dd → ∃ fs, H dd = some (.xd fs)) (ht : H tp = some (.tup [.ref C1, .ref C2])) (k1 : PySem.W.kitOne K (.ref D) (.ref C1) = some false) (k2 : PySem.W.kitOne K (.ref D) (.ref C2) = some false)
    (q : Q (.bl false) H) : rIsC K a (.ref D) d [.ref a, .ref tp] H Q :=
  ⟨D, false, rfl, T, hd, q, .inr ⟨tp, _, [.ref C1, .ref C2], rfl, ht, .cons (.own C1) (.cons (.own C2) .nil), kitAny_cons k1 (fun _ => kitAny_cons k2 (fun _ => kitAny_nil) fun h => by cases h) fun h => by cases h⟩⟩
/-! ### what raises, called by name -/
section
variable {X : Cx} {C : Addr} {m x : Str} {ps : List Str} {k j n : Nat} {sp : Sp} {e o : Expr} {es : List Expr} {kws : List Keyword} {ta : TE} {t tk' : TA} {p pos apos : Pos} {dvs : List V} {ks : List Str} {gV : List V → List V → List V} {E : XK}
theorem set_GX (g : MetG X.prog X.w X.K X.mg X.base (L2.CX X.prog X.w) C "__setitem__" ps k sp) (hq : PySem.W.noSeq X.K C = true) (hr : Room j X.A) (hk : k ≤ j) (tk : Takes X fun cls d _ H => E cls d H) : PSet X (rSetO C sp E) := by
  obtain ⟨f, fd, c, M, F, i, b⟩ := g
  exact set_own M hq F (hr.mono hk) b (passes_call tk fun _ _ _ _ h => h)
/-- C(e, ..), where the __init__ may raise -/
def MakX (P : Program) (w : World) (K : PySem.W.Frag) (mg : Str → Option Value) (base : Heap) (x : Str) (C : Addr) (k : Nat) (sp : Sp) (dvs : List V) : Prop :=
  ∃ (f : Addr) (fd : FuncData) (ps : List Str) (ds : List Value), L2.Mk K C f ∧ FnOk P w K mg base (L2.CX P w) k f fd ps sp ∧ mg x = some (.ref C) ∧ Binds K fd ps ds ∧ Vals dvs ds
theorem pe_mkDX (g : MakX X.prog X.w X.K X.mg X.base x C k sp dvs) (hr : Room j X.A) (hk : k + 1 ≤ j) (hg : Gl X x) (tk : Takes X fun cls d _ H => E cls d H) (ha : PA X (e :: es) t)
    (hdb : (x == ("__debug__" : Str)) = false := by decide) (he : starEach (e :: es) X.env = (false, eval e X.env) :: starEach es X.env := by rfl) (hpl : (backTo pos (starEach es X.env)).any (·.1) = false := by rfl) :
    PE X (.Call (.Name x p) (e :: es) [] pos) (tMake C sp dvs E t) := by
  obtain ⟨f, fd, ps, ds, M, F, hm, b, d⟩ := g
  exact pe_make M F (hr.mono hk) hg hm b d (passes_call tk fun _ _ _ _ h => h) ha hdb he hpl
def MetDX (P : Program) (w : World) (K : PySem.W.Frag) (mg : Str → Option Value) (base : Heap) (C : Addr) (m : Str) (k : Nat) (sp : Sp) (dvs : List V) : Prop :=
  ∃ (f : Addr) (fd : FuncData) (ps : List Str) (ds : List Value), Cls K C ∧ Meth K C m f ∧ FnOk P w K mg base (L2.CX P w) k f fd ps sp ∧ Binds K fd ps ds ∧ Vals dvs ds
theorem pe_mtDX {pl : Sem Bool} (g : MetDX X.prog X.w X.K X.mg X.base C m k sp dvs) (hr : Room j X.A) (hk : k ≤ j) (tk : Takes X fun cls d _ H => E cls d H) (he : PE X o ta) (ha : PA X (e :: es) t)
    (hst : starEach (e :: es) X.env = (false, eval e X.env) :: starEach es X.env := by rfl) (hpl : (backTo pos (starEach es X.env)).any (·.1) = false := by rfl)
    (ht : eval (.Call (.Attribute o m apos) (e :: es) [] pos) X.env = (do let ov ← eval o X.env; standAt apos.atName; let (f, first) ← holding [ov] (getMethod ov m pl); callWith pos f first (backTo pos (starEach (e :: es) X.env)) (backToKw pos (keywordEach [] X.env))) := by rfl) :
    PE X (.Call (.Attribute o m apos) (e :: es) [] pos) (tMeth C m sp dvs E ta t) := by
  obtain ⟨f, fd, ps, ds, c, M, F, b, d⟩ := g
  exact pe_meth (pl := pl) he c M F (hr.mono hk) b d (passes_call tk fun _ _ _ _ h => h) ha hst hpl ht
def MetKX (P : Program) (w : World) (K : PySem.W.Frag) (mg : Str → Option Value) (base : Heap) (C : Addr) (m : Str) (n : Nat) (ks : List Str) (k : Nat) (sp : Sp) (gV : List V → List V → List V) : Prop :=
  ∃ (f : Addr) (fd : FuncData) (ps : List Str) (g : List Value → List Value → List Value), Cls K C ∧ Meth K C m f ∧ FnOk P w K mg base (L2.CX P w) k f fd ps sp ∧ KBn K fd ps n ks g gV
theorem methN_GX {pl : Sem Bool} (q : MetKX X.prog X.w X.K X.mg X.base C m n ks k sp gV) (hr : Room j X.A) (hk : k ≤ j) (tk : Takes X fun cls d _ H => E cls d H) (he : PE X o ta) (ha : PA X (e :: es) t) (hkw : PK X kws tk')
    (hall : (backToKw pos (keywordEach kws X.env)).all (·.1.isSome) = true := by rfl) (hks : (backToKw pos (keywordEach kws X.env)).filterMap (·.1) = ks := by rfl)
    (hst : starEach (e :: es) X.env = (false, eval e X.env) :: starEach es X.env := by rfl)
    (hpl : ((backTo pos (starEach (e :: es) X.env)).any (·.1) || (backToKw pos (keywordEach kws X.env)).any (·.1.isNone)) = false := by rfl)
    (ht : eval (.Call (.Attribute o m apos) (e :: es) kws pos) X.env = (do let ov ← eval o X.env; standAt apos.atName; let (f, first) ← holding [ov] (getMethod ov m pl); callWith pos f first (backTo pos (starEach (e :: es) X.env)) (backToKw pos (keywordEach kws X.env))) := by rfl) :
    PE X (.Call (.Attribute o m apos) (e :: es) kws pos) (tMethN C m n ks.length sp gV E ta t tk') := by
  obtain ⟨f, fd, ps, g, c, M, F, hb⟩ := q
  exact pe_methN (pl := pl) he c M F (hr.mono hk) hb (passes_call tk fun _ _ _ _ h => h) ha hkw hall hks hst hpl ht
end
/-! ### defs whose code object is told -/
structure FunC (K : PySem.W.Frag) (x qual : Str) (st : Stmt) (f : Addr) (fd : FuncData) (c : Addr) : Prop where
  ex : ∃ (oc : Value) (od : Option Addr) (kV doc pm : Value) (an : Option Addr) (ct : Value) (osl : Array (Option Value)),
    fd = PySem.W.fnOf x qual (defArgs st) (defBody st) (defScope st) .none kV doc pm an (.ref c) ct ∧ K.lookup f = some ⟨oc, od, .func fd, osl⟩ ∧ PySem.W.codeIn K (.ref c) qual = true
  kp : PySem.W.keepIn K (.ref f) = true
def AtC (K : PySem.W.Frag) (mg : Str → Option Value) (nm : Str) (st : Stmt) (ps : List Str) (c : Addr) : Prop :=
  ∃ (f : Addr) (fd : FuncData), FunC K nm nm st f fd c ∧ mg nm = some (.ref f) ∧ Binds K fd ps []
section
variable {P : Program} {w : World} {K : PySem.W.Frag} {mg : Str → Option Value} {base : Heap}
theorem okGC {nm qual : Str} {st : Stmt} {f c : Addr} {fd : FuncData} {N ps : List Str} {k : Nat} {sp : Sp} (F : FunC K nm qual st f fd c) (S : FnScope N ps (defScope st)) (hlen : ∀ vs H Q E, sp vs H Q E → vs.length = ps.length)
    (hb : ∀ (A : Around) (outer : List Env) (s : Shared) (H : Hp) (vs : List V) (Q : VK) (E : XK), A.guards = some [] → Room k (A.deeper (envOfC qual (defScope st) s.heap.objs.size f (.ref c))) → sp vs H Q E →
      ∃ t, PSs (cxOf CX0 P w K mg base N qual (defScope st) f (.ref c) A outer s H E).nox (defBody st) t ∧ t { nx := fun _ H' => Q .non H', rt := Q } (start N vs) H) : FnG P w K mg base (k + 1) f fd ps sp := by
  obtain ⟨c1, c2, c3, c4, c5, c6, c7, c8, rfl, look, code⟩ := F.ex
  refine ⟨hlen, fun A outer s H args us vs Q E gA room e0 bd rel asked => ?_⟩
  have inHeap : K.In s.heap := e0.mod.kin.keeps fun b o hbo => (e0.bs b o hbo).1
  have free := e0.mod.nolimit.keeps (h' := s.heap) fun b o hbo => (e0.bs b o hbo).1
  have kinds : ∀ y ∈ ps.zip us, (defScope st).names.lookup y.1 = some .local ∨ ((defScope st).names.lookup y.1 = some .cell ∧ ((cellsFrom (s.heap.objs.size + 1) (defScope st).names []).lookup y.1).isSome = true) := by
    rintro ⟨n, v⟩ hy
    exact (S.par n (List.of_mem_zip hy).1).imp id fun hc => ⟨hc, PySem.W.cellsFrom_some _ _ _ (.inl hc)⟩
  refine codeAny_call_function room.depth (inHeap _ _ look) rfl S.co S.gen rfl (PySem.W.codeRec_of inHeap code) (bd _ _ _ _ ?_)
  refine wpAny_newFunctionEnv_cells S.kind kinds fun env henv s1 entry => ?_
  subst henv
  obtain ⟨t, ht, hq⟩ := hb A outer s H vs Q E gA (room.deeper _) asked
  have I0 : Inv (cxOf CX0 P w K mg base N qual (defScope st) f (.ref c) A outer s H E) [] (start N vs) H s1 := inv_start S room.hd e0 (hlen _ _ _ _ asked) rel entry
  refine ⟨free.keeps entry.toInCall.keep, codeAny_func (wpAny_mono (ht.nox.run [] s1 (start N vs) H _ I0 hq) (fun flow s' hs => ?_) fun e s' hs => hs)⟩
  cases flow with
  | ret u => exact match hs with | ⟨v, σ', H', J, rv, q⟩ => ⟨v, H', J.os, J.bare, J.base, J.hok, rv, q⟩
  | next => exact match hs with | ⟨σ', H', J, q⟩ => ⟨V.non, H', J.os, J.bare, J.base, J.hok, rfl, q⟩
  | brk => exact match hs with | ⟨_, _, _, q⟩ => False.elim q
  | cont => exact match hs with | ⟨_, _, _, q⟩ => False.elim q
theorem clGC_of {nm : Str} {st : Stmt} {ps : List Str} {k : Nat} {sp : Sp} {c : Addr} (a : AtC K mg nm st ps c) (h : ∀ f fd, FunC K nm nm st f fd c → FnG P w K mg base k f fd ps sp) : ClG P w K mg base nm ps k sp := by
  obtain ⟨f, fd, F, m, b⟩ := a
  exact ⟨f, fd, m, h f fd F, F.kp, b⟩
end
/-! ### a def that calls what it was handed -/
section
variable {X : Cx}
theorem takes_len {W : WX} (tk : Takes X W) : Takes X (fun cls d σ H => σ.length = X.N.length → W cls d σ H) := fun u s' ⟨a, B, sI, pins, σ, H, cls, d, e, I, nb, up, sky, na, os, ag, w⟩ =>
  tk u s' ⟨a, B, sI, pins, σ, H, cls, d, e, I, nb, up, sky, na, os, ag, w I.len⟩
def tAct (n : Nat) (f c' : Addr) (q : Str) (tl : XK → Hp → VK → Prop) (W : WX) : TE := fun σ H Q => ∃ Ech : XK, (∀ cls d σ' H', σ'.length = n → Ech cls d H' → W cls d σ' H') ∧ σ[0]? = some (some (.ref f)) ∧ H c' = some (LamX.CodeO c' q) ∧ tl Ech H Q
theorem pe_tact {Y : Cx} {f c' : Addr} {q a : Str} {tl : XK → Hp → VK → Prop} {p1 p2 : Pos}
    (act : ∀ (W : WX) (pn : List (Addr × Obj)) (xe : Value → Shared → Prop) (E : XK) (p1 p2 : Pos), Takes (Y.tr pn xe) W → (∀ cls d σ' H', E cls d H' → W cls d σ' H') →
      PE (Y.tr pn xe) (.Call (.Name a p1) [] [] p2) (fun σZ HZ Q => σZ[0]? = some (some (.ref f)) ∧ HZ c' = some (LamX.CodeO c' q) ∧ tl E HZ Q))
    {W : WX} {pn : List (Addr × Obj)} {xe : Value → Shared → Prop} (tk : Takes (Y.tr pn xe) W) : PE (Y.tr pn xe) (.Call (.Name a p1) [] [] p2) (tAct Y.N.length f c' q tl W) := by
  refine ⟨fun pins s σ H Q I h => ?_⟩
  obtain ⟨E, hW, h⟩ := h
  exact (act _ pn xe E p1 p2 (takes_len tk) fun cls d σ' H' e hl => hW cls d σ' H' hl e).run pins s σ H Q I h
/-- x(lambda: body), x a def as it stands -/
theorem pe_lamG {x a : Str} {st : Stmt} {Ng : List Str} {T : List (Addr × Str)} {TT : (XK → Hp → VK → Prop) → Hp → VK → Prop} {t : XK → TE} {c P : Addr} {k : Nat} {params : Arguments} {body : Expr} {scope : Scope} {p lpos pos : Pos}
    (A : At X.K X.mg x st [a]) (hg : Gl X x) (Sg : FnScope Ng [a] (defScope st)) (hNg : Ng[0]? = some a) (hva : Vis (defScope st) a) (hG : ∀ (g : Addr) (cdg : Value), LamX.GivesTo X Ng x (defScope st) g cdg (defBody st) a (X.env.qual ++ "<lambda>") TT)
    (TB : LamX.TabB X.base X.mg c P) (hcode : X.env.code = .ref c) (hmT : (P, X.env.qual ++ "<lambda>") ∈ T) (hu : ∀ p ∈ T, p.1 = P → p.2 = X.env.qual ++ "<lambda>") (hr : Room (k + 2) X.A) (L : LamX.LamS X.env.scope scope) (hdef : defaultsOf params X.env = ([], []))
    (hbind : ∀ (q : Str) (cl : List (Str × Addr)) (pm cv ctv : Value), bindArgs (PySem.W.kla_fn "<lambda>" q params body scope cl pm cv ctv) ⟨[], []⟩ = pure [])
    (hbody : ∀ (A : Around) (outer : List Env) (s : Shared) (H : Hp) (E : XK) (f c' : Addr), Room k (A.deeper (LamX.lamEnv X scope s.heap.objs.size f c')) → PE (LamX.lamCx X A outer s H E scope f c') body (t E))
    (hdb : (x == ("__debug__" : Str)) = false := by decide) (hd : (a == ("__debug__" : Str)) = false := by decide) (hcd : (a == ("__classdict__" : Str)) = false := by decide) :
    PE X (.Call (.Name x p) [.Lambda params body scope lpos] [] pos) (LamX.tLam T TT t) := by
  obtain ⟨f, fd, F, m, b⟩ := A
  obtain ⟨oc, od, kV, doc, pm, an, cdv, ct, osl, rfl, lk, hc⟩ := F.ex
  exact LamX.pe_lamcall (dV := .none) hg m F.kp lk hc b Sg hNg hva (hG f cdv) TB hcode hmT hu hr L hdef hbind hbody hdb hd hcd
end
end Un

/-! UnRev: text[::-1]. -/
namespace Un
open PySem PySem.Spec PyProof.Rows L2
def tRevS (te : TE) : TE := fun σ H Q => te σ H fun x H1 => ∃ l, x = .str (tx l) ∧ l.length ≤ sizeLine ∧ Q (.str (tx l.reverse)) H1
theorem rev_picked (l : List Nat) (t1 : Tok) : ((slicePicked (tx l) none none (some (-1, t1))).filterMap ((tx l).cps[·]?)) = l.reverse := by
  show ((PySem.sliceRange (((tx l).length : Int) - 1) (-1) (-1)).filterMap ((tx l).cps[·]?)) = l.reverse
  rw [PySem.W.krv_sliceRange, PySem.W.krv_range, List.filterMap_reverse]
  have e : (List.range (tx l).length).filterMap ((tx l).cps[·]?) = (tx l).cps.toList := PySem.W.krv_all _
  rw [e, tx_cps]
theorem pe_revS {X : Cx} {e : Expr} {te : TE} {k : Nat} {p1 p2 p3 pos : Pos} (he : PE X e te) : PE X (.Subscript e (.Slice none none (some (.UnaryOp .USub (.Constant (.int 1) k p1) p2)) p3) pos) (tRevS te) := by
  refine ⟨fun pins s σ H Q I h => ?_⟩
  refine Subscript_ (thn (he.run pins s σ H _ I h) fun v s1 ⟨x, H1, I1, r1, q1⟩ => ?_)
  obtain ⟨z, ex, hz, q⟩ := q1
  subst ex
  obtain ⟨t, rfl⟩ := r1
  have hst : PO X (some (.UnaryOp .USub (.Constant (.int 1) k p1) p2)) (tPart (tUn (rU fun i => .int (-i)) (tC (.int 1)))) := po_some (pe_un un_neg pe_int)
  refine wpAny_Slice (thn (po_none.run pins s1 σ H1 (fun o H2 => o = none ∧ H2 = H1) I1 ⟨rfl, rfl⟩) fun vl s2 ⟨l, H2, I2, pl, el, e2⟩ => ?_)
  subst el e2
  refine thn (po_none.run pins s2 σ H2 (fun o H3 => o = none ∧ H3 = H2) I2 ⟨rfl, rfl⟩) fun vu s3 ⟨u, H3, I3, pu, eu, e3⟩ => ?_
  subst eu e3
  refine thn (hst.run pins s3 σ H3 (fun o H4 => o = some (-1) ∧ H4 = H3) I3 ⟨1, rfl, -1, rfl, rfl, rfl⟩) fun vs s4 ⟨o, H4, I4, ps, eo, e4⟩ => ?_
  subst eo e4
  have I5 : Inv X pins σ H4 { s4 with heap := s4.heap.push { cls := .type "slice", data := .fields #[vl, vu, vs] } } := I4.kept (t' := s4.toks) fun b ob q => Heap.get?_push_of_some _ q
  obtain ⟨a1, rfl, f1⟩ := IsPart.raw pl
  obtain ⟨a2, rfl, f2⟩ := IsPart.raw pu
  obtain ⟨a3, rfl, f3⟩ := IsPart.raw ps
  cases a1 with
  | some _ => cases f1
  | none =>
  cases a2 with
  | some _ => cases f2
  | none =>
  cases a3 with
  | none => cases f3
  | some c =>
  obtain ⟨ci, ct⟩ := c
  have hci : ci = -1 := Option.some.inj f3
  subst hci
  show wpAny (model X.prog X.w) X.A (subscriptTail e (.Slice none none (some (.UnaryOp .USub (.Constant (.int 1) k p1) p2)) p3) (.str (tx z) t) (.ref s4.heap.objs.size)) (EP X pins σ Q) X.xe _
  refine tail_any (ops := [.str (tx z) t, .ref s4.heap.objs.size]) (typeIs_str _ _ _) (PySem.F.slot_str_getitem.lookup) ?_ (by with_unfolding_all rfl)
  refine wpAny_getItem_str_slice (l := none) (u := none) (st := some (-1, ct)) ⟨_, Heap.get?_push_size _ rfl, rfl, rfl⟩ rfl ?_
  unfold sliceMade
  have hneg : ¬ (((Option.map (fun x : Int × Tok => x.1) (some ((-1 : Int), ct))).getD 1 == 1 && (slicePicked (tx z) none none (some (-1, ct))).length == (tx z).length) = true) := by
    show ¬ (((-1 : Int) == 1 && _) = true)
    simp
  rw [if_neg hneg, rev_picked]
  exact ⟨by show (tx z.reverse).length ≤ sizeLine; rw [tx_len, List.length_reverse]; exact hz, .str _, H4, I5.tok _, ⟨_, rfl⟩, q⟩
theorem rd_revS {te : TE} {σ : L2.St} {H : Hp} {Q : VK} (h : te σ H fun x H1 => ∃ l, x = .str (tx l) ∧ l.length ≤ sizeLine ∧ Q (.str (tx l.reverse)) H1) : tRevS te σ H Q := h
end Un

/-! UnGJ: rules by values, on. -/
namespace GT
open PySem PySem.Spec PyProof.Rows L2 Un
section
variable {T : TK} {X : Cx} {a b c e : Expr} {ta tb tc te : TE} {pos : Pos}
theorem call_lenA : CallR T X (.builtin "len") (rLenA X.K) := fun pins s σ H xs us Q I r g h => h.elim (call_lenQ pins s σ H xs us Q I r g) (call_lenX pins s σ H xs us Q I r g)
theorem IxR.or {r r2 : R2} (h : IxR T X r) (k : IxR T X r2) : IxR T X (fun x y H Q => r x y H Q ∨ r2 x y H Q) := fun v1 s1 pins s σ H x y v u Q I rx ry gx gy q hs =>
  q.elim (fun z => h v1 s1 pins s σ H x y v u Q I rx ry gx gy z hs) fun z => k v1 s1 pins s σ H x y v u Q I rx ry gx gy z hs
theorem ix_any : IxR T X (rIxA X.K) := ix_list.or ix_strX
theorem call_max2X (hc : X.calm = true) : CallR T X (.builtin "max") rMaxX := by
  rintro pins s σ H xs us Q I r _ ⟨i, j, rfl, q⟩
  obtain ⟨u, w, rfl, ⟨t, rfl⟩, ⟨t2, rfl⟩⟩ := vals2 r
  refine grown (max_two_ints (I.i.ok.hd hc) fun h2 tk k lt => ⟨_, H, I.kept k lt, ?_, ?_, q⟩)
  · by_cases hj : j > i
    · rw [if_pos hj, if_pos hj]
      exact ⟨_, rfl⟩
    · rw [if_neg hj, if_neg hj]
      exact ⟨_, rfl⟩
  · split
    · exact trivial
    · exact trivial
theorem mt_find1 : MtR T X "str.find" rFind1 := by
  rintro pins s σ H v xs u us Q I rx rs _ _ ⟨x, y, k, rfl, rfl, h1, h2, h3, h4, h5, q⟩
  obtain ⟨t, rfl⟩ := rx
  obtain ⟨w1, w2, rfl, ⟨t2, rfl⟩, ⟨t3, rfl⟩⟩ := vals2 rs
  refine PySem.SC.find3 ?_
  have e : Txt.find3 (tx x) (tx y) 1 = ((k : Nat) : Int) := by
    unfold Txt.find3
    rw [show fromIndex (tx x).length 1 = 1 from rfl, PySem.StrLaws.occ_eq, occ_find _ _ _ _ _ (fun i hi => (List.mem_range'_1.mp hi).1)]
    have hf : (List.range' 1 ((tx x).length + 1 - 1)).find? (fun i => decide (i + (tx y).length ≤ (tx x).length) && Builtin.Str.subAt (tx x) (tx y) i) = some k := by
      rw [List.find?_range'_eq_some, tx_len, tx_len]
      refine ⟨?_, ?_, ?_⟩
      · rw [subAt_tx, decide_eq_true h2, decide_eq_true h4]
        rfl
      · rw [List.mem_range'_1]
        omega
      · intro j hj1 hj2
        rw [subAt_tx, decide_eq_false (h5 j hj1 hj2), Bool.and_false]
        rfl
    rw [hf]
    rfl
  rw [e]
  exact ⟨.int _, H, I.up, ⟨_, rfl⟩, trivial, q⟩
theorem call_strS : CallR T X (.type "str") rStrS := by
  rintro pins s σ H xs us Q I r g ⟨a, rfl, q⟩
  obtain ⟨u, rfl, t, rfl⟩ := vals1 r
  exact PySem.P.str_of_str ⟨.str a, H, I, ⟨t, rfl⟩, g.hd, q⟩
theorem call_listQ : CallR T X (.type "list") (rSplitW X.K) := by
  rintro pins s σ H xs us Q I r _ ⟨p, ys, rfl, hq, q⟩
  obtain ⟨u, rfl, rx⟩ := vals1 r
  cases rx
  have fin : ∀ (its : List Value), Vals ys its → Gvs T s.toks its → ys.length ≤ sizeLine → ∀ (h2 : Heap) (n : Nat), (∀ b o, s.heap.get? b = some o → h2.get? b = some o) →
      h2.get? s.heap.objs.size = some { cls := .type "list", dict := none, data := .seq its.toArray n, slots := #[] } → EP T X pins σ Q (.ref s.heap.objs.size) { s with heap := h2 } := fun its rv g hz h2 n kp e =>
    ⟨.ref _, _, I.laid (t' := s.toks) (o := .lst ys) kp (Nat.le_refl _) ⟨hz, its, n, rv, e⟩ ⟨_, e, fun v hv => g v (by simpa using hv)⟩ (Nat.le_refl _), rfl, trivial, q _ (I.i.hok.fresh (Nat.le_refl _))⟩
  rcases hq with hq | hq
  · obtain ⟨its, rv, pl, hz, g⟩ := I.lst hq
    have hlen := rv.length
    obtain ⟨o, ho, hc, n, hd⟩ := pl.isList
    exact call_list_seq p (.inl rfl) ho hc hd (fun h2 n kp e => fin its rv g hz h2 n kp e) (by simp only [List.size_toArray] <;> omega)
  · obtain ⟨its, rv, pl, hz, g⟩ := I.tpl hq
    have hlen := rv.length
    obtain ⟨o, ho, hc, n, hd⟩ := pl
    exact call_list_seq p (.inr rfl) ho hc hd (fun h2 n kp e => fin its rv g hz h2 n kp e) (by simp only [List.size_toArray] <;> omega)
theorem mt_extend : MtR T X "list.extend" rExtend := by
  rintro pins s σ H x vs v us Q I rx rv _ _ ⟨l, b, xs, zs, rfl, rfl, hH, hB, hz, q⟩
  cases rx
  obtain ⟨u, rfl, ru⟩ := rv.one
  cases ru
  obtain ⟨z, its, n, r, hl, e, g⟩ := I.lstM hH
  obtain ⟨z2, its2, n2, r2, hl2, e2, g2⟩ := I.lstM hB
  have hsz : its.toArray.size + its2.toArray.size ≤ sizeLine := by rw [List.size_toArray, List.size_toArray]; omega
  have short : ¬ (!its.toArray.isEmpty && Builtin.List.listTooLong (its.toArray.size + its2.toArray.size)) = true := by
    rw [notLongL hsz, Bool.and_false]
    exact Bool.false_ne_true
  refine call_meets F.slot_list_extend ⟨_, e, rfl⟩ F.entry_list_extend (F.args_list_extend_2 _ _) (AutoSeq1.list_extend_list_list_0 l its.toArray n b its2.toArray n2 short (by rw [List.size_toArray]; omega) (by omega)) ⟨e, e2, ?_⟩
  exact ⟨.non, _, I.lset (its' := its ++ its2) hH e (by simp) (r.append r2) (by rw [List.length_append]; omega) (g.app g2) (Nat.le_refl _), rfl, trivial, q⟩
theorem mt_popAt : MtR T X "list.pop" rPopAt := by
  rintro pins s σ H x vs v us Q I rx rv _ _ ⟨l, xs, i, k, y, rfl, rfl, hH, h1, h2, hk, hy, q⟩
  cases rx
  obtain ⟨u, rfl, t, rfl⟩ := rv.one
  obtain ⟨z, its, n, r, hl, e, g⟩ := I.lstM hH
  obtain ⟨w, hw, rw'⟩ := r.get hy
  refine call_meets F.slot_list_pop ⟨_, e, rfl⟩ F.entry_list_pop (F.args_list_pop_2 _ _)
    (MeetsSeq.list_pop_at l its.toArray n i t k w (fitsIndex_both h1 h2) (by rw [List.size_toArray, ← hl]; exact hk) (by rw [← Array.getElem?_toList]; exact hw) (by rw [List.size_toArray]; omega)) ⟨e, ?_⟩
  refine ⟨y, _, I.lset (its' := its.eraseIdx k) hH e ?_ (r.eraseIdx k) ?_ (fun v hv => g v ((List.eraseIdx_sublist its k).subset hv)) (Nat.le_refl _), rw', get_good g hw, q⟩
  · show its.toArray.eraseIdxIfInBounds k = (its.eraseIdx k).toArray
    rw [List.eraseIdxIfInBounds_toArray]
  · have := len_erase xs k
    omega
theorem inSeq {neg : Bool} {op : CmpOp} (hop : op = if neg then .NotIn else .In) : OpR T X (compareOp op) (rIn X.K neg) := by
  subst hop
  rintro pins s σ H x y v u Q I rx ry _ _ ⟨p, xs, rfl, hq, fx, fs, q⟩
  cases ry
  rcases hq with hq | hq
  · obtain ⟨its, r, pl, hz, _⟩ := I.lst hq
    have e : its.toArray.any (eqU x) = inV x xs := by rw [show its.toArray.any (eqU x) = its.any (eqU x) by simp, any_eqU r fs]; rfl
    cases neg with
    | false => exact SeqAt.in_listAt (eqU x) pl.isList (fun w hw => mem_eqAt rx fx r fs w (by simpa using hw)) ⟨.bl _, H, I, rfl, trivial, by rw [e]; exact q⟩
    | true => exact SeqAt.notIn_listAt (eqU x) pl.isList (fun w hw => mem_eqAt rx fx r fs w (by simpa using hw)) ⟨.bl _, H, I, rfl, trivial, by rw [e]; exact q⟩
  · obtain ⟨its, r, pl, hz, _⟩ := I.tpl hq
    have e : its.toArray.any (eqU x) = inV x xs := by rw [show its.toArray.any (eqU x) = its.any (eqU x) by simp, any_eqU r fs]; rfl
    cases neg with
    | false => exact SeqAt.in_tupleAt (eqU x) pl (fun w hw => mem_eqAt rx fx r fs w (by simpa using hw)) ⟨.bl _, H, I, rfl, trivial, by rw [e]; exact q⟩
    | true => exact SeqAt.notIn_tupleAt (eqU x) pl (fun w hw => mem_eqAt rx fx r fs w (by simpa using hw)) ⟨.bl _, H, I, rfl, trivial, by rw [e]; exact q⟩
theorem op_in_seq : OpR T X (compareOp .In) (rIn X.K false) := inSeq rfl
theorem op_notIn_seq : OpR T X (compareOp .NotIn) (rIn X.K true) := inSeq rfl
theorem cr_all (hc : X.calm = true) : CallR T X (.builtin "all") (rAll X.K) := by
  rintro pins s σ H vs us Q I r _ ⟨a, bs, rfl, hs, q⟩
  obtain ⟨its, rv, hl, _, _⟩ := I.lst hs
  rw [Vals.ref1 r]
  have hb := rv.bls
  refine grown (call_all_walk (iter_any hl.isList fun s₂ e2 st hne => ?_))
  subst e2
  refine ⟨_, _, _, _, _, _, _, rfl, Walks.list (A := X.A.in1) (I.i.ok.hd hc) _ a hne its.toArray, st, truth_bools hb, fun h2 tk hk lt => ?_⟩
  refine ⟨.bl _, H, I.kept (fun b o eo => hk b o (fun hm => ?_) (Heap.get?_push_of_some _ eo)) lt, ?_, trivial, q⟩
  · rcases List.mem_cons.mp hm with e1 | hm
    · exact absurd (e1 ▸ Heap.lt_size eo) (Nat.lt_irrefl _)
    · cases hm
  · show Value.bool _ = Value.bool _
    rw [← L2.all_range, hb, List.size_toArray, List.length_map]
end
end GT

/-! UnGK: rules by values, on: a list times an int, sorted texts, tuple(x), truth, text[::-1]. -/
namespace GT
open PySem PySem.Spec PyProof.Rows L2 Un
theorem Gvs.rep {T : TK} {b : Nat} {us : List Value} (g : Gvs T b us) (k : Nat) : Gvs T b (List.replicate k us).flatten := fun v hv => by
  obtain ⟨l, hl, hv⟩ := List.mem_flatten.mp hv
  rw [(List.mem_replicate.mp hl).2] at hv
  exact g v hv
section
variable {T : TK} {X : Cx} {a b c e : Expr} {ta tb tc te : TE} {pos : Pos}
theorem op_rep : OpR T X (binaryOp .Mult) rRep := by
  rintro pins s σ H x y v u Q I rx ry _ _ ⟨l, k, xs, rfl, rfl, hH, h1, h2, hz, q⟩
  cases rx
  obtain ⟨t, rfl⟩ := ry
  obtain ⟨z, its, n, r, hl, e, g⟩ := I.lstM hH
  have hlen : its.toArray.size * k.toNat ≤ sizeLine := by rw [List.size_toArray, ← hl]; exact hz
  have hcap : ¬ its.toArray.size * k.toNat > (2 ^ 63 - 1) / 8 := by
    have : (sizeLine : Nat) ≤ (2 ^ 63 - 1) / 8 := by decide
    omega
  have hfit : ¬ (!Builtin.List.listFitsIndex k) = true := by
    rw [fitsIndex_both h1 h2]
    exact Bool.false_ne_true
  have hlong : ¬ Builtin.List.listTooLong (its.toArray.size * k.toNat) = true := by
    rw [notLongL hlen]
    exact Bool.false_ne_true
  have hnew : List.foldl (fun x1 x2 => x1 ++ x2) #[] (List.replicate (if its.toArray.isEmpty = true then 0 else k.toNat) its.toArray) = (List.replicate k.toNat its).flatten.toArray := by
    have f0 : ∀ m : Nat, List.foldl (fun x1 x2 => x1 ++ x2) #[] (List.replicate m its.toArray) = (List.replicate m its).flatten.toArray := fun m => by
      have := foldl_rep its m []
      rw [List.nil_append] at this
      exact this
    rw [f0]
    cases its with
    | nil => simp
    | cons a r' => rw [if_neg (by simp)]
  refine wpAny_binaryOp_repeat_ref (T := "list") (U := "int") (by decide) ⟨_, e, rfl⟩ (fun s' => typeIs_int s' k t) noFill_list_mul F.fills_int_mul F.slot_int_rmul repeat_list F.slot_int_index.lookup
    (call_meets F.slot_int_rmul (typeIs_int s k t) F.entry_int_rmul (F.args_int_rmul_2 _ _) (int___rmul___int_list k t l its.toArray n)
      ⟨e, rfl, ⟨_, e, rfl⟩, call_meets F.slot_list_mul ⟨_, e, rfl⟩ F.entry_list_mul (F.args_list_mul_2 _ _) (AutoListH.list___mul___list_int_3 l its.toArray n k t hfit hcap hlong) ⟨e, ?_⟩⟩)
  rw [hnew]
  exact ⟨.ref _, _, I.lnew (t' := s.toks) (r.rep k.toNat) (by rw [PyProof.Rows.lm_len_rep_flat, Nat.mul_comm]; exact hz) (g.rep _) (Nat.le_refl _), rfl, trivial, q _ (I.i.hok.fresh (Nat.le_refl _))⟩
theorem cr_sortedS : CallR T X (.builtin "sorted") (rSortedS X.K) := by
  rintro pins s σ H vs us Q I r _ ⟨a, xs, rfl, hs, h64, q⟩
  obtain ⟨its, rv, hl, _, g⟩ := I.lst hs
  rw [Vals.ref1 r]
  have hlen0 := rv.length
  rw [List.length_map] at hlen0
  have hS := rv.strs
  refine PyProof.Rows.sortedK PyProof.Rows.strKind_oneLt hl.isList hS.keysOf (fun v₁ v₂ rest e => PyProof.Rows.keyKind_strs (by rw [← e]; exact hS)) (by rw [← hlen0]; exact h64) fun st' hp hsd => ?_
  obtain ⟨ys, h1, h2, h3⟩ := PyProof.Rows.sorted_out_str hS hp hsd
  obtain ⟨ep, he'⟩ := PyProof.Rows.sortedAll_at s.heap its ((arrOf st').map (·.2))
  have hlen : (ys.map V.str).length ≤ sizeLine := by rw [List.length_map, h2.length_eq]; exact small64 h64
  have g2 : Gvs T s.toks ((arrOf st').map (·.2)).toList := fun v hv => by
    rw [Array.toList_map] at hv
    obtain ⟨p, hp', rfl⟩ := List.mem_map.mp hv
    have hm : p ∈ (pairsOf its).toList := (Array.perm_iff_toList_perm.mp hp).mem_iff.mp hp'
    rw [pairsOf_toList] at hm
    exact g _ (List.of_mem_zip (a := p.1) (b := p.2) hm).2
  exact ⟨.ref _, upd H (s.heap.objs.size + 1) (.lst (ys.map V.str)), I.laid (t' := s.toks) (fun _ _ => PyProof.Rows.sortedAll_old) (Nat.le_succ _) ⟨hlen, _, ep, vals_of_strs h1, he'⟩ ⟨_, he', fun v hv => g2 v (by simpa using hv)⟩ (Nat.le_refl _), rfl, trivial, q ys _ h2 h3 (I.i.hok.fresh (Nat.le_succ _))⟩
theorem rl_tuple (pins : List (Addr × Obj)) (s : Shared) (σ : St) (H : Hp) (x : V) (v : Value) (Q : VK) (I : Inv T X pins σ H s) (r : RelV x v) (h : kTup X.K x H Q) :
    wpAny (model X.prog X.w) X.A (call (.type "tuple") [v]) (EP T X pins σ Q) X.xe s := by
  rcases h with ⟨p, xs, rfl, hs, q⟩ | ⟨p, xs, rfl, hs, q⟩
  · obtain rfl : v = .ref p := r
    obtain ⟨its, rv, pl, hz, g⟩ := I.lst hs
    refine call_tuple_list pl.isList (fun h' hk => ?_) (by rw [List.size_toArray, ← rv.length]; exact hz)
    have I1 : Inv T X pins σ H { s with heap := h' } := I.kept (t' := s.toks) hk (Nat.le_refl _)
    refine ⟨.ref h'.objs.size, upd H h'.objs.size (.tup xs), I1.laid (t' := s.toks) (h' := h'.push { cls := .type "tuple", data := .seq its.toArray }) (o := .tup xs) (fun b o e => Heap.get?_push_of_some _ e) (Nat.le_refl _) (show ObjOk X.prog X.w _ _ _ (.tup xs) from ⟨hz, its, rv, IsTup.new _ _⟩) ⟨_, Heap.get?_push_size _ rfl, fun v hv => g v (by simpa using hv)⟩ (Nat.le_refl _), rfl, trivial, q _ (I1.i.hok.fresh (Nat.le_refl _))⟩
  · obtain rfl : v = .ref p := r
    obtain ⟨its, rv, pl, hz, _⟩ := I.tpl hs
    exact call_tuple_tup pl ⟨.ref p, H, I, rfl, trivial, q⟩
theorem pe_tupleOf {p pos : Pos} (hg : Gl X "tuple") (hm : X.mg "tuple" = none) (ha : PE T X a ta) (na : starEach [a] X.env = (false, eval a X.env) :: starEach [] X.env := by rfl) :
    PE T X (.Call (.Name "tuple" p) [a] [] pos) (tThen ta (kTup X.K)) := by
  refine ⟨fun pins s σ H Q I h => ?_⟩
  exact Call_ (ld_blt I.i hg hm boot_tuple (PyProof.Rows.callWith_type1 (args_cons (thn (ha.run pins s σ H _ I h) fun v s1 ⟨x, H1, I1, r1, _, q1⟩ => args_nil (rl_tuple pins s1 σ H1 x v Q I1 r1 q1)) na) na))
theorem tru_ok (pins : List (Addr × Obj)) (s : Shared) (σ : St) (H : Hp) (x : V) (v : Value) {k : Bool} {Q : Bool → Hp → Prop} (I : Inv T X pins σ H s) (rx : RelV x v) (e : TruV X.K x H k) (q : Q k H) :
    wpAny (model X.prog X.w) X.A (truthy v) (TP T X pins σ Q) X.xe s := by
  have hl := line63
  have hs : sizeLine = 16777216 := sizeLine_eq
  cases x with
  | non =>
    cases rx
    have e' : k = false := e
    subst e'
    exact truthy_none ⟨H, I, q⟩
  | bl b =>
    cases rx
    have e' : k = b := e
    subst e'
    exact wpAny_truthy_bool ⟨H, I, q⟩
  | int i =>
    obtain ⟨t, rfl⟩ := rx
    have e' : k = (i != 0) := e
    subst e'
    exact PySem.P.truthy_int ⟨H, I, q⟩
  | str y =>
    obtain ⟨t, rfl⟩ := rx
    obtain ⟨hy, e'⟩ : y.length ≤ sizeLine ∧ k = ((y.length : Int) != 0) := e
    subst e'
    exact PySem.P.truthy_str (by omega) ⟨H, I.up.up, q⟩
  | byt y =>
    obtain ⟨t, rfl⟩ := rx
    obtain ⟨hy, e'⟩ : y.size ≤ sizeLine ∧ k = ((y.size : Int) != 0) := e
    subst e'
    exact PySem.W.truthy_bytes (by omega) ⟨H, I.up.up, q⟩
  | ref p =>
    cases rx
    have e' : (∃ xs, SqL X.K H p xs ∧ k = !xs.isEmpty) ∨ (∃ xs, SqT X.K H p xs ∧ k = !xs.isEmpty) ∨ ∃ kvs, H p = some (.dK kvs) ∧ k = !kvs.isEmpty := e
    rcases e' with ⟨xs, hx, e'⟩ | ⟨xs, hx, e'⟩ | ⟨kvs, hx, e'⟩
    · subst e'
      obtain ⟨its, r, pl, hz, _⟩ := I.lst hx
      have hlen := r.length
      exact wpAny_truthy_list pl.isList (by simp only [List.size_toArray]; omega) ⟨H, I.up.up, by rw [isEmpty_of r]; exact q⟩
    · subst e'
      obtain ⟨its, r, pl, hz, _⟩ := I.tpl hx
      have hlen := r.length
      exact truthy_tuple pl (by simp only [List.size_toArray]; omega) ⟨H, I.up.up, by rw [isEmpty_of r]; exact q⟩
    · subst e'
      obtain ⟨hz, hS, vs, r, m⟩ : kvs.length ≤ sizeLine ∧ (p == sysModules) = false ∧ ∃ vs, KV kvs vs ∧ s.heap.DictOf (mixKind X.prog X.w) p vs := I.i.hok p _ hx
      have hlen : kvs.length = vs.length := Paired.length r
      exact wpAny_truthy_dict hS m (by omega) ⟨H, I.up.up, by rw [isEmpty_kv r]; exact q⟩
  | _ => exact (show False from e).elim
theorem pt_truth (ha : PE T X a ta) (he : ∀ whole, isTrue a X.env whole = (do let v ← whole; standAt a.pos; holding [v] (truthy v))) :
    PT T X a (fun σ H Q => ta σ H fun x H' => ∃ k, TruV X.K x H' k ∧ Q k H') := by
  refine ⟨fun pins s σ H Q I h => ?_⟩
  exact isTrue_plain (thn (ha.run pins s σ H _ I h) fun v s1 ⟨x, H1, I1, r1, _, k, e1, q1⟩ => tru_ok pins s1 σ H1 x v I1 r1 e1 q1) (he _)
theorem pe_revS {k : Nat} {p1 p2 p3 : Pos} (he : PE T X e te) : PE T X (.Subscript e (.Slice none none (some (.UnaryOp .USub (.Constant (.int 1) k p1) p2)) p3) pos) (tRevS te) := by
  refine ⟨fun pins s σ H Q I q => Subscript_ (thn (he.run pins s σ H _ I q) fun v s1 ⟨x, H1, I1, r1, _, z, ex, hz, q1⟩ => ?_)⟩
  subst ex
  obtain ⟨t, rfl⟩ := r1
  have back : PO T X (some (.UnaryOp .USub (.Constant (.int 1) k p1) p2)) (tPart (tUn (rU fun i => .int (-i)) (tC (.int 1)))) := po_some (pe_un un_neg pe_int)
  refine wpAny_Slice (thn (po_none.run pins s1 σ H1 (fun o H2 => o = none ∧ H2 = H1) I1 ⟨rfl, rfl⟩) fun vl s2 ⟨l, H2, I2, pl, el, e2⟩ => ?_)
  subst el e2
  refine thn (po_none.run pins s2 σ H2 (fun o H3 => o = none ∧ H3 = H2) I2 ⟨rfl, rfl⟩) fun vu s3 ⟨u, H3, I3, pu, eu, e3⟩ => ?_
  subst eu e3
  refine thn (back.run pins s3 σ H3 (fun o H4 => o = some (-1) ∧ H4 = H3) I3 ⟨1, rfl, -1, rfl, rfl, rfl⟩) fun vs s4 ⟨o, H4, I4, ps, eo, e4⟩ => ?_
  subst eo e4
  have I5 : Inv T X pins σ H4 { s4 with heap := s4.heap.push { cls := .type "slice", data := .fields #[vl, vu, vs] } } := I4.kept (t' := s4.toks) (fun b ob z => Heap.get?_push_of_some _ z) (Nat.le_refl _)
  obtain ⟨a1, rfl, f1⟩ := IsPart.raw pl
  obtain ⟨a2, rfl, f2⟩ := IsPart.raw pu
  obtain ⟨a3, rfl, f3⟩ := IsPart.raw ps
  cases a1 with
  | some _ => cases f1
  | none =>
  cases a2 with
  | some _ => cases f2
  | none =>
  cases a3 with
  | none => cases f3
  | some c =>
  obtain ⟨ci, ct⟩ := c
  have hci : ci = -1 := Option.some.inj f3
  subst hci
  show wpAny (model X.prog X.w) X.A (subscriptTail e (.Slice none none (some (.UnaryOp .USub (.Constant (.int 1) k p1) p2)) p3) (.str (tx z) t) (.ref s4.heap.objs.size)) (EP T X pins σ Q) X.xe _
  refine tail_any (ops := [.str (tx z) t, .ref s4.heap.objs.size]) (typeIs_str _ _ _) (PySem.F.slot_str_getitem.lookup) ?_ (by with_unfolding_all rfl)
  refine wpAny_getItem_str_slice (l := none) (u := none) (st := some (-1, ct)) ⟨_, Heap.get?_push_size _ rfl, rfl, rfl⟩ rfl ?_
  unfold sliceMade
  have hneg : ¬ (((Option.map (fun x : Int × Tok => x.1) (some ((-1 : Int), ct))).getD 1 == 1 && (slicePicked (tx z) none none (some (-1, ct))).length == (tx z).length) = true) := by
    show ¬ (((-1 : Int) == 1 && _) = true)
    simp
  rw [if_neg hneg, rev_picked]
  exact ⟨by show (tx z.reverse).length ≤ sizeLine; rw [tx_len, List.length_reverse]; exact hz, .str _, H4, I5.up, ⟨_, rfl⟩, Gv.new I5.t, q1⟩
end
end GT

/-! UnGM: instances of own classes under len, ==, in, [ ], by their own methods, with tokens. -/
namespace GT
open PySem PySem.Spec PyProof.Rows L2 Un
section
variable {T : TK} {X : Cx} {k : Nat} {C f : Addr} {fd : FuncData} {ps : List Str} {sp : Sp} {E : XK}
theorem run_in1 {pins : List (Addr × Obj)} {σ : St} {H : Hp} {s : Shared} {Q : VK} {us : List Value} {vs : List V} (F : FnT noG T X.prog X.w X.K X.mg X.base k f fd ps sp) (hr : Room (k + 1) X.A) (hb : Binds X.K fd ps [])
    (I : Inv T X pins σ H s) (r : Vals vs us) (g : Gvs T s.toks us) (h : sp vs H Q E) : wpAny (model X.prog X.w) X.A.in1 (call (.ref f) us) (EP T X pins σ Q) X.xe s := by
  have hl : us.length = ps.length := by
    rw [← r.length]
    exact F.len _ _ _ _ h
  have hbd := hb s us I.i.kIn (by simpa using hl)
  rw [List.append_nil] at hbd
  refine wpAny_call (codeAny_mono (F.run X.A.in1 X.stack s H ⟨us, []⟩ us vs Q E trivial hr.in1 ⟨I.i.env0.in1, I.t, I.h, I.k⟩ hbd r g h) fun q s' hq => ?_)
  match q, hq with
  | .error e, hq => exact (show False from hq).elim
  | .ok (.ret u), hq => exact I.after hq
  | .ok .next, hq => exact (show False from hq).elim
  | .ok .brk, hq => exact (show False from hq).elim
  | .ok .cont, hq => exact (show False from hq).elim
theorem run_own {pins : List (Addr × Obj)} {σ : St} {H : Hp} {s : Shared} {Q : VK} {us : List Value} {vs : List V} (F : FnT noG T X.prog X.w X.K X.mg X.base k f fd ps sp) (hr : Room k X.A) (hb : Binds X.K fd ps [])
    (I : Inv T X pins σ H s) (r : Vals vs us) (g : Gvs T s.toks us) (h : sp vs H Q E) : wpAny (model X.prog X.w) X.A (call (.ref f) us) (EP T X pins σ Q) X.xe s :=
  run_fn F trivial hr hb .nil .nil I r g (by rw [List.append_nil]; exact h)
theorem call_lenO (hm : Meth X.K C "__len__" f) (F : FnT noG T X.prog X.w X.K X.mg X.base k f fd ps sp) (hr : Room (k + 1) X.A) (hb : Binds X.K fd ps []) : CallR T X (.builtin "len") (rLenO C sp E) := by
  rintro pins s σ H xs us Q I r _ ⟨a, dx, fs, rfl, ha, h⟩
  obtain ⟨u, rfl, ru⟩ := vals1 r
  cases (show u = Value.ref a from ru)
  obtain ⟨mA, O, _⟩ := ins_get I.i.hok ha
  obtain ⟨od, J, _⟩ := O.look
  obtain ⟨m, hF⟩ := I.i.fr
  refine PySem.W.len_K hF I.i.ok.mod.kin J hm.at_ hm.fn (wpAny_mono (run_in1 F hr hb I (show Vals [V.ref a] [Value.ref a] from .cons rfl .nil) (.cons trivial .nil) h) (fun r s' hs => ?_) fun _ _ e => e)
  obtain ⟨z, H', I', rz, _, n, rfl, hn, q⟩ := hs
  obtain ⟨t, rfl⟩ := rz
  exact ⟨⟨by omega, by omega⟩, .int n, H', I'.up, ⟨_, rfl⟩, trivial, q⟩
theorem op_eqO {R : V → Hp → Prop} (hT : Right X C R) (hm : Meth X.K C "__eq__" f) (F : FnT noG T X.prog X.w X.K X.mg X.base k f fd ps sp) (hr : Room k X.A) (hb : Binds X.K fd ps []) : OpR T X (compareOp .Eq) (rEqO C sp E R) := by
  rintro pins s σ H x y v u Q I rx ry _ gy ⟨a, dx, fs, rfl, ha, ht, h⟩
  cases (show v = Value.ref a from rx)
  obtain ⟨mA, O, _⟩ := ins_get I.i.hok ha
  obtain ⟨od, J, _⟩ := O.look
  obtain ⟨m, hF⟩ := I.i.fr
  obtain ⟨t, hL, hn⟩ := hT pins σ H s y u I.i ry ht
  refine PySem.W.cmp_K (op := .Eq) hr.units0 hF I.i.ok.mod.kin J hL hn hm.at_ hm.fn (wpAny_mono (run_own F hr hb I (show Vals [V.ref a, y] [Value.ref a, u] from .cons rfl (.cons ry .nil)) (.cons trivial (.cons gy .nil)) h) (fun r s' hs => ?_) fun _ _ e => e)
  obtain ⟨z, H', I', rz, _, b, rfl, q⟩ := hs
  cases (show r = Value.bool b from rz)
  exact ⟨.bl b, H', I', rfl, trivial, q⟩
theorem op_inO (hm : Meth X.K C "__contains__" f) (F : FnT noG T X.prog X.w X.K X.mg X.base k f fd ps sp) (hr : Room k X.A) (hb : Binds X.K fd ps []) : OpR T X (compareOp .In) (rInO false C sp E) := by
  rintro pins s σ H x y v u Q I rx ry gx _ ⟨a, dx, fs, rfl, ha, h⟩
  cases (show u = Value.ref a from ry)
  obtain ⟨mA, O, _⟩ := ins_get I.i.hok ha
  obtain ⟨od, J, _⟩ := O.look
  obtain ⟨m, hF⟩ := I.i.fr
  refine PySem.W.in_K hF I.i.ok.mod.kin J hm.at_ hm.fn (wpAny_mono (run_own F hr hb I (show Vals [V.ref a, x] [Value.ref a, v] from .cons rfl (.cons rx .nil)) (.cons trivial (.cons gx .nil)) h) (fun r s' hs => ?_) fun _ _ e => e)
  obtain ⟨z, H', I', rz, _, b, rfl, q⟩ := hs
  cases (show r = Value.bool b from rz)
  exact wpAny_truthy_bool ⟨.bl b, H', I', rfl, trivial, q⟩
theorem op_notInO (hm : Meth X.K C "__contains__" f) (F : FnT noG T X.prog X.w X.K X.mg X.base k f fd ps sp) (hr : Room k X.A) (hb : Binds X.K fd ps []) : OpR T X (compareOp .NotIn) (rInO true C sp E) := by
  rintro pins s σ H x y v u Q I rx ry gx _ ⟨a, dx, fs, rfl, ha, h⟩
  cases (show u = Value.ref a from ry)
  obtain ⟨mA, O, _⟩ := ins_get I.i.hok ha
  obtain ⟨od, J, _⟩ := O.look
  obtain ⟨m, hF⟩ := I.i.fr
  refine PySem.W.notIn_K hF I.i.ok.mod.kin J hm.at_ hm.fn (wpAny_mono (run_own F hr hb I (show Vals [V.ref a, x] [Value.ref a, v] from .cons rfl (.cons rx .nil)) (.cons trivial (.cons gx .nil)) h) (fun r s' hs => ?_) fun _ _ e => e)
  obtain ⟨z, H', I', rz, _, b, rfl, q⟩ := hs
  cases (show r = Value.bool b from rz)
  exact wpAny_truthy_bool ⟨.bl (!b), H', I', rfl, trivial, q⟩
theorem pe_getO {a b : Expr} {ta tb : TE} {pos : Pos} (hm : Meth X.K C "__getitem__" f) (hfn : PySem.W.fnIn X.K f = true) (F : FnT noG T X.prog X.w X.K X.mg X.base k f fd ps sp) (hr : Room (k + 1) X.A) (hb : Binds X.K fd ps [])
    (pa : PE T X a ta) (pb : PE T X b tb) (hs : ∀ (x : Addr) (i : Value), subscripted b true (.ref x) i = runValue (.builtin "lifetime.subscript" ⟨[.ref x, i], []⟩) := by exact fun _ _ => by with_unfolding_all rfl) : PE T X (.Subscript a b pos) (tOp (rGetO C sp E) ta tb) := by
  refine ⟨fun pins s σ H Q I h => Subscript_ (bin pa pb I h fun v u s2 x y H2 I2 rx ry _ gy q => ?_)⟩
  obtain ⟨p, dx, fs, rfl, hp, q⟩ := q
  cases (show v = Value.ref p from rx)
  obtain ⟨mA, O, _⟩ := ins_get I2.i.hok hp
  obtain ⟨od, J, _⟩ := O.look
  obtain ⟨m, hF⟩ := I2.i.fr
  exact PySem.W.sub_K hF I2.i.ok.mod.kin J hm.at_ hfn hm.fn (run_in1 F hr hb I2 (show Vals [V.ref p, y] [Value.ref p, u] from .cons rfl (.cons ry .nil)) (.cons trivial (.cons gy .nil)) q) (hs p u)
end
/-- a method as a promise -/
def MetG (T : TK) (P : Program) (w : World) (K : PySem.W.Frag) (mg : Str → Option Value) (base : Heap) (C : Addr) (m : Str) (ps : List Str) (k : Nat) (sp : Sp) : Prop :=
  ∃ (f : Addr) (fd : FuncData), Cls K C ∧ Meth K C m f ∧ FnT noG T P w K mg base k f fd ps sp ∧ PySem.W.fnIn K f = true ∧ Binds K fd ps []
section
variable {T : TK} {P : Program} {w : World} {K : PySem.W.Frag} {mg : Str → Option Value} {base : Heap} {C : Addr} {m qual : Str} {st : Stmt} {ps : List Str} {k : Nat} {sp : Sp}
theorem metG_of (c : Cls K C) (a : AtM K C m qual st ps) (h : ∀ f fd, Fun K m qual st f fd → FnT noG T P w K mg base k f fd ps sp) : MetG T P w K mg base C m ps k sp := by
  obtain ⟨f, fd, F, M, i, b⟩ := a
  exact ⟨f, fd, c, M, h f fd F, i, b⟩
end
section
variable {T : TK} {X : Cx} {C : Addr} {m : Str} {ps : List Str} {k j : Nat} {sp : Sp} {a b : Expr} {ta tb : TE} {pos : Pos}
theorem in_G (g : MetG T X.prog X.w X.K X.mg X.base C "__contains__" ps k sp) (hr : Room j X.A) (hk : k ≤ j) : OpR T X (compareOp .In) (rInO false C sp E0) := by
  obtain ⟨f, fd, c, M, F, i, b⟩ := g
  exact op_inO M F (hr.mono hk) b
theorem notIn_G (g : MetG T X.prog X.w X.K X.mg X.base C "__contains__" ps k sp) (hr : Room j X.A) (hk : k ≤ j) : OpR T X (compareOp .NotIn) (rInO true C sp E0) := by
  obtain ⟨f, fd, c, M, F, i, b⟩ := g
  exact op_notInO M F (hr.mono hk) b
theorem len_G (g : MetG T X.prog X.w X.K X.mg X.base C "__len__" ps k sp) (hr : Room j X.A) (hk : k + 1 ≤ j) : CallR T X (.builtin "len") (rLenO C sp E0) := by
  obtain ⟨f, fd, c, M, F, i, b⟩ := g
  exact call_lenO M F (hr.mono hk) b
theorem eq_G {R : V → Hp → Prop} (hT : Right X C R) (g : MetG T X.prog X.w X.K X.mg X.base C "__eq__" ps k sp) (hr : Room j X.A) (hk : k ≤ j) : OpR T X (compareOp .Eq) (rEqO C sp E0 R) := by
  obtain ⟨f, fd, c, M, F, i, b⟩ := g
  exact op_eqO hT M F (hr.mono hk) b
theorem pe_getG (g : MetG T X.prog X.w X.K X.mg X.base C "__getitem__" ps k sp) (hr : Room j X.A) (hk : k + 1 ≤ j) (pa : PE T X a ta) (pb : PE T X b tb)
    (hs : ∀ (x : Addr) (i : Value), subscripted b true (.ref x) i = runValue (.builtin "lifetime.subscript" ⟨[.ref x, i], []⟩) := by exact fun _ _ => by with_unfolding_all rfl) : PE T X (.Subscript a b pos) (tOp (rGetO C sp E0) ta tb) := by
  obtain ⟨f, fd, c, M, F, i, b⟩ := g
  exact pe_getO M i F (hr.mono hk) b pa pb hs
end
end GT

/-! UnGP: list(text), its signs with their tokens. -/
namespace GT
open PySem PySem.Spec PyProof.Rows L2 Un
section
variable {pr : Program} {wo : World} {Ar : Around} {st0 : Shared}
def SignT (x : Str) (lo hi : Nat) (v : Value) (i : Nat) : Prop := ∃ c u, v = .str ⟨#[c]⟩ u ∧ x.cps[i]? = some c ∧ lo ≤ u ∧ u < hi
abbrev LObj (zs : Array Value) (n : Nat) : Obj := { cls := .type "list", dict := none, data := .seq zs n, slots := #[] }
def Signed (x : Str) (lo hi : Nat) (zs : Array Value) : Prop := ∀ i v, zs[i]? = some v → SignT x lo hi v i
theorem Signed.more {x : Str} {lo hi c : Nat} {zs : Array Value} {h : Signed x lo hi zs} (l : lo ≤ hi) (e : x.cps[zs.size]? = some c) : Signed x lo (hi + 1) (zs.push (.str ⟨#[c]⟩ hi)) := fun i v hv => by
  rw [Array.getElem?_push] at hv
  by_cases hi2 : i = zs.size
  · rw [if_pos hi2] at hv
    cases hv
    exact ⟨c, hi, rfl, by rw [hi2]; exact e, l, Nat.lt_succ_self _⟩
  · rw [if_neg hi2] at hv
    obtain ⟨d, u, a1, a2, a3, a4⟩ := h i v hv
    exact ⟨d, u, a1, a2, a3, Nat.lt_succ_of_lt a4⟩
theorem next_sign {ty : String} (hty : ty = "str_ascii_iterator" ∨ ty = "str_iterator") {it : Addr} {x : Str} {t : Tok} {i c : Nat} {Q : Option Value → Shared → Prop} {E : Value → Shared → Prop} (a : st0.heap.IsStrIter it ty x t i) (b : x.cps[i]? = some c)
    (q : ∀ h', h'.IsStrIter it ty x t (i + 1) → Heap.SameBut it st0.heap h' → Q (some (.str ⟨#[c]⟩ st0.toks)) { st0 with heap := h', toks := st0.toks + 1 }) : wpAny (model pr wo) Ar (pyNext (.ref it)) Q E st0 := by
  rcases hty with rfl | rfl
  · exact wpAny_pyNext_ascii_item a b q
  · exact wpAny_pyNext_wide_item a b q
theorem next_none {ty : String} (hty : ty = "str_ascii_iterator" ∨ ty = "str_iterator") (hh : Ar.handled = none) {it : Addr} {x : Str} {t : Tok} {i : Nat} {Q : Option Value → Shared → Prop} {E : Value → Shared → Prop} (a : st0.heap.IsStrIter it ty x t i) (b : x.cps[i]? = none)
    (q : ∀ h', Heap.ExtBut it st0.heap h' → Q none { st0 with heap := h' }) : wpAny (model pr wo) Ar (pyNext (.ref it)) Q E st0 := by
  rcases hty with rfl | rfl
  · exact wpAny_pyNext_ascii_end hh a b q
  · exact wpAny_pyNext_wide_end hh a b q
def After (x : Str) (lo : Nat) (l it : Addr) (res : Value) (R : Result → Shared → Prop) (h : Heap) (b : Nat) (st0 : Shared) : Prop := ∀ h' tk zs n, b ≤ tk → (∀ a o, a ≠ l → a ≠ it → h.get? a = some o → h'.get? a = some o) → h'.get? l = some (LObj zs n) → zs.size = x.cps.size → Signed x lo tk zs → R (.ok (.ret res)) { st0 with heap := h', toks := tk }
theorem loop_signs {ty : String} (hty : ty = "str_ascii_iterator" ∨ ty = "str_iterator") (hh : Ar.handled = none) {x : Str} {t : Tok} {l it : Addr} {res : Value} {lo : Nat} {R : Result → Shared → Prop} (hx : x.cps.size ≤ sizeLine) (ne : l ≠ it) :
    ∀ (m i : Nat) (h : Heap) (b : Nat) (zs : Array Value) (n : Nat), i + m = x.cps.size → h.IsStrIter it ty x t i → h.get? l = some (LObj zs n) → zs.size = i → lo ≤ b → Signed x lo b zs → After x lo l it res R h b st0 →
      codeAny (model pr wo) Ar (.builtin "list.extend.loop" ⟨[.ref l, .ref it, res], []⟩) R { st0 with heap := h, toks := b } := by
  intro m
  induction m with
  | zero =>
    intro i h b zs n hm hi hl hz hb sg hR
    refine codeAny_builtin F.entry_extend_loop (Eq.mpr (congrArg (fun A0 => wpAny (model pr wo) A0 _ _ _ _) (Around.under_plainId F.plain_extend_loop _)) (wpAny_bind ?_))
    refine next_none (Ar := Ar.in1) (st0 := { st0 with heap := h, toks := b }) hty hh hi (Array.getElem?_eq_none (by omega)) fun h' eb => ?_
    refine wpAny_pure ?_
    exact hR h' b zs n (Nat.le_refl _) (fun a o _ h2 e => eb a o h2 e) (eb l _ ne hl) (by omega) sg
  | succ m ih =>
    intro i h b zs n hm hi hl hz hb sg hR
    have hlt : i < x.cps.size := by omega
    have hc : x.cps[i]? = some x.cps[i] := Array.getElem?_eq_getElem hlt
    refine codeAny_builtin F.entry_extend_loop (Eq.mpr (congrArg (fun A0 => wpAny (model pr wo) A0 _ _ _ _) (Around.under_plainId F.plain_extend_loop _)) (wpAny_bind ?_))
    refine next_sign (Ar := Ar.in1) (st0 := { st0 with heap := h, toks := b }) hty hi hc fun h' hi' sb => ?_
    have hl' : h'.get? l = some (LObj zs n) := (sb.2 l ne).trans hl
    refine wpAny_bind (wpAny_updateSeq hl' rfl (wpAny_pure ⟨plainId_quiet F.plain_extend_loop _, ?_⟩) (by omega) (by rw [Array.size_push]; omega))
    have oth : ∀ a o, a ≠ l → h'.get? a = some o → (h'.update l (Obj.mapSeq (·.push (.str ⟨#[x.cps[i]]⟩ b)))).get? a = some o := fun a o na e => (Heap.get?_update_other _ _ na.symm).trans e
    refine ih (i + 1) _ (b + 1) (zs.push (.str ⟨#[x.cps[i]]⟩ b)) _ (by omega) ?_ (Heap.get?_update_self _ hl' rfl) (by rw [Array.size_push, hz]) (Nat.le_succ_of_le hb) (Signed.more (h := sg) hb (by rw [hz]; exact hc)) ?_
    · obtain ⟨o, eo, r⟩ := hi'
      exact ⟨o, oth it o ne.symm eo, r⟩
    · intro h2 tk zs2 n2 htk k2 e2 z2 s2
      exact hR h2 tk zs2 n2 (by omega) (fun a o a1 a2 e => k2 a o a1 a2 (oth a o a1 ((sb.2 a a2).trans e))) e2 z2 s2
theorem iter_text {x : Str} {t : Tok} {Q : Value → Shared → Prop} {E : Value → Shared → Prop} (q : ∀ (ob : Obj) (ty : String), (ty = "str_ascii_iterator" ∨ ty = "str_iterator") → (st0.heap.push ob).IsStrIter st0.heap.objs.size ty x t 0 → Q (.ref st0.heap.objs.size) { st0 with heap := st0.heap.push ob }) :
    wpAny (model pr wo) Ar (pyIter (.str x t)) Q E st0 := by
  rcases Bool.eq_false_or_eq_true (x.cps.all (· < 128)) with ha | ha
  · exact wpAny_pyIter_ascii ha (q _ "str_ascii_iterator" (.inl rfl) ⟨_, Heap.get?_push_size _ rfl, rfl, rfl⟩)
  · exact wpAny_pyIter_wide ha (q _ "str_iterator" (.inr rfl) ⟨_, Heap.get?_push_size _ rfl, rfl, rfl⟩)
abbrev Told (pr : Program) (wo : World) (Ar : Around) (R : Result → Shared → Prop) (m : Sem Fin) (st0 : Shared) : Prop :=
  wpAny (model pr wo) Ar.in1 m (fun fin z => match fin with | .done f => R (.ok f) z | .again d => d.quiet = true ∧ codeAny (model pr wo) Ar d R z) (fun e z => R (.error e) z) st0
def Behind (x : Str) (l : Addr) (res : Value) (R : Result → Shared → Prop) (st0 : Shared) : Prop := ∀ h' tk zs n, st0.toks ≤ tk → (∀ a o, a ≠ l → st0.heap.get? a = some o → h'.get? a = some o) → h'.get? l = some (LObj zs n) → zs.size = x.cps.size → Signed x st0.toks tk zs → R (.ok (.ret res)) { st0 with heap := h', toks := tk }
theorem extend_signs (hh : Ar.handled = none) {x : Str} {t : Tok} {l : Addr} {res : Value} {n : Nat} {R : Result → Shared → Prop} (hl : st0.heap.get? l = some (LObj #[] n)) (hx : x.cps.size ≤ sizeLine) (hR : Behind x l res R st0) :
    Told pr wo Ar R (Builtin.List.listExtendWith (.ref l) (.str x t) res) st0 := by
  have ne : l ≠ st0.heap.objs.size := Nat.ne_of_lt (Heap.lt_size hl)
  unfold Builtin.List.listExtendWith; refine wpAny_bind (wpAny_typeOf (T := "str") (v := .str x t) rfl ?_)
  simp only [show Builtin.List.listSameRef (.ref l) (.str x t) = false from rfl, show (Value.type "str" == Value.type "list") = false by decide, show (Value.type "str" == Value.type "tuple") = false by decide, Bool.or_false, Bool.false_eq_true, if_false]
  refine wpAny_bind (iter_text fun ob ty hty st => ?_)
  refine wpAny_bind (wpAny_holding ?_); unfold Builtin.List.listLengthHint; refine wpAny_bind (wpAny_specialOf (v := .str x t) (T := "str") rfl F.str_len ?_)
  wp_delta
  refine wpAny_bind (wpAny_isInstance (b := true) (v := .str x t) (T := "str") rfl (by rw [isSubtype_type]; kernel_rfl) ?_)
  show wpAny _ _ (typeOf (.str x t) >>= _) _ _ _; refine wpAny_bind (wpAny_typeOf (v := .str x t) (T := "str") rfl (wpAny_pure ?_))
  rw [if_neg (by decide)]; refine wpAny_pure ⟨plainId_quiet F.plain_extend_loop _, ?_⟩
  refine loop_signs hty hh hx ne x.cps.size 0 _ st0.toks #[] n (Nat.zero_add _) st (Heap.get?_push_of_some _ hl) rfl (Nat.le_refl _) (fun i v h => by simp at h) fun h' tk zs n' htk k e ez sg => ?_
  exact hR h' tk zs n' htk (fun a o na ea => k a o na (Nat.ne_of_lt (Heap.lt_size ea)) (Heap.get?_push_of_some _ ea)) e ez sg
theorem init_signs (hh : Ar.handled = none) {x : Str} {t : Tok} {l : Addr} {R : Result → Shared → Prop} (hl : st0.heap.get? l = some { cls := .type "list", data := .seq #[] }) (hx : x.cps.size ≤ sizeLine) (hR : Behind x l .none R st0) :
    Told pr wo Ar R (Builtin.«list.__init__» ⟨[.ref l, .str x t], []⟩) st0 := by
  show wpAny _ _ (Builtin.List.listItems (.ref l) >>= fun old => Builtin.List.listUpdate (.ref l) (fun _ => #[]) >>= fun _ => letGo old.toList.reverse >>= fun _ => Builtin.List.listExtendWith (.ref l) (.str x t) .none) _ _ st0
  refine wpAny_bind (?_ : wpAny _ _ (Builtin.List.listItems (.ref l)) _ _ _); unfold Builtin.List.listItems; refine wpAny_bind (wpAny_seqItems hl rfl (wpAny_pure ?_))
  show wpAny _ _ (updateSeq l (fun _ => #[]) >>= fun _ => letGo (#[] : Array Value).toList.reverse >>= fun _ => Builtin.List.listExtendWith (.ref l) (.str x t) .none) _ _ st0
  refine wpAny_bind (wpAny_updateSeq hl rfl (wpAny_bind (wpAny_letGo ?_)))
  refine extend_signs hh (Heap.get?_update_self (Obj.mapSeq fun _ => (#[] : Array Value)) hl rfl) hx fun h' tk zs n htk k e ez sg => ?_
  exact hR h' tk zs n htk (fun a o na ea => k a o na ((Heap.get?_update_other _ _ na.symm).trans ea)) e ez sg
theorem call_signs {Q : Value → Shared → Prop} {E : Value → Shared → Prop} (hh : Ar.handled = none) {x : Str} {t : Tok} (hx : x.cps.size ≤ sizeLine) (q : ∀ h' tk zs n, st0.toks ≤ tk → (∀ a o, st0.heap.get? a = some o → h'.get? a = some o) → h'.get? st0.heap.objs.size = some (LObj zs n) → zs.size = x.cps.size → Signed x st0.toks tk zs → Q (.ref st0.heap.objs.size) { st0 with heap := h', toks := tk }) :
    wpAny (model pr wo) Ar (call (.type "list") [.str x t]) Q E st0 := by
  refine callType_codes (Q₁ := fun ob z => ob = .ref st0.heap.objs.size ∧ z = { st0 with heap := st0.heap.push { cls := .type "list", data := .seq #[] } }) F.called_list (F.typeCall_list_1 _) F.entry_list_init (code_list_new _ ⟨rfl, rfl⟩) ?_
  rintro ob z ⟨rfl, rfl⟩
  have hl : (st0.heap.push { cls := .type "list", data := .seq #[] }).get? st0.heap.objs.size = some { cls := .type "list", data := .seq #[] } := Heap.get?_push_size _ rfl
  refine ⟨⟨_, hl, rfl⟩, F.args_list_init_2 _ _, init_signs (Ar := Ar.in1) hh hl hx fun h' tk zs n htk k e ez sg => ⟨rfl, ?_⟩⟩
  exact q h' tk zs n htk (fun a o ea => k a o (Nat.ne_of_lt (Heap.lt_size ea)) (Heap.get?_push_of_some _ ea)) e ez sg
end
section
variable {T : TK} {X : Cx}
theorem vals_by : ∀ (xs : List V) (us : List Value), xs.length = us.length → (∀ (i : Nat) (x : V) (v : Value), xs[i]? = some x → us[i]? = some v → RelV x v) → Vals xs us
  | [], [], _, _ => .nil
  | x :: xs, u :: us, h, g => .cons (g 0 x u rfl rfl) (vals_by xs us (by simpa using h) fun i a b h1 h2 => g (i + 1) a b h1 h2)
  | [], _ :: _, h, _ => by cases h
  | _ :: _, [], h, _ => by cases h
theorem vals_signs (l : List Nat) (lo hi : Nat) (zs : List Value) (hz : zs.length = l.length) (sg : ∀ i v, zs[i]? = some v → SignT (tx l) lo hi v i) : Vals (sgs l) zs := by
  refine vals_by _ _ (by rw [sgs_len]; exact hz.symm) fun i x v h1 h2 => ?_
  obtain ⟨c, u, rfl, e, _⟩ := sg i v h2
  unfold sgs at h1
  rw [List.getElem?_map] at h1
  obtain ⟨d, e2, rfl⟩ := Option.map_eq_some_iff.mp h1
  have e3 : (tx l).cps[i]? = l[i]? := by
    show l.toArray[i]? = l[i]?
    exact List.getElem?_toArray ..
  rw [e3, e2] at e
  cases e
  exact ⟨u, rfl⟩
theorem call_listX (hc : X.calm = true) : CallR T X (.type "list") rListX := by
  rintro pins s σ H xs us Q I r _ ⟨l, rfl, hl, q⟩
  obtain ⟨u, rfl, t, rfl⟩ := vals1 r
  refine call_signs (I.i.ok.hd hc) (by rw [show (tx l).cps.size = l.length from tx_len l]; exact hl) fun h' tk zs n htk k e ez sg => ?_
  have hz : zs.toList.length = l.length := by rw [Array.length_toList, ez]; exact tx_len l
  have sg2 : ∀ i v, zs.toList[i]? = some v → SignT (tx l) s.toks tk v i := fun i v hv => sg i v (by rw [← Array.getElem?_toList]; exact hv)
  refine ⟨.ref _, _, I.laid (t' := tk) (o := .lst (sgs l)) k (Nat.le_refl _) ⟨by rw [sgs_len]; exact hl, zs.toList, n, vals_signs l _ _ _ hz sg2, by rw [Array.toArray_toList]; exact e⟩ ⟨_, e, fun v hv => ?_⟩ htk, rfl, trivial, q _ (I.i.hok.fresh (Nat.le_refl _))⟩
  obtain ⟨i, hi⟩ := List.mem_iff_getElem?.mp hv
  obtain ⟨c, w, rfl, _, h1, h2⟩ := sg2 i v hi
  exact Gv.at (Nat.le_trans I.t h1) h2
/-- (int, text) >= (int, text), the numbers unlike -/
def rGeIS (K : PySem.W.Frag) : V → V → Hp → VK → Prop := fun x y H Q => ∃ (a b : Addr) (i j : Int) (p q : Str), x = .ref a ∧ y = .ref b ∧ SqT K H a [.int i, .str p] ∧ SqT K H b [.int j, .str q] ∧ i ≠ j ∧ Q (.bl (decide (j ≤ i))) H
theorem vals_is {i : Int} {p : Str} {its : List Value} (r : Vals [.int i, .str p] its) : ∃ t u, its = [.int i t, .str p u] := by
  obtain ⟨w1, w2, rfl, ⟨t, rfl⟩, ⟨u, rfl⟩⟩ := vals2 r
  exact ⟨t, u, rfl⟩
theorem op_geIS (hu : X.A.units + 64 < cLine) : OpR T X (compareOp .GtE) (rGeIS X.K) := by
  rintro pins s σ H x y v u Q I rx ry _ _ ⟨a, b, i, j, p, q, rfl, rfl, ha, hb, ne, h⟩
  cases rx
  cases ry
  obtain ⟨its, r1, p1, _⟩ := I.tpl ha
  obtain ⟨its2, r2, p2, _⟩ := I.tpl hb
  obtain ⟨t1, t2, rfl⟩ := vals_is r1
  obtain ⟨t3, t4, rfl⟩ := vals_is r2
  have R := Ob.RcOp.tuples_ge (A := X.A) (s := s) (e := fun k => if k = 0 then i == j else p == q) (r := fun k => if k = 0 then decide (j ≤ i) else !decide (p.cps.toList < q.cps.toList)) p1 p2 (by omega) (fun k h1 h2 => by
    match k, h1, h2 with
    | 0, _, _ => exact SeqAt.EqAt.int_int _ _ _ _
    | 1, _, _ => exact SeqAt.EqAt.str_str _ _ _ _) (fun k h1 h2 _ => by
    match k, h1, h2 with
    | 0, _, _ => exact Ob.RcOp.ge_int _ _ _ _
    | 1, _, _ => exact fun prog w E Q z => PySem.P.ge_str (by simpa using z))
  have z : wpAny (model X.prog X.w) X.A (compareOp .GtE (.ref a) (.ref b)) (EP T X pins σ Q) X.xe s := R X.prog X.w X.xe (EP T X pins σ Q) ⟨.bl _, H, I, rfl, trivial, by
    have e : Ob.lexAt (fun k => if k = 0 then i == j else p == q) (fun k => if k = 0 then decide (j ≤ i) else !decide (p.cps.toList < q.cps.toList)) (decide (2 ≥ 2)) 0 2 = decide (j ≤ i) := by
      rw [Ob.lexAt_succ, if_neg (by simpa using ne)]
      rfl
    show Q (.bl (Ob.lexAt _ _ (decide (2 ≥ 2)) 0 2)) H
    rw [e]
    exact h⟩
  exact z
theorem rd_geIS {K : PySem.W.Frag} {H : Hp} {Q : VK} {a b : Addr} {i j : Int} {p q : Str} (ha : SqT K H a [.int i, .str p]) (hb : SqT K H b [.int j, .str q]) (lt : i < j) (h : Q (.bl false) H) : rGeIS K (.ref a) (.ref b) H Q :=
  ⟨a, b, i, j, p, q, rfl, rfl, ha, hb, Int.ne_of_lt lt, by rw [decide_eq_false (Int.not_le.mpr lt)]; exact h⟩
end
end GT

/-! UnGQ: enumerate of lists and tuples, with tokens. -/
namespace GT
open PySem PySem.Spec PyProof.Rows L2 Un
section
variable {T : TK} {X : Cx} {pins : List (Addr × Obj)} {σ : St} {H : Hp} {s : Shared} {tg : Expr} {pos : Pos}
theorem Inv.turnedNew {h' : Heap} {t' : Nat} {ch : List Addr} {Tp : Addr} {ob : HO} (I : Inv T X pins σ H s) (k : ∀ b o, b ∉ ch → s.heap.get? b = some o → h'.get? b = some o) (hf : ∀ b ∈ ch, FpOk X pins H b) (hT : s.heap.objs.size ≤ Tp)
    (new : ObjOk X.prog X.w (upd H Tp ob) h' Tp ob) (g : Og T t' h' Tp ob) (hn : s.toks ≤ t') : Inv T X pins σ (upd H Tp ob) { s with heap := h', toks := t' } :=
  I.step (I.i.turnedNew (t' := t') k hf hT new) hn (fun o e => ⟨o, k _ _ (fun hb => (hf _ hb).2.1 rfl) e, rfl⟩) (fun x c e o e' => ⟨o, k _ _ (fun hb => (hf _ hb).2.2.2.2.1 x c e rfl) e', rfl⟩) fun a o e => by
    by_cases ha : a = Tp
    · subst ha
      rw [upd_same] at e
      cases e
      exact g
    · rw [upd_ne ha] at e
      refine (Og.stay (I.h a o e) (I.i.hok a o e) fun b u hb q => k b u (fun hc => ?_) q).up hn
      have f0 := (hf b hc).1
      rcases hb with rfl | hb
      · rw [f0] at e
        cases e
      · rw [f0] at hb
        cases hb
theorem seqG {a : Addr} {xs : List V} (k : SK) (I : Inv T X pins σ H s) (h : SqA k X.K H a xs) : ∃ its : List Value, Vals xs its ∧ ObA k s.heap a its.toArray ∧ a < s.heap.objs.size ∧ Gvs T s.toks its := by
  cases k with
  | l =>
    obtain ⟨its, rv, p, _, g⟩ := I.lst h
    exact ⟨its, rv, p.isList, p.lt, g⟩
  | t =>
    obtain ⟨its, rv, p, _, g⟩ := I.tpl h
    exact ⟨its, rv, p, p.lt, g⟩
/-- a, b = a list of two, and so on -/
theorem pg_lst {es : List Expr} {k : Nat} {t : TGs} {n : Nat} (hc : X.calm = true) (h : PGs T X es t) (hn : (assignEach es X.env).length = n := by rfl) (hst : (assignEach es X.env).findIdx? (·.1) = none := by rfl) :
    PG T X (.Tuple es k pos) (gLst X.K n t) := by
  refine ⟨fun pins s σ H v u Q I r g q => ?_⟩
  obtain ⟨a, xs, rfl, hq, hl, q⟩ := q
  cases r
  obtain ⟨its, rv, pl, hz, gi⟩ := I.lst hq
  rw [PyProof.Rows.assign_Tuple]; refine wpAny_bind (wpAny_standAt ?_)
  unfold unpack; rw [show (assignEach es X.env).length = its.toArray.size by simp [hn, ← hl, rv.length], hst]
  refine wpAny_bind (wpAny_holding (PySem.W.kun_itemsOf (I.i.ok.hd hc) pl.isList fun h' hx => ?_))
  exact h.run pins _ σ H xs _ Q (I.kept (t' := s.toks) (fun b o e => hx b o (Nat.ne_of_lt (Heap.lt_size e)) e) (Nat.le_refl _)) (by simpa using rv) (by simpa using gi) q
theorem op_eqE (hu : X.A.units + 64 < cLine) : OpR T X (compareOp .Eq) (rEqE X.K) := by
  rintro pins s σ H x y v u Q I rx ry _ _ ⟨a, b, xs, rfl, rfl, ha, hb, q⟩
  cases (show v = Value.ref a from rx)
  cases (show u = Value.ref b from ry)
  obtain ⟨us, r1, p1, _, _⟩ := I.lst ha
  obtain ⟨ws, r2, p2, _, _⟩ := I.lst hb
  cases r2
  cases r1 with
  | nil => exact (SeqAt.RcAt.lists (e := fun _ => true) p1.isList p2.isList rfl (by omega) (fun j h1 => absurd h1 (Nat.not_lt_zero j))) _ _ _ _ ⟨.bl true, H, I, rfl, trivial, q⟩
  | cons r rr => exact (SeqAt.RcAt.lists_lengths p1.isList p2.isList (by simp) (by omega)) _ _ _ _ ⟨.bl false, H, I, rfl, trivial, q⟩
theorem op_neE (hu : X.A.units + 64 < cLine) : OpR T X (compareOp .NotEq) (rNeE X.K) := by
  rintro pins s σ H x y v u Q I rx ry _ _ ⟨a, b, xs, rfl, rfl, ha, hb, q⟩
  cases (show v = Value.ref a from rx)
  cases (show u = Value.ref b from ry)
  obtain ⟨us, r1, p1, _, _⟩ := I.lst ha
  obtain ⟨ws, r2, p2, _, _⟩ := I.lst hb
  cases r2
  cases r1 with
  | nil => exact (SeqAt.RcNeAt.lists (e := fun _ => true) p1.isList p2.isList rfl (by omega) (fun j h1 => absurd h1 (Nat.not_lt_zero j))) _ _ _ _ ⟨.bl false, H, I, rfl, trivial, q⟩
  | cons r rr => exact (SeqAt.RcNeAt.lists_lengths p1.isList p2.isList (by simp) (by omega)) _ _ _ _ ⟨.bl true, H, I, rfl, trivial, q⟩
theorem turn_enumA (k : SK) {P : Program} {w : World} {K : PySem.W.Frag} {elts : List Expr} {kk : Nat} {tpos : Pos} {a e it : Addr} (hae : a ≠ e) (hai : a ≠ it) (hne : e ≠ it) :
    Turn T P w K (.Tuple elts kk tpos) (ItenA k K a) [e, it] e (fun i h => (∃ old, IsEnum h e it ((i : Nat) : Int) old) ∧ IterA k h it a i) where
  v := Un.turn_enumA k hae hai hne
  item := by
    rintro X rfl rfl rfl hc i pins s σ H E I hf ⟨⟨old, he⟩, j⟩ ⟨xs, x, hq, hx⟩
    obtain ⟨its, rv, p, _, gi⟩ := seqG k I hq
    obtain ⟨u, hu, ru⟩ := rv.get hx
    have gu := get_good gi hu
    have he0 : e < s.heap.objs.size := Heap.lt_size he
    have hi0 : it < s.heap.objs.size := by
      obtain ⟨_, q, _⟩ := iterA_obj j
      exact Heap.lt_size q
    refine wpAny_mono (wpAny_toks (wpAny_pyNext_enum_itemD (Q := fun r z => ∃ h' tk, z = { s with heap := h', toks := tk + 1 } ∧ r = some (.ref s.heap.objs.size) ∧ IsEnumOut h' e it ((i : Int) + 1) u s.heap.objs.size ∧ IterA k h' it a (i + 1) ∧ h'.get? s.heap.objs.size = some { cls := .type "tuple", data := .seq #[.int i tk, u] } ∧ ∀ b o, b ≠ e → b ≠ it → s.heap.get? b = some o → h'.get? b = some o) (E := fun _ _ => False) (drawsA k (A := X.A.in1) (I.i.ok.hd hc) it a hai its.toArray) he ⟨j, p⟩ (by simpa using (List.getElem?_eq_some_iff.mp hu).1) hne (by simp [hne, hae.symm]) fun v h' tk hv ho hit' hT hsz hk => ?_)) (fun r z hz => ?_) fun _ _ hz => hz.2.elim
    · have ev : v = u := by
        rw [List.getElem?_toArray, hu] at hv
        exact (Option.some.inj hv).symm
      subst ev
      exact ⟨h', tk, rfl, rfl, ho, hit'.1, hT, hk⟩
    obtain ⟨htk, h', tk, rfl, rfl, ho, hit', hT, hk⟩ := hz
    have htk : s.toks ≤ tk + 1 := htk
    refine ⟨_, rfl, wpAny_letOwnedTupleGo_enum (s := { s with heap := h', toks := tk + 1 }) ho fun h'' he' sb => ?_⟩
    have made : h''.get? s.heap.objs.size = some { cls := .type "tuple", data := .seq #[.int i tk, u] } := (sb.2 _ (Nat.ne_of_gt he0)).trans hT
    have new : ObjOk X.prog X.w (upd H s.heap.objs.size (.tup [.int (i : Nat), x])) h'' s.heap.objs.size (.tup [.int (i : Nat), x]) := ⟨by show 2 ≤ sizeLine; decide, [.int i tk, u], .cons ⟨_, rfl⟩ (.cons ru .nil), ⟨_, made, rfl, _, rfl⟩⟩
    have kept : ∀ b o, b ∉ [e, it] → s.heap.get? b = some o → h''.get? b = some o := fun b o hb q => by
      have h1 : b ≠ e := fun z => hb (by simp [z])
      have h2 : b ≠ it := fun z => hb (by simp [z])
      exact (sb.2 b h1).trans (hk b o h1 h2 q)
    have good : Og T (tk + 1) h'' s.heap.objs.size (.tup [.int (i : Nat), x]) := ⟨_, made, fun w hw => by
      rcases List.mem_cons.mp (show w ∈ [Value.int i tk, u] from by simpa using hw) with rfl | hw
      · exact trivial
      · rw [List.mem_singleton.mp hw]
        exact gu.up htk⟩
    refine ⟨.ref s.heap.objs.size, _, I.turnedNew (ch := [e, it]) kept hf (Nat.le_refl _) new good htk, rfl, trivial, ⟨_, x, rfl, I.i.hok.fresh (Nat.le_refl _), rfl, fun l hl => by rw [seqA_inj k I.i hl hq]; exact hx⟩, ⟨⟨u, ?_⟩, ?_⟩, fun b hb => ?_⟩
    · have e1 : ((i + 1 : Nat) : Int) = (i : Int) + 1 := by omega
      rw [e1]
      exact he'
    · exact iterA_at hit' fun o q => (sb.2 it (Ne.symm hne)).trans q
    · have hb' : b < s.heap.objs.size := by
        rcases List.mem_cons.mp hb with rfl | hb
        · exact he0
        · rw [List.mem_singleton.mp hb]
          exact hi0
      rw [upd_ne (Nat.ne_of_lt hb')]
      exact (hf b hb).1
  done := by
    rintro X rfl rfl rfl hc i pins s σ H E I hf ⟨⟨old, he⟩, j⟩ ⟨xs, hq, rfl⟩
    obtain ⟨its, rv, p, _, _⟩ := seqG k I hq
    have hl : xs.length = its.toArray.size := by
      rw [List.size_toArray]
      exact rv.length
    rw [hl] at he j
    exact wpAny_pyNext_enum_endD (drawsA k (A := X.A.in1) (I.i.ok.hd hc) it a hai its.toArray) he ⟨j, p⟩ fun h' eb => ⟨rfl, I.turned (t' := s.toks) (fun b o hb q => eb b o hb q) (hf it (by simp)) (Nat.le_refl _)⟩
theorem pi_enumK (k : SK) {K : PySem.W.Frag} (hK : X.K = K) {e : Expr} {ta : TA} {p pos tpos : Pos} {elts : List Expr} {kk : Nat} (hg : Gl X "enumerate") (hm : X.mg "enumerate" = none) (ha : PA T X [e] ta) (hs : starEach [e] X.env = [(false, eval e X.env)] := by rfl) :
    PI T X (.Tuple elts kk tpos) (.Call (.Name "enumerate" p) [e] [] pos) (iEnumK k K ta) := by
  subst hK
  refine ⟨fun pins s σ H R I h => Call_ (ld_blt I.i hg hm boot_enumerate (PyProof.Rows.callWith_type1 (thn (ha.run pos pins s σ H _ I h) fun us s1 ⟨vs, H1, I1, r1, _, q1⟩ => ?_) hs rfl))⟩
  obtain ⟨a, xs, rfl, hx, q⟩ := q1
  cases r1 with
  | cons r rr =>
    cases rr
    cases (show _ = Value.ref a from r)
    obtain ⟨its, _, p1, la, _⟩ := seqG k I1 hx
    obtain ⟨o1, B1, g1⟩ := beginsA k a its.toArray
    refine call_enumB B1 p1 fun h' he hit hk => wpAny_pyIter_enum he ?_
    have I2 : Inv T X pins σ H1 { s1 with heap := h' } := I1.kept (t' := s1.toks) hk (Nat.le_refl _)
    refine ⟨s1.heap.objs.size + 1, [s1.heap.objs.size + 1, s1.heap.objs.size], _, _, H1, rfl, I2, turn_enumA k (Nat.ne_of_lt (Nat.lt_succ_of_lt la)) (Nat.ne_of_lt la) (Nat.succ_ne_self _), ⟨⟨.none, he⟩, g1 _ _ hit⟩, fun b hb => ?_, q⟩
    have hle : s1.heap.objs.size ≤ b := by
      rcases List.mem_cons.mp hb with rfl | hb
      · exact Nat.le_add_right _ _
      · exact Nat.le_of_eq (List.mem_singleton.mp hb).symm
    exact I1.i.fpOk hle (I1.i.hok.fresh hle)
theorem pi_enumT {e : Expr} {ta : TA} {p pos tpos : Pos} {elts : List Expr} {kk : Nat} (hg : Gl X "enumerate") (hm : X.mg "enumerate" = none) (ha : PA T X [e] ta) (hs : starEach [e] X.env = [(false, eval e X.env)] := by rfl) :
    PI T X (.Tuple elts kk tpos) (.Call (.Name "enumerate" p) [e] [] pos) (iEnumK .t X.K ta) := pi_enumK .t rfl hg hm ha hs
theorem pi_enumL {e : Expr} {ta : TA} {p pos tpos : Pos} {elts : List Expr} {kk : Nat} (hg : Gl X "enumerate") (hm : X.mg "enumerate" = none) (ha : PA T X [e] ta) (hs : starEach [e] X.env = [(false, eval e X.env)] := by rfl) :
    PI T X (.Tuple elts kk tpos) (.Call (.Name "enumerate" p) [e] [] pos) (iEnumK .l X.K ta) := pi_enumK .l rfl hg hm ha hs
theorem rd_glst {K : PySem.W.Frag} {H : Hp} {n : Nat} {tt : TGs} {a : Addr} {xs : List V} {Q : L2.St → Hp → Prop} (h : SqL K H a xs) (hn : xs.length = n) (q : tt xs σ H Q) : gLst K n tt (.ref a) σ H Q := ⟨a, xs, rfl, h, hn, q⟩
end
end GT

/-! UnGR: a def that works on lists and tuples without texts keeps its older promise. -/
namespace GT
open PySem PySem.Spec PyProof.Rows L2 Un
/-- no text -/
def noV : V → Bool
  | .str _ => false
  | .int _ => true
  | .bl _ => true
  | .non => true
  | .ref _ => true
  | _ => false
theorem noV_good {T : TK} {b : Nat} {v : V} {u : Value} (p : noV v = true) (r : RelV v u) : Gv T b u := by
  cases v with
  | int i => obtain ⟨t, rfl⟩ := r; exact trivial
  | bl b => cases r; exact trivial
  | non => cases r; exact trivial
  | ref a => cases r; exact trivial
  | _ => cases p
theorem noV_all {T : TK} {b : Nat} : ∀ {xs : List V} {us : List Value}, xs.all noV = true → Vals xs us → Gvs T b us
  | [], _, _, .nil => Gvs.nil
  | x :: xs, _, h, .cons r t => by
    rw [List.all_cons, Bool.and_eq_true] at h
    exact Gvs.cons (noV_good h.1 r) (noV_all h.2 t)
/-- a list or a tuple without texts -/
def noT : HO → Bool
  | .lst xs => xs.all noV
  | .tup xs => xs.all noV
  | _ => false
/-- what of a heap holds no texts -/
def res (H : Hp) : Hp := fun a => match H a with
  | some o => if noT o = true then some o else none
  | none => none
theorem res_some {H : Hp} {a : Addr} {o : HO} (h : H a = some o) (n : noT o = true) : res H a = some o := by
  unfold res
  rw [h]
  exact if_pos n
theorem res_of {H : Hp} {a : Addr} {o : HO} (h : res H a = some o) : H a = some o ∧ noT o = true := by
  unfold res at h
  cases e : H a with
  | none => rw [e] at h; cases h
  | some o' =>
    rw [e] at h
    by_cases n : noT o' = true
    · rw [show (match some o' with | some o => if noT o = true then some o else none | none => none) = if noT o' = true then some o' else none from rfl, if_pos n] at h
      cases h
      exact ⟨rfl, n⟩
    · rw [show (match some o' with | some o => if noT o = true then some o else none | none => none) = if noT o' = true then some o' else none from rfl, if_neg n] at h
      cases h
theorem res_none {H : Hp} {a : Addr} {o : HO} (h : H a = some o) (n : noT o = false) : res H a = none := by
  unfold res
  rw [h]
  exact if_neg (by rw [n]; exact Bool.false_ne_true)
/-- put over another one -/
def old (H : Hp) (a : Addr) : Option HO := match H a with
  | some o => if noT o = true then none else some o
  | none => none
theorem old_of {H : Hp} {a : Addr} {o : HO} (h : old H a = some o) : H a = some o ∧ noT o = false := by
  unfold old at h
  cases e : H a with
  | none => rw [e] at h; cases h
  | some o' =>
    rw [e] at h
    cases n : noT o' with
    | true =>
      rw [show (match some o' with | some o => if noT o = true then none else some o | none => none) = if noT o' = true then none else some o' from rfl, if_pos n] at h
      cases h
    | false =>
      rw [show (match some o' with | some o => if noT o = true then none else some o | none => none) = if noT o' = true then none else some o' from rfl, if_neg (by rw [n]; exact Bool.false_ne_true)] at h
      cases h
      exact ⟨rfl, n⟩
theorem old_some {H : Hp} {a : Addr} {o : HO} (h : H a = some o) (n : noT o = false) : old H a = some o := by
  unfold old
  rw [h]
  exact if_neg (by rw [n]; exact Bool.false_ne_true)
def mrg (H H1 : Hp) : Hp := fun a => match H1 a with
  | some o => if noT o = true then some o else none
  | none => old H a
theorem mrg_new {H H1 : Hp} {a : Addr} {o : HO} (h : H1 a = some o) (n : noT o = true) : mrg H H1 a = some o := by
  unfold mrg
  rw [h]
  exact if_pos n
theorem mrg_old {H H1 : Hp} {a : Addr} (h : H1 a = none) : mrg H H1 a = old H a := by
  unfold mrg
  rw [h]
theorem mrg_of {H H1 : Hp} {a : Addr} {o : HO} (h : mrg H H1 a = some o) : (H1 a = some o ∧ noT o = true) ∨ (H1 a = none ∧ H a = some o ∧ noT o = false) := by
  unfold mrg at h
  cases e : H1 a with
  | none =>
    rw [e] at h
    exact .inr ⟨rfl, old_of h⟩
  | some o' =>
    rw [e] at h
    by_cases n : noT o' = true
    · rw [show (match some o' with | some o => if noT o = true then some o else none | none => old H a) = if noT o' = true then some o' else none from rfl, if_pos n] at h
      cases h
      exact .inl ⟨rfl, n⟩
    · rw [show (match some o' with | some o => if noT o = true then some o else none | none => old H a) = if noT o' = true then some o' else none from rfl, if_neg n] at h
      cases h
theorem mrg_none {H H1 : Hp} {a : Addr} (h1 : H1 a = none) (h : H a = none) : mrg H H1 a = none := by
  rw [mrg_old h1]
  unfold old
  rw [h]
/-- what was not handed in stays out -/
def Out (H H1 : Hp) : Prop := ∀ a o, H a = some o → noT o = false → H1 a = none
theorem Out.same {H H1 : Hp} (o : Out H H1) (s : Same (res H) H1) : Same H (mrg H H1) := fun a u h => by
  cases n : noT u with
  | true => exact mrg_new (s a u (res_some h n)) n
  | false => rw [mrg_old (o a u h n)]; exact old_some h n
theorem noT_ok {P : Program} {w : World} {H H' : Hp} {h : Heap} {a : Addr} {o : HO} (n : noT o = true) (k : ObjOk P w H h a o) : ObjOk P w H' h a o := by
  cases o with
  | lst xs => exact k
  | tup xs => exact k
  | _ => cases n
theorem noT_good {T : TK} {P : Program} {w : World} {H : Hp} {h : Heap} {a : Addr} {o : HO} {b : Nat} (n : noT o = true) (k : ObjOk P w H h a o) : Og T b h a o := by
  cases o with
  | lst xs =>
    obtain ⟨_, its, m, r, e⟩ := k
    exact ⟨_, e, fun v hv => noV_all n r v (by simpa using hv)⟩
  | tup xs =>
    obtain ⟨_, its, r, ob, e, c, m, d⟩ := k
    refine ⟨ob, e, ?_⟩
    rw [d]
    exact fun v hv => noV_all n r v (by simpa using hv)
  | _ => cases n
theorem ObjOk.ex {P : Program} {w : World} {H : Hp} {h : Heap} {a : Addr} {o : HO} (k : ObjOk P w H h a o) : ∃ u, h.get? a = some u := by
  cases o with
  | lst xs => obtain ⟨_, _, _, _, e⟩ := k; exact ⟨_, e⟩
  | tup xs => obtain ⟨_, _, _, ob, e, _⟩ := k; exact ⟨_, e⟩
  | dK kvs => obtain ⟨_, _, _, _, o, _, _, e, _⟩ := k; exact ⟨_, e⟩
  | dT kvs => obtain ⟨_, _, _, _, o, _, _, e, _⟩ := k; exact ⟨_, e⟩
  | set S n => obtain ⟨o, _, _, _, e, _⟩ := k; exact ⟨_, e⟩
  | ins C dx fs => obtain ⟨_, _, _, e, _⟩ := k; exact ⟨_, e⟩
  | own y => exact k
  | xd fs => obtain ⟨_, ⟨_, _, _, e, _⟩, _⟩ := k; exact ⟨_, e⟩
  | rng lo hi => obtain ⟨_, _, _, e⟩ := k; exact ⟨_, e⟩
  | frz ob u => obtain ⟨e, _⟩ := k; exact ⟨_, e⟩
  | tbl ps => exact ⟨_, (show h.get? a = some _ from k)⟩
  | met f y => exact ⟨_, (show h.get? a = some _ from k)⟩
  | ext φ => obtain ⟨_, e, _⟩ := k; exact e
theorem FnT.lift {gA : Around → Prop} {T : TK} {P : Program} {w : World} {K : PySem.W.Frag} {mg : Str → Option Value} {base : Heap} {k : Nat} {f : Addr} {fd : FuncData} {ps : List Str} {sp sp1 : Sp} (F : FnOk P w K mg base CX0 k f fd ps sp1)
    (h : ∀ vs H Q E, sp vs H Q E → sp1 vs (res H) (fun v H1 => noV v = true ∧ (Out H H1 → Q v (mrg H H1))) (fun _ _ _ => False)) : FnT gA T P w K mg base k f fd ps sp := by
  refine ⟨fun vs H Q E q => F.len _ _ _ _ (h _ _ _ _ q), fun A outer s H args us vs Q E _ hr e0 hb hv _ hs => ?_⟩
  have e1 : L2.Env0 P w K mg base A outer s (res H) := ⟨e0.e.frames, e0.e.mod, fun b o z => ⟨(e0.e.bs b o z).1, by
    have := (e0.e.bs b o z).2
    unfold res
    rw [this]⟩, e0.e.bsz, e0.e.funs, fun b hf => by
      unfold res
      rw [e0.e.frf b hf], fun a o z => by
      obtain ⟨z1, z2⟩ := res_of z
      exact noT_ok z2 (e0.e.hok a o z1), e0.e.bare⟩
  refine grownC (codeAny_mono (F.run A outer s (res H) args us vs _ _ hr e1 hb hv (h _ _ _ _ hs)) fun r s' q lt => ?_)
  match r, q with
  | .error e, q => exact (show False from q).elim
  | .ok .next, q => exact (show False from q).elim
  | .ok .brk, q => exact (show False from q).elim
  | .ok .cont, q => exact (show False from q).elim
  | .ok (.ret u), q =>
    obtain ⟨v, H1, os, bare, un, hok1, rv, nv, qv⟩ := q
    have out : Out H H1 := fun a o q n => by
      obtain ⟨ob, eo⟩ := ObjOk.ex (e0.e.hok a o q)
      exact un.free a ob eo (res_none q n) (by simp)
    have nofr : ∀ b o, H b = some o → b ∉ frs outer := fun b o q hf => by
      rw [e0.e.frf b hf] at q
      cases q
    have raw : ∀ b o u, H b = some o → noT o = false → s.heap.get? b = some u → s'.heap.get? b = some u := fun b o u q n hu => un.keep b u hu (res_none q n) (nofr b o q) (by simp)
    have near : ∀ a o, H a = some o → noT o = false → ∀ b u, (b = a ∨ H b = some (.own a)) → s.heap.get? b = some u → s'.heap.get? b = some u := fun a o q n b u hb hu => by
      rcases hb with rfl | hb
      · exact raw _ _ _ q n hu
      · exact raw _ _ _ hb rfl hu
    have stay : ∀ b o, H b = some o → noT o = false → mrg H H1 b = some o := fun b o q n => by rw [mrg_old (out b o q n)]; exact old_some q n
    have tups : ∀ b xs, H b = some (.tup xs) → mrg H H1 b = some (.tup xs) := fun b xs q => by
      cases n : noT (.tup xs) with
      | true => exact mrg_new (un.tups b xs (res_some q n)) n
      | false => exact stay b _ q n
    have rN : ∀ b, H b = none → res H b = none := fun b q => by
      unfold res
      rw [q]
    refine ⟨v, mrg H H1, os, bare, ⟨fun b o q n hf hx => un.keep b o q (rN b n) hf hx, fun b o q n hf hx => un.slot b o q (rN b n) hf hx, fun b o q n hx => mrg_none (un.free b o q (rN b n) hx) n, un.there, tups, fun b o u q => stay b _ q rfl, fun b ps q => ⟨#[], by rw [stay b _ q rfl]; simp⟩⟩, fun a o q => ?_, rv, noV_good nv rv, lt, fun a o q => ?_, qv out⟩
    · rcases mrg_of q with ⟨z, n⟩ | ⟨_, z, n⟩
      · exact noT_ok n (hok1 a o z)
      · exact (e0.e.hok a o z).stay (near a o z n) (fun b q => stay b _ q rfl) tups
    · rcases mrg_of q with ⟨z, n⟩ | ⟨_, z, n⟩
      · exact noT_good n (hok1 a o z)
      · exact (Og.stay (e0.h a o z) (e0.e.hok a o z) (near a o z n)).up lt
theorem Cl.lift {gA : Around → Prop} {T : TK} {P : Program} {w : World} {K : PySem.W.Frag} {mg : Str → Option Value} {base : Heap} {nm : Str} {ps : List Str} {k : Nat} {sp sp1 : Sp} (c : Un.Cl P w K mg base nm ps k sp1)
    (h : ∀ vs H Q E, sp vs H Q E → sp1 vs (res H) (fun v H1 => noV v = true ∧ (Out H H1 → Q v (mrg H H1))) (fun _ _ _ => False)) : Cl gA T P w K mg base nm ps k sp := by
  obtain ⟨f, fd, m, F, kp, b⟩ := c
  exact ⟨f, fd, m, FnT.lift F h, kp, b⟩
end GT

set_option maxHeartbeats 2000000
/-! UnCm: classmethods in bundles; cls(..) within one; bool(o) by an own method. -/
namespace Un
open PySem PySem.Spec PyProof.Rows L2
/-- a classmethod of the class at C, as it stands, its defaults' values told -/
def AtCm (K : PySem.W.Frag) (C : Addr) (m qual : Str) (st : Stmt) (dvs : List V) : Prop :=
  ∃ (p g : Addr) (fd : FuncData), FunD K m qual (defArgs st) (defBody st) (defScope st) dvs [] g fd ∧ ClX.CRead K C (.type "type") ∧ ClX.CMet K C (.type "type") m p g
/-- an __init__ without defaults -/
def AtI0 (K : PySem.W.Frag) (C : Addr) (m qual : Str) (st : Stmt) (ps : List Str) : Prop := ∃ (f : Addr) (fd : FuncData), Fun K m qual st f fd ∧ L2.Mk K C f ∧ Binds K fd ps []
/-- the same as a promise of what stands behind the class -/
def CmG (P : Program) (w : World) (K : PySem.W.Frag) (mg : Str → Option Value) (base : Heap) (CX : CXT) (C : Addr) (m : Str) (k : Nat) (sp : Sp) : Prop :=
  ∃ p g : Addr, ClX.CRead K C (.type "type") ∧ ClX.CMet K C (.type "type") m p g ∧ FnR P w K mg base CX k g sp
def cmB (K : PySem.W.Frag) (C : Addr) (m : Str) (p g : Addr) : Bool :=
  (match PySem.W.findCls K (.ref C) (.type "type") m with
    | some (.get (.builtin i) (.ref q) .none (.ref D)) => decide (i = "classmethod.__get__") && (decide (q = p) && decide (D = C))
    | _ => false) && ((match PySem.W.recIn K p "classmethod" with
    | some (.ref d :: _) => decide (d = g)
    | _ => false) && PySem.W.fnIn K g)
theorem cmB_ok {K : PySem.W.Frag} {C : Addr} {m : Str} {p g : Addr} (b : cmB K C m p g = true) : ClX.CMet K C (.type "type") m p g := by
  obtain ⟨b1, b⟩ := Bool.and_eq_true_iff.mp b
  obtain ⟨b2, b3⟩ := Bool.and_eq_true_iff.mp b
  refine ⟨?_, ?_, b3⟩
  · clear b b2
    split at b1
    · rename_i i q D e
      obtain ⟨c1, c⟩ := Bool.and_eq_true_iff.mp b1
      obtain ⟨c2, c3⟩ := Bool.and_eq_true_iff.mp c
      rw [e, of_decide_eq_true c1, of_decide_eq_true c2, of_decide_eq_true c3]
    · cases b1
  · split at b2
    · rename_i d r e
      exact ⟨r, by rw [e, of_decide_eq_true b2]⟩
    · cases b2
def crB (K : PySem.W.Frag) (C : Addr) : Bool := PySem.W.readsIn K C (.type "type") && (match PySem.W.specialIn K (.ref C) "__getattribute__" with
  | some (some (.builtin i)) => decide (i = "type.__getattribute__")
  | _ => false)
theorem crB_ok {K : PySem.W.Frag} {C : Addr} (b : crB K C = true) : ClX.CRead K C (.type "type") := by
  obtain ⟨b1, b2⟩ := Bool.and_eq_true_iff.mp b
  refine ⟨b1, ?_⟩
  split at b2
  · rename_i i e
    rw [e, of_decide_eq_true b2]
  · cases b2
section
variable {P : Program} {w : World} {K : PySem.W.Frag} {mg : Str → Option Value} {base : Heap} {C : Addr} {m qual : Str} {st : Stmt} {ps : List Str} {k : Nat} {sp : Sp} {CX : CXT}
/-- every parameter written -/
theorem cmG_of (a : AtCm K C m qual st []) (hb : ∀ (kV doc pm : Value) (an : Option Addr) (cdv ct : Value) (us : List Value), us.length = ps.length → bindArgs (PySem.W.fnOf m qual (defArgs st) (defBody st) (defScope st) .none kV doc pm an cdv ct) ⟨us, []⟩ = pure (ps.zip us))
    (h : ∀ f fd, FunD K m qual (defArgs st) (defBody st) (defScope st) [] [] f fd → FnOk P w K mg base CX k f fd ps sp) : CmG P w K mg base CX C m k sp := by
  obtain ⟨p, g, fd, F, r, c⟩ := a
  exact ⟨p, g, r, c, ((h g fd F).raw (F.bindsN hb) .nil).imp fun vs H Q E q => by rw [List.append_nil]; exact q⟩
/-- one default; n values are written -/
theorem cmG_ofD {d : V} (a : AtCm K C m qual st [d]) (n j : Nat) (hn : n + (1 - j) = ps.length)
    (hb : ∀ (T : Addr) (kV doc pm : Value) (an : Option Addr) (cdv ct : Value) (us its : List Value), us.length = n → its.length = 1 →
      ∃ kk, bindArgs (PySem.W.fnOf m qual (defArgs st) (defBody st) (defScope st) (.ref T) kV doc pm an cdv ct) ⟨us, []⟩ = seqItems? (.ref T) >>= kk ∧ kk (some its.toArray) = pure (ps.zip (us ++ its.drop j)))
    (h : ∀ f fd, FunD K m qual (defArgs st) (defBody st) (defScope st) [d] [] f fd → FnOk P w K mg base CX k f fd ps sp) : CmG P w K mg base CX C m k fun vs H Q E => sp (vs ++ [d].drop j) H Q E := by
  obtain ⟨p, g, fd, F, r, c⟩ := a
  obtain ⟨ds, v, b⟩ := F.binds1 (ps := ps) n j (by simp) hn hb
  exact ⟨p, g, r, c, (h g fd F).raw b v⟩
end
/-! ### C.m(e, ..), within try too -/
def tCmS (C : Addr) (sp : Sp) (E : L2.St → XK) (ta : TE) (t : TA) : TE := fun σ H Q => ta σ H fun x H1 => x = .ref C ∧ t σ H1 fun vs H2 => sp (.ref C :: vs) H2 Q (E σ)
section
variable {X : Cx} {CX : CXT} {k j : Nat} {C p g : Addr} {sp : Sp} {E : L2.St → XK} {o e : Expr} {es : List Expr} {m : Str} {pos apos : Pos} {ta : TE} {t : TA} {pl : Sem Bool}
theorem run_cmS {pins : List (Addr × Obj)} {σ : L2.St} {H : Hp} {s : Shared} {q : Addr} {Q : VK} {us : List Value} {vs : List V} (F : FnR X.prog X.w X.K X.mg X.base CX k g sp) (hr : Room k X.A) (hx : PassesAt CX X σ (E σ)) (I : Inv X ((q, PySem.W.methodObj (.ref g) (.ref C)) :: pins) σ H s)
    (r : Vals vs us) (h : sp (.ref C :: vs) H Q (E σ)) : wpAny (model X.prog X.w) X.A (call (.ref q) us) (EP X pins σ Q) X.xe s := by
  have r2 : Vals (V.ref C :: vs) (Value.ref C :: us) := .cons rfl r
  have body : codeAny (model X.prog X.w) X.A (.call (.ref g) ⟨.ref C :: us, []⟩) (fun a s' => match a with | .ok (.ret v) => EP X pins σ Q v s' | .ok _ => False | .error e => X.xe e s') s := by
    refine codeAny_mono (F X.A X.stack s H _ _ Q (E σ) hr I.env0 r2 h) fun a s' ha => ?_
    match a, ha with
    | .error e, ha => exact hx _ H s e s' I ha
    | .ok (.ret u), ha => exact ClX.unpinE (I.after ha)
    | .ok .next, ha => exact ha.elim
    | .ok .brk, ha => exact ha.elim
    | .ok .cont, ha => exact ha.elim
  exact wpAny_call (PySem.W.method_call (ClX.pin_at I) body)
theorem pe_cmS (c : CmG X.prog X.w X.K X.mg X.base CX C m k sp) (hr : Room j X.A) (hk : k ≤ j) (hx : ∀ σ, PassesAt CX X σ (E σ)) (he : PE X o ta) (ha : PA X (e :: es) t)
    (hst : starEach (e :: es) X.env = (false, eval e X.env) :: starEach es X.env := by rfl) (hpl : (backTo pos (starEach es X.env)).any (·.1) = false := by rfl)
    (ht : eval (.Call (.Attribute o m apos) (e :: es) [] pos) X.env = (do let ov ← eval o X.env; standAt apos.atName; let (f, first) ← holding [ov] (getMethod ov m pl); callWith pos f first (backTo pos (starEach (e :: es) X.env)) (backToKw pos (keywordEach [] X.env))) := by rfl) :
    PE X (.Call (.Attribute o m apos) (e :: es) [] pos) (tCmS C sp E ta t) := by
  obtain ⟨p, g, r, c, F⟩ := c
  refine ⟨fun pins s σ H Q I h => ?_⟩
  refine PySem.W.methodCall_KW (pl := pl) (thn (he.run pins s σ H _ I h) fun u s1 w1 => ?_) ht
  obtain ⟨x, H1, I1, rx, rfl, q⟩ := w1
  cases (show u = Value.ref C from rx)
  refine ClX.getmethcm_ok I1 r c fun s2 I2 => ?_
  refine ClX.callwith_cm I2 (ClX.base_none I1 (Nat.le_refl _)) c.fi (thn (ha.run pos _ s2 σ H1 _ I2 q) fun us s3 w2 => ?_) hst hpl
  obtain ⟨vs, H2, I3, rv, q2⟩ := w2
  exact ⟨⟨ClX.pin_at I3, I3.kIn⟩, run_cmS F (hr.mono hk) (hx σ) I3 rv q2⟩
end
/-! ### cls(e, ..), the class in a slot -/
def tMakeL (i : Nat) (C : Addr) (sp : Sp) (dvs : List V) (E : XK) (t : TA) : TE := fun σ H Q => σ[i]? = some (some (.ref C)) ∧ tMake C sp dvs E t σ H Q
section
variable {X : Cx} {k j i : Nat} {C : Addr} {sp : Sp} {dvs : List V} {x nm : Str} {p pos : Pos} {e : Expr} {es : List Expr} {t : TA}
theorem pe_mkL (g : MakD X.prog X.w X.K X.mg X.base nm C k sp dvs) (hr : Room j X.A) (hk : k + 1 ≤ j) (hN : X.N[i]? = some x) (hv : Vis X.env.scope x) (ha : PA X (e :: es) t)
    (hdb : (x == ("__debug__" : Str)) = false := by decide) (hcd : (x == ("__classdict__" : Str)) = false := by decide)
    (he : starEach (e :: es) X.env = (false, eval e X.env) :: starEach es X.env := by rfl) (hpl : (backTo pos (starEach es X.env)).any (·.1) = false := by rfl) : PE X (.Call (.Name x p) (e :: es) [] pos) (tMakeL i C sp dvs E0 t) := by
  obtain ⟨f, fd, ps, ds, M, F, hm, b, d⟩ := g
  refine ⟨fun pins s σ H Q I h => ?_⟩
  obtain ⟨hs, h⟩ := h
  refine wpAny_Call_Name_kw (thn ((pe_var (pos := p) hN hv hdb hcd).run pins s σ H (fun v H1 => v = .ref C ∧ H1 = H) I ⟨.ref C, hs, rfl, rfl⟩) fun u s1 w1 => ?_)
  obtain ⟨v, H1, I1, r1, rfl, rfl⟩ := w1
  cases r1
  refine PySem.W.callWith_K (h₀ := X.base) I.ok.mod.kin M.kp (thn (ha.run pos pins s1 σ _ _ I1 h) fun us s2 w2 => ?_) he hpl
  obtain ⟨vs, H2, I2, r, q⟩ := w2
  exact ⟨I2.kIn, run_make M F (hr.mono hk) b d pass0 I2 r q⟩
theorem rd_makeL {σ : L2.St} {H : Hp} {Q : VK} {E : XK} (hs : σ[i]? = some (some (.ref C))) (h : tMake C sp dvs E t σ H Q) : tMakeL i C sp dvs E t σ H Q := ⟨hs, h⟩
end
theorem rd_cmS {C : Addr} {sp : Sp} {E : L2.St → XK} {ta : TE} {t : TA} {σ : L2.St} {H : Hp} {Q : VK} (h : ta σ H fun x H1 => x = .ref C ∧ t σ H1 fun vs H2 => sp (.ref C :: vs) H2 Q (E σ)) : tCmS C sp E ta t σ H Q := h
theorem rd_refl {v : V} {R : Prop} (q : R) : v = v ∧ R := ⟨rfl, q⟩
/-! ### bool(o) by the own __bool__ -/
theorem bool_new_own {prog : Program} {w : World} (a : Addr) : MeetsIn prog w (Builtin.«bool.__new__» ⟨[.type "bool", .ref a], []⟩) (fun A R s => wpAny (model prog w) A.in1 (truthy (.ref a)) (fun b s' => R (.ok (.ret (.bool b))) s') (fun e s' => R (.error e) s') s) :=
  .of_wp fun A R s hs => by
    obtain ⟨hp, g, d, tk, os⟩ := s
    have f1 := F.conv_sub_bool
    repeat (any_goals (first | assumption | (refine wpAny_bind (m := truthy (.ref a)) (wpAny_mono hs (fun b s' hb => ?_) fun _ _ e => e)) | wp_step))
    all_goals first | exact ⟨_, rfl, by assumption⟩ | skip
section
variable {X : Cx} {CX : CXT} {k : Nat} {C f : Addr} {fd : FuncData} {ps : List Str} {sp : Sp} {E : XK}
theorem run_in2 {pins : List (Addr × Obj)} {σ : L2.St} {H : Hp} {s : Shared} {Q : VK} {us : List Value} {vs : List V} (F : FnOk X.prog X.w X.K X.mg X.base CX k f fd ps sp) (hr : Room (k + 2) X.A) (hb : Binds X.K fd ps []) (hx : Passes CX X E)
    (I : Inv X pins σ H s) (r : Vals vs us) (h : sp vs H Q E) : wpAny (model X.prog X.w) X.A.in1.in1 (call (.ref f) us) (EP X pins σ Q) X.xe s := by
  have hl : us.length = ps.length := by
    rw [← r.length]
    exact F.len _ _ _ _ h
  have bd := hb s us I.kIn (by simpa using hl)
  rw [List.append_nil] at bd
  refine wpAny_call (codeAny_mono (F.run X.A.in1.in1 X.stack s H ⟨us, []⟩ us vs Q E hr.in1.in1 I.env0.in1.in1 bd r h) fun q s' hq => ?_)
  match q, hq with
  | .error e, hq => exact hx pins σ H s e s' I hq
  | .ok (.ret u), hq => exact I.after hq
  | .ok .next, hq => exact hq.elim
  | .ok .brk, hq => exact hq.elim
  | .ok .cont, hq => exact hq.elim
/-- bool(o), bool(a truth value) -/
def rBoolO (C : Addr) (sp : Sp) (E : XK) : List V → Hp → VK → Prop := fun xs H Q => ∃ a dx fs, xs = [.ref a] ∧ H a = some (.ins C dx fs) ∧ sp [.ref a] H (fun r H' => ∃ b, r = .bl b ∧ Q (.bl b) H') E
def rBoolB : List V → Hp → VK → Prop := fun xs H Q => ∃ b, xs = [.bl b] ∧ Q (.bl b) H
theorem call_boolB : CallR X (.type "bool") rBoolB := fun pins s σ H xs us Q I r h => call_bool1 pins s σ H xs us Q I r (.inr h)
theorem call_boolO (hm : Meth X.K C "__bool__" f) (F : FnOk X.prog X.w X.K X.mg X.base CX k f fd ps sp) (hr : Room (k + 2) X.A) (hb : Binds X.K fd ps []) (hx : Passes CX X E) : CallR X (.type "bool") (rBoolO C sp E) := by
  intro pins s σ H xs us Q I r h
  obtain ⟨a, dx, fs, rfl, ha, h⟩ := h
  obtain ⟨u, rfl, ru⟩ := vals1 r
  cases (show u = Value.ref a from ru)
  obtain ⟨mA, O, _⟩ := ins_get I.hok ha
  obtain ⟨od, J, _⟩ := O.look
  obtain ⟨m, hF⟩ := I.fr
  refine callType_newIn PySem.F.called_bool PySem.F.newNe_bool (PySem.F.typeCall_bool_1 _) (PySem.F.newCall_bool_1 _) (fun obj => PySem.F.args_object_init_2 obj _) PySem.F.entry_bool_new (bool_new_own a) ?_
  refine PySem.W.truthy_K hF I.ok.mod.kin J hm.at_ hm.fn (wpAny_mono (run_in2 F hr hb hx I (show Vals [V.ref a] [Value.ref a] from .cons rfl .nil) h) (fun v s' hs => ?_) fun _ _ e => e)
  obtain ⟨z, H', I', rz, b, rfl, q⟩ := hs
  cases (show v = Value.bool b from rz)
  exact ⟨rfl, .bl b, H', I', rfl, q⟩
end
section
variable {X : Cx} {k j : Nat} {C : Addr} {ps : List Str} {sp : Sp}
theorem bool_G (g : MetG X.prog X.w X.K X.mg X.base CX0 C "__bool__" ps k sp) (hr : Room j X.A) (hk : k + 2 ≤ j) : CallR X (.type "bool") (rBoolO C sp E0) := by
  obtain ⟨f, fd, c, M, F, i, b⟩ := g
  exact call_boolO M F (hr.mono hk) b pass0
end
/-- x.endswith(y) -/
theorem ends_tx (a b : List Nat) : Txt.endswith (tx a) (tx b) = decide (b.length ≤ a.length ∧ a.drop (a.length - b.length) = b) := by
  unfold Txt.endswith Builtin.Str.subAt
  rw [tx_len, tx_len, Nat.zero_add, Bool.eq_iff_iff, Bool.and_eq_true, decide_eq_true_eq, beq_iff_eq, decide_eq_true_eq]
  refine and_congr_right fun h => ?_
  rw [← Array.toList_inj]
  have e : a.length - b.length + b.length = a.length := Nat.sub_add_cancel h
  simp [tx, List.extract_eq_take_drop, h]
  rw [List.take_of_length_le (by rw [List.length_drop]; exact Nat.le_refl _)]
def rEndX : V → List V → Hp → VK → Prop := fun x xs H Q => ∃ a b : List Nat, x = .str (tx a) ∧ xs = [.str (tx b)] ∧ Q (.bl (decide (b.length ≤ a.length ∧ a.drop (a.length - b.length) = b))) H
theorem mt_endX {X : Cx} : MtR X "str.endswith" rEndX := by
  intro pins s σ H x xs v us Q I rx rs h
  obtain ⟨a, b, rfl, rfl, q⟩ := h
  exact mt_endswith pins s σ H _ _ v us Q I rx rs ⟨_, _, rfl, rfl, by rw [ends_tx]; exact q⟩
theorem rd_endX {H : Hp} {Q : VK} {a b : List Nat} (q : Q (.bl (decide (b.length ≤ a.length ∧ a.drop (a.length - b.length) = b))) H) : rEndX (.str (tx a)) [.str (tx b)] H Q := ⟨a, b, rfl, rfl, q⟩
theorem rd_boolB {H : Hp} {Q : VK} {b : Bool} (q : Q (.bl b) H) : rBoolB [.bl b] H Q := ⟨b, rfl, q⟩
end Un

/-! UnBin: operators of instances of own classes: o op o, text + o, o op text, o op= o, ~o. -/
namespace Un
open PySem PySem.Spec PyProof.Rows L2
/-! ### what is asked of the class, one Bool -/
def binTB (K : PySem.W.Frag) (C : Addr) (nm T : String) : Bool :=
  (match PySem.W.findIn K (.ref C) (PySem.dunderR nm) with
    | some none => true
    | some (some (.ref _)) => true
    | _ => false) && ((PySem.W.findIn K (.type T) (PySem.dunder nm)).isSome && ((PySem.W.findIn K (.type T) (PySem.dunderR nm)).isSome && decide (PySem.W.subIn K (.type T) (.ref C) = some false)))
def leftTB (K : PySem.W.Frag) (nm T : String) : Bool :=
  match PySem.W.findIn K (.type T) (PySem.dunder nm), PySem.W.findIn K (.type T) (PySem.dunderR nm) with
    | some fo, some ro => !((fo.isSome && !isSeqSlot fo) || (ro.isSome && !isSeqSlot ro))
    | _, _ => false
def inpB (K : PySem.W.Frag) (C : Addr) (nm : String) : Bool :=
  (match PySem.W.clsIn K C with
    | some cd => decide (cd.mro = [.ref C, .type "object"])
    | none => false) && (decide (PySem.W.findIn K (.ref C) (PySem.dunderI nm) = some none) && decide (PySem.W.findIn K (.type "object") (PySem.dunderI nm) = some none))
def tyB (K : PySem.W.Frag) (C : Addr) : Bool :=
  decide (PySem.W.findIn K (.ref C) "__class__" = some (some (.builtin "object.__class__"))) && (decide (PySem.W.specialIn K (.builtin "object.__class__") "__get__" = some (some (.builtin "getset_descriptor.__get__"))) &&
  (decide (PySem.W.takesIn K (.builtin "object.__class__") = some true) && decide (PySem.W.mroIn K C (.type "object") = some true)))
def opsB (K : PySem.W.Frag) (C : Addr) : Bool := PySem.W.selfFirst K C && (tyB K C && (binTB K C "add" "str" && (binTB K C "floordiv" "str" && (leftTB K "add" "str" && (inpB K C "and" && (inpB K C "or" && (inpB K C "sub" && inpB K C "xor")))))))
structure OpsK (K : PySem.W.Frag) (C : Addr) : Prop where
  sf : PySem.W.selfFirst K C = true
  ty : tyB K C = true
  ad : binTB K C "add" "str" = true
  fd : binTB K C "floordiv" "str" = true
  la : leftTB K "add" "str" = true
  i1 : inpB K C "and" = true
  i2 : inpB K C "or" = true
  i3 : inpB K C "sub" = true
  i4 : inpB K C "xor" = true
theorem opsB_ok {K : PySem.W.Frag} {C : Addr} (b : opsB K C = true) : OpsK K C := by
  unfold opsB at b
  simp only [Bool.and_eq_true] at b
  obtain ⟨h1, h2, h3, h4, h5, h6, h7, h8, h9⟩ := b
  exact ⟨h1, h2, h3, h4, h5, h6, h7, h8, h9⟩
/-- instances of an own class are of this class -/
def OwnTy (K : PySem.W.Frag) (C : Addr) : Prop := ∀ (H : Hp) (a dx : Addr) (fs : List (Str × V)), H a = some (.ins C dx fs) → TyX K H (.ref a) (.ref C)
theorem own_ty {K : PySem.W.Frag} {C : Addr} (c : Cls K C) (b : tyB K C = true) : OwnTy K C := fun H a dx fs e => by
  unfold tyB at b
  simp only [Bool.and_eq_true, decide_eq_true_eq] at b
  exact .base (.ins e c b.1 b.2.1 b.2.2.1 b.2.2.2)
section
variable {prog : Program} {w : World} {A : Around} {E : Value → Shared → Prop} {s : Shared} {K : PySem.W.Frag} {x C f r : Addr} {ox : Obj} {od : Option Obj} {b : Value} {T nm : String}
theorem fillsT_K {h : Heap} {M : Model} (X : K.In h) (ht : leftTB K nm T = true) : PySem.W.Looks M h (fillsNumberSlot (.type T) nm) false := by
  unfold leftTB at ht
  split at ht
  · rename_i fo ro e1 e2
    have := PySem.W.ksp_fillsT (M := M) X e1 e2
    rwa [show ((fo.isSome && !isSeqSlot fo) || (ro.isSome && !isSeqSlot ro)) = false from by
      cases hz : ((fo.isSome && !isSeqSlot fo) || (ro.isSome && !isSeqSlot ro)) with
      | false => rfl
      | true => rw [hz] at ht; cases ht] at this
  · cases ht
theorem radd_K {op : Operator} {a : Value} {Q : Value → Shared → Prop} (X : K.In s.heap) (I : PySem.W.InstAt s.heap x ox C od) (ha : typeOf a = pure (.type T)) (hc : PySem.W.selfFirst K C = true)
    (hs : PySem.W.findIn K (.ref C) (PySem.dunder op.info.2) = some (some (.ref f))) (hr : PySem.W.findIn K (.ref C) (PySem.dunderR op.info.2) = some (some (.ref r))) (hf : PySem.W.isFn K (.ref r) = true) (ht : leftTB K op.info.2 T = true)
    (h : wpAny (model prog w) A (call (.ref r) [.ref x, a]) (PySem.W.CmpBack Q) E s) : wpAny (model prog w) A (binaryOp op a (.ref x)) Q E s := by
  obtain ⟨cd, rest, hcd, hm⟩ := PySem.W.ksp_first hc
  rcases hi : op.info with ⟨sym, nm'⟩
  rw [hi] at hs hr ht
  dsimp only at hs hr ht
  have one := PySem.W.ksp_try X I hr hf h
  obtain ⟨hh, g, d, tt, os⟩ := s
  have L1 : PySem.W.Looks (model prog w) hh (typeOf a) (.type T) := PySem.W.Looks.of_pure ha
  have L2 : PySem.W.Looks (model prog w) hh (typeOf (.ref x)) (.ref C) := I.type
  have L3 : PySem.W.Looks (model prog w) hh (fillsNumberSlot (.type T) nm') false := fillsT_K X ht
  have L4 : PySem.W.Looks (model prog w) hh (fillsNumberSlot (.ref C) nm') true := PySem.W.fills_K X hcd hm hs
  have hne : (Value.type T == Value.ref C) = false := Bool.eq_false_iff.mpr fun q => by cases beq_iff_eq.mp q
  simp only [binaryOp, hi]
  refine wpAny_holding (wpAny_bind ?_)
  unfold binaryOp1
  refine wpAny_bind (L1.at (wpAny_bind (L2.at (wpAny_bind (L3.at ?_)))))
  simp only [hne, Bool.false_eq_true, if_false]
  open PySem.W in ksp_lk
  refine wpAny_mono one (fun r s' hr' => ?_) fun _ _ e => e
  obtain ⟨v, rfl, hq⟩ := hr'
  open PySem.W in ksp_lk
  exact hq
theorem bin1_K {Q : Value → Shared → Prop} (X : K.In s.heap) (I : PySem.W.InstAt s.heap x ox C od) (hb : PySem.W.Looks (model prog w) s.heap (typeOf b) (.ref C)) (hc : PySem.W.selfFirst K C = true)
    (hs : PySem.W.findIn K (.ref C) (PySem.dunder nm) = some (some (.ref f))) (hf : PySem.W.isFn K (.ref f) = true)
    (h : wpAny (model prog w) A (call (.ref f) [.ref x, b]) (PySem.W.CmpBack Q) E s) : wpAny (model prog w) A (binaryOp1 nm (.ref x) b) (fun r s' => ∃ v, r = some v ∧ Q v s') E s := by
  obtain ⟨cd, rest, hcd, hm⟩ := PySem.W.ksp_first hc
  unfold binaryOp1
  refine wpAny_bind (I.type.here (wpAny_bind (hb.here (wpAny_bind ((PySem.W.fills_K X hcd hm hs).here ?_)))))
  simp only [beq_self_eq_true, if_true]
  refine wpAny_bind (wpAny_pure ?_)
  simp only [Bool.and_false, Bool.false_eq_true, if_false, Bool.false_and]
  refine wpAny_bind (wpAny_pure ?_)
  simp only [Bool.false_eq_true, if_false]
  refine wpAny_bind (m := tryMethod (.ref x) _ b) (wpAny_mono (PySem.W.ksp_try X I hs hf h) (fun q s' hq => ?_) fun _ _ e => e)
  obtain ⟨v, rfl, hq⟩ := hq
  exact wpAny_pure ⟨v, rfl, hq⟩
theorem inp_fills {M : Model} {h : Heap} {add : Bool} (X : K.In h) (hi : inpB K C nm = true) : PySem.W.Looks M h (fillsInplaceSlot (.ref C) nm add) false := by
  unfold inpB at hi
  simp only [Bool.and_eq_true, decide_eq_true_eq] at hi
  obtain ⟨hc, h1, h2⟩ := hi
  split at hc
  rotate_left
  · cases hc
  rename_i cd hcd
  have hm := of_decide_eq_true hc
  intro A Q E s k q
  have Lm : PySem.W.Looks M h (mroOf (.ref C)) cd.mro := (PySem.W.looks_clsIn X hcd).andThen (f := fun cd => pure cd.mro) .now
  have Lm' := Lm.keeps k
  obtain ⟨hh, g, d, tt, os⟩ := s
  have X' : K.In hh := X.keeps k
  have L1 : PySem.W.Looks M hh (typeLookup (.ref C) (PySem.dunderI nm)) none := PySem.W.looks_findIn X' h1
  have L2 : PySem.W.Looks M hh (typeLookup (.type "object") (PySem.dunderI nm)) none := PySem.W.looks_findIn X' h2
  unfold fillsInplaceSlot
  refine wpAny_bind (Lm'.at ?_)
  rw [hm, List.anyM_cons]
  refine wpAny_bind ?_
  open PySem.W in repeat lk
  exact q
theorem inp_K {op : Operator} {Q : Value → Shared → Prop} (X : K.In s.heap) (I : PySem.W.InstAt s.heap x ox C od) (hb : PySem.W.Looks (model prog w) s.heap (typeOf b) (.ref C)) (hc : PySem.W.selfFirst K C = true) (hi : inpB K C op.info.2 = true)
    (hs : PySem.W.findIn K (.ref C) (PySem.dunder op.info.2) = some (some (.ref f))) (hf : PySem.W.isFn K (.ref f) = true)
    (h : wpAny (model prog w) A (call (.ref f) [.ref x, b]) (PySem.W.CmpBack Q) E s) : wpAny (model prog w) A (inplaceOp op (.ref x) b) Q E s := by
  have one := bin1_K X I hb hc hs hf h
  obtain ⟨hh, g, d, tt, os⟩ := s
  have L1 : PySem.W.Looks (model prog w) hh (typeOf (.ref x)) (.ref C) := I.type
  have L2 : PySem.W.Looks (model prog w) hh (fillsInplaceSlot (.ref C) op.info.2 (op == .Add)) false := inp_fills X hi
  unfold inplaceOp
  refine wpAny_holding ?_
  refine wpAny_bind (L1.at (wpAny_bind (L2.at ?_)))
  simp only [Bool.false_eq_true, if_false]
  refine wpAny_bind (wpAny_mono one (fun q s' hq => ?_) fun _ _ e => e)
  obtain ⟨v, rfl, hq⟩ := hq
  exact wpAny_pure hq
end
section
variable {X : Cx} {CX : CXT} {k j : Nat} {C : Addr} {ps : List Str} {sp : Sp} {E : L2.St → XK}
theorem back_ok {pins : List (Addr × Obj)} {σ : L2.St} {Q : VK} {v : Value} {s' : Shared} (h : EP X pins σ Q v s') : PySem.W.CmpBack (EP X pins σ Q) v s' := by
  have h' := h
  obtain ⟨x, H', I', r, q⟩ := h'
  cases x <;> first
    | (cases r; exact h)
    | (obtain ⟨t, rfl⟩ := r; exact h)
theorem own_inst {pins : List (Addr × Obj)} {σ : L2.St} {H : Hp} {s : Shared} {a dx : Addr} {fs : List (Str × V)} (I : Inv X pins σ H s) (e : H a = some (.ins C dx fs)) : ∃ ox od, PySem.W.InstAt s.heap a ox C od := by
  obtain ⟨mA, O, _⟩ := ins_get I.hok e
  obtain ⟨od, J, _⟩ := O.look
  exact ⟨_, od, J⟩
/-- o op o -/
def rBinO (C : Addr) (sp : Sp) (E : XK) : R2 := fun x y H Q => ∃ a b dx fs dy gs, x = .ref a ∧ y = .ref b ∧ H a = some (.ins C dx fs) ∧ H b = some (.ins C dy gs) ∧ sp [.ref a, .ref b] H Q E
/-- o op text -/
def rBinT (C : Addr) (sp : Sp) (E : XK) : R2 := fun x y H Q => ∃ a z dx fs, x = .ref a ∧ y = .str z ∧ H a = some (.ins C dx fs) ∧ sp [.ref a, .str z] H Q E
/-- text + o -/
def rBinR (C : Addr) (sp : Sp) (E : XK) : R2 := fun x y H Q => ∃ a z dx fs, x = .str z ∧ y = .ref a ∧ H a = some (.ins C dx fs) ∧ sp [.ref a, .str z] H Q E
theorem op_binO {op : Operator} {m : Str} (hS : PySem.W.selfFirst X.K C = true) (g : MetG X.prog X.w X.K X.mg X.base CX0 C m ps k sp) (hr : Room j X.A) (hk : k ≤ j) (hm : PySem.dunder op.info.2 = m := by decide +kernel) : OpR X (binaryOp op) (rBinO C sp E0) := by
  obtain ⟨f, fd, c, M, F, i, b⟩ := g
  intro pins s σ H x y v u Q I rx ry h
  obtain ⟨a, b', dx, fs, dy, gs, rfl, rfl, ha, hb, h⟩ := h
  cases (show v = Value.ref a from rx)
  cases (show u = Value.ref b' from ry)
  obtain ⟨ox, od, J⟩ := own_inst I ha
  obtain ⟨oy, oe, J2⟩ := own_inst I hb
  obtain ⟨m0, hF⟩ := I.fr
  subst hm
  exact PySem.W.binop_K hF I.ok.mod.kin J J2.type hS M.at_ M.fn (wpAny_mono (run_own F (hr.mono hk) b pass0 I (show Vals [V.ref a, V.ref b'] [Value.ref a, Value.ref b'] from .cons rfl (.cons rfl .nil)) h) (fun r s' hs => back_ok hs) fun _ _ e => e)
theorem ip_binO {op : Operator} {m : Str} (hS : PySem.W.selfFirst X.K C = true) (hi : inpB X.K C op.info.2 = true) (g : MetG X.prog X.w X.K X.mg X.base CX0 C m ps k sp) (hr : Room j X.A) (hk : k ≤ j) (hm : PySem.dunder op.info.2 = m := by decide +kernel) : PIp X op (rBinO C sp E0) := by
  obtain ⟨f, fd, c, M, F, i, b⟩ := g
  intro pins s σ H x y v u Q I rx ry h
  obtain ⟨a, b', dx, fs, dy, gs, rfl, rfl, ha, hb, h⟩ := h
  cases (show v = Value.ref a from rx)
  cases (show u = Value.ref b' from ry)
  obtain ⟨ox, od, J⟩ := own_inst I ha
  obtain ⟨oy, oe, J2⟩ := own_inst I hb
  subst hm
  exact inp_K I.kIn J J2.type hS hi M.at_ M.fn (wpAny_mono (run_own F (hr.mono hk) b pass0 I (show Vals [V.ref a, V.ref b'] [Value.ref a, Value.ref b'] from .cons rfl (.cons rfl .nil)) h) (fun r s' hs => back_ok hs) fun _ _ e => e)
/-- ~o -/
def rInvO (C : Addr) (sp : Sp) : V → Hp → VK → Prop := fun x H Q => ∃ a dx fs, x = .ref a ∧ H a = some (.ins C dx fs) ∧ sp [.ref a] H Q E0
theorem un_invO (g : MetG X.prog X.w X.K X.mg X.base CX0 C "__invert__" ps k sp) (hr : Room j X.A) (hk : k ≤ j) : UnR X (unaryOp .Invert) (rInvO C sp) := by
  obtain ⟨f, fd, c, M, F, i, b⟩ := g
  intro pins s σ H x v Q I rx h
  obtain ⟨a, dx, fs, rfl, ha, h⟩ := h
  cases (show v = Value.ref a from rx)
  obtain ⟨ox, od, J⟩ := own_inst I ha
  obtain ⟨m0, hF⟩ := I.fr
  exact PySem.W.ksp_inv hF I.ok.mod.kin J M.at_ M.fn (run_own F (hr.mono hk) b pass0 I (show Vals [V.ref a] [Value.ref a] from .cons rfl .nil) h)
/-! ### with a text, which may be refused -/
def tBinS (r : XK → R2) (E : L2.St → XK) (ta tb : TE) : TE := fun σ H Q => ta σ H fun x H1 => tb σ H1 fun y H2 => r (E σ) x y H2 Q
theorem pe_binT {op : Operator} {m : Str} {a b : Expr} {ta tb : TE} {pos : Pos} (hS : PySem.W.selfFirst X.K C = true) (hB : binTB X.K C op.info.2 "str" = true) (g : MetG X.prog X.w X.K X.mg X.base CX C m ps k sp) (hr : Room j X.A) (hk : k ≤ j) (hx : ∀ σ, PassesAt CX X σ (E σ)) (pa : PE X a ta) (pb : PE X b tb)
    (hm : PySem.dunder op.info.2 = m := by decide +kernel) : PE X (.BinOp a op b pos) (tBinS (rBinT C sp) E ta tb) := by
  obtain ⟨f, fd, c, M, F, i, bd⟩ := g
  refine ⟨fun pins s σ H Q I h => wpAny_BinOp (binT pa pb I h fun v u s2 x y H2 I2 rx ry q => ?_)⟩
  obtain ⟨a, z, dx, fs, rfl, rfl, ha, q⟩ := q
  cases (show v = Value.ref a from rx)
  obtain ⟨t, rfl⟩ := (show ∃ t, u = Value.str z t from ry)
  obtain ⟨ox, od, J⟩ := own_inst I2 ha
  obtain ⟨m0, hF⟩ := I2.fr
  subst hm
  unfold binTB at hB
  simp only [Bool.and_eq_true, decide_eq_true_eq] at hB
  obtain ⟨h1, h2, h3, h4⟩ := hB
  obtain ⟨fo, e2⟩ := Option.isSome_iff_exists.mp h2
  obtain ⟨ro, e3⟩ := Option.isSome_iff_exists.mp h3
  have h1' : ∃ rc, PySem.W.findIn X.K (.ref C) (PySem.dunderR op.info.2) = some rc ∧ (rc = none ∨ ∃ g : Addr, rc = some (.ref g)) := by
    split at h1
    · rename_i e
      exact ⟨none, e, .inl rfl⟩
    · rename_i g e
      exact ⟨_, e, .inr ⟨g, rfl⟩⟩
    · cases h1
  obtain ⟨rc, er, hp⟩ := h1'
  exact PySem.W.ksp_binT (b := .str z t) (T := "str") hF I2.ok.mod.kin J rfl hS M.at_ M.fn er hp e2 e3 h4 (wpAny_mono (run_fnS F (hr.mono hk) bd (hx σ) I2 (show Vals [V.ref a, V.str z] [Value.ref a, Value.str z t] from .cons rfl (.cons ⟨t, rfl⟩ .nil)) q) (fun r s' hs => back_ok hs) fun _ _ e => e)
theorem pe_binR {op : Operator} {m m2 : Str} {a b : Expr} {ta tb : TE} {pos : Pos} {CX2 : CXT} {k2 : Nat} {ps2 : List Str} {sp2 : Sp} (hS : PySem.W.selfFirst X.K C = true) (hL : leftTB X.K op.info.2 "str" = true) (g : MetG X.prog X.w X.K X.mg X.base CX C m ps k sp) (g2 : MetG X.prog X.w X.K X.mg X.base CX2 C m2 ps2 k2 sp2) (hr : Room j X.A) (hk : k ≤ j) (hx : ∀ σ, PassesAt CX X σ (E σ)) (pa : PE X a ta) (pb : PE X b tb)
    (hm : PySem.dunderR op.info.2 = m := by decide +kernel) (hm2 : PySem.dunder op.info.2 = m2 := by decide +kernel) : PE X (.BinOp a op b pos) (tBinS (rBinR C sp) E ta tb) := by
  obtain ⟨f, fd, c, M, F, i, bd⟩ := g
  obtain ⟨f2, fd2, c2, M2, _, _, _⟩ := g2
  refine ⟨fun pins s σ H Q I h => wpAny_BinOp (binT pa pb I h fun v u s2 x y H2 I2 rx ry q => ?_)⟩
  obtain ⟨a, z, dx, fs, rfl, rfl, ha, q⟩ := q
  cases (show u = Value.ref a from ry)
  obtain ⟨t, rfl⟩ := (show ∃ t, v = Value.str z t from rx)
  obtain ⟨ox, od, J⟩ := own_inst I2 ha
  subst hm hm2
  exact radd_K (T := "str") I2.kIn J rfl hS M2.at_ M.at_ M.fn hL (wpAny_mono (run_fnS F (hr.mono hk) bd (hx σ) I2 (show Vals [V.ref a, V.str z] [Value.ref a, Value.str z t] from .cons rfl (.cons ⟨t, rfl⟩ .nil)) q) (fun r s' hs => back_ok hs) fun _ _ e => e)
end
theorem rd_binS {r : XK → R2} {E : L2.St → XK} {ta tb : TE} {σ : L2.St} {H : Hp} {Q : VK} (h : ta σ H fun x H1 => tb σ H1 fun y H2 => r (E σ) x y H2 Q) : tBinS r E ta tb σ H Q := h
end Un

/-! UnCmp: orders of two instances of an own class, and their operators, where the method may raise. -/
namespace Un
open PySem PySem.Spec PyProof.Rows L2
section
variable {X : Cx} {CX : CXT} {k j : Nat} {C : Addr} {ps : List Str} {sp : Sp} {E : L2.St → XK}
theorem pe_binOX {op : Operator} {m : Str} {a b : Expr} {ta tb : TE} {pos : Pos} (hS : PySem.W.selfFirst X.K C = true) (g : MetG X.prog X.w X.K X.mg X.base CX C m ps k sp) (hr : Room j X.A) (hk : k ≤ j) (hx : ∀ σ, PassesAt CX X σ (E σ)) (pa : PE X a ta) (pb : PE X b tb)
    (hm : PySem.dunder op.info.2 = m := by decide +kernel) : PE X (.BinOp a op b pos) (tBinS (rBinO C sp) E ta tb) := by
  obtain ⟨f, fd, c, M, F, i, bd⟩ := g
  refine ⟨fun pins s σ H Q I h => wpAny_BinOp (binT pa pb I h fun v u s2 x y H2 I2 rx ry q => ?_)⟩
  obtain ⟨a, b', dx, fs, dy, gs, rfl, rfl, ha, hb, q⟩ := q
  cases (show v = Value.ref a from rx)
  cases (show u = Value.ref b' from ry)
  obtain ⟨ox, od, J⟩ := own_inst I2 ha
  obtain ⟨oy, oe, J2⟩ := own_inst I2 hb
  obtain ⟨m0, hF⟩ := I2.fr
  subst hm
  exact PySem.W.binop_K hF I2.ok.mod.kin J J2.type hS M.at_ M.fn (wpAny_mono (run_fnS F (hr.mono hk) bd (hx σ) I2 (show Vals [V.ref a, V.ref b'] [Value.ref a, Value.ref b'] from .cons rfl (.cons rfl .nil)) q) (fun r s' hs => back_ok hs) fun _ _ e => e)
theorem cmp_run {pins : List (Addr × Obj)} {σ : L2.St} {op : CmpOp} {m : Str} {T : V → Hp → Prop} (hT : Right X C T) (g : MetG X.prog X.w X.K X.mg X.base CX C m ps k sp) (hr : Room j X.A) (hk : k ≤ j) (hx : PassesAt CX X σ (E σ))
    {s : Shared} {H : Hp} {x y : V} {v u : Value} {Q : VK} (I : Inv X pins σ H s) (rx : RelV x v) (ry : RelV y u) (h : rEqO C sp (E σ) T x y H Q) (hm : (PySem.cmpInfo op).2.1 = m) : wpAny (model X.prog X.w) X.A (richCompare op v u) (EP X pins σ Q) X.xe s := by
  obtain ⟨f, fd, c, M, F, i, bd⟩ := g
  obtain ⟨a, dx, fs, rfl, ha, ht, h⟩ := h
  cases (show v = Value.ref a from rx)
  obtain ⟨mA, O, _⟩ := ins_get I.hok ha
  obtain ⟨od, J, _⟩ := O.look
  obtain ⟨m', hF⟩ := I.fr
  obtain ⟨t, hL, hn⟩ := hT pins σ H s y u I ry ht
  subst hm
  refine PySem.W.cmp_K (op := op) hr.units0 hF I.ok.mod.kin J hL hn M.at_ M.fn (wpAny_mono (run_fnS F (hr.mono hk) bd hx I (show Vals [V.ref a, y] [Value.ref a, u] from .cons rfl (.cons ry .nil)) h) (fun r s' hs => ?_) fun _ _ e => e)
  obtain ⟨z, H', I', rz, b, rfl, q⟩ := hs
  cases (show r = Value.bool b from rz)
  exact ⟨.bl b, H', I', rfl, q⟩
theorem pe_cmpX {op : CmpOp} {m : Str} {T : V → Hp → Prop} {a b : Expr} {ta tb : TE} {pos : Pos} (hT : Right X C T) (g : MetG X.prog X.w X.K X.mg X.base CX C m ps k sp) (hr : Room j X.A) (hk : k ≤ j) (hx : ∀ σ, PassesAt CX X σ (E σ)) (pa : PE X a ta) (pb : PE X b tb) (hn : behindInMarks op b = false)
    (hm : (PySem.cmpInfo op).2.1 = m := by decide +kernel) (hc : compareOp op = richCompare op := by rfl) : PE X (.Compare a [op] [b] pos) (tBinS (fun E => rEqO C sp E T) E ta tb) :=
  ⟨fun pins s σ H Q I h => wpAny_Compare1 (binT pa pb I h fun v u s2 x y H2 I2 rx ry q => by rw [hc]; exact cmp_run hT g hr hk (hx σ) I2 rx ry q hm) hn⟩
theorem pt_cmpX {op : CmpOp} {m : Str} {T : V → Hp → Prop} {a b : Expr} {ta tb : TE} {pos : Pos} (hT : Right X C T) (g : MetG X.prog X.w X.K X.mg X.base CX C m ps k sp) (hr : Room j X.A) (hk : k ≤ j) (hx : ∀ σ, PassesAt CX X σ (E σ)) (pa : PE X a ta) (pb : PE X b tb) (hn : behindInMarks op b = false)
    (hm : (PySem.cmpInfo op).2.1 = m := by decide +kernel) (hc : compareOp op = richCompare op := by rfl) : PT X (.Compare a [op] [b] pos) (tTest (tBinS (fun E => rEqO C sp E T) E ta tb)) :=
  ⟨fun pins s σ H Q I h => wpAny_isTrue_Compare1 (binT pa pb I h fun v u s2 x y H2 I2 rx ry q => by
    rw [hc]
    refine wpAny_mono (cmp_run hT g hr hk (hx σ) I2 rx ry q hm) (fun r s' hs => ?_) fun _ _ e => e
    obtain ⟨z, H', I', rz, b, rfl, q⟩ := hs
    cases (show r = Value.bool b from rz)
    exact wpAny_truthy_bool ⟨H', I', q⟩) hn⟩
theorem op_cmpO {op : CmpOp} {m : Str} {T : V → Hp → Prop} (hT : Right X C T) (g : MetG X.prog X.w X.K X.mg X.base CX0 C m ps k sp) (hr : Room j X.A) (hk : k ≤ j)
    (hm : (PySem.cmpInfo op).2.1 = m := by decide +kernel) (hc : compareOp op = richCompare op := by rfl) : OpR X (compareOp op) (rEqO C sp E0 T) := by
  intro pins s σ H x y v u Q I rx ry h
  rw [hc]
  exact cmp_run (E := fun _ => E0) hT g hr hk (fun pins H s e s' I h => pass0 pins σ H s e s' I h) I rx ry h hm
end
end Un

/-! UnGS: classmethods, cls(..), orders and != of own instances, repr == repr, with tokens. -/
namespace GT
open PySem PySem.Spec PyProof.Rows L2 Un
section
variable {T : TK} {X : Cx} {K : PySem.W.Frag}
theorem ix_tupK (h : X.K = K) : IxR T X (rIxT K) := by
  subst h
  exact ix_tup
theorem ix_listK (h : X.K = K) : IxR T X (rIxL K) := by
  subst h
  exact ix_list
theorem op_in_seqK (h : X.K = K) : OpR T X (compareOp .In) (rIn K false) := by
  subst h
  exact op_in_seq
end
/-! ### classmethods -/
def CmG (T : TK) (P : Program) (w : World) (K : PySem.W.Frag) (mg : Str → Option Value) (base : Heap) (C : Addr) (m : Str) (k : Nat) (sp : Sp) : Prop :=
  ∃ (p g : Addr) (fd : FuncData) (ps : List Str) (ds : List Value) (dvs : List V) (sf : Sp), ClX.CRead K C (.type "type") ∧ ClX.CMet K C (.type "type") m p g ∧ FnT noG T P w K mg base k g fd ps sf ∧ Binds K fd ps ds ∧ Vals dvs ds ∧ Gvs T T.n ds ∧ ∀ vs H Q E, sp vs H Q E → sf (vs ++ dvs) H Q E
section
variable {T : TK} {P : Program} {w : World} {K : PySem.W.Frag} {mg : Str → Option Value} {base : Heap} {C : Addr} {m qual : Str} {st : Stmt} {ps : List Str} {k : Nat} {sp : Sp}
theorem cmG_ofD {d : V} (a : AtCm K C m qual st [d]) (n j : Nat) (hn : n + (1 - j) = ps.length) (nv : ([d].drop j).all noV = true)
    (hb : ∀ (T : Addr) (kV doc pm : Value) (an : Option Addr) (cdv ct : Value) (us its : List Value), us.length = n → its.length = 1 →
      ∃ kk, bindArgs (PySem.W.fnOf m qual (defArgs st) (defBody st) (defScope st) (.ref T) kV doc pm an cdv ct) ⟨us, []⟩ = seqItems? (.ref T) >>= kk ∧ kk (some its.toArray) = pure (ps.zip (us ++ its.drop j)))
    (h : ∀ f fd, FunD K m qual (defArgs st) (defBody st) (defScope st) [d] [] f fd → FnT noG T P w K mg base k f fd ps sp) : CmG T P w K mg base C m k fun vs H Q E => sp (vs ++ [d].drop j) H Q E := by
  obtain ⟨p, g, fd, F, r, c⟩ := a
  obtain ⟨ds, v, b⟩ := F.binds1 (ps := ps) n j (by simp) hn hb
  exact ⟨p, g, fd, ps, ds, [d].drop j, sp, r, c, h g fd F, b, v, noV_all nv v, fun _ _ _ _ q => q⟩
end
section
variable {T : TK} {X : Cx} {k j i : Nat} {C : Addr} {sp : Sp} {dvs : List V} {o e : Expr} {es : List Expr} {m x nm : Str} {p pos apos : Pos} {ta : TE} {t : TA} {pl : Sem Bool}
theorem pe_cmS {EE : L2.St → XK} (c : CmG T X.prog X.w X.K X.mg X.base C m k sp) (hr : Room j X.A) (hk : k ≤ j) (hE : EE = fun _ => E0) (he : PE T X o ta) (ha : PA T X (e :: es) t)
    (hst : starEach (e :: es) X.env = (false, eval e X.env) :: starEach es X.env := by rfl) (hpl : (backTo pos (starEach es X.env)).any (·.1) = false := by rfl)
    (ht : eval (.Call (.Attribute o m apos) (e :: es) [] pos) X.env = (do let ov ← eval o X.env; standAt apos.atName; let (f, first) ← holding [ov] (getMethod ov m pl); callWith pos f first (backTo pos (starEach (e :: es) X.env)) (backToKw pos (keywordEach [] X.env))) := by rfl) :
    PE T X (.Call (.Attribute o m apos) (e :: es) [] pos) (tCmS C sp EE ta t) := by
  obtain ⟨p, g, fd, ps, ds, dvs, sf, r, c, F, b, d, gd, imp⟩ := c
  subst hE
  refine ⟨fun pins s σ H Q I h => PySem.W.methodCall_KW (pl := pl) (thn (he.run pins s σ H _ I h) fun u s1 ⟨x, H1, I1, rx, _, ex, q⟩ => ?_) ht⟩
  subst ex
  obtain rfl : u = Value.ref C := rx
  have I2 : Inv T X ((s1.heap.objs.size, PySem.W.methodObj (.ref g) (.ref C)) :: pins) σ H1 { s1 with heap := s1.heap.push (PySem.W.methodObj (.ref g) (.ref C)), toks := s1.toks + 1 } :=
    (I1.kept (t' := s1.toks + 1) (fun b u e => Heap.get?_push_of_some _ e) (Nat.le_succ _)).pins_of (ClX.met_new I1.i)
  obtain ⟨rest, hp⟩ := id c.rc
  refine PySem.W.method_cls I1.i.kIn r.ga (PySem.W.cls_bind I1.i.kIn r.rd c.at_ (wpAny_call (PySem.W.cm_get (s := { s1 with toks := s1.toks + 1 }) I1.i.kIn hp (PySem.W.handed_on rfl ?_))))
  refine ClX.callwith_cm I2.i (ClX.base_none I1.i (Nat.le_refl _)) c.fi (thn (ha.run pos _ _ σ H1 _ I2 q) fun us s3 ⟨vs, H2, I3, rv, gv, q2⟩ => ⟨⟨ClX.pin_at I3.i, I3.i.kIn⟩, ?_⟩) hst hpl
  have q3 := imp _ _ _ _ q2
  have r2 : Vals ((V.ref C :: vs) ++ dvs) ((Value.ref C :: us) ++ ds) := (show Vals (V.ref C :: vs) (Value.ref C :: us) from .cons rfl rv).append d
  have n : ((Value.ref C :: us) ++ ds).length = ps.length := by rw [← r2.length]; exact F.len _ _ _ _ q3
  refine wpAny_call (PySem.W.method_call (ClX.pin_at I3.i) (codeAny_mono (F.run X.A X.stack s3 H2 ⟨Value.ref C :: us, []⟩ _ _ Q E0 trivial (hr.mono hk) I3.env0 (b s3 (Value.ref C :: us) I3.i.kIn n) r2 ((Gvs.cons (show Gv T s3.toks (Value.ref C) from trivial) gv).app (gd.up I3.t)) q3) fun res s' hq => ?_))
  match res, hq with
  | .error e, hq => exact (show False from hq).elim
  | .ok (.ret u), hq =>
    obtain ⟨v, H', I', rr, gg, qq⟩ := I3.after hq
    exact ⟨v, H', I'.pins_of (ClX.unpin I'.i), rr, gg, qq⟩
  | .ok .next, hq => exact (show False from hq).elim
  | .ok .brk, hq => exact (show False from hq).elim
  | .ok .cont, hq => exact (show False from hq).elim
/-- cls(e, ..), the class in a slot -/
theorem pe_mkL (g : Mak noG T X.prog X.w X.K X.mg X.base nm C k sp dvs) (hr : Room j X.A) (hk : k + 1 ≤ j) (hN : X.N[i]? = some x) (hv : Vis X.env.scope x) (ha : PA T X (e :: es) t)
    (hdb : (x == ("__debug__" : Str)) = false := by decide) (hcd : (x == ("__classdict__" : Str)) = false := by decide)
    (he : starEach (e :: es) X.env = (false, eval e X.env) :: starEach es X.env := by rfl) (hpl : (backTo pos (starEach es X.env)).any (·.1) = false := by rfl) : PE T X (.Call (.Name x p) (e :: es) [] pos) (tMakeL i C sp dvs E0 t) := by
  obtain ⟨f, fd, ps, ds, M, F, hm, b, d, gd⟩ := g
  refine ⟨fun pins s σ H Q I h => ?_⟩
  obtain ⟨hs, h⟩ := h
  refine wpAny_Call_Name_kw (thn ((pe_var (pos := p) hN hv hdb hcd).run pins s σ H (fun v H1 => v = .ref C ∧ H1 = H) I ⟨.ref C, hs, rfl, rfl⟩) fun u s1 ⟨v, H1, I0, r1, _, ev, eH⟩ => ?_)
  subst ev eH
  cases r1
  refine PySem.W.callWith_K (h₀ := X.base) I0.i.ok.mod.kin M.kp (thn (ha.run pos pins s1 σ _ _ I0 h) fun us s2 ⟨vs, H2, I1, r, gv, q1⟩ => ⟨I1.i.kIn, ?_⟩) he hpl
  have room := hr.mono hk
  have hq := q1 (s2.heap.objs.size + 1) s2.heap.objs.size (I1.i.hok.fresh (Nat.le_succ _)) (I1.i.hok.fresh (Nat.le_refl _)) (Nat.ne_of_lt (Nat.lt_succ_self _))
  have I2 := Inv.made (C := C) I1
  have r2 : Vals (V.ref (s2.heap.objs.size + 1) :: (vs ++ dvs)) (Value.ref (s2.heap.objs.size + 1) :: (us ++ ds)) := .cons rfl (r.append d)
  have n : (Value.ref (s2.heap.objs.size + 1) :: us ++ ds).length = ps.length := (r2.length.symm.trans (F.len _ _ _ _ hq))
  have e2 : Env0 T X.prog X.w X.K X.mg X.base (X.A.under (.builtin "type.__call__" ⟨.ref C :: us, []⟩)) X.stack _ _ := ⟨I2.i.env0.make C us [], I2.t, I2.h, I2.k⟩
  refine wpAny_call (make_map (f := f) I1.i.kIn M.makes M.init (beq_iff_eq.mp M.fn) (codeAny_mono (F.run _ X.stack _ _ ⟨Value.ref (s2.heap.objs.size + 1) :: us, []⟩ (Value.ref (s2.heap.objs.size + 1) :: (us ++ ds)) _ _ E0 trivial (room.make C us [])
    e2 (b _ (Value.ref (s2.heap.objs.size + 1) :: us) I2.i.kIn n) r2 (Gvs.cons trivial (gv.app (gd.up I1.t))) hq) fun res s' hres => ?_))
  match res, hres with
  | .error e, hres => exact (show False from hres).elim
  | .ok (.ret u), hres =>
    obtain ⟨v, H', I3, rv, _, ev, q3⟩ := I2.after hres
    subst ev
    exact ⟨rv, ⟨V.ref (s2.heap.objs.size + 1), H', I3, rfl, trivial, q3⟩⟩
  | .ok .next, hres => exact (show False from hres).elim
  | .ok .brk, hres => exact (show False from hres).elim
  | .ok .cont, hres => exact (show False from hres).elim
end
/-! ### <= and != of own instances -/
section
variable {T : TK} {X : Cx} {k j : Nat} {C : Addr} {ps : List Str} {sp : Sp}
theorem op_cmpO {op : CmpOp} {m : Str} {R : V → Hp → Prop} (hT : Right X C R) (g : MetG T X.prog X.w X.K X.mg X.base C m ps k sp) (hr : Room j X.A) (hk : k ≤ j)
    (hm : (PySem.cmpInfo op).2.1 = m := by decide +kernel) (hc : compareOp op = richCompare op := by rfl) : OpR T X (compareOp op) (rEqO C sp E0 R) := by
  obtain ⟨f, fd, c, M, F, i, b⟩ := g
  rintro pins s σ H x y v u Q I rx ry _ gy ⟨a, dx, fs, rfl, ha, ht, h⟩
  cases (show v = Value.ref a from rx)
  obtain ⟨mA, O, _⟩ := ins_get I.i.hok ha
  obtain ⟨od, J, _⟩ := O.look
  obtain ⟨m', hF⟩ := I.i.fr
  obtain ⟨t, hL, hn⟩ := hT pins σ H s y u I.i ry ht
  subst hm
  rw [hc]
  refine PySem.W.cmp_K (op := op) hr.units0 hF I.i.ok.mod.kin J hL hn M.at_ M.fn (wpAny_mono (run_own F (hr.mono hk) b I (show Vals [V.ref a, y] [Value.ref a, u] from .cons rfl (.cons ry .nil)) (.cons trivial (.cons gy .nil)) h) (fun r s' hs => ?_) fun _ _ e => e)
  obtain ⟨z, H', I', rz, _, b, rfl, q⟩ := hs
  cases (show r = Value.bool b from rz)
  exact ⟨.bl b, H', I', rfl, trivial, q⟩
theorem ne_G {R : V → Hp → Prop} (hT : Right X C R) (hN : NeK X.K C) (g : MetG T X.prog X.w X.K X.mg X.base C "__eq__" ps k sp) (hr : Room j X.A) (hk : k + 1 ≤ j) : OpR T X (compareOp .NotEq) (rNeO C sp E0 R) := by
  obtain ⟨f, fd, c, M, F, i, b⟩ := g
  rintro pins s σ H x y v u Q I rx ry _ gy ⟨a, dx, fs, rfl, ha, ht, h⟩
  cases (show v = Value.ref a from rx)
  obtain ⟨mA, O, _⟩ := ins_get I.i.hok ha
  obtain ⟨od, J, _⟩ := O.look
  obtain ⟨t, hL, hn⟩ := hT pins σ H s y u I.i ry ht
  have hu : X.A.units + 1 < cLine := by have := hr.units; omega
  unfold compareOp
  refine ne_K hu I.i.kIn J hL hn M.at_ M.fn hN.ne hN.mr (wpAny_mono (run_in1 F (hr.mono hk) b I (show Vals [V.ref a, y] [Value.ref a, u] from .cons rfl (.cons ry .nil)) (.cons trivial (.cons gy .nil)) h) (fun r s' hs => ?_) fun _ _ e => e)
  obtain ⟨z, H', I', rz, _, b, rfl, q⟩ := hs
  cases (show r = Value.bool b from rz)
  exact ⟨b, rfl, .bl (!b), H', I', rfl, trivial, q⟩
end
/-! ### repr(..) == repr(..) as a value -/
def rEqS : R2 := fun x y H Q => ∃ a b : Str, x = .str a ∧ y = .str b ∧ Q (.bl (decide (a = b))) H
section
variable {T : TK} {X : Cx} {a b : Expr} {ta tb : TE} {pos : Pos}
theorem pe_reprEq (ha : PEW T X a ta) (hb : PEW T X b tb) (hm : behindInMarks .Eq b = false) : PE T X (.Compare a [.Eq] [b] pos) (tOp rEqS ta tb) := by
  refine ⟨fun pins s σ H Q I q => wpAny_Compare1 (thn (ha.run pins s σ H _ I q) fun v s1 ⟨x, H1, I1, rx, q1⟩ => thn (hb.run pins s1 σ H1 _ I1 q1) fun u s2 ⟨y, H2, I2, ry, q2⟩ => ?_) hm⟩
  obtain ⟨p, q, rfl, rfl, q3⟩ := q2
  obtain ⟨_, rfl⟩ := rx
  obtain ⟨_, rfl⟩ := ry
  exact eq_str (fin_bl I2 q3 (by rw [Bool.eq_iff_iff, decide_eq_true_eq, beq_iff_eq]))
end
theorem rd_reqS {a b : Str} {H : Hp} {Q : VK} (q : Q (.bl (decide (a = b))) H) : rEqS (.str a) (.str b) H Q := ⟨a, b, rfl, rfl, q⟩
end GT

set_option maxHeartbeats 4000000
/-! UnGX: defs that may raise, with tokens. -/
namespace GT
open PySem PySem.Spec PyProof.Rows L2 Un
def CRx (T : TK) (outer : List Env) (P : Program) (w : World) (H : Hp) (s : Shared) (Q : VK) (E : XK) (r : Result) (s' : Shared) : Prop :=
  match r with
  | .ok (.ret u) => CE T outer P w H s Q u s'
  | .error e => CX T P w outer H s E e s'
  | _ => False
structure FnX (gA : Around → Prop) (T : TK) (P : Program) (w : World) (K : PySem.W.Frag) (mg : Str → Option Value) (base : Heap) (k : Nat) (f : Addr) (fd : FuncData) (ps : List Str) (sp : Sp) : Prop where
  len : ∀ vs H Q E, sp vs H Q E → vs.length = ps.length
  run : ∀ (A : Around) (outer : List Env) (s : Shared) (H : Hp) (args : Args) (us : List Value) (vs : List V) (Q : VK) (E : XK), gA A → Room k A → Env0 T P w K mg base A outer s H → BindsTo s fd args (ps.zip us) → Vals vs us → Gvs T s.toks us → sp vs H Q E →
    codeAny (model P w) A (.call (.ref f) args) (CRx T outer P w H s Q E) s
section
variable {gA : Around → Prop} {T : TK} {P : Program} {w : World} {K : PySem.W.Frag} {mg : Str → Option Value} {base : Heap}
theorem FnX.of {k : Nat} {f : Addr} {fd : FuncData} {ps : List Str} {sp : Sp} (F : FnT gA T P w K mg base k f fd ps sp) : FnX gA T P w K mg base k f fd ps sp :=
  ⟨F.len, fun A outer s H args us vs Q E ga hr e0 hb r g h => codeAny_mono (F.run A outer s H args us vs Q E ga hr e0 hb r g h) fun r s' q => match r, q with
    | .ok (.ret u), q => q
    | .error e, q => (show False from q).elim
    | .ok .next, q => (show False from q).elim
    | .ok .brk, q => (show False from q).elim
    | .ok .cont, q => (show False from q).elim⟩
theorem FnX.mono {j k : Nat} {f : Addr} {fd : FuncData} {ps : List Str} {sp : Sp} (F : FnX gA T P w K mg base j f fd ps sp) (h : j ≤ k) : FnX gA T P w K mg base k f fd ps sp := ⟨F.len, fun A outer s H args us vs Q E ga hr => F.run A outer s H args us vs Q E ga (hr.mono h)⟩
theorem FnX.imp {k : Nat} {f : Addr} {fd : FuncData} {ps : List Str} {sp sp' : Sp} (F : FnX gA T P w K mg base k f fd ps sp) (h : ∀ vs H Q E, sp' vs H Q E → sp vs H Q E) : FnX gA T P w K mg base k f fd ps sp' :=
  ⟨fun vs H Q E q => F.len vs H Q E (h _ _ _ _ q), fun A outer s H args us vs Q E ga hr he hb hv g hs => F.run A outer s H args us vs Q E ga hr he hb hv g (h _ _ _ _ hs)⟩
/-- a def by its body -/
theorem okDX {nm qual : Str} {params : Arguments} {body : List Stmt} {scope : Scope} {dvs : List V} {kws : List (Str × V)} {f : Addr} {fd : FuncData} {N ps : List Str} {k : Nat} {sp : Sp} (F : FunD K nm qual params body scope dvs kws f fd) (S : FnScope N ps scope) (hlen : ∀ vs H Q E, sp vs H Q E → vs.length = ps.length)
    (hb : ∀ (cdv : Value) (A : Around) (outer : List Env) (s : Shared) (H : Hp) (vs : List V) (Q : VK) (E : XK), gA A → Room k (A.deeper (envOfC qual scope s.heap.objs.size f cdv)) → sp vs H Q E →
      ∃ t, PSs T (cxOf (CX T P w) P w K mg base N qual scope f cdv A outer s H E) body t ∧ t { nx := fun _ H' => Q .non H', rt := Q } (start N vs) H) : FnX gA T P w K mg base (k + 1) f fd ps sp := by
  obtain ⟨c1, c2, cdf, c3, c4, c5, c6, cdv, c7, c8, rfl, look, code, _, _⟩ := F.ex
  refine ⟨hlen, fun A outer s H args us vs Q E ga room e0 bd rel good asked => ?_⟩
  have same := hlen _ _ _ _ asked
  have inHeap : K.In s.heap := e0.e.mod.kin.keeps fun b o z => (e0.e.bs b o z).1
  have free := e0.e.mod.nolimit.keeps (h' := s.heap) fun b o z => (e0.e.bs b o z).1
  have kinds : ∀ y ∈ ps.zip us, scope.names.lookup y.1 = some .local ∨ (scope.names.lookup y.1 = some .cell ∧ ((cellsFrom (s.heap.objs.size + 1) scope.names []).lookup y.1).isSome = true) := by
    rintro ⟨n, v⟩ hy
    exact (S.par n (List.of_mem_zip hy).1).imp id fun hc => ⟨hc, PySem.W.cellsFrom_some _ _ _ (.inl hc)⟩
  have given : ∀ n u, (n, u) ∈ ps.zip us → Gv T s.toks u := fun n u z => good u (List.of_mem_zip z).2
  refine codeAny_call_function room.depth (inHeap _ _ look) rfl S.co S.gen rfl (PySem.W.codeRec_of inHeap code) (bd _ _ _ _ ?_)
  refine grown (wpAny_newFunctionEnv_cells S.kind kinds fun env henv s1 entry lt1 => ?_)
  subst henv
  obtain ⟨t, ht, hq⟩ := hb cdv A outer s H vs Q E ga (room.deeper _) asked
  have J : L2.Inv (cxOf (CX T P w) P w K mg base N qual scope f cdv A outer s H E) [] (start N vs) H s1 := inv_start S room.hd e0.e same rel entry
  have I0 : Inv T (cxOf (CX T P w) P w K mg base N qual scope f cdv A outer s H E) [] (start N vs) H s1 := by
    refine ⟨J, Nat.le_trans e0.t lt1, fun m hn _ x _ u _ _ _ e => ?_, fun x c v hc hcell => ?_, fun a o z => ((e0.h a o z).kept entry.toInCall.keep).up lt1, e0.k⟩
    · have hn : s1.heap.Ns s.heap.objs.size m := hn
      have em : m x = bindL (envOfC qual scope s.heap.objs.size f cdv).kindOf (ps.zip us) (fun _ => none) x := by
        obtain ⟨o1, es1, ep1, e1, d1, _, f1⟩ := hn
        obtain ⟨o2, es2, ep2, e2, d2, _, f2⟩ := (show s1.heap.Ns s.heap.objs.size (bindL (envOfC qual scope s.heap.objs.size f cdv).kindOf (ps.zip us) (fun _ => none)) from entry.toInCall.ns)
        rw [e1] at e2
        cases e2
        rw [d1] at d2
        cases d2
        rw [← f1, ← f2]
      rw [em] at e
      rcases bindL_from e with z | ⟨n, z⟩
      · cases z
      · exact (given n u z).up lt1
    · have here := entry.cell x c hc
      obtain ⟨o1, e1, d1⟩ := here
      obtain ⟨o2, e2, d2⟩ := hcell
      rw [e1] at e2
      cases e2
      rw [d1] at d2
      injection d2 with d2
      rcases bindC_from d2 with z | ⟨n, z⟩
      · cases z
      · exact (given n v z).up lt1
  refine ⟨free.keeps entry.toInCall.keep, codeAny_func (wpAny_mono (up (ht.run [] s1 (start N vs) H _ I0 hq)) (fun flow s' hs => ?_) fun e s' hs => hs)⟩
  obtain ⟨le, hs⟩ := hs
  have le := Nat.le_trans lt1 le
  cases flow with
  | ret u => exact match hs with | ⟨v, σ', H', J, rv, gv, q⟩ => ⟨v, H', J.i.os, J.i.bare, J.i.base, J.i.hok, rv, gv, le, J.h, q⟩
  | next => exact match hs with | ⟨σ', H', J, q⟩ => ⟨V.non, H', J.i.os, J.i.bare, J.i.base, J.i.hok, rfl, trivial, le, J.h, q⟩
  | brk => exact match hs with | ⟨_, _, _, q⟩ => False.elim q
  | cont => exact match hs with | ⟨_, _, _, q⟩ => False.elim q
theorem okX {nm qual : Str} {st : Stmt} {f : Addr} {fd : FuncData} {N ps : List Str} {k : Nat} {sp : Sp} (F : Fun K nm qual st f fd) (S : FnScope N ps (defScope st)) (hlen : ∀ vs H Q E, sp vs H Q E → vs.length = ps.length)
    (hb : ∀ (cdv : Value) (A : Around) (outer : List Env) (s : Shared) (H : Hp) (vs : List V) (Q : VK) (E : XK), gA A → Room k (A.deeper (envOfC qual (defScope st) s.heap.objs.size f cdv)) → sp vs H Q E →
      ∃ t, PSs T (cxOf (CX T P w) P w K mg base N qual (defScope st) f cdv A outer s H E) (defBody st) t ∧ t { nx := fun _ H' => Q .non H', rt := Q } (start N vs) H) : FnX gA T P w K mg base (k + 1) f fd ps sp := by
  obtain ⟨c1, c2, c3, c4, c5, c6, cdv, c7, c8, rfl, look, code⟩ := F.ex
  refine ⟨hlen, fun A outer s H args us vs Q E ga room e0 bd rel good asked => ?_⟩
  have same := hlen _ _ _ _ asked
  have inHeap : K.In s.heap := e0.e.mod.kin.keeps fun b o z => (e0.e.bs b o z).1
  have free := e0.e.mod.nolimit.keeps (h' := s.heap) fun b o z => (e0.e.bs b o z).1
  have kinds : ∀ y ∈ ps.zip us, (defScope st).names.lookup y.1 = some .local ∨ ((defScope st).names.lookup y.1 = some .cell ∧ ((cellsFrom (s.heap.objs.size + 1) (defScope st).names []).lookup y.1).isSome = true) := by
    rintro ⟨n, v⟩ hy
    exact (S.par n (List.of_mem_zip hy).1).imp id fun hc => ⟨hc, PySem.W.cellsFrom_some _ _ _ (.inl hc)⟩
  have given : ∀ n u, (n, u) ∈ ps.zip us → Gv T s.toks u := fun n u z => good u (List.of_mem_zip z).2
  refine codeAny_call_function room.depth (inHeap _ _ look) rfl S.co S.gen rfl (PySem.W.codeRec_of inHeap code) (bd _ _ _ _ ?_)
  refine grown (wpAny_newFunctionEnv_cells S.kind kinds fun env henv s1 entry lt1 => ?_)
  subst henv
  obtain ⟨t, ht, hq⟩ := hb cdv A outer s H vs Q E ga (room.deeper _) asked
  have J : L2.Inv (cxOf (CX T P w) P w K mg base N qual (defScope st) f cdv A outer s H E) [] (start N vs) H s1 := inv_start S room.hd e0.e same rel entry
  have I0 : Inv T (cxOf (CX T P w) P w K mg base N qual (defScope st) f cdv A outer s H E) [] (start N vs) H s1 := by
    refine ⟨J, Nat.le_trans e0.t lt1, fun m hn _ x _ u _ _ _ e => ?_, fun x c v hc hcell => ?_, fun a o z => ((e0.h a o z).kept entry.toInCall.keep).up lt1, e0.k⟩
    · have hn : s1.heap.Ns s.heap.objs.size m := hn
      have em : m x = bindL (envOfC qual (defScope st) s.heap.objs.size f cdv).kindOf (ps.zip us) (fun _ => none) x := by
        obtain ⟨o1, es1, ep1, e1, d1, _, f1⟩ := hn
        obtain ⟨o2, es2, ep2, e2, d2, _, f2⟩ := (show s1.heap.Ns s.heap.objs.size (bindL (envOfC qual (defScope st) s.heap.objs.size f cdv).kindOf (ps.zip us) (fun _ => none)) from entry.toInCall.ns)
        rw [e1] at e2
        cases e2
        rw [d1] at d2
        cases d2
        rw [← f1, ← f2]
      rw [em] at e
      rcases bindL_from e with z | ⟨n, z⟩
      · cases z
      · exact (given n u z).up lt1
    · have here := entry.cell x c hc
      obtain ⟨o1, e1, d1⟩ := here
      obtain ⟨o2, e2, d2⟩ := hcell
      rw [e1] at e2
      cases e2
      rw [d1] at d2
      injection d2 with d2
      rcases bindC_from d2 with z | ⟨n, z⟩
      · cases z
      · exact (given n v z).up lt1
  refine ⟨free.keeps entry.toInCall.keep, codeAny_func (wpAny_mono (up (ht.run [] s1 (start N vs) H _ I0 hq)) (fun flow s' hs => ?_) fun e s' hs => hs)⟩
  obtain ⟨le, hs⟩ := hs
  have le := Nat.le_trans lt1 le
  cases flow with
  | ret u => exact match hs with | ⟨v, σ', H', J, rv, gv, q⟩ => ⟨v, H', J.i.os, J.i.bare, J.i.base, J.i.hok, rv, gv, le, J.h, q⟩
  | next => exact match hs with | ⟨σ', H', J, q⟩ => ⟨V.non, H', J.i.os, J.i.bare, J.i.base, J.i.hok, rfl, trivial, le, J.h, q⟩
  | brk => exact match hs with | ⟨_, _, _, q⟩ => False.elim q
  | cont => exact match hs with | ⟨_, _, _, q⟩ => False.elim q
/-- an older promise of a def over what holds no text -/
theorem FnX.lift {k : Nat} {f : Addr} {fd : FuncData} {ps : List Str} {sp sp1 : Sp} (F : FnOk P w K mg base (L2.CX P w) k f fd ps sp1)
    (h : ∀ vs H Q E, sp vs H Q E → sp1 vs (res H) (fun v H1 => noV v = true ∧ (Out H H1 → Q v (mrg H H1))) (fun cls d H1 => Out H H1 → E cls d (mrg H H1))) : FnX gA T P w K mg base k f fd ps sp := by
  refine ⟨fun vs H Q E q => F.len _ _ _ _ (h _ _ _ _ q), fun A outer s H args us vs Q E _ hr e0 hb hv _ hs => ?_⟩
  have e1 : L2.Env0 P w K mg base A outer s (res H) := ⟨e0.e.frames, e0.e.mod, fun b o z => ⟨(e0.e.bs b o z).1, by
    have := (e0.e.bs b o z).2
    unfold res
    rw [this]⟩, e0.e.bsz, e0.e.funs, fun b hf => by
      unfold res
      rw [e0.e.frf b hf], fun a o z => by
      obtain ⟨z1, z2⟩ := res_of z
      exact noT_ok z2 (e0.e.hok a o z1), e0.e.bare⟩
  have nofr : ∀ b o, H b = some o → b ∉ frs outer := fun b o q hf => by
    rw [e0.e.frf b hf] at q
    cases q
  have rN : ∀ b, H b = none → res H b = none := fun b q => by
    unfold res
    rw [q]
  refine grownC (codeAny_mono (F.run A outer s (res H) args us vs _ _ hr e1 hb hv (h _ _ _ _ hs)) fun r s' q lt => ?_)
  match r, q with
  | .ok .next, q => exact (show False from q).elim
  | .ok .brk, q => exact (show False from q).elim
  | .ok .cont, q => exact (show False from q).elim
  | .error er, q =>
    obtain ⟨a, B, H1, cls, d, rfl, fl, hok1, un, na, os, bare, qE⟩ := q
    have out : Out H H1 := fun a o q n => by
      obtain ⟨ob, eo⟩ := ObjOk.ex (e0.e.hok a o q)
      exact un.free a ob eo (res_none q n)
    have raw : ∀ b o u, H b = some o → noT o = false → s.heap.get? b = some u → B.get? b = some u := fun b o u q n hu => un.keep b u hu (res_none q n) (nofr b o q)
    have near : ∀ a o, H a = some o → noT o = false → ∀ b u, (b = a ∨ H b = some (.own a)) → s.heap.get? b = some u → B.get? b = some u := fun a o q n b u hb hu => by
      rcases hb with rfl | hb
      · exact raw _ _ _ q n hu
      · exact raw _ _ _ hb rfl hu
    have stay : ∀ b o, H b = some o → noT o = false → mrg H H1 b = some o := fun b o q n => by rw [mrg_old (out b o q n)]; exact old_some q n
    have tups : ∀ b xs, H b = some (.tup xs) → mrg H H1 b = some (.tup xs) := fun b xs q => by
      cases n : noT (.tup xs) with
      | true => exact mrg_new (un.tups b xs (res_some q n)) n
      | false => exact stay b _ q n
    have hna : H a = none := by
      cases q : H a with
      | none => rfl
      | some o =>
        obtain ⟨ob, eo⟩ := ObjOk.ex (e0.e.hok a o q)
        obtain ⟨o', z⟩ := un.there a ob eo (nofr a o q)
        rw [fl.2.1] at z
        cases z
    refine ⟨a, B, mrg H H1, cls, d, rfl, fl, fun a o q => ?_, ⟨fun b o q n hf => un.keep b o q (rN b n) hf, un.slot, fun b o q n => mrg_none (un.free b o q (rN b n)) n, un.there, tups, fun b o u q => stay b _ q rfl, fun b ps q => ⟨#[], by rw [stay b _ q rfl]; simp⟩⟩, mrg_none na hna, os, bare, fun a o q => ?_, qE out⟩
    · rcases mrg_of q with ⟨z, n⟩ | ⟨_, z, n⟩
      · exact noT_ok n (hok1 a o z)
      · exact (e0.e.hok a o z).stay (near a o z n) (fun b q => stay b _ q rfl) tups
    · rcases mrg_of q with ⟨z, n⟩ | ⟨_, z, n⟩
      · exact noT_good n (hok1 a o z)
      · exact (Og.stay (e0.h a o z) (e0.e.hok a o z) (near a o z n)).up lt
  | .ok (.ret u), q =>
    obtain ⟨v, H1, os, bare, un, hok1, rv, nv, qv⟩ := q
    have out : Out H H1 := fun a o q n => by
      obtain ⟨ob, eo⟩ := ObjOk.ex (e0.e.hok a o q)
      exact un.free a ob eo (res_none q n) (by simp)
    have raw : ∀ b o u, H b = some o → noT o = false → s.heap.get? b = some u → s'.heap.get? b = some u := fun b o u q n hu => un.keep b u hu (res_none q n) (nofr b o q) (by simp)
    have near : ∀ a o, H a = some o → noT o = false → ∀ b u, (b = a ∨ H b = some (.own a)) → s.heap.get? b = some u → s'.heap.get? b = some u := fun a o q n b u hb hu => by
      rcases hb with rfl | hb
      · exact raw _ _ _ q n hu
      · exact raw _ _ _ hb rfl hu
    have stay : ∀ b o, H b = some o → noT o = false → mrg H H1 b = some o := fun b o q n => by rw [mrg_old (out b o q n)]; exact old_some q n
    have tups : ∀ b xs, H b = some (.tup xs) → mrg H H1 b = some (.tup xs) := fun b xs q => by
      cases n : noT (.tup xs) with
      | true => exact mrg_new (un.tups b xs (res_some q n)) n
      | false => exact stay b _ q n
    refine ⟨v, mrg H H1, os, bare, ⟨fun b o q n hf hx => un.keep b o q (rN b n) hf hx, fun b o q n hf hx => un.slot b o q (rN b n) hf hx, fun b o q n hx => mrg_none (un.free b o q (rN b n) hx) n, un.there, tups, fun b o u q => stay b _ q rfl, fun b ps q => ⟨#[], by rw [stay b _ q rfl]; simp⟩⟩, fun a o q => ?_, rv, noV_good nv rv, lt, fun a o q => ?_, qv out⟩
    · rcases mrg_of q with ⟨z, n⟩ | ⟨_, z, n⟩
      · exact noT_ok n (hok1 a o z)
      · exact (e0.e.hok a o z).stay (near a o z n) (fun b q => stay b _ q rfl) tups
    · rcases mrg_of q with ⟨z, n⟩ | ⟨_, z, n⟩
      · exact noT_good n (hok1 a o z)
      · exact (Og.stay (e0.h a o z) (e0.e.hok a o z) (near a o z n)).up lt
def ClX (gA : Around → Prop) (T : TK) (P : Program) (w : World) (K : PySem.W.Frag) (mg : Str → Option Value) (base : Heap) (nm : Str) (ps : List Str) (k : Nat) (sp : Sp) : Prop :=
  ∃ (f : Addr) (fd : FuncData), mg nm = some (.ref f) ∧ FnX gA T P w K mg base k f fd ps sp ∧ PySem.W.keepIn K (.ref f) = true ∧ Binds K fd ps []
theorem clX_of {nm : Str} {st : Stmt} {ps : List Str} {k : Nat} {sp : Sp} (a : At K mg nm st ps) (h : ∀ f fd, Fun K nm nm st f fd → FnX gA T P w K mg base k f fd ps sp) : ClX gA T P w K mg base nm ps k sp := by
  obtain ⟨f, fd, F, m, b⟩ := a
  exact ⟨f, fd, m, h f fd F, F.kp, b⟩
theorem ClX.lift {nm : Str} {ps : List Str} {k : Nat} {sp sp1 : Sp} (c : Un.ClX P w K mg base nm ps k sp1)
    (h : ∀ vs H Q E, sp vs H Q E → sp1 vs (res H) (fun v H1 => noV v = true ∧ (Out H H1 → Q v (mrg H H1))) (fun cls d H1 => Out H H1 → E cls d (mrg H H1))) : ClX gA T P w K mg base nm ps k sp := by
  obtain ⟨f, fd, m, F, kp, b⟩ := c
  exact ⟨f, fd, m, FnX.lift F h, kp, b⟩
def MakX (gA : Around → Prop) (T : TK) (P : Program) (w : World) (K : PySem.W.Frag) (mg : Str → Option Value) (base : Heap) (x : Str) (C : Addr) (k : Nat) (sp : Sp) (dvs : List V) : Prop :=
  ∃ (f : Addr) (fd : FuncData) (ps : List Str) (ds : List Value), L2.Mk K C f ∧ FnX gA T P w K mg base k f fd ps sp ∧ mg x = some (.ref C) ∧ Binds K fd ps ds ∧ Vals dvs ds ∧ Gvs T T.n ds
def MetX (gA : Around → Prop) (T : TK) (P : Program) (w : World) (K : PySem.W.Frag) (mg : Str → Option Value) (base : Heap) (C : Addr) (m : Str) (k : Nat) (sp : Sp) (dvs : List V) : Prop :=
  ∃ (f : Addr) (fd : FuncData) (ps : List Str) (ds : List Value), Cls K C ∧ Meth K C m f ∧ FnX gA T P w K mg base k f fd ps sp ∧ Binds K fd ps ds ∧ Vals dvs ds ∧ Gvs T T.n ds
end
section
variable {gA : Around → Prop} {T : TK} {X : Cx} {pins : List (Addr × Obj)} {σ : St} {H : Hp} {s s' : Shared}
theorem run_fnX {k : Nat} {f : Addr} {fd : FuncData} {ps : List Str} {sp : Sp} {dvs : List V} {ds : List Value} {Q : VK} {us : List Value} {vs : List V} {W : WX} (F : FnX gA T X.prog X.w X.K X.mg X.base k f fd ps sp) (ga : gA X.A) (hr : Room k X.A) (hb : Binds X.K fd ps ds) (hd : Vals dvs ds) (gd : Gvs T T.n ds) (tk : Takes T X W)
    (I : Inv T X pins σ H s) (r : Vals vs us) (g : Gvs T s.toks us) (h : sp (vs ++ dvs) H Q (WE W σ)) : wpAny (model X.prog X.w) X.A (call (.ref f) us) (EP T X pins σ Q) X.xe s := by
  have r2 : Vals (vs ++ dvs) (us ++ ds) := r.append hd
  have n : (us ++ ds).length = ps.length := by rw [← r2.length]; exact F.len _ _ _ _ h
  refine wpAny_call (grownC (codeAny_mono (F.run X.A X.stack s H ⟨us, []⟩ (us ++ ds) (vs ++ dvs) Q (WE W σ) ga hr I.env0 (hb s us I.i.kIn n) r2 (g.app (gd.up I.t)) h) fun res s' hq lt => ?_))
  match res, hq with
  | .error e, hq => exact tk e s' (XE.of_call I lt (fun _ _ _ h => h) hq)
  | .ok (.ret u), hq => exact I.after hq
  | .ok .next, hq => exact (show False from hq).elim
  | .ok .brk, hq => exact (show False from hq).elim
  | .ok .cont, hq => exact (show False from hq).elim
variable {nm m x : Str} {ps : List Str} {j k : Nat} {sp : Sp} {e o : Expr} {es : List Expr} {t : TA} {ta : TE} {p pos apos : Pos} {C : Addr} {dvs : List V} {W : WX}
theorem pe_clXT (c : ClX gA T X.prog X.w X.K X.mg X.base nm ps k sp) (ga : gA X.A) (hr : Room k X.A) (hg : Gl X nm) (tk : Takes T X W) (ha : PA T X (e :: es) t)
    (hdb : (nm == ("__debug__" : Str)) = false := by decide) (he : starEach (e :: es) X.env = (false, eval e X.env) :: starEach es X.env := by rfl) (hpl : (backTo pos (starEach es X.env)).any (·.1) = false := by rfl) :
    PE T X (.Call (.Name nm p) (e :: es) [] pos) (tCallS sp (WE W) t) := by
  obtain ⟨f, fd, m, F, kp, b⟩ := c
  refine ⟨fun pins s σ H Q I q => wpAny_Call_Name_kw (ld_glob I.i hg m (PySem.W.callWith_K (h₀ := X.base) I.i.ok.mod.kin kp (thn (ha.run pos pins s σ H _ I q) fun us s1 ⟨vs, H1, I1, r, g, q1⟩ => ⟨I1.i.kIn, ?_⟩) he hpl) hdb)⟩
  exact run_fnX (dvs := []) (W := W) F ga hr b .nil .nil tk I1 r g (by rw [List.append_nil]; exact q1)
theorem pe_clX (c : ClX noG T X.prog X.w X.K X.mg X.base nm ps k sp) (hr : Room k X.A) (hg : Gl X nm) (tk : Takes T X W) (ha : PA T X (e :: es) t)
    (hdb : (nm == ("__debug__" : Str)) = false := by decide) (he : starEach (e :: es) X.env = (false, eval e X.env) :: starEach es X.env := by rfl) (hpl : (backTo pos (starEach es X.env)).any (·.1) = false := by rfl) :
    PE T X (.Call (.Name nm p) (e :: es) [] pos) (tCallS sp (WE W) t) := pe_clXT c trivial hr hg tk ha hdb he hpl
theorem pe_clGX (c : ClX clear T X.prog X.w X.K X.mg X.base nm ps k sp) (hgd : X.A.guards = some []) (hr : Room j X.A) (hk : k ≤ j) (hg : Gl X nm) (tk : Takes T X W) (ha : PA T X (e :: es) t)
    (hdb : (nm == ("__debug__" : Str)) = false := by decide) (he : starEach (e :: es) X.env = (false, eval e X.env) :: starEach es X.env := by rfl) (hpl : (backTo pos (starEach es X.env)).any (·.1) = false := by rfl) :
    PE T X (.Call (.Name nm p) (e :: es) [] pos) (tCallS sp (WE W) t) := pe_clXT c hgd (hr.mono hk) hg tk ha hdb he hpl
end
end GT

set_option maxHeartbeats 4000000
/-! UnGY: own errors of one field that is no text; makers and methods that may raise; a caught error's field and class; with tokens. -/
namespace GT
open PySem PySem.Spec PyProof.Rows L2 Un
theorem xd_good {T : TK} {P : Program} {w : World} {H : Hp} {h : Heap} {d : Addr} {fs : List (Str × V)} {b : Nat} (k : ObjOk P w H h d (.xd fs)) (n : ∀ x v, fs.lookup x = some v → noV v = true) : Og T b h d (.xd fs) := by
  obtain ⟨mA, hns, r⟩ := k
  refine ⟨mA, hns.ns, fun x u e => ?_⟩
  have q := r x
  rw [e] at q
  cases l : fs.lookup x with
  | none => rw [l] at q; exact q.elim
  | some v => rw [l] at q; exact noV_good (n x v l) q
/-- raise C(e), e's value no text -/
def tMkV (C : Addr) (f : Str) (te : TE) : L2.St → Hp → XK → Prop := fun σ H Q => te σ H fun v H1 => noV v = true ∧ ∀ d, H1 d = none → Q (.ref C) (some d) (upd H1 d (.xd [(f, v)]))
section
variable {T : TK} {X : Cx} {o e : Expr} {te : TE} {f x : Str} {p pos : Pos} {C fI : Addr} {k : Nat} {fd : FuncData} {ps : List Str}
theorem pmk_X (TT : OxC X.K C) (iC : PySem.W.findIn X.K (.ref C) "__init__" = some (some (.ref fI))) (tI : PySem.W.typeIn X.K (.ref fI) = some (.type "function")) (hno : PySem.W.findIn X.K (.ref C) f = some none)
    (F1 : FnOk X.prog X.w X.K X.mg X.base CX0 k fI fd ps (SpXI X.K f)) (hr : Room (k + 1) X.A) (hb : Binds X.K fd ps []) (hg : Gl X x) (hm : X.mg x = some (.ref C)) (ha : PE T X e te)
    (hdb : (x == ("__debug__" : Str)) = false := by decide) (he : starEach (e :: []) X.env = (false, eval e X.env) :: starEach [] X.env := by rfl) (hpl : (backTo pos (starEach [] X.env)).any (·.1) = false := by rfl) :
    PMk T X (.Call (.Name x p) [e] [] pos) (tMkV C f te) := by
  intro pins s σ H Q I h
  obtain ⟨nm, q, N, bs, bm, sn, sub, ab, col, dd, k0, k1, k2, k3, k5, B, newId, initId, bmB, hC, FB, BB, hps⟩ := TT.cls
  refine wpAny_Call_Name_kw (ld_glob I.i hg hm ?_ hdb)
  have hA : PA T X [e] (tCons te tNil) := pa_cons ha pa_nil he
  refine PySem.W.callWith_K (h₀ := X.base) I.i.ok.mod.kin TT.kC (thn (hA.run pos pins s σ H (fun vs H1 => match vs with | [v] => noV v = true ∧ (∀ d, H1 d = none → Q (.ref C) (some d) (upd H1 d (.xd [(f, v)]))) | _ => False) I h) fun us s1 ⟨vs, H1, I1, r1, _, q1⟩ => ⟨I1.i.kIn, ?_⟩) he hpl
  show wpAny _ _ (call (.ref C) us) _ _ _
  obtain ⟨v, rfl⟩ : ∃ v, vs = [v] := by
    rcases vs with _ | ⟨v, _ | ⟨v2, vs⟩⟩
    · exact q1.elim
    · exact ⟨v, rfl⟩
    · exact q1.elim
  obtain ⟨nv, q1⟩ : noV v = true ∧ ∀ d, H1 d = none → Q (.ref C) (some d) (upd H1 d (.xd [(f, v)])) := q1
  obtain ⟨hp, g, dr, tk, os⟩ := s1
  have hsz : hp.objs.size ≤ hp.objs.size + 1 := Nat.le_succ _
  have hn : H1 (hp.objs.size + 1) = none := I1.i.hok.fresh hsz
  let R : Hp := upd (fun _ => none) (hp.objs.size + 1) (exo (hp.objs.size + 1) C none)
  have Rn : ∀ b, b ≠ hp.objs.size + 1 → R b = none := fun b hb => upd_ne hb
  have hq : SpXI X.K f [.ref (hp.objs.size + 1), v] R
      (fun r H2 => r = .non ∧ ∃ d, R d = none ∧ d ≠ hp.objs.size + 1 ∧ H2 = upd (upd R d (exd d [(f, v)])) (hp.objs.size + 1) (exo (hp.objs.size + 1) C (some d))) (fun _ _ _ => False) :=
    ⟨_, v, C, rfl, TT, hno, upd_same, fun dx hd hda => ⟨rfl, dx, hd, hda, rfl⟩⟩
  have kk : ∀ b o, hp.get? b = some o → ((hp.push (PySem.W.kdv_tup us)).push (PySem.HandSPX.excO C hp.objs.size)).get? b = some o := fun b o z => Heap.get?_push_of_some _ (Heap.get?_push_of_some _ z)
  have hget : ((hp.push (PySem.W.kdv_tup us)).push (PySem.HandSPX.excO C hp.objs.size)).get? (hp.objs.size + 1) = some (PySem.HandSPX.excO C hp.objs.size) := by heap_get
  have I2 : L2.Inv X pins σ (upd H1 (hp.objs.size + 1) (exo (hp.objs.size + 1) C none)) ⟨(hp.push (PySem.W.kdv_tup us)).push (PySem.HandSPX.excO C hp.objs.size), g, dr, tk, os⟩ :=
    I1.i.laid (t' := tk) (a := hp.objs.size + 1) (o := exo (hp.objs.size + 1) C none) (h' := (hp.push (PySem.W.kdv_tup us)).push (PySem.HandSPX.excO C hp.objs.size)) kk hsz (exo_ok hget)
  have e0 : L2.Env0 X.prog X.w X.K X.mg X.base X.A X.stack ⟨(hp.push (PySem.W.kdv_tup us)).push (PySem.HandSPX.excO C hp.objs.size), g, dr, tk, os⟩ (upd H1 (hp.objs.size + 1) (exo (hp.objs.size + 1) C none)) := I2.env0
  have ne : ∀ b, upd H1 (hp.objs.size + 1) (exo (hp.objs.size + 1) C none) b = none → b ≠ hp.objs.size + 1 := fun b z y => by
    rw [y, upd_same] at z; cases z
  have e1 : L2.Env0 X.prog X.w X.K X.mg X.base X.A X.stack ⟨(hp.push (PySem.W.kdv_tup us)).push (PySem.HandSPX.excO C hp.objs.size), g, dr, tk, os⟩ R :=
    ⟨e0.frames, e0.mod, fun b o z => ⟨(e0.bs b o z).1, Rn b (ne b (e0.bs b o z).2)⟩, e0.bsz, e0.funs, fun b hf => Rn b (ne b (e0.frf b hf)), (fun b o z => by
      by_cases hb : b = hp.objs.size + 1
      · subst hb
        have z' : exo (hp.objs.size + 1) C none = o := Option.some.inj (upd_same.symm.trans z)
        subst z'
        exact exo_ok hget
      · rw [Rn b hb] at z
        cases z), e0.bare⟩
  have r2 : Vals (V.ref (hp.objs.size + 1) :: ([v] ++ [])) (Value.ref (hp.objs.size + 1) :: (us ++ [])) := .cons rfl (r1.append .nil)
  have hl : (Value.ref (hp.objs.size + 1) :: us ++ []).length = ps.length := by
    have e1 := r2.length
    have e3 := F1.len _ _ _ _ hq
    simp only [List.length_cons, List.length_append, List.length_nil] at e1 e3 ⊢
    omega
  have hus : us.length ≤ sizeLine := by
    rw [← Paired.length r1, sizeLine_eq]
    simp
  refine wpAny_call (PySem.OXX.call_x FB BB (I1.i.kIn _ _ hC) (PySem.W.looks_findIn I1.i.kIn iC) (fun self => PySem.W.bind_fn I1.i.kIn self tI) hus
    (grownC (codeAny_mono (F1.run _ X.stack _ _ ⟨Value.ref (hp.objs.size + 1) :: us, []⟩ (Value.ref (hp.objs.size + 1) :: us ++ []) _ _ (fun _ _ _ => False) (hr.make C us []) (e1.make C us []) (hb _ (Value.ref (hp.objs.size + 1) :: us) I2.kIn hl) r2 hq) fun r s' hq' lt => ?_)))
  match r, hq' with
  | .error er, hq' => exact (show False from hq').elim
  | .ok .next, hq' => exact hq'.elim
  | .ok .brk, hq' => exact hq'.elim
  | .ok .cont, hq' => exact hq'.elim
  | .ok (.ret u), hq' =>
    obtain ⟨w', H2, os2, bare2, un2, hok2, rv, ev, d, hd1, hda, eH⟩ := hq'
    subst ev
    obtain ⟨h2, g2, d2, t2, os'⟩ := s'
    have tle : tk ≤ t2 := lt
    have ed2 : H2 d = some (exd d [(f, v)]) := by rw [eH, upd_ne hda, upd_same]
    have ea2 : H2 (hp.objs.size + 1) = some (exo (hp.objs.size + 1) C (some d)) := by rw [eH, upd_same]
    have dn : ((hp.push (PySem.W.kdv_tup us)).push (PySem.HandSPX.excO C hp.objs.size)).get? d = none := by
      cases z : ((hp.push (PySem.W.kdv_tup us)).push (PySem.HandSPX.excO C hp.objs.size)).get? d with
      | none => rfl
      | some o =>
        have y := un2.free d o z hd1 (by simp)
        rw [ed2] at y; cases y
    have hd0 : hp.get? d = none := by
      cases z : hp.get? d with
      | none => rfl
      | some o => rw [kk d o z] at dn; cases dn
    have H1d : H1 d = none := by
      cases z : H1 d with
      | none => rfl
      | some o =>
        obtain ⟨ob, y⟩ := ObjOk.ex (I1.i.hok d o z)
        have y : hp.get? d = some ob := y
        rw [hd0] at y; cases y
    let M : Hp := upd (upd (upd H1 (hp.objs.size + 1) (exo (hp.objs.size + 1) C none)) d (exd d [(f, v)])) (hp.objs.size + 1) (exo (hp.objs.size + 1) C (some d))
    have M1 : ∀ b, b ≠ hp.objs.size + 1 → b ≠ d → M b = H1 b := fun b h1 h2 => by
      show upd _ _ _ b = _
      rw [upd_ne h1, upd_ne h2, upd_ne h1]
    have Ma : M (hp.objs.size + 1) = some (exo (hp.objs.size + 1) C (some d)) := upd_same
    have Md : M d = some (exd d [(f, v)]) := by
      show upd _ _ _ d = _
      rw [upd_ne hda, upd_same]
    have old : ∀ b o, H1 b = some o → b ≠ hp.objs.size + 1 ∧ b ≠ d := fun b o z => ⟨(fun y => by rw [y, hn] at z; cases z), (fun y => by rw [y, H1d] at z; cases z)⟩
    have frn : ∀ b o, H1 b = some o → b ∉ frs X.stack := fun b o z hf => by
      rw [I1.i.stkFree b hf] at z; cases z
    have raw : ∀ b u, b ∉ frs X.stack → hp.get? b = some u → h2.get? b = some u := fun b u hf hu => un2.keep b u (kk b u hu) (Rn b fun y => by
      have := Heap.lt_size hu
      rw [y] at this
      exact absurd this (Nat.not_lt.mpr hsz)) hf (by simp)
    have stayM : ∀ b o, H1 b = some o → M b = some o := fun b o z => by rw [M1 b (old b o z).1 (old b o z).2]; exact z
    have un3 : Un (frs X.stack) [] (upd H1 (hp.objs.size + 1) (exo (hp.objs.size + 1) C none)) M ((hp.push (PySem.W.kdv_tup us)).push (PySem.HandSPX.excO C hp.objs.size)) h2 := by
      refine ⟨fun b o z n hf hx => un2.keep b o z (Rn b (ne b n)) hf hx, fun b o z n hf hx => un2.slot b o z (Rn b (ne b n)) hf hx, fun b o z n hx => ?_, un2.there, fun b xs z => ?_, fun b o xs z => ?_, fun b qs z => ?_⟩
      · have h1 := ne b n
        have h2 : b ≠ d := fun y => by rw [y, dn] at z; cases z
        rw [M1 b h1 h2]
        rw [upd_ne h1] at n
        exact n
      · have h1 : b ≠ hp.objs.size + 1 := fun y => by rw [y, upd_same] at z; cases z
        rw [upd_ne h1] at z
        exact stayM b _ z
      · have h1 : b ≠ hp.objs.size + 1 := fun y => by rw [y, upd_same] at z; cases z
        rw [upd_ne h1] at z
        exact stayM b _ z
      · have h1 : b ≠ hp.objs.size + 1 := fun y => by rw [y, upd_same] at z; cases z
        rw [upd_ne h1] at z
        exact ⟨#[], by rw [stayM b _ z]; simp⟩
    have hok3 : HOk X.prog X.w M h2 := fun b o z => by
      by_cases h1 : b = hp.objs.size + 1
      · subst h1
        rw [Ma] at z
        cases z
        obtain ⟨t1, y⟩ := exo_at hok2 ea2
        exact exo_ok y
      · by_cases h2 : b = d
        · subst h2
          rw [Md] at z
          cases z
          obtain ⟨mA, y, r⟩ := exd_at hok2 ed2
          exact exd_ok y r
        · rw [M1 b h1 h2] at z
          refine (I1.i.hok b o z).stay (fun c u hc hu => raw c u ?_ hu) (fun c z => stayM c _ z) fun c xs z => stayM c _ z
          rcases hc with rfl | hc
          · exact frn _ _ z
          · exact frn _ _ hc
    obtain ⟨t0, G, J, kG, ge, hoe, na⟩ := mk_end0 (d2 := d2) (t2 := t2) I1.i hsz kk un3 hok3 os2 bare2 Ma Md H1d
    have e4 : upd (del M (hp.objs.size + 1)) d (.xd [(f, v)]) = upd H1 d (.xd [(f, v)]) := by
      funext b
      by_cases hb1 : b = d
      · subst hb1
        rw [upd_same, upd_same]
      · rw [upd_ne hb1, upd_ne hb1]
        by_cases hb2 : b = hp.objs.size + 1
        · subst hb2
          rw [del_same, hn]
        · rw [del_ne hb2, M1 b hb2 hb1]
    rw [e4] at J na
    have sd : ∀ b, (∃ o', G.get? b = some o') → ∀ o, hp.get? b = some o → H1 b = none → ∃ o', G.get? b = some o' ∧ o'.data = o.data := fun b ⟨o', eo⟩ o ho n => by
      have z := kG b o' eo
      have hb : b ≠ hp.objs.size + 1 := fun y => by
        have := Heap.lt_size ho
        rw [y] at this
        exact absurd this (Nat.not_lt.mpr hsz)
      by_cases hf : b ∈ frs X.stack
      · obtain ⟨sl, y⟩ := un2.slot b o (kk b o ho) (Rn b hb) hf (by simp)
        rw [z] at y
        cases y
        exact ⟨_, eo, rfl⟩
      · rw [raw b o hf ho] at z
        cases z
        exact ⟨_, eo, rfl⟩
    have ex : ∀ b o, upd H1 d (.xd [(f, v)]) b = some o → ∃ u, G.get? b = some u := fun b o z => ObjOk.ex (J.hok b o z)
    have GI : Inv T X pins σ (upd H1 d (.xd [(f, v)])) ⟨G, g2, d2, t2, os'⟩ := by
      refine I1.step J tle (fun o ho => ?_) (fun y c hc o ho => ?_) fun b o z => ?_
      · obtain ⟨m, ⟨o1, _, _, eo, _⟩, _⟩ := J.loc
        exact sd _ ⟨o1, eo⟩ o ho I1.i.free
      · obtain ⟨w0, o1, eo, _⟩ := J.cell y c hc
        exact sd _ ⟨o1, eo⟩ o ho (I1.i.freeC y c hc)
      · by_cases hb : b = d
        · subst hb
          rw [upd_same] at z
          cases z
          refine xd_good (J.hok b _ upd_same) fun y v2 l => ?_
          rw [lookup_put] at l
          split at l
          · cases l; exact nv
          · cases l
        · rw [upd_ne hb] at z
          refine (Og.stay (I1.h b o z) (I1.i.hok b o z) fun c u hc hu => ?_).up tle
          have hc2 : ∃ oc, H1 c = some oc := by
            rcases hc with rfl | hc
            · exact ⟨_, z⟩
            · exact ⟨_, hc⟩
          obtain ⟨oc, hc2⟩ := hc2
          obtain ⟨u2, eu⟩ := ex c oc (by rw [upd_ne (old c oc hc2).2]; exact hc2)
          have y := kG c u2 eu
          rw [raw c u (frn c oc hc2) hu] at y
          cases y
          exact eu
    exact ⟨rv, ⟨hp.objs.size + 1, _, _, ⟨G, g2, d2, t2, os'⟩, _, .ref C, some d, rfl, GI, kG, ge, hoe, ⟨rfl, rfl⟩, rfl, rfl, na, rfl, bare2, Nat.le_refl _, raises_own TT.xf.exC TT.ty, q1 d H1d⟩⟩
theorem pmk_G {j : Nat} (g : Un.Mk X.prog X.w X.K X.mg X.base x f C) (hr : Room j X.A) (hk : 2 ≤ j) (hg : Gl X x) (ha : PE T X e te)
    (hdb : (x == ("__debug__" : Str)) = false := by decide) (he : starEach (e :: []) X.env = (false, eval e X.env) :: starEach [] X.env := by rfl) (hpl : (backTo pos (starEach [] X.env)).any (·.1) = false := by rfl) :
    PMk T X (.Call (.Name x p) [e] [] pos) (tMkV C f te) := by
  obtain ⟨m, o, n, fI, fd, i, t, F, b⟩ := g
  exact pmk_X o i t n F (hr.mono hk) b hg m ha hdb he hpl
end
end GT

set_option maxHeartbeats 4000000
/-! UnGZ: makers and methods that may raise; a caught error's field and class; with tokens. -/
namespace GT
open PySem PySem.Spec PyProof.Rows L2 Un
theorem rd_mkV {C : Addr} {f : Str} {te : TE} {σ : L2.St} {H : Hp} {Q : XK} (h : te σ H fun v H1 => noV v = true ∧ ∀ d, H1 d = none → Q (.ref C) (some d) (upd H1 d (.xd [(f, v)]))) : tMkV C f te σ H Q := h
section
variable {gA : Around → Prop} {T : TK} {X : Cx} {nm m x : Str} {ps : List Str} {j k : Nat} {sp : Sp} {e o : Expr} {es : List Expr} {t : TA} {ta te : TE} {p pos apos : Pos} {C : Addr} {dvs : List V} {E : XK}
/-- C(..), where the __init__ may raise -/
theorem pe_mkDX (g : MakX noG T X.prog X.w X.K X.mg X.base x C k sp dvs) (hr : Room j X.A) (hk : k + 1 ≤ j) (hg : Gl X x) (tk : Takes T X fun cls d _ H => E cls d H) (ha : PA T X (e :: es) t)
    (hdb : (x == ("__debug__" : Str)) = false := by decide) (he : starEach (e :: es) X.env = (false, eval e X.env) :: starEach es X.env := by rfl) (hpl : (backTo pos (starEach es X.env)).any (·.1) = false := by rfl) :
    PE T X (.Call (.Name x p) (e :: es) [] pos) (tMake C sp dvs E t) := by
  obtain ⟨f, fd, ps, ds, M, F, hm, b, d, gd⟩ := g
  refine ⟨fun pins s σ H Q I q => wpAny_Call_Name_kw (ld_glob I.i hg hm (PySem.W.callWith_K (h₀ := X.base) I.i.ok.mod.kin M.kp (thn (ha.run pos pins s σ H _ I q) fun us s1 ⟨vs, H1, I1, r, g, q1⟩ => ⟨I1.i.kIn, ?_⟩) he hpl) hdb)⟩
  have room := hr.mono hk
  have hq := q1 (s1.heap.objs.size + 1) s1.heap.objs.size (I1.i.hok.fresh (Nat.le_succ _)) (I1.i.hok.fresh (Nat.le_refl _)) (Nat.ne_of_lt (Nat.lt_succ_self _))
  have I2 := Inv.made (C := C) I1
  have r2 : Vals (V.ref (s1.heap.objs.size + 1) :: (vs ++ dvs)) (Value.ref (s1.heap.objs.size + 1) :: (us ++ ds)) := .cons rfl (r.append d)
  have n : (Value.ref (s1.heap.objs.size + 1) :: us ++ ds).length = ps.length := (r2.length.symm.trans (F.len _ _ _ _ hq))
  have e2 : Env0 T X.prog X.w X.K X.mg X.base (X.A.under (.builtin "type.__call__" ⟨.ref C :: us, []⟩)) X.stack _ _ := ⟨I2.i.env0.make C us [], I2.t, I2.h, I2.k⟩
  refine wpAny_call (make_map (f := f) I1.i.kIn M.makes M.init (beq_iff_eq.mp M.fn) (grownC (codeAny_mono (F.run _ X.stack _ _ ⟨Value.ref (s1.heap.objs.size + 1) :: us, []⟩ (Value.ref (s1.heap.objs.size + 1) :: (us ++ ds)) _ _ E trivial (room.make C us [])
    e2 (b _ (Value.ref (s1.heap.objs.size + 1) :: us) I2.i.kIn n) r2 (Gvs.cons trivial (g.app (gd.up I1.t))) hq) fun res s' hres lt => ?_)))
  match res, hres with
  | .error e, hres => exact tk e s' (XE.of_call I2 lt (fun _ _ _ h => h) hres)
  | .ok (.ret u), hres =>
    obtain ⟨v, H', I3, rv, _, ev, q3⟩ := I2.after hres
    subst ev
    exact ⟨rv, ⟨V.ref (s1.heap.objs.size + 1), H', I3, rfl, trivial, q3⟩⟩
  | .ok .next, hres => exact (show False from hres).elim
  | .ok .brk, hres => exact (show False from hres).elim
  | .ok .cont, hres => exact (show False from hres).elim
/-- o.m(..), where it may raise -/
theorem pe_mtDX {pl : Sem Bool} (g : MetX noG T X.prog X.w X.K X.mg X.base C m k sp dvs) (hr : Room j X.A) (hk : k ≤ j) (tk : Takes T X fun cls d _ H => E cls d H) (he : PE T X o ta) (ha : PA T X (e :: es) t)
    (hst : starEach (e :: es) X.env = (false, eval e X.env) :: starEach es X.env := by rfl) (hpl : (backTo pos (starEach es X.env)).any (·.1) = false := by rfl)
    (ht : eval (.Call (.Attribute o m apos) (e :: es) [] pos) X.env = (do let ov ← eval o X.env; standAt apos.atName; let (f, first) ← holding [ov] (getMethod ov m pl); callWith pos f first (backTo pos (starEach (e :: es) X.env)) (backToKw pos (keywordEach [] X.env))) := by rfl) :
    PE T X (.Call (.Attribute o m apos) (e :: es) [] pos) (tMeth C m sp dvs E ta t) := by
  obtain ⟨f, fd, ps, ds, c, M, F, b, d, gd⟩ := g
  refine ⟨fun pins s σ H Q I q => PySem.W.methodCall_KW (pl := pl) (thn (he.run pins s σ H _ I q) fun u s1 ⟨x, H1, I1, rx, _, a, dx, fs, ex, ea, l, q1⟩ => ?_) ht⟩
  subst ex
  obtain rfl : u = Value.ref a := rx
  refine getmeth_ok I1 ea c M l (PySem.W.callWith_K (first := [.ref a]) (h₀ := X.base) I.i.ok.mod.kin M.kp (thn (ha.run pos pins s1 σ H1 _ I1 q1) fun us s2 ⟨vs, H2, I2, r, g, q2⟩ => ⟨I2.i.kIn, ?_⟩) hst hpl)
  exact run_fnX (us := .ref a :: us) (vs := .ref a :: vs) (W := fun cls d _ H => E cls d H) F trivial (hr.mono hk) b d gd tk I2 (.cons rfl r) (Gvs.cons trivial g) q2
/-- e.f, e just caught -/
theorem pe_xf {a : Addr} {oe : Obj} {cls : Value} {d : Option Addr} {pn : List (Addr × Obj)} {n : Str} (TT : XfC X.K C) (hno : PySem.W.findIn X.K (.ref C) n = some none)
    (hz : Zc cls d oe) (hf : ∃ vs, oe.data = .fields vs) (he : PE T (X.suite a ((a, oe) :: pn)) e te) (hb : attributeBase e n X.env (eval e X.env) = eval e X.env := by rfl) :
    PE T (X.suite a ((a, oe) :: pn)) (.Attribute e n pos) (tXf a cls d C n te) := by
  refine ⟨fun pins s σ H Q I h => ?_⟩
  refine attr_of hb (thn (he.run pins s σ H _ I h) fun u s1 hh => ?_)
  obtain ⟨x, H1, I1, rx, _, ex, ec, dd, fs, v, ed, ea, l, q⟩ := hh
  subst ex
  obtain rfl : u = Value.ref a := rx
  subst ec
  subst ed
  obtain ⟨ha, _⟩ := I1.i.pin (a, oe) (List.mem_append_left _ List.mem_cons_self)
  obtain ⟨vs, hd⟩ := hf
  have hx : ObjOk X.prog X.w H1 s1.heap dd (.xd fs) := I1.i.hok dd _ ea
  obtain ⟨mA, hns, hr⟩ := hx
  obtain ⟨od, ho, hl⟩ := lookIn_ns hns
  obtain ⟨u, hu, ru⟩ := RelO.some_of (v := v) (o := mA n) (by rw [← l]; exact hr n)
  have J : PySem.W.InstAt s1.heap a oe C (some od) := ⟨ha, hz.1, by unfold PySem.W.notCls; rw [hd] <;> rfl, by rw [hz.2]; exact ho⟩
  have gu : Gv T s1.toks u := Ng.get (show Ng T s1.toks s1.heap dd from I1.h dd _ ea) hns.ns hu
  exact HandSPX.exc_get I1.i.kIn J TT.ga TT.gg TT.exC (PySem.W.findObj_own TT.hdC hno rfl (by rw [hl, hu])) (handed_of ru) ⟨v, H1, I1.tok (Nat.le_succ _), ru, gu.up (Nat.le_succ _), q⟩
/-- isinstance of an error just caught -/
theorem call_isC {a : Addr} {oe : Obj} {cls : Value} {d : Option Addr} {pn : List (Addr × Obj)} (hz : Zc cls d oe) (hf : ∃ vs, oe.data = .fields vs) : CallR T (X.suite a ((a, oe) :: pn)) (.builtin "isinstance") (rIsC X.K a cls d) := by
  intro pins s σ H xs us Q I r _ h
  obtain ⟨D, b, rfl, TT, hd, q, h⟩ := h
  obtain ⟨ha, _⟩ := I.i.pin (a, oe) (List.mem_append_left _ List.mem_cons_self)
  obtain ⟨vs, hv⟩ := hf
  have Z : ∃ P : Heap → Prop, PySem.W.KitX X.K (.ref a) (.ref D) P ∧ P s.heap := by
    cases d with
    | none => exact ⟨_, PySem.W.handS_kitx_exc TT.hg TT.hk TT.hs TT.hd TT.ha TT.hn TT.ht TT.hm, show PySem.W.InstAt s.heap a oe D none from ⟨ha, hz.1, by unfold PySem.W.notCls; rw [hv] <;> rfl, by rw [hz.2]; trivial⟩⟩
    | some dd =>
      obtain ⟨fs, ea⟩ := hd dd rfl
      obtain ⟨mA, hns, hr⟩ := (show ObjOk X.prog X.w H s.heap dd (.xd fs) from I.i.hok dd _ ea)
      obtain ⟨od, ho, hl⟩ := lookIn_ns hns
      exact ⟨_, PySem.W.kitx_excD TT.hg TT.hk TT.hs TT.hd TT.ha TT.hn TT.ht TT.hm, show PySem.W.InstAt s.heap a oe D (some od) from ⟨ha, hz.1, by unfold PySem.W.notCls; rw [hv] <;> rfl, by rw [hz.2]; exact ho⟩⟩
  obtain ⟨P, z, p⟩ := Z
  rcases h with ⟨c, u, rfl, k, e⟩ | ⟨tp, cs, ws, rfl, hT, k, e⟩
  · obtain ⟨u1, u2, rfl, r1, r2⟩ := vals2 r
    cases (show u1 = Value.ref a from r1)
    have e2 := k.eq r2
    subst e2
    exact grown (PySem.W.kia_one z I.i.kIn p e (fun z => nomatch z) fun tk le => ⟨.bl b, H, I.tok le, rfl, trivial, q⟩)
  · obtain ⟨u1, u2, rfl, r1, r2⟩ := vals2 r
    cases (show u1 = Value.ref a from r1)
    cases (show u2 = Value.ref tp from r2)
    obtain ⟨_, its, rv, o, h1, h2, n, h3⟩ := (show ObjOk X.prog X.w H s.heap tp (.tup cs) from I.i.hok tp _ hT)
    have e3 := ClsV.all k rv
    subst e3
    obtain ⟨oc, od, dt, sl⟩ := o
    simp only at h2 h3
    subst h2 h3
    exact grown (PySem.W.kia_tup z I.i.kIn p h1 e (fun z => nomatch z) fun tk le => ⟨.bl b, H, I.tok le, rfl, trivial, q⟩)
end
end GT

set_option maxHeartbeats 4000000
/-! UnHA: str(o), o(e), o op o, o op text, o op int, text op o by own methods that may raise, with tokens. -/
namespace GT
open PySem PySem.Spec PyProof.Rows L2 Un
/-- a method as a promise, which may raise -/
def MetGX (T : TK) (P : Program) (w : World) (K : PySem.W.Frag) (mg : Str → Option Value) (base : Heap) (C : Addr) (m : Str) (ps : List Str) (k : Nat) (sp : Sp) : Prop :=
  ∃ (f : Addr) (fd : FuncData), Cls K C ∧ Meth K C m f ∧ FnX noG T P w K mg base k f fd ps sp ∧ PySem.W.fnIn K f = true ∧ Binds K fd ps []
section
variable {T : TK} {P : Program} {w : World} {K : PySem.W.Frag} {mg : Str → Option Value} {base : Heap} {C : Addr} {m qual : Str} {st : Stmt} {ps : List Str} {k : Nat} {sp : Sp}
theorem metGX_of (c : Cls K C) (a : AtM K C m qual st ps) (h : ∀ f fd, Fun K m qual st f fd → FnX noG T P w K mg base k f fd ps sp) : MetGX T P w K mg base C m ps k sp := by
  obtain ⟨f, fd, F, M, i, b⟩ := a
  exact ⟨f, fd, c, M, h f fd F, i, b⟩
theorem MetG.x (g : MetG T P w K mg base C m ps k sp) : MetGX T P w K mg base C m ps k sp := by
  obtain ⟨f, fd, c, M, F, i, b⟩ := g
  exact ⟨f, fd, c, M, .of F, i, b⟩
end
section
variable {T : TK} {X : Cx} {k j : Nat} {C f : Addr} {fd : FuncData} {ps : List Str} {sp : Sp} {W : WX} {pins : List (Addr × Obj)} {σ : St} {H : Hp} {s : Shared} {Q : VK} {us : List Value} {vs : List V}
theorem run_ownX (F : FnX noG T X.prog X.w X.K X.mg X.base k f fd ps sp) (hr : Room k X.A) (hb : Binds X.K fd ps []) (tk : Takes T X W)
    (I : Inv T X pins σ H s) (r : Vals vs us) (g : Gvs T s.toks us) (h : sp vs H Q (WE W σ)) : wpAny (model X.prog X.w) X.A (call (.ref f) us) (EP T X pins σ Q) X.xe s :=
  run_fnX F trivial hr hb .nil .nil tk I r g (by rw [List.append_nil]; exact h)
theorem run_in2 {E : XK} (F : FnT noG T X.prog X.w X.K X.mg X.base k f fd ps sp) (hr : Room (k + 2) X.A) (hb : Binds X.K fd ps [])
    (I : Inv T X pins σ H s) (r : Vals vs us) (g : Gvs T s.toks us) (h : sp vs H Q E) : wpAny (model X.prog X.w) X.A.in1.in1 (call (.ref f) us) (EP T X pins σ Q) X.xe s := by
  have hl : us.length = ps.length := by
    rw [← r.length]
    exact F.len _ _ _ _ h
  have hbd := hb s us I.i.kIn (by simpa using hl)
  rw [List.append_nil] at hbd
  refine wpAny_call (codeAny_mono (F.run X.A.in1.in1 X.stack s H ⟨us, []⟩ us vs Q E trivial hr.in1.in1 ⟨I.i.env0.in1.in1, I.t, I.h, I.k⟩ hbd r g h) fun q s' hq => ?_)
  match q, hq with
  | .error e, hq => exact (show False from hq).elim
  | .ok (.ret u), hq => exact I.after hq
  | .ok .next, hq => exact (show False from hq).elim
  | .ok .brk, hq => exact (show False from hq).elim
  | .ok .cont, hq => exact (show False from hq).elim
theorem back_ok {v : Value} {s' : Shared} (h : EP T X pins σ Q v s') : PySem.W.CmpBack (EP T X pins σ Q) v s' := by
  have h' := h
  obtain ⟨x, H', I', r, _, q⟩ := h'
  cases x <;> first
    | (cases r; exact h)
    | (obtain ⟨t, rfl⟩ := r; exact h)
/-- str(o) -/
def rStrO (C : Addr) (sp : Sp) : List V → Hp → VK → Prop := fun xs H Q => ∃ a dx fs, xs = [.ref a] ∧ H a = some (.ins C dx fs) ∧ sp [.ref a] H (fun r H' => ∃ y, r = .str y ∧ Q (.str y) H') E0
theorem call_strO (g : MetG T X.prog X.w X.K X.mg X.base C "__str__" ps k sp) (hr : Room j X.A) (hk : k + 2 ≤ j) : CallR T X (.type "str") (rStrO C sp) := by
  obtain ⟨f, fd, c, M, F, i, b⟩ := g
  rintro pins s σ H xs us Q I r _ ⟨a, dx, fs, rfl, ha, h⟩
  obtain ⟨u, rfl, ru⟩ := vals1 r
  cases (show u = Value.ref a from ru)
  obtain ⟨ox, od, J⟩ := own_inst I.i ha
  have hr2 := hr.mono hk
  refine PySem.W.kso_call hr2.in1.in1.units0 I.i.kIn J M.at_ M.fn (wpAny_mono (run_in2 F hr2 b I (show Vals [V.ref a] [Value.ref a] from .cons rfl .nil) (.cons trivial .nil) h) (fun r s' hs => ?_) fun _ _ e => e)
  obtain ⟨z, H', I', rz, gz, y, rfl, q⟩ := hs
  obtain ⟨t, rfl⟩ := rz
  exact ⟨.str y, H', I', ⟨t, rfl⟩, gz, q⟩
variable {a b e : Expr} {es : List Expr} {ta tb te : TE} {ts : TA} {pos p : Pos} {op : Operator} {m : Str}
/-- o op o -/
theorem pe_binOX (hS : PySem.W.selfFirst X.K C = true) (g : MetGX T X.prog X.w X.K X.mg X.base C m ps k sp) (hr : Room j X.A) (hk : k ≤ j) (tk : Takes T X W) (pa : PE T X a ta) (pb : PE T X b tb)
    (hm : PySem.dunder op.info.2 = m := by decide +kernel) : PE T X (.BinOp a op b pos) (tBinS (rBinO C sp) (WE W) ta tb) := by
  obtain ⟨f, fd, c, M, F, i, bd⟩ := g
  refine ⟨fun pins s σ H Q I h => wpAny_BinOp (bin pa pb I h fun v u s2 x y H2 I2 rx ry _ _ q => ?_)⟩
  obtain ⟨a, b', dx, fs, dy, gs, rfl, rfl, ha, hb, q⟩ := q
  cases (show v = Value.ref a from rx)
  cases (show u = Value.ref b' from ry)
  obtain ⟨ox, od, J⟩ := own_inst I2.i ha
  obtain ⟨oy, oe, J2⟩ := own_inst I2.i hb
  obtain ⟨m0, hF⟩ := I2.i.fr
  subst hm
  exact PySem.W.binop_K hF I2.i.ok.mod.kin J J2.type hS M.at_ M.fn (wpAny_mono (run_ownX F (hr.mono hk) bd tk I2 (show Vals [V.ref a, V.ref b'] [Value.ref a, Value.ref b'] from .cons rfl (.cons rfl .nil)) (.cons trivial (.cons trivial .nil)) q) (fun r s' hs => back_ok hs) fun _ _ e => e)
/-- o op v, v of a kind that R tells -/
def rBinV (R : V → Prop) (C : Addr) (sp : Sp) (E : XK) : R2 := fun x y H Q => ∃ a dx fs, x = .ref a ∧ R y ∧ H a = some (.ins C dx fs) ∧ sp [.ref a, y] H Q E
def IsStr (y : V) : Prop := ∃ z, y = .str z
def IsInt (y : V) : Prop := ∃ z, y = .int z
theorem ty_str {y : V} {u : Value} (h : IsStr y) (r : RelV y u) : typeOf u = pure (.type "str") := by
  obtain ⟨z, rfl⟩ := h
  obtain ⟨t, rfl⟩ := r
  rfl
theorem ty_int {y : V} {u : Value} (h : IsInt y) (r : RelV y u) : typeOf u = pure (.type "int") := by
  obtain ⟨z, rfl⟩ := h
  obtain ⟨t, rfl⟩ := r
  rfl
theorem bin_T {K : PySem.W.Frag} {Tn nm : String} (hB : binTB K C nm Tn = true) : ∃ fo ro rc, PySem.W.findIn K (.type Tn) (PySem.dunder nm) = some fo ∧ PySem.W.findIn K (.type Tn) (PySem.dunderR nm) = some ro ∧ PySem.W.subIn K (.type Tn) (.ref C) = some false ∧
    PySem.W.findIn K (.ref C) (PySem.dunderR nm) = some rc ∧ (rc = none ∨ ∃ g : Addr, rc = some (.ref g)) := by
  unfold binTB at hB
  simp only [Bool.and_eq_true, decide_eq_true_eq] at hB
  obtain ⟨h1, h2, h3, h4⟩ := hB
  obtain ⟨fo, e2⟩ := Option.isSome_iff_exists.mp h2
  obtain ⟨ro, e3⟩ := Option.isSome_iff_exists.mp h3
  have h1' : ∃ rc, PySem.W.findIn K (.ref C) (PySem.dunderR nm) = some rc ∧ (rc = none ∨ ∃ g : Addr, rc = some (.ref g)) := by
    split at h1
    · rename_i e
      exact ⟨none, e, .inl rfl⟩
    · rename_i g e
      exact ⟨_, e, .inr ⟨g, rfl⟩⟩
    · cases h1
  obtain ⟨rc, er, hp⟩ := h1'
  exact ⟨fo, ro, rc, e2, e3, h4, er, hp⟩
theorem pe_binVX {R : V → Prop} {Tn : String} (hR : ∀ {y u}, R y → RelV y u → typeOf u = pure (.type Tn)) (hS : PySem.W.selfFirst X.K C = true) (hB : binTB X.K C op.info.2 Tn = true) (g : MetGX T X.prog X.w X.K X.mg X.base C m ps k sp) (hr : Room j X.A) (hk : k ≤ j) (tk : Takes T X W) (pa : PE T X a ta) (pb : PE T X b tb)
    (hm : PySem.dunder op.info.2 = m := by decide +kernel) : PE T X (.BinOp a op b pos) (tBinS (rBinV R C sp) (WE W) ta tb) := by
  obtain ⟨f, fd, c, M, F, i, bd⟩ := g
  refine ⟨fun pins s σ H Q I h => wpAny_BinOp (bin pa pb I h fun v u s2 x y H2 I2 rx ry _ gy q => ?_)⟩
  obtain ⟨a, dx, fs, rfl, hy, ha, q⟩ := q
  cases (show v = Value.ref a from rx)
  obtain ⟨ox, od, J⟩ := own_inst I2.i ha
  obtain ⟨m0, hF⟩ := I2.i.fr
  subst hm
  obtain ⟨fo, ro, rc, e2, e3, h4, er, hp⟩ := bin_T hB
  exact PySem.W.ksp_binT (b := u) (T := Tn) hF I2.i.ok.mod.kin J (hR hy ry) hS M.at_ M.fn er hp e2 e3 h4 (wpAny_mono (run_ownX F (hr.mono hk) bd tk I2 (show Vals [V.ref a, y] [Value.ref a, u] from .cons rfl (.cons ry .nil)) (.cons trivial (.cons gy .nil)) q) (fun r s' hs => back_ok hs) fun _ _ e => e)
/-- v op o -/
def rBinW (R : V → Prop) (C : Addr) (sp : Sp) (E : XK) : R2 := fun x y H Q => ∃ a dx fs, y = .ref a ∧ R x ∧ H a = some (.ins C dx fs) ∧ sp [.ref a, x] H Q E
theorem pe_binWX {R : V → Prop} {Tn : String} {m2 : Str} {k2 : Nat} {ps2 : List Str} {sp2 : Sp} (hR : ∀ {y u}, R y → RelV y u → typeOf u = pure (.type Tn)) (hS : PySem.W.selfFirst X.K C = true) (hL : leftTB X.K op.info.2 Tn = true) (g : MetGX T X.prog X.w X.K X.mg X.base C m ps k sp) (g2 : MetGX T X.prog X.w X.K X.mg X.base C m2 ps2 k2 sp2) (hr : Room j X.A) (hk : k ≤ j) (tk : Takes T X W) (pa : PE T X a ta) (pb : PE T X b tb)
    (hm : PySem.dunderR op.info.2 = m := by decide +kernel) (hm2 : PySem.dunder op.info.2 = m2 := by decide +kernel) : PE T X (.BinOp a op b pos) (tBinS (rBinW R C sp) (WE W) ta tb) := by
  obtain ⟨f, fd, c, M, F, i, bd⟩ := g
  obtain ⟨f2, fd2, c2, M2, _, _, _⟩ := g2
  refine ⟨fun pins s σ H Q I h => wpAny_BinOp (bin pa pb I h fun v u s2 x y H2 I2 rx ry gx _ q => ?_)⟩
  obtain ⟨a, dx, fs, rfl, hx, ha, q⟩ := q
  cases (show u = Value.ref a from ry)
  obtain ⟨ox, od, J⟩ := own_inst I2.i ha
  subst hm hm2
  exact radd_K (T := Tn) I2.i.kIn J (hR hx rx) hS M2.at_ M.at_ M.fn hL (wpAny_mono (run_ownX F (hr.mono hk) bd tk I2 (show Vals [V.ref a, x] [Value.ref a, v] from .cons rfl (.cons rx .nil)) (.cons trivial (.cons (gx.up (Nat.le_refl _)) .nil)) q) (fun r s' hs => back_ok hs) fun _ _ e => e)
end
end GT

set_option maxHeartbeats 4000000
/-! UnHB: o(e), o op= v, int * o, text == o, with tokens. -/
namespace GT
open PySem PySem.Spec PyProof.Rows L2 Un
section
variable {M : Model} {A : Around} {E : Value → Shared → Prop} {s : Shared} {env : Env} {pos : Pos} {x : Addr} {first : List Value} {Q : Value → Shared → Prop}
theorem callWith_own {e : Expr} {rest : List Expr} (h : wpAny M A (spliced (backTo pos (starEach (e :: rest) env))) (fun vs s₁ => (∃ (C : Addr) (ox : Obj) (od : Option Obj), PySem.W.InstAt s₁.heap x ox C od ∧ ox.data = .plain) ∧ wpAny M A (call (.ref x) (first ++ vs)) Q E s₁) E s)
    (he : starEach (e :: rest) env = (false, eval e env) :: starEach rest env := by rfl) (hplain : (backTo pos (starEach rest env)).any (·.1) = false := by rfl) :
    wpAny M A (callWith pos (.ref x) first (backTo pos (starEach (e :: rest) env)) []) Q E s := by
  rw [he] at h ⊢
  have hp : (((backTo pos ((false, eval e env) :: starEach rest env)).any (·.1) || ([] : List (Option Str × Sem Value)).any (·.1.isNone))) = false := by show ((false || (backTo pos (starEach rest env)).any (·.1)) || false) = false; rw [hplain]; rfl
  have h2 : wpAny M A (evalArgs (.ref x) true (backTo pos ((false, eval e env) :: starEach rest env)) []) (fun a s₁ => (∃ (C : Addr) (ox : Obj) (od : Option Obj), PySem.W.InstAt s₁.heap x ox C od ∧ ox.data = .plain) ∧ wpAny M A (call (.ref x) (first ++ a.pos) a.kw) Q E s₁) E s := PySem.Calls.evalArgs_plain h
  unfold callWith
  refine wpAny_bind (wpAny_holding (wpAny_mono h2 (fun a s₁ h₁ => wpAny_bind (wpAny_standAt ?_)) fun _ _ y => y))
  obtain ⟨⟨C, ox, od, I, hd⟩, h₁⟩ := h₁
  have L := PySem.W.kco_keeper (M := M) I hd
  simp only [hp]
  refine wpAny_bind (L.here ?_)
  have tail : ∀ {t : Sem Value}, wpAny M A t Q E s₁ → wpAny M A (t >>= fun r => holding [r] point >>= fun _ => pure r) Q E s₁ :=
    fun ht => wpAny_bind (wpAny_mono ht (fun r s₂ hr => wpAny_bind (wpAny_holding (wpAny_point (wpAny_pure hr)))) fun _ _ y => y)
  exact tail (wpAny_operateT h₁)
end
def tCallO (i : Nat) (C : Addr) (sp : Sp) (t : TA) : TE := fun σ H Q => ∃ a, σ[i]? = some (some (.ref a)) ∧ t σ H fun vs H1 => (∃ dx fs, H1 a = some (.ins C dx fs)) ∧ sp (.ref a :: vs) H1 Q E0
theorem rd_callO {i : Nat} {C a : Addr} {sp : Sp} {t : TA} {σ : L2.St} {H : Hp} {Q : VK} (e : σ[i]? = some (some (.ref a))) (h : t σ H fun vs H1 => (∃ dx fs, H1 a = some (.ins C dx fs)) ∧ sp (.ref a :: vs) H1 Q E0) : tCallO i C sp t σ H Q := ⟨a, e, h⟩
section
variable {T : TK} {X : Cx} {k j i : Nat} {C f : Addr} {fd : FuncData} {ps : List Str} {sp : Sp} {x : Str} {e : Expr} {es : List Expr} {t : TA} {p pos : Pos}
theorem pe_callO (hN : X.N[i]? = some x) (hv : Vis X.env.scope x) (g : MetG T X.prog X.w X.K X.mg X.base C "__call__" ps k sp) (hr : Room j X.A) (hk : k + 2 ≤ j) (ha : PA T X (e :: es) t)
    (hdb : (x == ("__debug__" : Str)) = false := by decide) (hcd : (x == ("__classdict__" : Str)) = false := by decide) (he : starEach (e :: es) X.env = (false, eval e X.env) :: starEach es X.env := by rfl) (hpl : (backTo pos (starEach es X.env)).any (·.1) = false := by rfl) :
    PE T X (.Call (.Name x p) (e :: es) [] pos) (tCallO i C sp t) := by
  obtain ⟨f, fd, c, M, F, ii, b⟩ := g
  refine ⟨fun pins s σ H Q I h => ?_⟩
  obtain ⟨a, es1, h⟩ := h
  have rest : wpAny (model X.prog X.w) X.A (callWith pos (.ref a) [] (backTo pos (starEach (e :: es) X.env)) []) (EP T X pins σ Q) X.xe s := by
    refine callWith_own (thn (ha.run pos pins s σ H _ I h) fun us s1 ⟨vs, H1, I1, r, g1, ⟨dx, fs, hi⟩, q⟩ => ?_) he hpl
    obtain ⟨mA, O, _⟩ := ins_get I1.i.hok hi
    obtain ⟨od, J, _⟩ := O.look
    refine ⟨⟨C, _, od, J, rfl⟩, ?_⟩
    have n : (Value.ref a :: us).length = ps.length := by
      have := F.len _ _ _ _ q
      rw [← this, List.length_cons, List.length_cons, r.length]
    have hbd := b s1 (Value.ref a :: us) I1.i.kIn (by simpa using n)
    rw [List.append_nil] at hbd
    have hr2 := hr.mono hk
    refine wpAny_call (PySem.W.kco_code I1.i.kIn J rfl M.at_ M.fn ii (codeAny_mono (F.run X.A X.stack s1 H1 ⟨Value.ref a :: us, []⟩ (Value.ref a :: us) (V.ref a :: vs) Q E0 trivial (hr.mono (Nat.le_trans (Nat.le_add_right k 2) hk)) I1.env0 hbd (.cons rfl r) (.cons trivial g1) q) fun q s' hq => ?_))
    match q, hq with
    | .error e, hq => exact (show False from hq).elim
    | .ok (.ret u), hq => exact I1.after hq
    | .ok .next, hq => exact (show False from hq).elim
    | .ok .brk, hq => exact (show False from hq).elim
    | .ok .cont, hq => exact (show False from hq).elim
  refine wpAny_Call_Name_kw ?_
  obtain ⟨m, hn, hl⟩ := I.i.loc
  obtain ⟨u, r, l⟩ := hl i x _ hN es1 hv
  cases (show u = Value.ref a from r)
  rcases l with ⟨hk, hm⟩ | ⟨hk | hk, c2, hc, hcell⟩
  · exact wpAny_Name (wpAny_loadName_local I.i.ok.kind hk hn hm rest) hdb
  · exact wpAny_Name (wpAny_loadName_cell I.i.ok.kind hk hc hcell rest) hdb
  · exact wpAny_Name (wpAny_loadName_free I.i.ok.kind hk hc hcell rest hcd) hdb
end
end GT

set_option maxHeartbeats 4000000
/-! UnHC: int * o, o op= o, o op= v, with tokens. -/
namespace GT
open PySem PySem.Spec PyProof.Rows L2 Un
section
variable {prog : Program} {w : World} {A : Around} {E : Value → Shared → Prop} {s : Shared} {K : PySem.W.Frag} {x C f r : Addr} {ox : Obj} {od : Option Obj} {b : Value} {T nm : String}
/-- the left operand's class is asked first, and gives a value -/
theorem bin1V_K {fo ro rc : Option Value} {Q : Value → Shared → Prop} (X : K.In s.heap) (I : PySem.W.InstAt s.heap x ox C od) (hb : typeOf b = pure (.type T)) (hc : PySem.W.selfFirst K C = true)
    (hs : PySem.W.findIn K (.ref C) (PySem.dunder nm) = some (some (.ref f))) (hf : PySem.W.isFn K (.ref f) = true) (hr : PySem.W.findIn K (.ref C) (dunderR nm) = some rc) (hp : rc = none ∨ ∃ g : Addr, rc = some (.ref g))
    (h1 : PySem.W.findIn K (.type T) (PySem.dunder nm) = some fo) (h2 : PySem.W.findIn K (.type T) (dunderR nm) = some ro) (hsub : PySem.W.subIn K (.type T) (.ref C) = some false)
    (h : wpAny (model prog w) A (call (.ref f) [.ref x, b]) (PySem.W.CmpBack Q) E s) : wpAny (model prog w) A (binaryOp1 nm (.ref x) b) (fun r s' => ∃ v, r = some v ∧ Q v s') E s := by
  obtain ⟨cd, rest, hcd, hm⟩ := PySem.W.ksp_first hc
  have one := PySem.W.ksp_try X I hs hf h
  obtain ⟨hh, g, d, tt, os⟩ := s
  have L1 : PySem.W.Looks (model prog w) hh (typeOf (.ref x)) (.ref C) := I.type
  have L2 : PySem.W.Looks (model prog w) hh (typeOf b) (.type T) := PySem.W.Looks.of_pure hb
  have L3 : PySem.W.Looks (model prog w) hh (fillsNumberSlot (.ref C) nm) true := PySem.W.fills_K X hcd hm hs
  have L4 : PySem.W.Looks (model prog w) hh (fillsNumberSlot (.type T) nm) ((fo.isSome && !isSeqSlot fo) || (ro.isSome && !isSeqSlot ro)) := PySem.W.ksp_fillsT X h1 h2
  have L5 : PySem.W.Looks (model prog w) hh (isSubtype (.type T) (.ref C)) false := PySem.W.looks_subIn X hsub
  have L6 : PySem.W.Looks (model prog w) hh (numberSlotInPython (.ref C) nm) true := PySem.W.ksp_inPy X hs hr hp
  have L7 : PySem.W.Looks (model prog w) hh (numberSlotInPython (.type T) nm) false := PySem.W.Looks.of_pure rfl
  have L8 : PySem.W.Looks (model prog w) hh (typeLookup (.type T) (dunderR nm)) ro := PySem.W.looks_findIn X h2
  generalize ((fo.isSome && !isSeqSlot fo) || (ro.isSome && !isSeqSlot ro)) = right at L4
  have hne : (Value.ref C == Value.type T) = false := Bool.eq_false_iff.mpr fun q => by cases beq_iff_eq.mp q
  unfold binaryOp1
  refine wpAny_bind (L1.at (wpAny_bind (L2.at (wpAny_bind (L3.at ?_)))))
  simp only [hne, Bool.false_eq_true, if_false]
  cases right with
  | false =>
    open PySem.W in ksp_lk
    refine wpAny_mono one (fun r s' hr' => ?_) fun _ _ e => e
    obtain ⟨v, rfl, hq⟩ := hr'
    exact wpAny_pure ⟨v, rfl, hq⟩
  | true =>
    open PySem.W in ksp_lk
    refine wpAny_mono one (fun r s' hr' => ?_) fun _ _ e => e
    obtain ⟨v, rfl, hq⟩ := hr'
    exact wpAny_pure ⟨v, rfl, hq⟩
theorem inpV_K {op : Operator} {fo ro rc : Option Value} {Q : Value → Shared → Prop} (X : K.In s.heap) (I : PySem.W.InstAt s.heap x ox C od) (hb : typeOf b = pure (.type T)) (hc : PySem.W.selfFirst K C = true) (hi : inpB K C op.info.2 = true)
    (hs : PySem.W.findIn K (.ref C) (PySem.dunder op.info.2) = some (some (.ref f))) (hf : PySem.W.isFn K (.ref f) = true) (hr : PySem.W.findIn K (.ref C) (dunderR op.info.2) = some rc) (hp : rc = none ∨ ∃ g : Addr, rc = some (.ref g))
    (h1 : PySem.W.findIn K (.type T) (PySem.dunder op.info.2) = some fo) (h2 : PySem.W.findIn K (.type T) (dunderR op.info.2) = some ro) (hsub : PySem.W.subIn K (.type T) (.ref C) = some false)
    (h : wpAny (model prog w) A (call (.ref f) [.ref x, b]) (PySem.W.CmpBack Q) E s) : wpAny (model prog w) A (inplaceOp op (.ref x) b) Q E s := by
  have one := bin1V_K X I hb hc hs hf hr hp h1 h2 hsub h
  obtain ⟨hh, g, d, tt, os⟩ := s
  have L1 : PySem.W.Looks (model prog w) hh (typeOf (.ref x)) (.ref C) := I.type
  have L2 : PySem.W.Looks (model prog w) hh (fillsInplaceSlot (.ref C) op.info.2 (op == .Add)) false := inp_fills X hi
  unfold inplaceOp
  refine wpAny_holding ?_
  refine wpAny_bind (L1.at (wpAny_bind (L2.at ?_)))
  simp only [Bool.false_eq_true, if_false]
  refine wpAny_bind (wpAny_mono one (fun q s' hq => ?_) fun _ _ e => e)
  obtain ⟨v, rfl, hq⟩ := hq
  exact wpAny_pure hq
open Builtin in
theorem mul_ref {i : Int} {t : Tok} {Q : Value → Shared → Prop} (I : PySem.W.InstAt s.heap x ox C od) (hd : ox.data = .plain) (h : Q .notImplemented s) : wpAny (model prog w) A (call (.builtin "int.__mul__") [.int i t, .ref x]) Q E s := by
  refine GQ.call_here PySem.F.slot_int_mul (typeIs_int s i t) PySem.F.entry_int_mul (PySem.F.args_int_mul_2 _ _) ?_
  unfold Builtin.«int.__mul__» Builtin.Int.intBinary
  refine wpAny_bind (wpAny_pure ?_)
  refine wpAny_bind (m := Builtin.Int.intOfSelf _) (wpAny_pure ?_)
  refine wpAny_bind (m := asInt? _) (wpAny_bind (wpAny_load I.at_ ?_))
  simp only [hd]
  refine wpAny_pure ?_
  exact wpAny_bind (wpAny_rule (wpAny_pure h))
theorem rmul_K {i : Int} {t : Tok} {Q : Value → Shared → Prop} (X : K.In s.heap) (I : PySem.W.InstAt s.heap x ox C od) (hd : ox.data = .plain) (hc : PySem.W.selfFirst K C = true)
    (hs : PySem.W.findIn K (.ref C) (PySem.dunder "mul") = some (some (.ref f))) (hr : PySem.W.findIn K (.ref C) (PySem.dunderR "mul") = some (some (.ref r))) (hf : PySem.W.isFn K (.ref r) = true) (hsub : PySem.W.subIn K (.ref C) (.type "int") = some false)
    (h : wpAny (model prog w) A (call (.ref r) [.ref x, .int i t]) (PySem.W.CmpBack Q) E s) : wpAny (model prog w) A (binaryOp .Mult (.int i t) (.ref x)) Q E s := by
  obtain ⟨cd, rest, hcd, hm⟩ := PySem.W.ksp_first hc
  have one := PySem.W.ksp_try X I hr hf h
  have two : wpAny (model prog w) A (tryMethod (.int i t) (PySem.dunder "mul") (.ref x)) (fun v s' => v = none ∧ s' = s) E s := by
    unfold tryMethod
    refine wpAny_bind (wpAny_callSpecial?_slot (typeIs_int s i t) PySem.F.slot_int_mul (mul_ref I hd ?_))
    exact wpAny_pure ⟨rfl, rfl⟩
  have L1 : PySem.W.Looks (model prog w) s.heap (typeOf (.int i t)) (.type "int") := PySem.W.Looks.of_pure rfl
  have L2 : PySem.W.Looks (model prog w) s.heap (typeOf (.ref x)) (.ref C) := I.type
  have L3 : PySem.W.Looks (model prog w) s.heap (fillsNumberSlot (.type "int") "mul") true := PySem.W.Looks.of_pure PySem.F.fills_int_mul
  have L4 : PySem.W.Looks (model prog w) s.heap (fillsNumberSlot (.ref C) "mul") true := PySem.W.fills_K X hcd hm hs
  have L5 : PySem.W.Looks (model prog w) s.heap (isSubtype (.ref C) (.type "int")) false := PySem.W.looks_subIn X hsub
  have L6 : PySem.W.Looks (model prog w) s.heap (numberSlotInPython (.type "int") "mul") false := PySem.W.Looks.of_pure rfl
  have hne : (Value.type "int" == Value.ref C) = false := Bool.eq_false_iff.mpr fun q => by cases beq_iff_eq.mp q
  simp only [binaryOp, show Operator.info .Mult = ("*", "mul") from rfl]
  refine wpAny_holding (wpAny_bind ?_)
  unfold binaryOp1
  refine wpAny_bind (L1.here (wpAny_bind (L2.here (wpAny_bind (L3.here ?_)))))
  simp only [hne, Bool.false_eq_true, if_false]
  refine wpAny_bind (L4.here ?_)
  simp only [Bool.and_self, if_true]
  refine wpAny_bind (L5.here ?_)
  simp only [Bool.false_eq_true, if_false, Bool.not_false, Bool.and_self, if_true]
  refine wpAny_bind (L6.here ?_)
  simp only [Bool.false_eq_true, if_false]
  refine wpAny_bind (wpAny_mono two (fun v s' z => ?_) fun _ _ e => e)
  obtain ⟨rfl, rfl⟩ := z
  refine wpAny_bind (wpAny_mono one (fun v s' z => ?_) fun _ _ e => e)
  obtain ⟨v, rfl, q⟩ := z
  exact wpAny_bind (wpAny_rule (wpAny_pure (wpAny_pure q)))
theorem eqR_K {a : Value} {Q : Value → Shared → Prop} (hu : A.units < cLine) (X : K.In s.heap) (I : PySem.W.InstAt s.heap x ox C od) (ha : PySem.W.Looks (model prog w) s.heap (typeOf a) (.type T)) (hno : oneThing? .Eq a (.ref x) = none)
    (hsub : PySem.W.subIn K (.ref C) (.type T) = some false) (hs : PySem.W.findIn K (.ref C) "__eq__" = some (some (.ref f))) (hf : PySem.W.isFn K (.ref f) = true)
    (two : wpAny (model prog w) A (tryCompare a "__eq__" (.ref x)) (fun v s' => v = none ∧ s' = s) E s)
    (h : wpAny (model prog w) A (call (.ref f) [.ref x, a]) (PySem.W.CmpBack Q) E s) : wpAny (model prog w) A (richCompare .Eq a (.ref x)) Q E s := by
  have one : wpAny (model prog w) A (tryCompare (.ref x) "__eq__" a) (fun r s' => ∃ v, r = some v ∧ Q v s') E s := by
    unfold tryCompare
    refine wpAny_bind (PySem.W.ifBound_K X I hs hf (wpAny_mono h (fun v s' hv => ?_) fun _ _ e => e))
    cases v <;> first | exact hv.elim | exact wpAny_pure ⟨_, rfl, hv⟩
  have hne : (Value.type T != Value.ref C) = true := by
    rw [bne_iff_ne]
    exact fun q => by cases q
  unfold richCompare
  simp only [hno]
  refine wpAny_holding (wpAny_bind (wpAny_cRoomFor hu ?_))
  refine wpAny_bind (ha.here (wpAny_bind (I.type.here ?_)))
  rw [if_pos hne]
  refine wpAny_bind ((PySem.W.looks_subIn X hsub).here ?_)
  simp only [Bool.false_eq_true, if_false]
  refine wpAny_bind (wpAny_mono two (fun v s' z => ?_) fun _ _ e => e)
  obtain ⟨rfl, rfl⟩ := z
  simp only [Bool.not_false, if_true]
  refine wpAny_bind (wpAny_mono one (fun v s' z => ?_) fun _ _ e => e)
  obtain ⟨v, rfl, q⟩ := z
  exact wpAny_pure q
open Builtin in
theorem str_two {z : Str} {t : Tok} (I : PySem.W.InstAt s.heap x ox C od) (hd : ox.data = .plain) : wpAny (model prog w) A (tryCompare (.str z t) "__eq__" (.ref x)) (fun v s' => v = none ∧ s' = s) E s := by
  unfold tryCompare
  refine wpAny_bind (wpAny_callSpecialIfBound?_slot (typeIs_str s z t) PySem.F.slot_str_eq ?_)
  refine GQ.call_here PySem.F.slot_str_eq (typeIs_str s z t) PySem.F.entry_str_eq (PySem.F.args_str_eq_2 _ _) ?_
  unfold Builtin.«str.__eq__» Builtin.Str.strCompare
  refine wpAny_bind (m := Builtin.Str.strSlot _ _ _) (wpAny_pure ?_)
  dsimp only
  refine wpAny_bind (m := asStr? _) (wpAny_bind (wpAny_load I.at_ ?_))
  simp only [hd]
  refine wpAny_pure ?_
  exact wpAny_bind (wpAny_rule (wpAny_pure (wpAny_pure ⟨rfl, rfl⟩)))
end
end GT

set_option maxHeartbeats 4000000
/-! UnHD: the rules of UnHC by judgements. -/
namespace GT
open PySem PySem.Spec PyProof.Rows L2 Un
/-- what is asked of the class for int * o and text == o -/
def revB (K : PySem.W.Frag) (C : Addr) : Bool := ["int", "str", "NoneType", "tuple", "list"].all fun t => decide (PySem.W.subIn K (.ref C) (.type t) = some false)
theorem revB_ok {K : PySem.W.Frag} {C : Addr} {t : String} (b : revB K C = true) (h : t ∈ ["int", "str", "NoneType", "tuple", "list"]) : PySem.W.subIn K (.ref C) (.type t) = some false :=
  of_decide_eq_true (List.all_eq_true.mp b t h)
/-- what is asked of a class with + and *, from either side and in place -/
def opsQ (K : PySem.W.Frag) (C : Addr) : Bool := PySem.W.selfFirst K C && (tyB K C && (binTB K C "add" "str" && (binTB K C "mul" "int" && (leftTB K "add" "str" && (inpB K C "add" && (inpB K C "mul" && revB K C))))))
structure OpsQ (K : PySem.W.Frag) (C : Addr) : Prop where
  sf : PySem.W.selfFirst K C = true
  ty : tyB K C = true
  ad : binTB K C "add" "str" = true
  mu : binTB K C "mul" "int" = true
  la : leftTB K "add" "str" = true
  ia : inpB K C "add" = true
  im : inpB K C "mul" = true
  rv : revB K C = true
theorem opsQ_ok {K : PySem.W.Frag} {C : Addr} (b : opsQ K C = true) : OpsQ K C := by
  unfold opsQ at b
  simp only [Bool.and_eq_true] at b
  obtain ⟨h1, h2, h3, h4, h5, h6, h7, h8⟩ := b
  exact ⟨h1, h2, h3, h4, h5, h6, h7, h8⟩
section
variable {T : TK} {X : Cx} {k k2 j : Nat} {C : Addr} {ps ps2 : List Str} {sp sp2 : Sp} {W : WX} {a b : Expr} {ta tb : TE} {pos : Pos} {op : Operator} {m : Str}
theorem own_plain {pins : List (Addr × Obj)} {σ : St} {H : Hp} {s : Shared} {a dx : Addr} {fs : List (Str × V)} (I : Inv T X pins σ H s) (e : H a = some (.ins C dx fs)) : ∃ ox od, PySem.W.InstAt s.heap a ox C od ∧ ox.data = .plain := by
  obtain ⟨mA, O, _⟩ := ins_get I.i.hok e
  obtain ⟨od, J, _⟩ := O.look
  exact ⟨_, od, J, rfl⟩
/-- int * o -/
theorem pe_rmulX (hS : PySem.W.selfFirst X.K C = true) (hB : revB X.K C = true) (g : MetGX T X.prog X.w X.K X.mg X.base C "__rmul__" ps k sp) (g2 : MetGX T X.prog X.w X.K X.mg X.base C "__mul__" ps2 k2 sp2) (hr : Room j X.A) (hk : k ≤ j) (tk : Takes T X W) (pa : PE T X a ta) (pb : PE T X b tb) :
    PE T X (.BinOp a .Mult b pos) (tBinS (rBinW IsInt C sp) (WE W) ta tb) := by
  obtain ⟨f, fd, c, M, F, i, bd⟩ := g
  obtain ⟨f2, fd2, c2, M2, _, _, _⟩ := g2
  refine ⟨fun pins s σ H Q I h => wpAny_BinOp (bin pa pb I h fun v u s2 x y H2 I2 rx ry gx _ q => ?_)⟩
  obtain ⟨a, dx, fs, rfl, ⟨n, rfl⟩, ha, q⟩ := q
  cases (show u = Value.ref a from ry)
  obtain ⟨t, rfl⟩ := (show ∃ t, v = Value.int n t from rx)
  obtain ⟨ox, od, J, hd⟩ := own_plain I2 ha
  exact rmul_K I2.i.kIn J hd hS M2.at_ M.at_ M.fn (revB_ok hB (by decide)) (wpAny_mono (run_ownX F (hr.mono hk) bd tk I2 (show Vals [V.ref a, V.int n] [Value.ref a, Value.int n t] from .cons rfl (.cons ⟨t, rfl⟩ .nil)) (.cons trivial (.cons trivial .nil)) q) (fun r s' hs => back_ok hs) fun _ _ e => e)
/-- o op= o -/
theorem ip_binOX (hS : PySem.W.selfFirst X.K C = true) (hi : inpB X.K C op.info.2 = true) (g : MetGX T X.prog X.w X.K X.mg X.base C m ps k sp) (hr : Room j X.A) (hk : k ≤ j) (hm : PySem.dunder op.info.2 = m := by decide +kernel) : PIp T X op (rBinO C sp E0) := by
  obtain ⟨f, fd, c, M, F, i, bd⟩ := g
  intro pins s σ H x y v u Q I rx ry _ _ h
  obtain ⟨a, b', dx, fs, dy, gs, rfl, rfl, ha, hb, h⟩ := h
  cases (show v = Value.ref a from rx)
  cases (show u = Value.ref b' from ry)
  obtain ⟨ox, od, J⟩ := own_inst I.i ha
  obtain ⟨oy, oe, J2⟩ := own_inst I.i hb
  subst hm
  exact inp_K I.i.kIn J J2.type hS hi M.at_ M.fn (wpAny_mono (run_ownX F (hr.mono hk) bd takes0 I (show Vals [V.ref a, V.ref b'] [Value.ref a, Value.ref b'] from .cons rfl (.cons rfl .nil)) (.cons trivial (.cons trivial .nil)) h) (fun r s' hs => back_ok hs) fun _ _ e => e)
/-- o op= v -/
theorem ip_binVX {R : V → Prop} {Tn : String} (hR : ∀ {y u}, R y → RelV y u → typeOf u = pure (.type Tn)) (hS : PySem.W.selfFirst X.K C = true) (hB : binTB X.K C op.info.2 Tn = true) (hi : inpB X.K C op.info.2 = true) (g : MetGX T X.prog X.w X.K X.mg X.base C m ps k sp) (hr : Room j X.A) (hk : k ≤ j) (hm : PySem.dunder op.info.2 = m := by decide +kernel) : PIp T X op (rBinV R C sp E0) := by
  obtain ⟨f, fd, c, M, F, i, bd⟩ := g
  intro pins s σ H x y v u Q I rx ry _ gy h
  obtain ⟨a, dx, fs, rfl, hy, ha, h⟩ := h
  cases (show v = Value.ref a from rx)
  obtain ⟨ox, od, J⟩ := own_inst I.i ha
  subst hm
  obtain ⟨fo, ro, rc, e2, e3, h4, er, hp⟩ := bin_T hB
  exact inpV_K (T := Tn) I.i.kIn J (hR hy ry) hS hi M.at_ M.fn er hp e2 e3 h4 (wpAny_mono (run_ownX F (hr.mono hk) bd takes0 I (show Vals [V.ref a, y] [Value.ref a, u] from .cons rfl (.cons ry .nil)) (.cons trivial (.cons gy .nil)) h) (fun r s' hs => back_ok hs) fun _ _ e => e)
/-- text == o -/
def rEqR (C : Addr) (sp : Sp) (E : XK) : R2 := fun x y H Q => ∃ z a dx fs, x = .str z ∧ y = .ref a ∧ H a = some (.ins C dx fs) ∧ sp [.ref a, .str z] H (fun r H' => ∃ b, r = .bl b ∧ Q (.bl b) H') E
theorem op_eqRX (hB : revB X.K C = true) (g : MetG T X.prog X.w X.K X.mg X.base C "__eq__" ps k sp) (hr : Room j X.A) (hk : k ≤ j) : OpR T X (compareOp .Eq) (rEqR C sp E0) := by
  obtain ⟨f, fd, c, M, F, i, bd⟩ := g
  rintro pins s σ H x y v u Q I rx ry gx _ ⟨z, a, dx, fs, rfl, rfl, ha, h⟩
  cases (show u = Value.ref a from ry)
  obtain ⟨t, rfl⟩ := (show ∃ t, v = Value.str z t from rx)
  obtain ⟨ox, od, J, hd⟩ := own_plain I ha
  refine eqR_K (T := "str") hr.units0 I.i.kIn J (PySem.W.Looks.of_pure rfl) rfl (revB_ok hB (by decide)) M.at_ M.fn (str_two J hd) (wpAny_mono (run_own F (hr.mono hk) bd I (show Vals [V.ref a, V.str z] [Value.ref a, Value.str z t] from .cons rfl (.cons ⟨t, rfl⟩ .nil)) (.cons trivial (.cons gx .nil)) h) (fun r s' hs => ?_) fun _ _ e => e)
  obtain ⟨w, H', I', rz, _, b, rfl, q⟩ := hs
  cases (show r = Value.bool b from rz)
  exact ⟨.bl b, H', I', rfl, trivial, q⟩
end
end GT

set_option maxHeartbeats 4000000
/-! UnHE: None, an int, a tuple, a list == o: the own method is asked. -/
namespace GT
open PySem PySem.Spec PyProof.Rows L2 Un
section
variable {prog : Program} {w : World} {A : Around} {E : Value → Shared → Prop} {s : Shared} {K : PySem.W.Frag} {x C f r : Addr} {ox : Obj} {od : Option Obj}
open Builtin in
theorem non_two : wpAny (model prog w) A (tryCompare .none "__eq__" (.ref x)) (fun v s' => v = none ∧ s' = s) E s := by
  unfold tryCompare
  refine wpAny_bind (wpAny_callSpecialIfBound?_slot (typeIs_none s) PySem.F.slot_NoneType_eq ?_)
  refine GQ.call_here PySem.F.slot_NoneType_eq (typeIs_none s) PySem.F.entry_NoneType_eq (PySem.F.args_NoneType_eq_2 _ _) ?_
  unfold Builtin.«NoneType.__eq__»
  refine wpAny_bind (m := slotArgs _ _ _) (wpAny_pure ?_)
  exact wpAny_pure (wpAny_pure ⟨rfl, rfl⟩)
open Builtin in
theorem int_two {i : Int} {t : Tok} (I : PySem.W.InstAt s.heap x ox C od) (hd : ox.data = .plain) : wpAny (model prog w) A (tryCompare (.int i t) "__eq__" (.ref x)) (fun v s' => v = none ∧ s' = s) E s := by
  unfold tryCompare
  refine wpAny_bind (wpAny_callSpecialIfBound?_slot (typeIs_int s i t) PySem.F.slot_int_eq ?_)
  refine GQ.call_here PySem.F.slot_int_eq (typeIs_int s i t) PySem.F.entry_int_eq (PySem.F.args_int_eq_2 _ _) ?_
  change wpAny _ _ (Builtin.Int.intBinary "__eq__" (fun x y => ret (.bool (x == y))) false _) _ _ _
  unfold Builtin.Int.intBinary
  refine wpAny_bind (wpAny_pure ?_)
  refine wpAny_bind (m := Builtin.Int.intOfSelf _) (wpAny_pure ?_)
  refine wpAny_bind (m := asInt? _) (wpAny_bind (wpAny_load I.at_ ?_))
  simp only [hd]
  refine wpAny_pure ?_
  exact wpAny_bind (wpAny_rule (wpAny_pure (wpAny_pure ⟨rfl, rfl⟩)))
open Builtin in
theorem tup_two {p : Addr} {o : Obj} (I : PySem.W.InstAt s.heap x ox C od) (X : K.In s.heap) (hp : s.heap.get? p = some o) (hc : o.cls = .type "tuple") (hsub : PySem.W.subIn K (.ref C) (.type "tuple") = some false) :
    wpAny (model prog w) A (tryCompare (.ref p) "__eq__" (.ref x)) (fun v s' => v = none ∧ s' = s) E s := by
  unfold tryCompare
  refine wpAny_bind (wpAny_callSpecialIfBound?_slot (T := "tuple") ⟨o, hp, hc⟩ PySem.F.slot_tuple_eq ?_)
  refine GQ.call_here (T := "tuple") PySem.F.slot_tuple_eq ⟨o, hp, hc⟩ PySem.F.entry_tuple_eq (PySem.F.args_tuple_eq_2 _ _) ?_
  refine wpAny_bind (m := slotArgs "__eq__" 1 ⟨[.ref p, .ref x], []⟩) (wpAny_pure ?_)
  dsimp only
  refine wpAny_bind (m := isInstance _ _) (show wpAny _ _ (isInstance _ _) _ _ _ from wpAny_bind (I.type.here ((PySem.W.looks_subIn X hsub).here ?_)))
  exact wpAny_pure (wpAny_pure ⟨rfl, rfl⟩)
open Builtin in
theorem lst_two {p : Addr} {o : Obj} (I : PySem.W.InstAt s.heap x ox C od) (X : K.In s.heap) (hp : s.heap.get? p = some o) (hc : o.cls = .type "list") (hsub : PySem.W.subIn K (.ref C) (.type "list") = some false) :
    wpAny (model prog w) A (tryCompare (.ref p) "__eq__" (.ref x)) (fun v s' => v = none ∧ s' = s) E s := by
  unfold tryCompare
  refine wpAny_bind (wpAny_callSpecialIfBound?_slot (T := "list") ⟨o, hp, hc⟩ PySem.F.slot_list_eq ?_)
  refine GQ.call_here (T := "list") PySem.F.slot_list_eq ⟨o, hp, hc⟩ PySem.F.entry_list_eq (PySem.F.args_list_eq_2 _ _) ?_
  refine wpAny_bind (m := slotArgs "__eq__" 1 ⟨[.ref p, .ref x], []⟩) (wpAny_pure ?_)
  dsimp only
  refine wpAny_bind (m := isInstance _ _) (show wpAny _ _ (isInstance _ _) _ _ _ from wpAny_bind (I.type.here ((PySem.W.looks_subIn X hsub).here ?_)))
  exact wpAny_pure (wpAny_pure ⟨rfl, rfl⟩)
end
end GT

set_option maxHeartbeats 4000000
/-! UnHF: two promises of one def; code that is never come to; o in (v, ..) by the own ==. -/
namespace GT
open PySem PySem.Spec PyProof.Rows L2 Un
section
variable {gA : Around → Prop} {T : TK} {P : Program} {w : World} {K : PySem.W.Frag} {mg : Str → Option Value} {base : Heap} {k : Nat} {f : Addr} {fd : FuncData} {ps : List Str} {sp sp2 : Sp}
theorem FnT.or (F : FnT gA T P w K mg base k f fd ps sp) (G : FnT gA T P w K mg base k f fd ps sp2) : FnT gA T P w K mg base k f fd ps (fun vs H Q E => sp vs H Q E ∨ sp2 vs H Q E) :=
  ⟨fun vs H Q E h => h.elim (F.len vs H Q E) (G.len vs H Q E), fun A outer s H args us vs Q E ga hr e0 hb r g h => h.elim (F.run A outer s H args us vs Q E ga hr e0 hb r g) (G.run A outer s H args us vs Q E ga hr e0 hb r g)⟩
theorem FnX.or (F : FnX gA T P w K mg base k f fd ps sp) (G : FnX gA T P w K mg base k f fd ps sp2) : FnX gA T P w K mg base k f fd ps (fun vs H Q E => sp vs H Q E ∨ sp2 vs H Q E) :=
  ⟨fun vs H Q E h => h.elim (F.len vs H Q E) (G.len vs H Q E), fun A outer s H args us vs Q E ga hr e0 hb r g h => h.elim (F.run A outer s H args us vs Q E ga hr e0 hb r g) (G.run A outer s H args us vs Q E ga hr e0 hb r g)⟩
/-- a def's two promises, under its name -/
theorem cl_or {nm : Str} {st : Stmt} (a : At K mg nm st ps) (h : ∀ f fd, Fun K nm nm st f fd → FnT gA T P w K mg base k f fd ps sp) (h2 : ∀ f fd, Fun K nm nm st f fd → FnT gA T P w K mg base k f fd ps sp2) : Cl gA T P w K mg base nm ps k (fun vs H Q E => sp vs H Q E ∨ sp2 vs H Q E) :=
  cl_of a fun f fd F => (h f fd F).or (h2 f fd F)
end
end GT

set_option maxHeartbeats 4000000
/-! UnHG: o in (v, ..) where no v is equal to o by the own ==. -/
namespace GT
open PySem PySem.Spec PyProof.Rows L2 Un
section
variable {prog : Program} {w : World} {A : Around} {E : Value → Shared → Prop} {s : Shared}
theorem tup_noOwn {t : Addr} {items : Array Value} {o : Value} {I : Shared → Prop} {R : PySem.Fin → Shared → Prop} (ht : IsTup s.heap t items)
    (turn : ∀ y, y ∈ items.toList → ∀ s', I s' → wpAny (model prog w) A (eqBool y o) (fun r s2 => r = false ∧ I s2) E s') (h0 : I s)
    (fin : ∀ s', I s' → R (.done (.ret (.bool false))) s') : wpAny (model prog w) A (Builtin.«tuple.__contains__» ⟨[.ref t, o], []⟩) R E s := by
  show wpAny _ _ (Builtin.Tuple.tupleItemsOf (.ref t) >>= _) _ _ s
  refine wpAny_bind (tupleItemsOf_ ht ?_)
  refine wpAny_bind (forIn_array_ _ (fun rest b s' => b.1 = none ∧ I s' ∧ ∀ y, y ∈ rest → y ∈ items.toList) _ ?_ ?_ items _ ⟨rfl, h0, fun y hy => hy⟩)
  · rintro y rest b s' ⟨hb, hI, hm⟩
    refine wpAny_bind (wpAny_mono (turn y (hm y List.mem_cons_self) s' hI) (fun r s2 q => ?_) fun _ _ e => e)
    obtain ⟨rfl, q⟩ := q
    exact wpAny_pure ⟨rfl, q, fun z hz => hm z (List.mem_cons_of_mem _ hz)⟩
  · rintro ⟨b1, b2⟩ s' ⟨hb, hI, _⟩
    simp only at hb
    subst hb
    exact wpAny_pure (fin s' hI)
theorem in_noOwn {t : Addr} {items : Array Value} {o : Value} {I : Shared → Prop} {Q : Value → Shared → Prop} (ht : IsTup s.heap t items)
    (turn : ∀ y, y ∈ items.toList → ∀ s', I s' → wpAny (model prog w) A.in1 (eqBool y o) (fun r s2 => r = false ∧ I s2) E s') (h0 : I s)
    (fin : ∀ s', I s' → Q (.bool false) s') : wpAny (model prog w) A (compareOp .In o (.ref t)) Q E s := by
  show wpAny _ _ (do return .bool (← contains (.ref t) o)) Q E s
  refine wpAny_bind ?_
  unfold contains
  refine wpAny_holding ?_
  have hs : stdlibNamesSay? (.ref t) o = none := rfl
  simp only [hs]
  refine wpAny_bind (wpAny_specialOf ht.typeIs slot_tuple_contains.lookup ?_)
  rw [if_neg (by decide)]
  exact wpAny_bind (wpAny_callSpecialUnlessNone?_slot (name := Str.ofString "__contains__") ht.typeIs slot_tuple_contains
    (wpAny_call_entry slot_tuple_contains ht.typeIs entry_tuple_contains (tup_noOwn ht turn h0 fun s' hI => ⟨_, rfl, wpAny_truthy_bool (wpAny_pure (fin s' hI))⟩) (args_tuple_contains _ _)))
end
section
variable {prog : Program} {w : World} {A : Around} {E : Value → Shared → Prop} {s : Shared} {y : Value} {x : Addr} {Q : Bool → Shared → Prop}
theorem eqBool_own (hne : y ≠ .ref x) (h : wpAny (model prog w) A (richCompare .Eq y (.ref x)) (fun v s' => ∃ r, v = .bool r ∧ Q r s') E s) : wpAny (model prog w) A (eqBool y (.ref x)) Q E s := by
  unfold eqBool
  refine wpAny_holding ?_
  refine wpAny_ite_split (fun hab => absurd (eq_of_beq hab) hne) (fun _ => ?_)
  have fin : wpAny (model prog w) A (do truthOfDropped (← richCompare .Eq y (.ref x))) Q E s := by
    refine wpAny_bind (wpAny_mono h (fun v s' hv => ?_) fun _ _ x => x)
    obtain ⟨r, rfl, q⟩ := hv
    exact wpAny_truthy_bool q
  cases y <;> exact fin
end
/-- a value that is no instance -/
def OthV (H : Hp) (v : V) : Prop := IsStr v ∨ IsInt v ∨ v = .non ∨ (∃ b xs, v = .ref b ∧ H b = some (.tup xs)) ∨ ∃ b xs, v = .ref b ∧ H b = some (.lst xs)
def rInV (C : Addr) (sp : Sp) : R2 := fun x y H Q => ∃ a dx fs p ys, x = .ref a ∧ y = .ref p ∧ H a = some (.ins C dx fs) ∧ H p = some (.tup ys) ∧ (∀ v ∈ ys, OthV H v ∧ sp [.ref a, v] H (fun r H' => r = .bl false ∧ H' = H) E0) ∧ Q (.bl false) H
section
variable {T : TK} {X : Cx} {k j : Nat} {C : Addr} {ps : List Str} {sp : Sp}
theorem op_inNo (hB : revB X.K C = true) (g : MetG T X.prog X.w X.K X.mg X.base C "__eq__" ps k sp) (hr : Room j X.A) (hk : k + 1 ≤ j) : OpR T X (compareOp .In) (rInV C sp) := by
  obtain ⟨f, fd, c, M, F, i, bd⟩ := g
  rintro pins s σ H x y v u Q I rx ry gx gy ⟨a, dx, fs, p, ys, rfl, rfl, ha, hp, hys, q⟩
  cases (show v = Value.ref a from rx)
  cases (show u = Value.ref p from ry)
  obtain ⟨hz, its, rv, o, e1, c1, n1, d1⟩ := (show ObjOk X.prog X.w H s.heap p (.tup ys) from I.i.hok p _ hp)
  have gi : ∀ z ∈ its, Gv T s.toks z := by
    obtain ⟨o2, e2, g2⟩ := (show Od T s.toks s.heap p from I.h p _ hp)
    rw [e1] at e2
    cases e2
    rw [d1] at g2
    exact fun z hz => g2 z (by simpa using hz)
  have hr1 := (hr.mono hk)
  refine in_noOwn (I := fun s' => Inv T X pins σ H s' ∧ s.toks ≤ s'.toks) (items := its.toArray) ⟨o, e1, c1, n1, d1⟩ (fun z hz s' hI => ?_) ⟨I, Nat.le_refl _⟩ fun s' hI => ⟨.bl false, H, hI.1, rfl, trivial, q⟩
  have hz : z ∈ its := by simpa using hz
  obtain ⟨I1, lt⟩ := hI
  have gz := (gi z hz).up lt
  obtain ⟨n, hn⟩ := List.getElem?_of_mem hz
  have hl := rv.length
  have hn2 : n < ys.length := by
    have := (List.getElem?_eq_some_iff.mp hn).1
    omega
  have hyn : ys[n]? = some ys[n] := List.getElem?_eq_getElem hn2
  obtain ⟨z2, hz2, rz⟩ := rv.get hyn
  rw [hn] at hz2
  cases hz2
  obtain ⟨ov, hs⟩ := hys _ (List.mem_of_getElem? hyn)
  generalize ys[n] = yv at rz ov hs
  obtain ⟨ox, od, J, hd⟩ := own_plain I1 ha
  have callee : wpAny (model X.prog X.w) X.A.in1 (call (.ref f) [.ref a, z]) (PySem.W.CmpBack fun v s2 => ∃ r, v = .bool r ∧ r = false ∧ Inv T X pins σ H s2 ∧ s.toks ≤ s2.toks) X.xe s' := by
    refine wpAny_mono (up (run_in1 F hr1 bd I1 (show Vals [V.ref a, yv] [Value.ref a, z] from .cons rfl (.cons rz .nil)) (.cons trivial (.cons gz .nil)) hs)) (fun r s2 h2 => ?_) fun _ _ e => e
    obtain ⟨le, w2, H2, I2, r2, _, rfl, rfl⟩ := h2
    cases (show r = Value.bool false from r2)
    exact ⟨false, rfl, rfl, I2, Nat.le_trans lt le⟩
  have hu : X.A.in1.units < cLine := hr1.in1.units0
  have refs : ∀ b o', z = .ref b → H b = some o' → (∀ C2 d2 f2, o' ≠ .ins C2 d2 f2) → z ≠ .ref a := fun b o' e1 e2 h3 e3 => by
    rw [e1] at e3
    cases e3
    rw [ha] at e2
    cases e2
    exact h3 _ _ _ rfl
  rcases ov with ⟨t, rfl⟩ | ⟨t, rfl⟩ | rfl | ⟨b, xs, rfl, hb⟩ | ⟨b, xs, rfl, hb⟩
  · obtain ⟨tk, rfl⟩ := (show ∃ tk, z = Value.str t tk from rz)
    exact eqBool_own (fun e => by cases e) (eqR_K (T := "str") hu I1.i.kIn J (PySem.W.Looks.of_pure rfl) rfl (revB_ok hB (by decide)) M.at_ M.fn (str_two J hd) callee)
  · obtain ⟨tk, rfl⟩ := (show ∃ tk, z = Value.int t tk from rz)
    exact eqBool_own (fun e => by cases e) (eqR_K (T := "int") hu I1.i.kIn J (PySem.W.Looks.of_pure rfl) rfl (revB_ok hB (by decide)) M.at_ M.fn (int_two J hd) callee)
  · cases (show z = Value.none from rz)
    exact eqBool_own (fun e => by cases e) (eqR_K (T := "NoneType") hu I1.i.kIn J (PySem.W.Looks.of_pure rfl) rfl (revB_ok hB (by decide)) M.at_ M.fn non_two callee)
  · cases (show z = Value.ref b from rz)
    obtain ⟨_, _, _, ob, eb, cb, _⟩ := (show ObjOk X.prog X.w H s'.heap b (.tup xs) from I1.i.hok b _ hb)
    have LT : PySem.W.Looks (model X.prog X.w) s'.heap (typeOf (.ref b)) (.type "tuple") := fun A Q E s k q => wpAny_typeOf_ref (k _ _ eb) (by rw [cb]; exact q)
    exact eqBool_own (refs b _ rfl hb fun _ _ _ e => by cases e) (eqR_K (T := "tuple") hu I1.i.kIn J LT rfl (revB_ok hB (by decide)) M.at_ M.fn (tup_two J I1.i.kIn eb cb (revB_ok hB (by decide))) callee)
  · cases (show z = Value.ref b from rz)
    obtain ⟨_, its2, n2, r2, eb⟩ := (show ObjOk X.prog X.w H s'.heap b (.lst xs) from I1.i.hok b _ hb)
    have LT : PySem.W.Looks (model X.prog X.w) s'.heap (typeOf (.ref b)) (.type "list") := fun A Q E s k q => wpAny_typeOf_ref (k _ _ eb) q
    exact eqBool_own (refs b _ rfl hb fun _ _ _ e => by cases e) (eqR_K (T := "list") hu I1.i.kIn J LT rfl (revB_ok hB (by decide)) M.at_ M.fn (lst_two J I1.i.kIn eb rfl (revB_ok hB (by decide))) callee)
end
end GT

set_option maxHeartbeats 4000000
/-! UnHI: C(..) where it may raise within try; C() by the defaults; text.count(sign); text.replace("@", ""); a or b of values; with tokens. -/
namespace GT
open PySem PySem.Spec PyProof.Rows L2 Un
section
variable {gA : Around → Prop} {T : TK} {X : Cx} {nm m x : Str} {ps : List Str} {j k : Nat} {sp : Sp} {e o : Expr} {es : List Expr} {t : TA} {ta te : TE} {p pos apos : Pos} {C : Addr} {dvs : List V} {W : WX}
/-- C(..) with an error's reading by slots -/
def tMakeW (C : Addr) (sp : Sp) (dvs : List V) (W : WX) (t : TA) : TE := fun σ H Q => tMake C sp dvs (WE W σ) t σ H Q
theorem rd_makeW {σ : L2.St} {H : Hp} {Q : VK} (h : t σ H fun vs H1 => ∀ x dx, H1 x = none → H1 dx = none → dx ≠ x → sp (.ref x :: (vs ++ dvs)) (upd (upd H1 dx (.own x)) x (.ins C dx [])) (fun v H2 => v = .non ∧ Q (.ref x) H2) (WE W σ)) : tMakeW C sp dvs W t σ H Q := h
theorem pe_mkWX (g : MakX noG T X.prog X.w X.K X.mg X.base x C k sp dvs) (hr : Room j X.A) (hk : k + 1 ≤ j) (hg : Gl X x) (tk : Takes T X W) (ha : PA T X (e :: es) t)
    (hdb : (x == ("__debug__" : Str)) = false := by decide) (he : starEach (e :: es) X.env = (false, eval e X.env) :: starEach es X.env := by rfl) (hpl : (backTo pos (starEach es X.env)).any (·.1) = false := by rfl) :
    PE T X (.Call (.Name x p) (e :: es) [] pos) (tMakeW C sp dvs W t) := by
  obtain ⟨f, fd, ps, ds, M, F, hm, b, d, gd⟩ := g
  refine ⟨fun pins s σ H Q I q => wpAny_Call_Name_kw (ld_glob I.i hg hm (PySem.W.callWith_K (h₀ := X.base) I.i.ok.mod.kin M.kp (thn (ha.run pos pins s σ H _ I q) fun us s1 ⟨vs, H1, I1, r, g, q1⟩ => ⟨I1.i.kIn, ?_⟩) he hpl) hdb)⟩
  have room := hr.mono hk
  have hq := q1 (s1.heap.objs.size + 1) s1.heap.objs.size (I1.i.hok.fresh (Nat.le_succ _)) (I1.i.hok.fresh (Nat.le_refl _)) (Nat.ne_of_lt (Nat.lt_succ_self _))
  have I2 := Inv.made (C := C) I1
  have r2 : Vals (V.ref (s1.heap.objs.size + 1) :: (vs ++ dvs)) (Value.ref (s1.heap.objs.size + 1) :: (us ++ ds)) := .cons rfl (r.append d)
  have n : (Value.ref (s1.heap.objs.size + 1) :: us ++ ds).length = ps.length := (r2.length.symm.trans (F.len _ _ _ _ hq))
  have e2 : Env0 T X.prog X.w X.K X.mg X.base (X.A.under (.builtin "type.__call__" ⟨.ref C :: us, []⟩)) X.stack _ _ := ⟨I2.i.env0.make C us [], I2.t, I2.h, I2.k⟩
  refine wpAny_call (make_map (f := f) I1.i.kIn M.makes M.init (beq_iff_eq.mp M.fn) (grownC (codeAny_mono (F.run _ X.stack _ _ ⟨Value.ref (s1.heap.objs.size + 1) :: us, []⟩ (Value.ref (s1.heap.objs.size + 1) :: (us ++ ds)) _ _ (WE W σ) trivial (room.make C us [])
    e2 (b _ (Value.ref (s1.heap.objs.size + 1) :: us) I2.i.kIn n) r2 (Gvs.cons trivial (g.app (gd.up I1.t))) hq) fun res s' hres lt => ?_)))
  match res, hres with
  | .error e, hres => exact tk e s' (XE.of_call I2 lt (fun _ _ _ h => h) hres)
  | .ok (.ret u), hres =>
    obtain ⟨v, H', I3, rv, _, ev, q3⟩ := I2.after hres
    subst ev
    exact ⟨rv, ⟨V.ref (s1.heap.objs.size + 1), H', I3, rfl, trivial, q3⟩⟩
  | .ok .next, hres => exact (show False from hres).elim
  | .ok .brk, hres => exact (show False from hres).elim
  | .ok .cont, hres => exact (show False from hres).elim
/-- C(), all parameters by their defaults -/
def tMake0 (C : Addr) (sp : Sp) (dvs : List V) : TE := fun σ H Q => ∀ x dx, H x = none → H dx = none → dx ≠ x → sp (.ref x :: dvs) (upd (upd H dx (.own x)) x (.ins C dx [])) (fun v H2 => v = .non ∧ Q (.ref x) H2) E0
theorem rd_make0 {σ : L2.St} {H : Hp} {Q : VK} (h : ∀ x dx, H x = none → H dx = none → dx ≠ x → sp (.ref x :: dvs) (upd (upd H dx (.own x)) x (.ins C dx [])) (fun v H2 => v = .non ∧ Q (.ref x) H2) E0) : tMake0 C sp dvs σ H Q := h
/-- a maker whose defaults fill up; they are good where the known texts are -/
def MakX0 (gA : Around → Prop) (T : TK) (P : Program) (w : World) (K : PySem.W.Frag) (mg : Str → Option Value) (base : Heap) (x : Str) (C : Addr) (k : Nat) (sp : Sp) (dvs : List V) : Prop :=
  ∃ (f : Addr) (fd : FuncData) (ps : List Str) (ds : List Value), L2.Mk K C f ∧ FnX gA T P w K mg base k f fd ps sp ∧ mg x = some (.ref C) ∧ Binds K fd ps ds ∧ Vals dvs ds ∧ (Kg T K → Gvs T T.n ds)
theorem pe_mkD0 (g : MakX0 noG T X.prog X.w X.K X.mg X.base x C k sp dvs) (hr : Room j X.A) (hk : k + 1 ≤ j) (hg : Gl X x) (hdb : (x == ("__debug__" : Str)) = false := by decide) :
    PE T X (.Call (.Name x p) [] [] pos) (tMake0 C sp dvs) := by
  obtain ⟨f, fd, ps, ds, M, F, hm, b, d, gd⟩ := g
  refine ⟨fun pins s σ H Q I q => wpAny_Call_Name_kw (ld_glob I.i hg hm (PySem.W.callWith_K0 (K := X.K) I.i.kIn M.kp ?_) hdb)⟩
  have room := hr.mono hk
  have hq := q (s.heap.objs.size + 1) s.heap.objs.size (I.i.hok.fresh (Nat.le_succ _)) (I.i.hok.fresh (Nat.le_refl _)) (Nat.ne_of_lt (Nat.lt_succ_self _))
  have I2 := Inv.made (C := C) I
  have r2 : Vals (V.ref (s.heap.objs.size + 1) :: dvs) (Value.ref (s.heap.objs.size + 1) :: ds) := .cons rfl d
  have n : (Value.ref (s.heap.objs.size + 1) :: ([] : List Value) ++ ds).length = ps.length := (r2.length.symm.trans (F.len _ _ _ _ hq))
  have e2 : Env0 T X.prog X.w X.K X.mg X.base (X.A.under (.builtin "type.__call__" ⟨.ref C :: [], []⟩)) X.stack _ _ := ⟨I2.i.env0.make C [] [], I2.t, I2.h, I2.k⟩
  refine wpAny_call (make_map (f := f) I.i.kIn M.makes M.init (beq_iff_eq.mp M.fn) (grownC (codeAny_mono (F.run _ X.stack _ _ ⟨Value.ref (s.heap.objs.size + 1) :: [], []⟩ (Value.ref (s.heap.objs.size + 1) :: ds) _ _ E0 trivial (room.make C [] [])
    e2 (b _ (Value.ref (s.heap.objs.size + 1) :: []) I2.i.kIn n) r2 (Gvs.cons trivial ((gd I.k).up I.t)) hq) fun res s' hres lt => ?_)))
  match res, hres with
  | .error e, hres => exact (takes0 (T := T) (X := X)) e s' (XE.of_call I2 lt (fun _ _ _ h => h) hres)
  | .ok (.ret u), hres =>
    obtain ⟨v, H', I3, rv, _, ev, q3⟩ := I2.after hres
    subst ev
    exact ⟨rv, ⟨V.ref (s.heap.objs.size + 1), H', I3, rfl, trivial, q3⟩⟩
  | .ok .next, hres => exact (show False from hres).elim
  | .ok .brk, hres => exact (show False from hres).elim
  | .ok .cont, hres => exact (show False from hres).elim
/-- the defaults of a def fill up, and they are known -/
theorem binds1g {K : PySem.W.Frag} {x qual : Str} {params : Arguments} {body : List Stmt} {scope : Scope} {dvs : List V} {kws : List (Str × V)} {f : Addr} {fd : FuncData} {ps : List Str} (F : FunD K x qual params body scope dvs kws f fd) (n j : Nat) (hd : dvs ≠ []) (hn : n + (dvs.length - j) = ps.length)
    (h : ∀ (T : Addr) (kV doc pm : Value) (an : Option Addr) (cdv ct : Value) (us its : List Value), us.length = n → its.length = dvs.length →
      ∃ k, bindArgs (PySem.W.fnOf x qual params body scope (.ref T) kV doc pm an cdv ct) ⟨us, []⟩ = seqItems? (.ref T) >>= k ∧ k (some its.toArray) = pure (ps.zip (us ++ its.drop j))) : ∃ ds, Vals (dvs.drop j) ds ∧ Binds K fd ps ds ∧ ∀ T : TK, Kg T K → Gvs T T.n ds := by
  obtain ⟨oc, od, dV, kV, doc, pm, an, cdv, ct, osl, rfl, lk, hcd, hD, hK⟩ := F.ex
  rcases hD with ⟨e, _⟩ | ⟨_, TT, o, its, m, rfl, lT, oT, rT⟩
  · exact absurd e hd
  · refine ⟨its.drop j, rT.drop j, fun s us X hlen => ?_, fun T kg v hv => kg _ _ _ _ lT oT v (by simpa using List.mem_of_mem_drop hv)⟩
    have l1 : its.length = dvs.length := rT.length.symm
    have l2 : us.length = n := by
      rw [List.length_append, List.length_drop, l1] at hlen
      omega
    obtain ⟨k, e1, e2⟩ := h TT kV doc pm an cdv ct us its l2 l1
    refine BindsTo.of_looks fun M => ?_
    rw [e1]
    exact looks_items X lT oT (.of_pure e2)
end
section
variable {T : TK} {X : Cx} {σ : L2.St} {H : Hp} {Q : VK}
/-- text.count(sign) -/
def rCount (x : V) (xs : List V) (H : Hp) (Q : VK) : Prop := ∃ l c, x = .str (tx l) ∧ xs = [.str (tx [c])] ∧ Q (.int (((l.filter fun z => z == c).length : Nat) : Int)) H
theorem cnt_len (c : Nat) : ∀ l : List Nat, cnt c l = (((l.filter fun z => z == c).length : Nat) : Int)
  | [] => rfl
  | z :: l => by
    rw [cnt_cons, cnt_len c l, List.filter_cons]
    by_cases h : z = c
    · subst h
      simp
      omega
    · rw [if_neg h, if_neg (by simpa using h)]
      omega
theorem mt_count : MtR T X "str.count" rCount := by
  rintro pins s σ H v xs u us Q I rx rs _ _ ⟨l, c, rfl, rfl, q⟩
  obtain ⟨t, rfl⟩ := rx
  obtain ⟨w1, rfl, ⟨t2, rfl⟩⟩ := vals1 rs
  refine call_gives F.slot_str_count (typeIs_str _ _ _) F.entry_str_count (F.args_str_count_2 _ _) (gives_str_count (tx l) (tx [c]) t t2) ?_
  have e : (((Builtin.Str.occurrences (tx l) (tx [c]) 0 (tx l).length ((tx l).length + 1)).length : Nat) : Int) = (((l.filter fun z => z == c).length : Nat) : Int) := by
    have := (count_is (tx l) c).trans (cnt_len c (tx l).cps.toList)
    exact this
  rw [e]
  exact ⟨.int _, H, I.tok (Nat.le_succ _), ⟨_, rfl⟩, trivial, q⟩
/-- text.replace("@", "") -/
def tRepE (to : TE) : TE := fun σ H Q => to σ H fun x H1 => ∃ d, x = .str d ∧ d.length ≤ 16777216 ∧ Q (.str (Txt.replace d "@" "")) H1
theorem rd_replE {to : TE} (h : to σ H fun x H1 => ∃ d, x = .str d ∧ d.length ≤ 16777216 ∧ Q (.str (Txt.replace d "@" "")) H1) : tRepE to σ H Q := h
theorem pe_replE {i j : Nat} {to : TE} {o : Expr} {apos pos cpos xpos : Pos} (ho : PE T X o to)
    (hbase : attributeBase o "replace" X.env (eval o X.env) = eval o X.env := by rfl) (hline : (apos.endLine == pos.line) = true := by rfl)
    (hst : starEach [.Constant (.str "@") j cpos, .Constant (.str "") i xpos] X.env = [(false, eval (.Constant (.str "@") j cpos) X.env), (false, eval (.Constant (.str "") i xpos) X.env)] := by rfl) :
    PE T X (.Call (.Attribute o "replace" apos) [.Constant (.str "@") j cpos, .Constant (.str "") i xpos] [] pos) (tRepE to) := by
  refine ⟨fun pins s σ H Q I q => PySem.Call_method2 hbase hst hline (thn (ho.run pins s σ H _ I q) fun v s1 ⟨xv, H1, I1, r1, g1, d, ed, hb, q1⟩ => ?_)⟩
  subst ed
  obtain ⟨t, rfl⟩ := r1
  refine ⟨"str", _, F.plainAttrs_str, F.slot_str_replace, F.type_str_replace, typeIs_str _ _ _, (fun _ e => nomatch e), Calls.callWith_builtin rfl (Calls.evalArgs_plain (Calls.spliced_cons ?_))⟩
  refine Calls.Constant_str (Calls.spliced_cons (Calls.Constant_str (Calls.spliced_nil ?_)))
  have fresh := Gv.new (T := T) (x := "@") I1.t
  have fresh2 := Gv.new (T := T) (x := "") I1.up.t
  exact repl_ok I1.up.up.t (g1.up (Nat.le_trans (Nat.le_succ _) (Nat.le_succ _))) fresh.1 fresh2.1 (fun e => absurd e (Nat.ne_of_lt (Nat.lt_succ_self _))) (by decide) (by show (d.length + (d.length + 1) * 0 ≤ _); omega) fun t' k hk gk => ⟨.str _, H1, I1.tok (Nat.le_trans (Nat.le_trans (Nat.le_succ _) (Nat.le_succ _)) hk), ⟨t', rfl⟩, gk, q1⟩
/-- a call whose error is read by slots -/
theorem rd_callS {sp : Sp} {EE : L2.St → XK} {t : TA} (h : t σ H fun vs H1 => sp vs H1 Q (EE σ)) : tCallS sp EE t σ H Q := h
/-- a text on the right of == -/
def RightS (C : Addr) (y : V) (H : Hp) : Prop := RightO C y H ∨ ∃ z, y = .str z
theorem right_s {X : Cx} {C : Addr} (hi : InsK X.K C) : Right X C (RightS C) := by
  intro pins σ H s y u I r h
  rcases h with h | ⟨z, rfl⟩
  · exact right_o hi pins σ H s y u I r h
  · obtain ⟨t, rfl⟩ := (show ∃ t, u = Value.str z t from r)
    exact ⟨.type "str", PySem.W.Looks.of_pure rfl, (hi.no "str" (by simp)).2⟩
/-- a or b of values -/
def tOrT (K : PySem.W.Frag) (ta tb : TE) : TE := fun σ H Q => ta σ H fun x H1 => ∃ k, TruV K x H1 k ∧ (if k then Q x H1 else tb σ H1 Q)
theorem rd_orT {K : PySem.W.Frag} {ta tb : TE} (h : ta σ H fun x H1 => ∃ k, TruV K x H1 k ∧ (if k then Q x H1 else tb σ H1 Q)) : tOrT K ta tb σ H Q := h
theorem pe_orT {K : PySem.W.Frag} {a b : Expr} {rest : List Expr} {pos : Pos} {ta tb : TE} (hK : X.K = K) (ha : PE T X a ta) (hb : PE T X (.BoolOp .Or (b :: rest) pos) tb) : PE T X (.BoolOp .Or (a :: b :: rest) pos) (tOrT K ta tb) := by
  subst hK
  refine ⟨fun pins s σ H Q I q => BoolOp_or (thn (ha.run pins s σ H _ I q) fun v s1 ⟨x, H1, I1, r1, g1, k, e1, q1⟩ => ?_)⟩
  refine wpAny_mono (up (tru_ok (Q := fun b H' => b = k ∧ H' = H1) pins s1 σ H1 x v I1 r1 e1 ⟨rfl, rfl⟩)) (fun c s2 hc => ?_) fun _ _ e => e
  obtain ⟨le, H2, I2, rfl, rfl⟩ := hc
  cases c
  · exact hb.run pins s2 σ H2 Q I2 (by simpa using q1)
  · exact ⟨x, H2, I2, r1, g1.up le, by simpa using q1⟩
end
end GT

/-! UnFill: texts with marks, filled by a name. -/
namespace Un
open PySem PySem.Spec PyProof.Rows L2
theorem cut_from {l : List Nat} {k : Nat} (h : k ≤ l.length) : cutL l (some ((k : Nat) : Int)) none = l.drop k := by
  unfold cutL
  rw [HT.sIx_none, HT.sIx_nat, Nat.min_eq_left h]
  exact List.take_of_length_le (by rw [List.length_drop]; exact Nat.le_refl _)
/-- the name stands for each mark -/
def fill (l n : List Nat) : List Nat := l.flatMap fun c => if c = 64 then n else [c]
theorem fill_nil (n : List Nat) : fill [] n = [] := rfl
theorem fill_cons (c : Nat) (l n : List Nat) : fill (c :: l) n = (if c = 64 then n else [c]) ++ fill l n := List.flatMap_cons
theorem fill_app (a b n : List Nat) : fill (a ++ b) n = fill a n ++ fill b n := List.flatMap_append
theorem fill_len (n : List Nat) : ∀ l : List Nat, (fill l n).length ≤ l.length * (n.length + 1)
  | [] => by rw [fill_nil]; exact Nat.zero_le _
  | c :: l => by
    rw [fill_cons, List.length_append, List.length_cons, Nat.add_mul, Nat.one_mul]
    have := fill_len n l
    split
    · omega
    · simp only [List.length_singleton]
      omega
theorem fill_free {n : List Nat} : ∀ {l : List Nat}, 64 ∉ l → fill l n = l
  | [], _ => rfl
  | c :: l, h => by
    rw [fill_cons, if_neg fun e => h (by rw [e]; exact List.mem_cons_self), fill_free (l := l) fun m => h (List.mem_cons_of_mem _ m)]
    rfl
theorem spl_ne : ∀ (l acc : List Nat), TL.spl [64] 0 acc l ≠ []
  | [], acc => by rw [TL.spl_nil]; simp
  | c :: l, acc => by
    cases h : TL.pre [64] (c :: l) with
    | true => rw [TL.spl_hit h]; simp
    | false => rw [TL.spl_miss h]; exact spl_ne l _
theorem pre64 (c : Nat) (l : List Nat) : TL.pre [64] (c :: l) = decide (c = 64) := by
  by_cases h : c = 64
  · subst h
    simpa using TL.pre_self [64] l
  · rw [decide_eq_false h]
    exact TL.pre_of_head [] l h
theorem join_spl (n : List Nat) : ∀ (l acc : List Nat), TL.joinL n (TL.spl [64] 0 acc l) = acc ++ fill l n
  | [], acc => by rw [TL.spl_nil, fill_nil, List.append_nil]; rfl
  | c :: l, acc => by
    rw [fill_cons]
    by_cases h : c = 64
    · rw [TL.spl_hit (by rw [pre64, decide_eq_true h]), if_pos h]
      have ih := join_spl n l []
      have ne := spl_ne l []
      show TL.joinL n (acc :: TL.spl [64] 0 [] l) = _
      cases e : TL.spl [64] 0 [] l with
      | nil => exact absurd e ne
      | cons x xs =>
        rw [e] at ih
        show acc ++ (n ++ TL.joinL n (x :: xs)) = _
        rw [ih, List.nil_append]
    · rw [TL.spl_miss (by rw [pre64, decide_eq_false h]), if_neg h, join_spl n l (acc ++ [c]), List.append_assoc]
theorem tl_tx (l : List Nat) : TL.tl (tx l) = l := by
  show (tx l).cps.toList = l
  exact congrArg Array.toList (show (tx l).cps = l.toArray from rfl)
theorem mark_tx : (Str.ofString "@" : Str) = tx [64] := by decide +kernel
theorem split_tx {l : List Nat} : Txt.split (tx l) (tx [64]) = (TL.spl [64] 0 [] l).map tx := by
  refine TL.map_tl_inj ?_
  have h := TL.split_spl (tx l) (tx [64]) (by rw [tl_tx]; simp) (TL.kind_ok (by decide +kernel))
  rw [h, tl_tx, tl_tx, List.map_map]
  have e : (TL.tl ∘ tx) = id := funext tl_tx
  rw [e, List.map_id]
theorem join_txs (n : List Nat) (ps : List (List Nat)) : Txt.join (tx n) (ps.map tx) = tx (TL.joinL n ps) := by
  refine TL.ext_tl ?_
  rw [TL.join_eq, TL.tl_join, tl_tx, tl_tx, List.map_map]
  have e : (TL.tl ∘ tx) = id := funext tl_tx
  rw [e, List.map_id]
theorem join_split_fill (l n : List Nat) : Txt.join (tx n) (Txt.split (tx l) (tx [64])) = tx (fill l n) := by
  rw [split_tx, join_txs, join_spl, List.nil_append]
theorem repl_fill (l n : List Nat) : Txt.replace (tx l) (tx [64]) (tx n) = tx (fill l n) := by
  have h := StrLaws.replace_one (tx l) (tx n) 64
  rw [show (⟨#[64]⟩ : Str) = tx [64] from rfl] at h
  rw [h, ← TL.join_eq, join_split_fill]
/-- what stands ahead of the first mark -/
def ahead : List Nat → List Nat
  | [] => []
  | c :: l => if c = 64 then [] else c :: ahead l
theorem ahead_free : ∀ l : List Nat, 64 ∉ ahead l
  | [] => by simp [ahead]
  | c :: l => by
    unfold ahead
    split
    · simp
    · rename_i h
      intro m
      rcases List.mem_cons.mp m with e | m
      · exact h e.symm
      · exact ahead_free l m
theorem ahead_pre : ∀ l : List Nat, ∃ r, l = ahead l ++ r ∧ (r = [] ∨ ∃ r', r = 64 :: r')
  | [] => ⟨[], rfl, .inl rfl⟩
  | c :: l => by
    unfold ahead
    split
    · rename_i h
      exact ⟨c :: l, rfl, .inr ⟨l, by rw [h]⟩⟩
    · obtain ⟨r, e, h⟩ := ahead_pre l
      exact ⟨r, by rw [List.cons_append, ← e], h⟩
theorem spl_head : ∀ (l acc : List Nat), (TL.spl [64] 0 acc l)[0]? = some (acc ++ ahead l)
  | [], acc => by rw [TL.spl_nil]; simp [ahead]
  | c :: l, acc => by
    by_cases h : c = 64
    · rw [TL.spl_hit (by rw [pre64, decide_eq_true h])]
      simp [ahead, h]
    · rw [TL.spl_miss (by rw [pre64, decide_eq_false h]), spl_head l (acc ++ [c])]
      simp [ahead, h]
theorem spl_len : ∀ (l acc : List Nat), (TL.spl [64] 0 acc l).length ≤ l.length + 1
  | [], acc => by rw [TL.spl_nil]; exact Nat.le_refl _
  | c :: l, acc => by
    by_cases h : c = 64
    · rw [TL.spl_hit (by rw [pre64, decide_eq_true h]), List.length_cons, List.length_cons]
      exact Nat.succ_le_succ (spl_len l [])
    · rw [TL.spl_miss (by rw [pre64, decide_eq_false h]), List.length_cons]
      have := spl_len l (acc ++ [c])
      omega
theorem spl_sum : ∀ (l acc : List Nat), ((TL.spl [64] 0 acc l).map List.length).sum ≤ acc.length + l.length
  | [], acc => by rw [TL.spl_nil]; simp
  | c :: l, acc => by
    by_cases h : c = 64
    · rw [TL.spl_hit (by rw [pre64, decide_eq_true h]), List.map_cons, List.sum_cons]
      have h2 : ((TL.spl [64] 0 [] l).map List.length).sum ≤ 0 + l.length := spl_sum l []
      show acc.length + ((TL.spl [64] 0 [] l).map List.length).sum ≤ acc.length + (l.length + 1)
      omega
    · rw [TL.spl_miss (by rw [pre64, decide_eq_false h])]
      have h2 := spl_sum l (acc ++ [c])
      rw [List.length_append, List.length_singleton] at h2
      rw [List.length_cons]
      omega
theorem par_ahead : ∀ (l acc : List Nat), (match TL.par [64] acc l with | some (a, _) => a | none => acc ++ l) = acc ++ ahead l
  | [], acc => by simp [TL.par, ahead]
  | c :: l, acc => by
    by_cases h : c = 64
    · rw [TL.par_hit (by rw [pre64, decide_eq_true h])]
      simp [ahead, h]
    · rw [TL.par_miss (by rw [pre64, decide_eq_false h])]
      have ih := par_ahead l (acc ++ [c])
      rw [show ahead (c :: l) = c :: ahead l by simp [ahead, h]]
      rw [List.append_assoc, List.append_assoc] at ih
      exact ih
theorem part_ahead (l : List Nat) : (Txt.partition (tx l) (tx [64])).1 = tx (ahead l) := by
  rw [TL.partition_par _ _ (by rw [tl_tx]; simp), tl_tx, tl_tx]
  have h := par_ahead l []
  cases e : TL.par [64] [] l with
  | none =>
    rw [e] at h
    exact congrArg tx h
  | some p =>
    rw [e] at h
    exact congrArg tx h
end Un

namespace Un
/-! ### words and their periods -/
def per (w : List Nat) (i : Nat) : Nat := w.getD (i % w.length) 0
def Per (w : List Nat) (k : Nat) : Prop := ∀ i, per w (i + k) = per w i
def repW (n : Nat) (l : List Nat) : List Nat := (List.replicate n l).flatten
theorem per_get {w : List Nat} {i : Nat} (h : i < w.length) : w[i]? = some (per w i) := by
  unfold per
  rw [Nat.mod_eq_of_lt h, List.getElem?_eq_getElem h, List.getD_eq_getElem?_getD, List.getElem?_eq_getElem h]
  rfl
theorem per_mod (w : List Nat) (i : Nat) : per w (i % w.length) = per w i := by
  unfold per
  rw [Nat.mod_mod]
theorem per_add_len (w : List Nat) (i : Nat) : per w (i + w.length) = per w i := by
  unfold per
  rw [Nat.add_mod_right]
theorem per_add_mul (w : List Nat) (i m : Nat) : per w (i + w.length * m) = per w i := by
  unfold per
  rw [Nat.add_mul_mod_self_left]
theorem per_two {w : List Nat} {j : Nat} (h : j < 2 * w.length) : (w ++ w)[j]? = some (per w j) := by
  by_cases hj : j < w.length
  · rw [List.getElem?_append_left hj, per_get hj]
  · have e : j - w.length + w.length = j := by omega
    rw [List.getElem?_append_right (by omega), per_get (by omega), ← per_add_len, e]
theorem rot_iff {w : List Nat} {k : Nat} (hw : w ≠ []) (hk : k ≤ w.length) : ((w ++ w).drop k).take w.length = w ↔ Per w k := by
  have hpos : 0 < w.length := List.length_pos_iff.mpr hw
  constructor
  · intro h i
    have hi : i % w.length < w.length := Nat.mod_lt _ hpos
    have h1 := congrArg (fun l => l[i % w.length]?) h
    simp only [List.getElem?_take, if_pos hi, List.getElem?_drop] at h1
    rw [per_two (by omega), per_get hi] at h1
    have h2 := Option.some.inj h1
    rw [per_mod, ← per_mod w (k + i % w.length), Nat.add_mod_mod, per_mod, Nat.add_comm] at h2
    exact h2
  · intro h
    apply List.ext_getElem?
    intro i
    by_cases hi : i < w.length
    · rw [List.getElem?_take, if_pos hi, List.getElem?_drop, per_two (by omega), per_get hi, Nat.add_comm, h i]
    · rw [List.getElem?_eq_none (by rw [List.length_take]; omega), List.getElem?_eq_none (by omega)]
theorem per_len (w : List Nat) : Per w w.length := per_add_len w
theorem Per.mul {w : List Nat} {k : Nat} (h : Per w k) : ∀ (m i : Nat), per w (i + k * m) = per w i
  | 0, i => by simp
  | m + 1, i => by
    rw [Nat.mul_succ, ← Nat.add_assoc, h, h.mul m]
theorem repW_len (n : Nat) (l : List Nat) : (repW n l).length = n * l.length := by
  unfold repW
  induction n with
  | zero => simp
  | succ n ih => rw [List.replicate_succ, List.flatten_cons, List.length_append, ih, Nat.add_mul, Nat.one_mul, Nat.add_comm]
theorem repW_get : ∀ (n : Nat) (u : List Nat) (i : Nat), i < n * u.length → (repW n u)[i]? = some (per u i)
  | 0, u, i, h => by simp at h
  | n + 1, u, i, h => by
    have e : repW (n + 1) u = u ++ repW n u := by
      unfold repW
      rw [List.replicate_succ, List.flatten_cons]
    rw [e]
    by_cases hi : i < u.length
    · rw [List.getElem?_append_left hi, per_get hi]
    · have e2 : i - u.length + u.length = i := by omega
      rw [List.getElem?_append_right (by omega), repW_get n u _ (by rw [Nat.add_mul, Nat.one_mul] at h; omega), ← per_add_len, e2]
/-- the length of the root -/
def RootLen (w : List Nat) (k : Nat) : Prop := 1 ≤ k ∧ k ≤ w.length ∧ Per w k ∧ ∀ j, 1 ≤ j → j < k → ¬ Per w j
theorem least_of {P : Nat → Prop} : ∀ n : Nat, P n → 1 ≤ n → ∃ k, 1 ≤ k ∧ k ≤ n ∧ P k ∧ ∀ j, 1 ≤ j → j < k → ¬ P j := by
  intro n
  induction n using Nat.strongRecOn with
  | ind n ih =>
    intro hp h1
    rcases Classical.em (∃ j, 1 ≤ j ∧ j < n ∧ P j) with ⟨j, hj1, hj2, hj3⟩ | h
    · obtain ⟨k, a, b, c, d⟩ := ih j hj2 hj3 hj1
      exact ⟨k, a, by omega, c, d⟩
    · exact ⟨n, h1, Nat.le_refl _, hp, fun j a b c => h ⟨j, a, b, c⟩⟩
theorem root_ex {w : List Nat} (hw : w ≠ []) : ∃ k, RootLen w k := least_of w.length (per_len w) (List.length_pos_iff.mpr hw)
theorem Per.sub {w : List Nat} {a b : Nat} (ha : Per w a) (hb : Per w (a + b)) : Per w b := fun i => by
  have h1 := hb i
  have h2 := ha (i + b)
  rw [show i + (a + b) = i + b + a by omega] at h1
  rw [← h2, h1]
theorem per_dvd {w : List Nat} {k n : Nat} (hk : 1 ≤ k) (hp : Per w k) (hmin : ∀ j, 1 ≤ j → j < k → ¬ Per w j) (hn : Per w n) : n % k = 0 := by
  rcases Nat.eq_zero_or_pos (n % k) with h | h
  · exact h
  · exfalso
    have e := Nat.div_add_mod n k
    have h1 : Per w (k * (n / k)) := fun i => hp.mul (n / k) i
    have h2 : Per w (n % k) := h1.sub (by rw [e]; exact hn)
    exact hmin _ h (Nat.mod_lt _ hk) h2
theorem take_per {w : List Nat} {k : Nat} (hk : 1 ≤ k) (hl : k ≤ w.length) (hp : Per w k) (i : Nat) : per (w.take k) i = per w i := by
  have hlen : (w.take k).length = k := by rw [List.length_take]; omega
  have hm : i % k < k := Nat.mod_lt _ hk
  have h1 : per (w.take k) i = per w (i % k) := by
    have a := per_get (w := w.take k) (i := i % k) (by rw [hlen]; exact hm)
    rw [List.getElem?_take, if_pos hm, per_get (by omega)] at a
    have a' := Option.some.inj a
    rw [a']
    have b := per_mod (w.take k) i
    rw [hlen] at b
    exact b.symm
  have h2 := hp.mul (i / k) (i % k)
  rw [Nat.mod_add_div] at h2
  rw [h1, h2]
theorem root_rep {w : List Nat} {k : Nat} (h : RootLen w k) : repW (w.length / k) (w.take k) = w := by
  obtain ⟨h1, h2, h3, h4⟩ := h
  have hd := per_dvd h1 h3 h4 (per_len w)
  have hlen : (w.take k).length = k := by rw [List.length_take]; omega
  have e : w.length / k * k = w.length := by
    have := Nat.div_add_mod w.length k
    rw [hd, Nat.mul_comm] at this
    omega
  apply List.ext_getElem?
  intro i
  by_cases hi : i < w.length
  · rw [repW_get _ _ _ (by rw [hlen, e]; exact hi), per_get hi, take_per h1 h2 h3]
  · rw [List.getElem?_eq_none (by rw [repW_len, hlen, e]; omega), List.getElem?_eq_none (by omega)]
/-- a word that is a repetition of its first s letters has the period s -/
theorem per_of_rep {w : List Nat} {s o : Nat} (hs : 1 ≤ s) (hl : s ≤ w.length) (h : repW o (w.take s) = w) : Per w s ∧ o * s = w.length := by
  have hlen : (w.take s).length = s := by rw [List.length_take]; omega
  have e : o * s = w.length := by
    have := congrArg List.length h
    rw [repW_len, hlen] at this
    exact this
  refine ⟨fun i => ?_, e⟩
  have key : ∀ j, per w j = per (w.take s) j := fun j => by
    have hj : j % w.length < w.length := Nat.mod_lt _ (by omega)
    have a := per_get hj
    rw [per_mod] at a
    have b := repW_get o (w.take s) (j % w.length) (by rw [hlen, e]; exact hj)
    rw [h, a] at b
    rw [Option.some.inj b]
    unfold per
    rw [hlen, ← e, Nat.mod_mul_left_mod]
  rw [key, key]
  have := per_add_len (w.take s) i
  rw [hlen] at this
  exact this
/-- two words with one endless word -/
theorem rep_eq_iff {w v : List Nat} (hw : w ≠ []) (hv : v ≠ []) : repW v.length w = repW w.length v ↔ ∀ i, per w i = per v i := by
  have h1 : 0 < w.length := List.length_pos_iff.mpr hw
  have h2 : 0 < v.length := List.length_pos_iff.mpr hv
  constructor
  · intro h i
    have hN : 0 < v.length * w.length := Nat.mul_pos h2 h1
    have hi : i % (v.length * w.length) < v.length * w.length := Nat.mod_lt _ hN
    have a := repW_get v.length w _ hi
    have b := repW_get w.length v (i % (v.length * w.length)) (Nat.lt_of_lt_of_eq hi (Nat.mul_comm _ _))
    rw [h, b] at a
    have c := Option.some.inj a
    unfold per at c ⊢
    rw [Nat.mod_mul_left_mod, Nat.mul_comm v.length, Nat.mod_mul_left_mod] at c
    exact c.symm
  · intro h
    apply List.ext_getElem?
    intro i
    by_cases hi : i < v.length * w.length
    · rw [repW_get _ _ _ hi, repW_get _ _ _ (by rw [Nat.mul_comm]; exact hi), h]
    · rw [List.getElem?_eq_none (by rw [repW_len]; omega), List.getElem?_eq_none (by rw [repW_len, Nat.mul_comm]; omega)]
theorem roots_iff {w v : List Nat} {k m : Nat} (hw : RootLen w k) (hv : RootLen v m) : w.take k = v.take m ↔ ∀ i, per w i = per v i := by
  obtain ⟨a1, a2, a3, a4⟩ := hw
  obtain ⟨b1, b2, b3, b4⟩ := hv
  constructor
  · intro h i
    rw [← take_per a1 a2 a3, ← take_per b1 b2 b3, h]
  · intro h
    have hPer : ∀ j, Per w j ↔ Per v j := fun j => ⟨fun p i => by rw [← h, ← h]; exact p i, fun p i => by rw [h, h]; exact p i⟩
    have e : k = m := by
      rcases Nat.lt_trichotomy k m with g | g | g
      · exact (b4 k a1 g ((hPer k).mp a3)).elim
      · exact g
      · exact (a4 m b1 g ((hPer m).mpr b3)).elim
    subst e
    apply List.ext_getElem?
    intro i
    by_cases hi : i < k
    · rw [List.getElem?_take, if_pos hi, List.getElem?_take, if_pos hi, per_get (by omega), per_get (by omega), h]
    · rw [List.getElem?_eq_none (by rw [List.length_take]; omega), List.getElem?_eq_none (by rw [List.length_take]; omega)]
/-- how many first letters follow f -/
def follows (f : Nat → Nat) : List Nat → Nat → Nat
  | [], _ => 0
  | c :: r, i => if c = f i then follows f r (i + 1) + 1 else 0
theorem follows_le (f : Nat → Nat) : ∀ (t : List Nat) (i : Nat), follows f t i ≤ t.length
  | [], _ => Nat.le_refl _
  | c :: r, i => by
    unfold follows
    split
    · have := follows_le f r (i + 1)
      simp
      exact this
    · exact Nat.zero_le _
theorem follows_stop (f : Nat → Nat) : ∀ (t : List Nat) (i j c : Nat), (∀ m d, m < j → t[m]? = some d → d = f (i + m)) → t[j]? = some c → c ≠ f (i + j) → follows f t i = j
  | [], _, _, _, _, h, _ => by simp at h
  | a :: r, i, 0, c, _, h, hn => by
    have : a = c := by simpa using h
    subst this
    unfold follows
    rw [if_neg (by simpa using hn)]
  | a :: r, i, j + 1, c, hb, h, hn => by
    have h0 : a = f i := by
      have := hb 0 a (by omega) rfl
      simpa using this
    unfold follows
    rw [if_pos h0, follows_stop f r (i + 1) j c (fun m d hm hd => by
      have := hb (m + 1) d (by omega) (by simpa using hd)
      rw [this]
      congr 1
      omega) (by simpa using h) (by rw [show i + 1 + j = i + (j + 1) by omega]; exact hn)]
theorem follows_all (f : Nat → Nat) : ∀ (t : List Nat) (i : Nat), (∀ m d, m < t.length → t[m]? = some d → d = f (i + m)) → follows f t i = t.length
  | [], _, _ => rfl
  | a :: r, i, hb => by
    have h0 : a = f i := by
      have := hb 0 a (by simp) rfl
      simpa using this
    unfold follows
    rw [if_pos h0, follows_all f r (i + 1) (fun m d hm hd => by
      have := hb (m + 1) d (by simp; omega) (by simpa using hd)
      rw [this]
      congr 1
      omega)]
    rfl
end Un

/-! UnRel: how one text stands to another one; common beginnings; the word against a mark. -/
namespace Un
open PySem PySem.Spec PyProof.Rows L2
def wSame : List Nat := [115, 97, 109, 101]
def wBegins : List Nat := [98, 101, 103, 105, 110, 115]
def wBegun : List Nat := [98, 101, 103, 117, 110]
def wBelow : List Nat := [98, 101, 108, 111, 119]
def wAbove : List Nat := [97, 98, 111, 118, 101]
def relW : List Nat → List Nat → List Nat
  | [], [] => wSame
  | [], _ :: _ => wBegins
  | _ :: _, [] => wBegun
  | a :: x, b :: y => if a = b then relW x y else if a < b then wBelow else wAbove
theorem relW_same : ∀ x : List Nat, relW x x = wSame
  | [] => rfl
  | a :: x => by
    unfold relW
    rw [if_pos rfl, relW_same x]
theorem relW_app : ∀ p x y : List Nat, relW (p ++ x) (p ++ y) = relW x y
  | [], _, _ => rfl
  | a :: p, x, y => by
    show (if a = a then relW (p ++ x) (p ++ y) else _) = _
    rw [if_pos rfl, relW_app p x y]
theorem relW_begins : ∀ {x y : List Nat}, x ≠ y → x.isPrefixOf y = true → relW x y = wBegins
  | [], [], h, _ => absurd rfl h
  | [], _ :: _, _, _ => rfl
  | _ :: _, [], _, h => by simp [List.isPrefixOf] at h
  | a :: x, b :: y, h, hp => by
    have h2 : a = b ∧ x.isPrefixOf y = true := by simpa [List.isPrefixOf] using hp
    obtain ⟨rfl, h2⟩ := h2
    unfold relW
    rw [if_pos rfl, relW_begins (fun e => h (by rw [e])) h2]
theorem relW_begun : ∀ {x y : List Nat}, x ≠ y → y.isPrefixOf x = true → relW x y = wBegun
  | [], [], h, _ => absurd rfl h
  | _ :: _, [], _, _ => rfl
  | [], _ :: _, _, h => by simp [List.isPrefixOf] at h
  | a :: x, b :: y, h, hp => by
    have h2 : b = a ∧ y.isPrefixOf x = true := by simpa [List.isPrefixOf] using hp
    obtain ⟨rfl, h2⟩ := h2
    unfold relW
    rw [if_pos rfl, relW_begun (fun e => h (by rw [e])) h2]
theorem relW_lex : ∀ {x y : List Nat}, ¬ x.isPrefixOf y = true → ¬ y.isPrefixOf x = true → relW x y = if x < y then wBelow else wAbove
  | [], _, h, _ => absurd (by simp [List.isPrefixOf]) h
  | _ :: _, [], _, h => absurd (by simp [List.isPrefixOf]) h
  | a :: x, b :: y, h1, h2 => by
    unfold relW
    by_cases e : a = b
    · subst e
      rw [if_pos rfl]
      have g1 : ¬ x.isPrefixOf y = true := fun z => h1 (by simp [List.isPrefixOf, z])
      have g2 : ¬ y.isPrefixOf x = true := fun z => h2 (by simp [List.isPrefixOf, z])
      rw [relW_lex g1 g2]
      have : (a :: x < a :: y) ↔ x < y := by simp [List.cons_lt_cons_iff]
      simp only [this]
    · rw [if_neg e]
      have : (a :: x < b :: y) ↔ a < b := by simp [List.cons_lt_cons_iff, e]
      simp only [this]
theorem relW_diff : ∀ (k : Nat) {x y : List Nat} {a b : Nat}, (∀ i, i < k → x[i]? = y[i]?) → x[k]? = some a → y[k]? = some b → a ≠ b → relW x y = if a < b then wBelow else wAbove
  | 0, [], _, _, _, _, h, _, _ => by simp at h
  | 0, _ :: _, [], _, _, _, _, h, _ => by simp at h
  | 0, c :: x, d :: y, a, b, _, h1, h2, ne => by
    have e1 : c = a := by simpa using h1
    have e2 : d = b := by simpa using h2
    subst e1 e2
    unfold relW
    rw [if_neg ne]
  | k + 1, [], _, _, _, _, h, _, _ => by simp at h
  | k + 1, _ :: _, [], _, _, _, _, h, _ => by simp at h
  | k + 1, c :: x, d :: y, a, b, he, h1, h2, ne => by
    have e : c = d := by
      have := he 0 (Nat.succ_pos k)
      simpa using this
    subst e
    unfold relW
    rw [if_pos rfl]
    exact relW_diff k (fun i hi => by have := he (i + 1) (Nat.succ_lt_succ hi); simpa using this) (by simpa using h1) (by simpa using h2) ne
/-- how far two texts are alike -/
def com : List Nat → List Nat → Nat
  | a :: x, b :: y => if a = b then com x y + 1 else 0
  | _, _ => 0
theorem com_le1 : ∀ x y : List Nat, com x y ≤ x.length
  | [], _ => by unfold com; exact Nat.le_refl _
  | _ :: _, [] => by unfold com; exact Nat.zero_le _
  | a :: x, b :: y => by
    unfold com
    have := com_le1 x y
    rw [List.length_cons]
    split <;> omega
theorem com_le2 : ∀ x y : List Nat, com x y ≤ y.length
  | [], _ => by unfold com; exact Nat.zero_le _
  | _ :: _, [] => by unfold com; exact Nat.le_refl _
  | a :: x, b :: y => by
    unfold com
    have := com_le2 x y
    rw [List.length_cons]
    split <;> omega
theorem com_stop : ∀ (k : Nat) {x y : List Nat}, (∀ i, i < k → ∃ a, x[i]? = some a ∧ y[i]? = some a) → (x.length ≤ k ∨ y.length ≤ k ∨ ∃ a b, x[k]? = some a ∧ y[k]? = some b ∧ a ≠ b) → com x y = k
  | 0, [], _, _, _ => by unfold com; rfl
  | 0, _ :: _, [], _, _ => by unfold com; rfl
  | 0, c :: x, d :: y, _, h => by
    unfold com
    rcases h with h | h | ⟨a, b, h1, h2, ne⟩
    · simp at h
    · simp at h
    · have e1 : c = a := by simpa using h1
      have e2 : d = b := by simpa using h2
      rw [e1, e2, if_neg ne]
  | k + 1, [], _, he, _ => by
    obtain ⟨a, h, _⟩ := he 0 (Nat.succ_pos k)
    simp at h
  | k + 1, _ :: _, [], he, _ => by
    obtain ⟨a, _, h⟩ := he 0 (Nat.succ_pos k)
    simp at h
  | k + 1, c :: x, d :: y, he, h => by
    obtain ⟨a, h1, h2⟩ := he 0 (Nat.succ_pos k)
    have e1 : c = a := by simpa using h1
    have e2 : d = a := by simpa using h2
    unfold com
    rw [e1, e2, if_pos rfl, com_stop k (fun i hi => by have := he (i + 1) (Nat.succ_lt_succ hi); simpa using this) (by
      rcases h with h | h | ⟨a, b, h1, h2, ne⟩
      · exact .inl (by simpa using h)
      · exact .inr (.inl (by simpa using h))
      · exact .inr (.inr ⟨a, b, by simpa using h1, by simpa using h2, ne⟩))]
/-- both behind their common beginning -/
inductive Apart : List Nat → List Nat → Prop where
  | left (y : List Nat) : Apart [] y
  | right (x : List Nat) : Apart x []
  | both {a b : Nat} (x y : List Nat) (ne : a ≠ b) : Apart (a :: x) (b :: y)
theorem com_apart : ∀ x y : List Nat, ∃ p u v, x = p ++ u ∧ y = p ++ v ∧ p.length = com x y ∧ x.drop (com x y) = u ∧ y.drop (com x y) = v ∧ Apart u v
  | [], y => ⟨[], [], y, rfl, rfl, by unfold com; rfl, by simp, by unfold com; rfl, .left y⟩
  | a :: x, [] => ⟨[], a :: x, [], rfl, rfl, by unfold com; rfl, by unfold com; rfl, by simp, .right _⟩
  | a :: x, b :: y => by
    by_cases e : a = b
    · subst e
      obtain ⟨p, u, v, h1, h2, h3, h4, h5, h6⟩ := com_apart x y
      have ec : com (a :: x) (a :: y) = com x y + 1 := by
        show (if a = a then com x y + 1 else 0) = _
        rw [if_pos rfl]
      rw [ec]
      exact ⟨a :: p, u, v, by rw [h1]; rfl, by rw [h2]; rfl, by rw [List.length_cons, h3], h4, h5, h6⟩
    · have ec : com (a :: x) (b :: y) = 0 := by
        show (if a = b then com x y + 1 else 0) = _
        rw [if_neg e]
      rw [ec]
      exact ⟨[], a :: x, b :: y, rfl, rfl, rfl, rfl, rfl, .both x y e⟩
/-- the fixed letters that stand against a mark -/
def word2 : List Nat → List Nat → Option (List Nat)
  | a :: x, b :: y => if a = 64 then some (ahead (b :: y)) else if b = 64 then some (ahead (a :: x)) else none
  | _, _ => none
def wordO (x y : List Nat) : Option (List Nat) := word2 (x.drop (com x y)) (y.drop (com x y))
def optV : Option (List Nat) → V
  | some l => .str (tx l)
  | none => .non
/-- what stands along a word, then otherwise, against the word, what it holds behind a mark -/
theorem fill_word {w n : List Nat} {i c : Nat} {r t : List Nat} (hw : w ≠ []) (he : ∀ j, j < i → n[j]? = some (per w j)) (hc : n[i]? = some c) (hr : (r = [] ∧ i < w.length) ∨ ∃ r', r = 64 :: r') :
    (∀ j, j ≤ i → (fill (w ++ r) n)[j]? = some (per w j)) ∨ 64 ∈ w := by
  by_cases hf : 64 ∈ w
  · exact .inr hf
  refine .inl fun j hj => ?_
  rw [fill_app, fill_free hf]
  have hn : i < n.length := (List.getElem?_eq_some_iff.mp hc).1
  have pos : 0 < w.length := List.length_pos_iff.mpr hw
  by_cases h : j < w.length
  · rw [List.getElem?_append_left h, per_get h]
  · rcases hr with ⟨_, h2⟩ | ⟨r', rfl⟩
    · omega
    · rw [List.getElem?_append_right (by omega), fill_cons, if_pos rfl, List.getElem?_append_left (by omega), he _ (by omega)]
      have e : j = (j - w.length) + w.length := by omega
      have : per w j = per w (j - w.length) := by
        unfold per
        rw [e, Nat.add_sub_cancel, Nat.add_mod_right]
      rw [this]
/-- the letter at which a name leaves the word decides -/
theorem decided_left {u v n w r : List Nat} {i c : Nat} (ev : v = w ++ r) (hw : w ≠ []) (hf : 64 ∉ w) (he : ∀ j, j < i → n[j]? = some (per w j)) (hc : n[i]? = some c) (ne : c ≠ per w i) (hr : (r = [] ∧ i < w.length) ∨ ∃ r', r = 64 :: r') :
    relW (fill (64 :: u) n) (fill v n) = (if c < per w i then wBelow else wAbove) ∧ relW (fill v n) (fill (64 :: u) n) = (if per w i < c then wBelow else wAbove) := by
  have hn : i < n.length := (List.getElem?_eq_some_iff.mp hc).1
  have h1 : ∀ j, j ≤ i → (fill (64 :: u) n)[j]? = n[j]? := fun j hj => by
    rw [fill_cons, if_pos rfl, List.getElem?_append_left (by omega)]
  have h2 := (fill_word (t := []) hw he hc hr).resolve_right hf
  rw [← ev] at h2
  have same : ∀ j, j < i → (fill (64 :: u) n)[j]? = (fill v n)[j]? := fun j hj => by rw [h1 j (Nat.le_of_lt hj), h2 j (Nat.le_of_lt hj), he j hj]
  have a1 := h1 i (Nat.le_refl i)
  rw [hc] at a1
  exact ⟨relW_diff i same a1 (h2 i (Nat.le_refl i)) ne, relW_diff i (fun j hj => (same j hj).symm) (h2 i (Nat.le_refl i)) a1 (Ne.symm ne)⟩
end Un

local macro_rules | `(tactic| walk_at "rd") => `(tactic| first
  | with_reducible refine' Un.rd_seq ?_
  | with_reducible refine' Un.rd_asg ?_
  | with_reducible refine' Un.rd_gname ?_
  | ((with_reducible refine' Un.rd_var ?k1 ?_); (case k1 => rfl))
  | with_reducible refine' Un.rd_c ?_
  | with_reducible refine' Un.rd_op ?_
  | with_reducible refine' Un.rd_I0 ?_
  | with_reducible refine' Un.rd_test ?_
  | with_reducible refine' Un.rd_bl ?_
  | with_reducible refine' Un.rd_ifS ?_
  | with_reducible refine' Un.rd_call ?_
  | with_reducible refine' Un.rd_cons ?_
  | with_reducible refine' Un.rd_nil ?_
  | with_reducible refine' Un.rd_ret ?_
  | with_reducible refine' Un.rd_retN ?_
  | with_reducible refine' Un.rd_drop ?_
  | with_reducible refine' Un.rd_next ?_
  | with_reducible refine' Un.rd_break ?_
  | with_reducible refine' Un.rd_cont ?_
  | with_reducible refine' Un.rd_cb ?_
  | with_reducible refine' Un.rd_bm ?_
  | with_reducible refine' Un.rd_bm0 ?_
  | with_reducible refine' Un.rd_tyS ?_
  | with_reducible refine' Un.rd_lst ?_
  | with_reducible refine' Un.rd_tup ?_
  | with_reducible refine' Un.rd_sl ?_
  | with_reducible refine' Un.rd_part ?_
  | with_reducible refine' Un.rd_some ?_
  | with_reducible refine' Un.rd_nopart ?_
  | with_reducible refine' Un.rd_un ?_
  | with_reducible refine' Un.rd_U ?_
  | with_reducible refine' Un.rd_B ?_
  | with_reducible refine' Un.rd_and ?_
  | with_reducible refine' Un.rd_or ?_
  | with_reducible refine' Un.rd_not ?_
  | with_reducible refine' Un.rd_andV ?_
  | with_reducible refine' Un.rd_orV ?_
  | with_reducible refine' Un.rd_notV ?_
  | with_reducible refine' Un.rd_if ?_
  | with_reducible refine' Un.rd_gsub ?_
  | with_reducible refine' Un.rd_gnil ?_
  | with_reducible refine' Un.rd_gcons ?_
  | with_reducible refine' Un.rd_two ?_
  | with_reducible refine' Un.rd_ltX ?_
  | with_reducible refine' Un.rd_inX ?_
  | ((with_reducible refine' Un.rd_eq ?k1 ?_); (case k1 => rfl))
  | ((with_reducible refine' Un.rd_ne ?k1 ?_); (case k1 => rfl))
  | with_reducible refine' Un.rd_intI ?_
  | with_reducible refine' Un.rd_intB ?_
  | with_reducible refine' Un.rd_strS ?_
  | with_reducible refine' Un.rd_strE ?_
  | with_reducible refine' Un.rd_one ?_
  | with_reducible refine' Un.rd_par ?_
  | with_reducible refine' Un.rd_revL ?_
  | with_reducible refine' Un.rd_lc ?_
  | with_reducible refine' Un.rd_iList ?_
  | with_reducible refine' Un.rd_iStr ?_
  | with_reducible refine' Un.rd_iTup ?_
  | with_reducible refine' Un.rd_for ?_
  | with_reducible refine' Un.rd_rng1 ?_
  | with_reducible refine' Un.rd_rng2 ?_
  | with_reducible refine' Un.rd_yes ?_
  | with_reducible refine' Un.rd_startX ?_
  | with_reducible refine' Un.rd_leX ?_
  | with_reducible refine' Un.rd_isN1 ?_
  | with_reducible refine' Un.rd_notN1 ?_
  | with_reducible refine' Un.rd_maxX ?_
  | with_reducible refine' Un.rd_iEnumX (l := []) ?_)
local macro_rules | `(tactic| walk_at "rds") => `(tactic| repeat walk_at "rd")

local macro_rules | `(tactic| walk_at "rd") => `(tactic| first
  | with_reducible refine' Un.rd_fld ?_
  | with_reducible refine' Un.rd_sfld ?_
  | with_reducible refine' Un.rd_dput ?_
  | with_reducible refine' Un.rd_dget ?_
  | with_reducible refine' Un.rd_din ?_
  | with_reducible refine' Un.rd_dnotin ?_
  | with_reducible refine' Un.rd_ddel ?_
  | with_reducible refine' Un.rd_dnew ?_
  | with_reducible refine' Un.rd_make ?_
  | with_reducible refine' Un.rd_meth ?_
  | with_reducible refine' Un.rd_methN ?_
  | with_reducible refine' Un.rd_iKeys ?_
  | with_reducible refine' Un.rd_items ?_
  | with_reducible refine' Un.rd_mkR ?_
  | with_reducible refine' Un.rd_pop1 ?_
  | with_reducible refine' Un.rd_get2 ?_
  | with_reducible refine' Un.rd_gtX ?_)

local macro_rules | `(tactic| walk_at "rd") => `(tactic| first
  | with_reducible refine' Un.rd_par3 ?_
  | with_reducible refine' Un.rd_three ?_
  | with_reducible refine' GT.rd_makeW ?_
  | with_reducible refine' GT.rd_make0 ?_
  | with_reducible refine' GT.rd_replE ?_
  | with_reducible refine' GT.rd_orT ?_
  | with_reducible refine' GT.rd_mkV ?_
  | with_reducible refine' GT.rd_callS ?_)
namespace Zk10
open PySem PySem.Spec PyProof.Rows L2 Un
abbrev tk : GT.TK := ⟨236, 413, by decide⟩
def topS (i : Nat) : Stmt := PySem.Challenge.pw_undername_k10_made_texts.main.body.getD i (.Pass ⟨0, 0, 0, 0⟩)
abbrev s_Made___init__ : Stmt := inClass (topS 7) 0
abbrev n_Made___init__ : List Str := ["self", "text", "at", "character", "letter"]
theorem sc_Made___init__ : FnScope n_Made___init__ ["self", "text"] (defScope s_Made___init__) := ⟨rfl, rfl, rfl, by decide +kernel, rfl, by decide +kernel, by decide +kernel⟩
abbrev s_Made___call__ : Stmt := inClass (topS 7) 1
abbrev n_Made___call__ : List Str := ["self", "name"]
theorem sc_Made___call__ : FnScope n_Made___call__ ["self", "name"] (defScope s_Made___call__) := ⟨rfl, rfl, rfl, by decide +kernel, rfl, by decide +kernel, by decide +kernel⟩
abbrev s_Made___add__ : Stmt := inClass (topS 7) 2
abbrev n_Made___add__ : List Str := ["self", "other", "added"]
theorem sc_Made___add__ : FnScope n_Made___add__ ["self", "other"] (defScope s_Made___add__) := ⟨rfl, rfl, rfl, by decide +kernel, rfl, by decide +kernel, by decide +kernel⟩
abbrev s_Made___radd__ : Stmt := inClass (topS 7) 3
abbrev n_Made___radd__ : List Str := ["self", "other", "added"]
theorem sc_Made___radd__ : FnScope n_Made___radd__ ["self", "other"] (defScope s_Made___radd__) := ⟨rfl, rfl, rfl, by decide +kernel, rfl, by decide +kernel, by decide +kernel⟩
abbrev s_Made___mul__ : Stmt := inClass (topS 7) 4
abbrev n_Made___mul__ : List Str := ["self", "other"]
theorem sc_Made___mul__ : FnScope n_Made___mul__ ["self", "other"] (defScope s_Made___mul__) := ⟨rfl, rfl, rfl, by decide +kernel, rfl, by decide +kernel, by decide +kernel⟩
abbrev s_Made___rmul__ : Stmt := inClass (topS 7) 5
abbrev n_Made___rmul__ : List Str := ["self", "other"]
theorem sc_Made___rmul__ : FnScope n_Made___rmul__ ["self", "other"] (defScope s_Made___rmul__) := ⟨rfl, rfl, rfl, by decide +kernel, rfl, by decide +kernel, by decide +kernel⟩
abbrev s_Made___eq__ : Stmt := inClass (topS 7) 6
abbrev n_Made___eq__ : List Str := ["self", "other"]
theorem sc_Made___eq__ : FnScope n_Made___eq__ ["self", "other"] (defScope s_Made___eq__) := ⟨rfl, rfl, rfl, by decide +kernel, rfl, by decide +kernel, by decide +kernel⟩
abbrev s_Made___len__ : Stmt := inClass (topS 7) 7
abbrev n_Made___len__ : List Str := ["self"]
theorem sc_Made___len__ : FnScope n_Made___len__ ["self"] (defScope s_Made___len__) := ⟨rfl, rfl, rfl, by decide +kernel, rfl, by decide +kernel, by decide +kernel⟩
abbrev s_Made___str__ : Stmt := inClass (topS 7) 8
abbrev n_Made___str__ : List Str := ["self"]
theorem sc_Made___str__ : FnScope n_Made___str__ ["self"] (defScope s_Made___str__) := ⟨rfl, rfl, rfl, by decide +kernel, rfl, by decide +kernel, by decide +kernel⟩
abbrev s__wrong_at : Stmt := topS 8
abbrev n__wrong_at : List Str := ["text", "at", "character"]
theorem sc__wrong_at : FnScope n__wrong_at ["text"] (defScope s__wrong_at) := ⟨rfl, rfl, rfl, by decide +kernel, rfl, by decide +kernel, by decide +kernel⟩
abbrev s__text_of : Stmt := topS 9
abbrev n__text_of : List Str := ["value"]
theorem sc__text_of : FnScope n__text_of ["value"] (defScope s__text_of) := ⟨rfl, rfl, rfl, by decide +kernel, rfl, by decide +kernel, by decide +kernel⟩
abbrev s_filled : Stmt := topS 10
abbrev n_filled : List Str := ["made", "name"]
theorem sc_filled : FnScope n_filled ["made", "name"] (defScope s_filled) := ⟨rfl, rfl, rfl, by decide +kernel, rfl, by decide +kernel, by decide +kernel⟩
abbrev s__law_deal : Stmt := topS 12
abbrev n__law_deal : List Str := ["_law_script", "_law_base", "_law_cell", "_law_cells", "_law_mixed"]
theorem sc__law_deal : FnScope n__law_deal ["_law_script", "_law_base"] (defScope s__law_deal) := ⟨rfl, rfl, rfl, by decide +kernel, rfl, by decide +kernel, by decide +kernel⟩
abbrev s__law_draw : Stmt := topS 13
abbrev n__law_draw : List Str := ["_law_deal_here", "_law_many", "_law_left"]
theorem sc__law_draw : FnScope n__law_draw ["_law_deal_here", "_law_many"] (defScope s__law_draw) := ⟨rfl, rfl, rfl, by decide +kernel, rfl, by decide +kernel, by decide +kernel⟩
abbrev s__law_pick : Stmt := topS 14
abbrev n__law_pick : List Str := ["_law_deal_here", "_law_some"]
theorem sc__law_pick : FnScope n__law_pick ["_law_deal_here", "_law_some"] (defScope s__law_pick) := ⟨rfl, rfl, rfl, by decide +kernel, rfl, by decide +kernel, by decide +kernel⟩
abbrev s__law_string : Stmt := topS 15
abbrev n__law_string : List Str := ["_law_deal_here", "_law_most", "_law_signs", "_law_k"]
theorem sc__law_string : FnScope n__law_string ["_law_deal_here", "_law_most"] (defScope s__law_string) := ⟨rfl, rfl, rfl, by decide +kernel, rfl, by decide +kernel, by decide +kernel⟩
abbrev s__law_refused : Stmt := topS 16
abbrev n__law_refused : List Str := ["_law_one", "_law_value", "_law_form", "_law_found", "e"]
theorem sc__law_refused : FnScope n__law_refused ["_law_one", "_law_value", "_law_form"] (defScope s__law_refused) := ⟨rfl, rfl, rfl, by decide +kernel, rfl, by decide +kernel, by decide +kernel⟩
abbrev s__law_is_made : Stmt := topS 17
abbrev n__law_is_made : List Str := ["_law_made", "_law_text", "_law_name", "_law_fixed", "_law_spelled", "_law_sign"]
theorem sc__law_is_made : FnScope n__law_is_made ["_law_made", "_law_text", "_law_name"] (defScope s__law_is_made) := ⟨rfl, rfl, rfl, by decide +kernel, rfl, by decide +kernel, by decide +kernel⟩
abbrev s_law : Stmt := topS 18
abbrev n_law : List Str := ["_law_script", "_law_deal_here", "_law_turn", "_law_text", "_law_other", "_law_name", "_law_one", "_law_two", "_law_times", "_law_short", "_law_kept", "_law_grown", "_law_again", "_law_elder", "_law_twin", "_law_both", "_law_many", "_law_made", "_law_odd", "_law_spot", "_law_bad", "_law_form", "_law_value", "_law_told", "_law_due"]
theorem sc_law : FnScope n_law ["_law_script"] (defScope s_law) := ⟨rfl, rfl, rfl, by decide +kernel, rfl, by decide +kernel, by decide +kernel⟩
abbrev s_InvalidMade : Stmt := inClass (topS 2) 0
theorem sc_InvalidMade : FnScope ["self", "at"] ["self", "at"] (defScope s_InvalidMade) := ⟨rfl, rfl, rfl, by decide +kernel, rfl, by decide +kernel, by decide +kernel⟩
/-- what the module's names hold -/
structure Txt (K : PySem.W.Frag) (mg : Str → Option Value) : Prop where
  a__wrong_at : At K mg "_wrong_at" s__wrong_at ["text"]
  a__text_of : At K mg "_text_of" s__text_of ["value"]
  a_filled : At K mg "filled" s_filled ["made", "name"]
  a__law_deal : At K mg "_law_deal" s__law_deal ["_law_script", "_law_base"]
  a__law_draw : At K mg "_law_draw" s__law_draw ["_law_deal_here", "_law_many"]
  a__law_pick : At K mg "_law_pick" s__law_pick ["_law_deal_here", "_law_some"]
  a__law_string : At K mg "_law_string" s__law_string ["_law_deal_here", "_law_most"]
  a__law_refused : At K mg "_law_refused" s__law_refused ["_law_one", "_law_value", "_law_form"]
  a__law_is_made : At K mg "_law_is_made" s__law_is_made ["_law_made", "_law_text", "_law_name"]
  a_law : At K mg "law" s_law ["_law_script"]
  g_Made : mg "Made" = some (.ref (ca mg "Made"))
  k_Made : Cls K (ca mg "Made")
  q_Made : PySem.W.noSeq K (ca mg "Made") = true
  i_Made : InsK K (ca mg "Made")
  ne_Made : NeK K (ca mg "Made")
  n_Made_text : NoAttr K (ca mg "Made") "text"
  n_Made_marks : NoAttr K (ca mg "Made") "marks"
  n_Made_letters : NoAttr K (ca mg "Made") "letters"
  d_Made___init__ : GT.AtI1 K (ca mg "Made") "__init__" "Made.__init__" s_Made___init__ [V.str (tx [])]
  a_Made___call__ : AtM K (ca mg "Made") "__call__" "Made.__call__" s_Made___call__ ["self", "name"]
  a_Made___add__ : AtM K (ca mg "Made") "__add__" "Made.__add__" s_Made___add__ ["self", "other"]
  a_Made___radd__ : AtM K (ca mg "Made") "__radd__" "Made.__radd__" s_Made___radd__ ["self", "other"]
  a_Made___mul__ : AtM K (ca mg "Made") "__mul__" "Made.__mul__" s_Made___mul__ ["self", "other"]
  a_Made___rmul__ : AtM K (ca mg "Made") "__rmul__" "Made.__rmul__" s_Made___rmul__ ["self", "other"]
  a_Made___eq__ : AtM K (ca mg "Made") "__eq__" "Made.__eq__" s_Made___eq__ ["self", "other"]
  a_Made___len__ : AtM K (ca mg "Made") "__len__" "Made.__len__" s_Made___len__ ["self"]
  a_Made___str__ : AtM K (ca mg "Made") "__str__" "Made.__str__" s_Made___str__ ["self"]
  e_UnderError : Err0 K mg "UnderError" (ca mg "UnderError")
  e_InvalidMade : ErrI K mg "InvalidMade" "InvalidMade.__init__" "at" s_InvalidMade (ca mg "InvalidMade")
  m_ValueError : mg "ValueError" = none
  m_abs : mg "abs" = none
  m_enumerate : mg "enumerate" = none
  m_int : mg "int" = none
  m_isinstance : mg "isinstance" = none
  m_len : mg "len" = none
  m_range : mg "range" = none
  m_repr : mg "repr" = none
  m_str : mg "str" = none
  c_CHARACTERS : ∃ t, mg "CHARACTERS" = some (.str "-./0123456789_abcdefghijklmnopqrstuvwxyz" t) ∧ GT.Gv tk tk.n (.str "-./0123456789_abcdefghijklmnopqrstuvwxyz" t)
  c_MARK : ∃ t, mg "MARK" = some (.str "@" t) ∧ GT.Gv tk tk.n (.str "@" t)
  k_MARK : mg "MARK" = some (.str "@" 236) ∧ GT.Gv tk tk.n (.str "@" 236)
  c_EMPTY : ∃ t, mg "EMPTY" = some (.str "!" t) ∧ GT.Gv tk tk.n (.str "!" t)
structure Xt (K : PySem.W.Frag) (mg : Str → Option Value) : Prop where
  zq : GT.opsQ K (ca mg "Made") = true
  x_IM : PySem.W.exmOne K (.ref (ca mg "InvalidMade")) (.ref (ca mg "InvalidMade")) = some true
  k_UE : PySem.W.kitOne K (.ref (ca mg "InvalidMade")) (.ref (ca mg "UnderError")) = some true
  k_VE : PySem.W.kitOne K (.ref (ca mg "InvalidMade")) (.type "ValueError") = some true
--TK MARK 236 413
--O _wrong_at
--G law
--G _law_is_made
--X Made
--X Made.__add__
--X Made.__radd__
--X _text_of
--M Made.__init__
--M Made.__call__
--M Made.__add__
--M Made.__radd__
--M Made.__mul__
--M Made.__rmul__
--M Made.__eq__
--M Made.__len__
--M Made.__str__
--F Made text
--F Made marks
--F Made letters
--H zq : GT.opsQ K @Made = true
--H x_IM : PySem.W.exmOne K (.ref @InvalidMade) (.ref @InvalidMade) = some true
--H k_UE : PySem.W.kitOne K (.ref @InvalidMade) (.ref @UnderError) = some true
--H k_VE : PySem.W.kitOne K (.ref @InvalidMade) (.type "ValueError") = some true
theorem smallM {n : Nat} (h : n ≤ 16000000) : n < sizeLine := by
  have := line63
  rw [sizeLine_eq]
  omega
theorem sz_of' {n : Nat} (h : n ≤ 16000000) : n ≤ sizeLine := Nat.le_of_lt (smallM h)
theorem small1000 {n : Nat} (h : n ≤ 1000) : n < sizeLine := smallM (by omega)
def alphabet : List Nat := [45, 46, 47, 48, 49, 50, 51, 52, 53, 54, 55, 56, 57, 95, 97, 98, 99, 100, 101, 102, 103, 104, 105, 106, 107, 108, 109, 110, 111, 112, 113, 114, 115, 116, 117, 118, 119, 120, 121, 122]
section
variable {P : Program} {w : World} {K : PySem.W.Frag} {mg : Str → Option Value} {base : Heap}
/-- the source of draws stands at D, its great cells at L -/
def Deal (D L : Addr) (H : Hp) : Prop := ∃ (cs : List Int) (m : Int), H D = some (.lst [.ref L, .int m]) ∧ H L = some (.lst (cs.map V.int)) ∧ 0 ≤ m ∧ m < 2147483647 ∧ cs.length ≤ 63
theorem Deal.ne {D L : Addr} {H : Hp} (d : Deal D L H) : D ≠ L := by
  obtain ⟨cs, m, h1, h2, _⟩ := d
  refine ne_of h1 h2 fun z => ?_
  have e : [V.ref L, V.int m] = cs.map V.int := by injection z
  cases cs with
  | nil => simp at e
  | cons c r => simp at e
theorem Deal.keep {D L : Addr} {H H' : Hp} (d : Deal D L H) (s : Same H H') : Deal D L H' := by
  obtain ⟨cs, m, h1, h2, h⟩ := d
  exact ⟨cs, m, s _ _ h1, s _ _ h2, h⟩
theorem Deal.new {D L p : Addr} {H : Hp} (d : Deal D L H) (h : H p = none) : p ≠ D ∧ p ≠ L := by
  obtain ⟨cs, m, h1, h2, _⟩ := d
  exact ⟨(ne_of_none h1 h).symm, (ne_of_none h2 h).symm⟩
def spDraw : Sp := fun vs H Q _ => ∃ (D L : Addr) (n : Int), vs = [.ref D, .int n] ∧ Deal D L H ∧ 0 < n ∧ n < 2 ^ 200 ∧ ∀ (k : Int) (H' : Hp), 0 ≤ k → k < n → Keep D L H H' → Deal D L H' → Q (.int k) H'
theorem cl_draw (T : Txt K mg) : GT.Cl GT.noG tk P w K mg base "_law_draw" ["_law_deal_here", "_law_many"] 1 spDraw := GT.cl_of T.a__law_draw fun f fd F => by
  refine GT.ok F sc__law_draw (fun vs H Q E h => ?_) (fun cdv A outer s H vs Q E ga hr h => ?_)
  · obtain ⟨D, L, n, rfl, _⟩ := h
    rfl
  · obtain ⟨D, L, n, rfl, d, hn, hn2, q⟩ := h
    refine ⟨_, (GT.pss_cut (GT.ps_while PassesOwn.never (GT.PW.pt (GT.pw_and (GT.pt_cmpR (GT.op_neD hr.units) (GT.pe_ix GT.ix_list (GT.pv 0) GT.pe_int (fun _ _ => rfl)) (GT.pe_lst GT.pa_nil) (nomark _)) (GT.pw_and1 (GT.pt_cmpR GT.op_eq (GT.pe_ix GT.ix_list (GT.pe_ix GT.ix_list (GT.pv 0) GT.pe_int (fun _ _ => rfl)) (GT.pe_un GT.un_neg GT.pe_int) (fun _ _ => rfl)) GT.pe_int (nomark _)))))
      (GT.pss_one (GT.ps_expr (GT.pe_bm0 PySem.F.plainAttrs_list PySem.F.slot_list_pop PySem.F.type_list_pop GT.mt_pop (GT.pe_ix GT.ix_list (GT.pv 0) GT.pe_int (fun _ _ => rfl))))))
      (GT.pss_cons (GT.ps_if (GT.pt_cmpR (GT.op_neD hr.units) (GT.pe_ix GT.ix_list (GT.pv 0) GT.pe_int (fun _ _ => rfl)) (GT.pe_lst GT.pa_nil) (nomark _))
      (GT.pss_cons (GT.ps_set (i := 2) sc__law_draw.nd rfl (Or.inl rfl) (GT.pe_bm0 PySem.F.plainAttrs_list PySem.F.slot_list_pop PySem.F.type_list_pop GT.mt_pop (GT.pe_ix GT.ix_list (GT.pv 0) GT.pe_int (fun _ _ => rfl))))
      (GT.pss_cons (GT.ps_expr (GT.pe_bm PySem.F.plainAttrs_list PySem.F.slot_list_append PySem.F.type_list_append GT.mt_append (GT.pe_ix GT.ix_list (GT.pv 0) GT.pe_int (fun _ _ => rfl)) (GT.pa_cons (GT.pe_op GT.op_fdivW (GT.pv 2) (GT.pv 1)) GT.pa_nil)))
      (GT.pss_one (GT.ps_ret (GT.pe_op GT.op_mod (GT.pe_callTy GT.call_intI (by rfl) T.m_int (by decide +kernel) (GT.pa_cons (GT.pv 2) GT.pa_nil)) (GT.pv 1))))))
      GT.pss_nil)
      (GT.pss_cons (GT.ps_asg (GT.pe_op GT.op_mod (GT.pe_callTy GT.call_intI (by rfl) T.m_int (by decide +kernel) (GT.pa_cons (GT.pe_op GT.op_add (GT.pe_op GT.op_mulW (GT.pe_ix GT.ix_list (GT.pv 0) GT.pe_int (fun _ _ => rfl)) GT.pe_int) GT.pe_int) GT.pa_nil)) GT.pe_int) (GT.pg_sub (GT.pv 0) GT.pe_int GT.set_list))
      (GT.pss_one (GT.ps_ret (GT.pe_op GT.op_mod (GT.pe_callTy GT.call_intI (by rfl) T.m_int (by decide +kernel) (GT.pa_cons (GT.pe_op GT.op_fdivW (GT.pe_ix GT.ix_list (GT.pv 0) GT.pe_int (fun _ _ => rfl)) GT.pe_int) GT.pa_nil)) (GT.pv 1))))))), ?_⟩
    obtain ⟨cs, m, hD, hL, hm⟩ := d
    obtain ⟨hm1, hm2, hm3⟩ := hm
    -- the zeros at the end are thrown away
    refine ⟨fun σ H' => ∃ cs' : List Int, σ = [some (.ref D), some (.int n), none] ∧ cs'.length ≤ 63 ∧ Keep D L H H' ∧ H' D = some (.lst [.ref L, .int m]) ∧ H' L = some (.lst (cs'.map V.int)), ?_, ?_⟩
    · refine ⟨fun k σ H' => ∃ cs' : List Int, σ = [some (.ref D), some (.int n), none] ∧ k = cs'.length ∧ cs'.length ≤ 63 ∧ Keep D L H H' ∧ H' D = some (.lst [.ref L, .int m]) ∧ H' L = some (.lst (cs'.map V.int)), ⟨cs.length, cs, rfl, rfl, hm3, Keep.refl H, hD, hL⟩, ?_⟩
      rintro k σ H1 ⟨cs', rfl, rfl, hlen, kp, h1, h2⟩
      walk_at "rds"
      refine rd_ixL (SqL.of h1) (by rfl) ?_
      walk_at "rds"
      refine ⟨Nat.zero_le _, fun e he => ?_⟩
      have s1 : Same H1 (upd H1 e (.lst [])) := same_upd he
      have h1' := s1 _ _ h1
      have h2' := s1 _ _ h2
      have kp' : Keep D L H (upd H1 e (.lst [])) := kp.trans (Keep.of_same s1)
      refine rd_neNil (SqL.of h2') (SqL.of upd_same) ?_
      generalize upd H1 e (.lst []) = H2 at *
      clear s1
      walk_at "rds"
      refine rd_ite (fun hb => ?_) (fun hb => ?_)
      · -- the last cell
        have hne : cs' ≠ [] := by
          rintro rfl
          simp at hb
        obtain ⟨ys, z, rfl⟩ : ∃ ys z, cs' = ys ++ [z] := ⟨cs'.dropLast, cs'.getLast hne, (List.dropLast_concat_getLast hne).symm⟩
        have h2'' : H2 L = some (.lst (ys.map V.int ++ [.int z])) := by rw [h2', List.map_append]; rfl
        walk_at "rds"
        refine rd_ixL (SqL.of h1') (by rfl) ?_
        walk_at "rds"
        refine rd_ixL (SqL.of h2'') (atI_last _ _) ?_
        walk_at "rds"
        refine rd_ite (fun hz => ?_) (fun hz => ?_)
        · refine ⟨fun σ' H' => ∃ cs' : List Int, σ' = [some (.ref D), some (.int n), none] ∧ cs'.length < ys.length + 1 ∧ Keep D L H H' ∧ H' D = some (.lst [.ref L, .int m]) ∧ H' L = some (.lst (cs'.map V.int)), ?_, ?_⟩
          · rintro σ' H' ⟨cs2, e1, e2, e3, e4, e5⟩
            rw [List.length_append] at hlen
            exact ⟨cs2.length, by simpa using e2, cs2, e1, rfl, by simp at hlen; omega, e3, e4, e5⟩
          · walk_at "rds"
            refine rd_ixL (SqL.of h1') (by rfl) ?_
            refine rd_tyL (SqL.of h2'') ?_
            refine rd_pop h2'' ?_
            have hDL : D ≠ L := ne_of h1' h2'' fun z => by
              injection z with z
              cases ys <;> simp at z
            exact ⟨ys, rfl, Nat.lt_succ_self _, kp'.trans (Keep.own (.inr rfl)), by rw [upd_ne hDL]; exact h1', upd_same⟩
        · exact ⟨_, rfl, hlen, kp', h1', h2'⟩
      · exact ⟨_, rfl, hlen, kp', h1', h2'⟩
    · rintro σ' H1 ⟨cs', rfl, hlen, kp, h1, h2⟩
      walk_at "rds"
      refine rd_ixL (SqL.of h1) (by rfl) ?_
      walk_at "rds"
      refine ⟨Nat.zero_le _, fun e he => ?_⟩
      have s1 : Same H1 (upd H1 e (.lst [])) := same_upd he
      have h1' := s1 _ _ h1
      have h2' := s1 _ _ h2
      have kp' : Keep D L H (upd H1 e (.lst [])) := kp.trans (Keep.of_same s1)
      refine rd_neNil (SqL.of h2') (SqL.of upd_same) ?_
      generalize upd H1 e (.lst []) = H2 at *
      clear s1
      have hd : Deal D L H2 := ⟨cs', m, h1', h2', hm1, hm2, hlen⟩
      have hDL := hd.ne
      walk_at "rds"
      refine rd_ite (fun hb => ?_) (fun hb => ?_)
      · have hne : cs' ≠ [] := by
          rintro rfl
          simp at hb
        obtain ⟨ys, z, rfl⟩ : ∃ ys z, cs' = ys ++ [z] := ⟨cs'.dropLast, cs'.getLast hne, (List.dropLast_concat_getLast hne).symm⟩
        have h2'' : H2 L = some (.lst (ys.map V.int ++ [.int z])) := by rw [h2', List.map_append]; rfl
        rw [List.length_append] at hlen
        simp only [List.length_cons, List.length_nil] at hlen
        walk_at "rds"
        refine rd_ixL (SqL.of h1') (by rfl) ?_
        refine rd_tyL (SqL.of h2'') ?_
        refine rd_pop h2'' ?_
        have h1c : upd H2 L (.lst (ys.map V.int)) D = some (.lst [.ref L, .int m]) := by rw [upd_ne hDL]; exact h1'
        walk_at "rds"
        refine rd_ixL (SqL.of h1c) (by rfl) ?_
        refine rd_tyL (SqL.of upd_same) ?_
        walk_at "rds"
        refine rd_I (wide_div hn (b := 200) (by omega) (by decide) (by decide)) ?_
        walk_at "rds"
        refine rd_app upd_same (by rw [List.length_map]; exact small1000 (by omega)) ?_
        walk_at "rds"
        refine rd_I hn ?_
        rw [upd_upd]
        refine q (z % n) _ (Int.emod_nonneg _ (by omega)) (Int.emod_lt_of_pos _ hn) (kp'.trans (Keep.own (.inr rfl))) ⟨ys ++ [z / n], m, by rw [upd_ne hDL]; exact h1', ?_, hm1, hm2, by simpa using hlen⟩
        rw [upd_same, List.map_append]
        rfl
      · walk_at "rds"
        refine rd_ixL (SqL.of h1') (by rfl) ?_
        walk_at "rds"
        refine rd_I (mulW_of (by omega) (by decide)) ?_
        walk_at "rds"
        refine rd_I (by decide) ?_
        walk_at "rds"
        refine rd_setL h1' (by rfl) ?_
        walk_at "rds"
        refine rd_ixL (SqL.of upd_same) (by rfl) ?_
        walk_at "rds"
        refine rd_I (wide_div (b := 10) (by decide) (by decide) (by decide) (by decide)) ?_
        walk_at "rds"
        refine rd_I hn ?_
        refine q _ _ (Int.emod_nonneg _ (by omega)) (Int.emod_lt_of_pos _ hn) (kp'.trans (Keep.own (.inl rfl))) ⟨cs', (m * 48271 + 12820163) % 2147483647, upd_same, by rw [upd_ne hDL.symm]; exact h2', Int.emod_nonneg _ (by decide), Int.emod_lt_of_pos _ (by decide), hlen⟩
/-- the source is made -/
def spDeal (K : PySem.W.Frag) : Sp := fun vs H Q _ => ∃ (a : Addr) (ns : List Int) (b : Int), vs = [.ref a, .int b] ∧ SqL K H a (ns.map V.int) ∧ ns.length ≤ 63 ∧ 0 ≤ b ∧ b ≤ 1000 ∧
  ∀ (D L : Addr) (H' : Hp), H D = none → H L = none → Same H H' → Deal D L H' → Q (.ref D) H'
theorem cl_deal (T : Txt K mg) : GT.Cl GT.noG tk P w K mg base "_law_deal" ["_law_script", "_law_base"] 1 (spDeal K) := GT.cl_of T.a__law_deal fun f fd F => by
  refine GT.ok F sc__law_deal (fun vs H Q E h => ?_) (fun cdv A outer s H vs Q E ga hr h => ?_)
  · obtain ⟨a, ns, b, rfl, _⟩ := h
    rfl
  · obtain ⟨a, ns, b, rfl, hS, hlen, hb0, hb1, q⟩ := h
    refine ⟨_, (GT.pss_cons (GT.ps_setLc (i := 3) (own := [("_law_cell", 2)]) (g := gName 2) (tt := tYes) (by rfl) sc__law_deal.nd rfl rfl (sw_true rfl rfl rfl (by decide +kernel)) (GT.pi_list (GT.pe_slice GT.sl_list (GT.pv 0) (GT.po_some (GT.pv 1)) (GT.po_some GT.pe_int))) (blkOk_by (own := [("_law_cell", 2)]) (N := n__law_deal) (sc := defScope s__law_deal) (by decide +kernel)) (fun _ _ _ _ _ => (GT.pg_name (i := 2) sc__law_deal.nd rfl (Or.inl rfl))) (fun _ _ _ _ _ => GT.pts_nil) (fun _ _ _ _ _ => (GT.pe_callB GT.call_abs (by rfl) T.m_abs (by decide +kernel) (GT.pa_cons (GT.pv 2) GT.pa_nil))))
      (GT.pss_cons (GT.ps_set (i := 4) sc__law_deal.nd rfl (Or.inl rfl) (GT.pe_op GT.op_add GT.pe_int (GT.pe_op GT.op_mulW GT.pe_int (GT.pv 1))))
      (GT.pss_cut (GT.ps_for PassesOwn.never rfl (GT.pi_list (GT.pv 3)) (GT.pg_name (i := 2) sc__law_deal.nd rfl (Or.inl rfl))
      (GT.pss_one (GT.ps_set (i := 4) sc__law_deal.nd rfl (Or.inl rfl) (GT.pe_op GT.op_mod (GT.pe_callTy GT.call_intI (by rfl) T.m_int (by decide +kernel) (GT.pa_cons (GT.pe_op GT.op_add (GT.pe_op GT.op_mulW (GT.pv 4) GT.pe_int) (GT.pe_op GT.op_mod (GT.pe_callTy GT.call_intI (by rfl) T.m_int (by decide +kernel) (GT.pa_cons (GT.pv 2) GT.pa_nil)) GT.pe_int)) GT.pa_nil)) GT.pe_int))))
      (GT.pss_one (GT.ps_ret (GT.pe_lst (GT.pa_cons (GT.pe_revL (GT.pe_lc (own := [("_law_cell", 2)]) (g := gName 2) (by rfl) sc__law_deal.nd (GT.pi_list (GT.pv 3)) (blkOk_by (own := [("_law_cell", 2)]) (N := n__law_deal) (sc := defScope s__law_deal) (by decide +kernel)) (fun _ _ _ _ _ => (GT.pg_name (i := 2) sc__law_deal.nd rfl (Or.inl rfl))) (fun _ _ _ _ _ => (GT.pts_one (GT.pt_cmpR GT.op_ge (GT.pv 2) (GT.pe_op GT.op_pow GT.pe_int GT.pe_int) (nomark _)))) (fun _ _ _ _ _ => (GT.pv 2)))) (GT.pa_cons (GT.pv 4) GT.pa_nil)))))))), ?_⟩
    walk_at "rds"
    refine rd_slL hS fun p np => ?_
    obtain ⟨zs, ez, hz⟩ := cutV_ints ns (some b) (some 63)
    rw [ez]
    have s1 : Same H (upd H p (.lst (zs.map V.int))) := same_upd np
    have hp : upd H p (.lst (zs.map V.int)) p = some (.lst (zs.map V.int)) := upd_same
    generalize upd H p (.lst (zs.map V.int)) = H1 at *
    refine ⟨_, rfl, ⟨_, SqL.of hp⟩, fun c nc => lc_list (K := K) (a := p) (xs := zs.map V.int) (fun i H' => Same H1 H' ∧ H' c = some (.lst ((zs.take i).map fun z => V.int (if z < 0 then -z else z)))) ⟨same_upd nc, upd_same⟩ (fun i H' _ h => SqL.of (h.1 _ _ hp)) ?_ ?_⟩
    · rintro i x H2 hx ⟨s2, hc⟩
      obtain ⟨z, hz', rfl⟩ := get_map hx
      have hl : i < zs.length := (List.getElem?_eq_some_iff.mp hz').1
      walk_at "rds"
      refine ⟨rfl, ?_⟩
      walk_at "rds"
      refine rd_ite (fun _ => ?_) (fun h => by cases h)
      walk_at "rds"
      refine ⟨z, rfl, _, hc, by rw [List.length_map, List.length_take]; exact small1000 (by omega), same_mut s2 nc, ?_⟩
      rw [upd_same, take_snoc _ hz']
    · rintro H2 ⟨s2, hc0⟩
      obtain ⟨cs, hcs, hc⟩ : ∃ cs : List Int, cs.length ≤ 63 ∧ H2 c = some (.lst (cs.map V.int)) := ⟨zs.map fun z => if z < 0 then -z else z, by rw [List.length_map]; omega, by
        rw [hc0, List.length_map, List.take_length, List.map_map]
        rfl⟩
      have sH : Same H H2 := s1.trans s2
      clear hc0 s1 s2 hp nc np ez hz
      walk_at "rds"
      refine rd_I (mulW_of (by decide) (by omega)) ?_
      walk_at "rds"
      -- the number that is mixed
      refine rd_cut (fun σ' H' => ∃ (y : Option V) (m : Int), σ' = [some (.ref a), some (.int b), y, some (.ref c), some (.int m)] ∧ H' = H2 ∧ 0 ≤ m ∧ m < 2147483647) ?_ ?_
      · walk_at "rds"
        refine ⟨_, rfl, ⟨_, SqL.of hc⟩, for_list (K := K) (a := c) (xs := cs.map V.int) (fun i σ' H' => ∃ (y : Option V) (m : Int), σ' = [some (.ref a), some (.int b), y, some (.ref c), some (.int m)] ∧ H' = H2 ∧ 0 ≤ m ∧ m < 2147483647) ⟨none, 15485863 + 11 * b, rfl, rfl, by omega, by omega⟩ (fun i σ' H' _ h => ?_) ?_ (fun σ' H' h => h)⟩
        · obtain ⟨y, m, _, rfl, _⟩ := h
          exact SqL.of hc
        · rintro i x σ' H' hx ⟨y, m, rfl, rfl, hm1, hm2⟩
          obtain ⟨z, hz', rfl⟩ := get_map hx
          walk_at "rds"
          refine rd_I (mulW_of (by omega) (by decide)) ?_
          walk_at "rds"
          refine rd_I (by decide) ?_
          walk_at "rds"
          refine rd_I (by decide) ?_
          walk_at "rds"
          exact ⟨_, _, rfl, rfl, Int.emod_nonneg _ (by decide), Int.emod_lt_of_pos _ (by decide)⟩
      · rintro σ' H' ⟨y, m, rfl, rfl, hm1, hm2⟩
        walk_at "rds"
        refine ⟨_, rfl, ⟨_, SqL.of hc⟩, fun e ne => lc_list (K := K) (a := c) (xs := cs.map V.int) (fun i H3 => Same H' H3 ∧ ∃ ds : List Int, ds.length ≤ i ∧ H3 e = some (.lst (ds.map V.int))) ⟨same_upd ne, [], Nat.le_refl _, upd_same⟩ (fun i H3 _ h => SqL.of (h.1 _ _ hc)) ?_ ?_⟩
        · rintro i x H3 hx ⟨s3, ds, hd, he⟩
          obtain ⟨z, hz', rfl⟩ := get_map hx
          have hl : i < cs.length := (List.getElem?_eq_some_iff.mp hz').1
          walk_at "rds"
          refine ⟨rfl, ?_⟩
          walk_at "rds"
          refine rd_I ⟨by decide, by decide, by decide⟩ ?_
          walk_at "rds"
          refine rd_ite (fun h0 => ?_) (fun h0 => ?_)
          · walk_at "rds"
            refine ⟨_, he, by rw [List.length_map]; exact small1000 (by omega), same_mut s3 ne, ds ++ [z], by simpa using hd, ?_⟩
            rw [upd_same, List.map_append]
            rfl
          · exact ⟨s3, ds, by omega, he⟩
        · rintro H3 ⟨s3, ds, hd, he⟩
          rw [List.length_map] at hd
          refine ⟨e, _, rfl, SqL.of he, fun l nl => ?_⟩
          have e1 : (ds.map V.int).reverse = ds.reverse.map V.int := by rw [List.map_reverse]
          rw [e1]
          walk_at "rds"
          refine ⟨(by show 2 ≤ sizeLine; decide), fun d nd => ?_⟩
          have s4 : Same H3 (upd H3 l (.lst (ds.reverse.map V.int))) := same_upd nl
          have s5 := same_upd (o := .lst [V.ref l, V.int m]) nd
          have nl2 : H l = none := (sH.trans s3).free nl
          refine q d l _ ((sH.trans (s3.trans s4)).free nd) nl2 (sH.trans (s3.trans (s4.trans s5))) ⟨ds.reverse, m, upd_same, ?_, hm1, hm2, by rw [List.length_reverse]; omega⟩
          rw [upd_ne (ne_of_none upd_same nd), upd_same]
/-- a sequence to pick from: a list, or a text by its sgs -/
def SeqV (K : PySem.W.Frag) (H : Hp) (D L : Addr) (v : V) (ys : List V) : Prop := (∃ a, v = .ref a ∧ a ≠ D ∧ a ≠ L ∧ SqL K H a ys) ∨ (∃ l, v = .str (tx l) ∧ ys = sgs l)
def spPick (K : PySem.W.Frag) : Sp := fun vs H Q _ => ∃ (D L : Addr) (v : V) (ys : List V), vs = [.ref D, v] ∧ Deal D L H ∧ SeqV K H D L v ys ∧ 0 < ys.length ∧ ys.length ≤ 1000 ∧ ∀ (x : V) (H' : Hp), x ∈ ys → Keep D L H H' → Deal D L H' → Q x H'
theorem keep_seq {K : PySem.W.Frag} {H H' : Hp} {D L a : Addr} {ys : List V} (k : Keep D L H H') (h1 : a ≠ D) (h2 : a ≠ L) (h : SqL K H a ys) : SqL K H' a ys := by
  rcases h with (h | ⟨o, h⟩) | h
  · exact .inl (.inl (k _ _ h h1 h2))
  · exact .inl (.inr ⟨o, k _ _ h h1 h2⟩)
  · exact .inr h
theorem cl_pick (T : Txt K mg) : GT.Cl GT.noG tk P w K mg base "_law_pick" ["_law_deal_here", "_law_some"] 2 (spPick K) := GT.cl_of T.a__law_pick fun f fd F => by
  have C__law_draw := cl_draw (P := P) (w := w) (base := base) T
  refine GT.ok F sc__law_pick (fun vs H Q E h => ?_) (fun cdv A outer s H vs Q E ga hr h => ?_)
  · obtain ⟨D, L, v, ys, rfl, _⟩ := h
    rfl
  · obtain ⟨D, L, v, ys, rfl, hd, hS, h0, h1, q⟩ := h
    refine ⟨_, (GT.pss_one (GT.ps_ret (GT.pe_ix GT.ix_any (GT.pv 1) (GT.pe_cl C__law_draw (hr.mono (by decide)) (by rfl) (GT.pa_cons (GT.pv 0) (GT.pa_cons (GT.pe_callB GT.call_lenA (by rfl) T.m_len (by decide +kernel) (GT.pa_cons (GT.pv 1) GT.pa_nil)) GT.pa_nil))) (fun _ _ => rfl)))), ?_⟩
    walk_at "rds"
    refine rd_lenA (ys := ys) ?_ ?_
    · rcases hS with ⟨a, rfl, h2, h3, h4⟩ | ⟨l, rfl, rfl⟩
      · exact .inl ⟨a, rfl, h4⟩
      · exact .inr ⟨l, rfl, rfl, by rw [← sgs_len]; exact Nat.le_of_lt (small1000 h1)⟩
    walk_at "rds"
    refine ⟨D, L, _, rfl, hd, by omega, by omega, fun k H' hk1 hk2 kp hd' => ?_⟩
    obtain ⟨j, rfl⟩ := Int.eq_ofNat_of_zero_le hk1
    have hj : j < ys.length := by omega
    refine rd_ixA (ys := ys) (j := j) (x := ys[j]) ?_ (List.getElem?_eq_getElem hj) ?_
    · rcases hS with ⟨a, rfl, h2, h3, h4⟩ | ⟨l, rfl, rfl⟩
      · exact .inl ⟨a, rfl, keep_seq kp h2 h3 h4⟩
      · exact .inr ⟨l, rfl, rfl, by rw [← sgs_len]; exact Nat.le_of_lt (small1000 h1)⟩
    · exact q _ _ (List.getElem_mem hj) kp hd'
end

section
variable {P : Program} {w : World} {K : PySem.W.Frag} {mg : Str → Option Value} {base : Heap}
theorem mk_InvalidMade (T : Txt K mg) : Mk P w K mg base "InvalidMade" "at" (ca mg "InvalidMade") := Un.mk_of T.e_InvalidMade fun fI fd F => by
  refine F.ok sc_InvalidMade (fun vs H Q E h => ?_) (fun cdv A outer s H vs Q E hr h => ?_)
  · obtain ⟨a, v, C, rfl, _⟩ := h
    rfl
  · obtain ⟨a, v, C, rfl, T', hno, ea, q⟩ := h
    refine ⟨_, (pss_one (ps_oxt (pv 0) (pv 1))), ?_⟩
    exact ⟨v, rfl, .ref a, rfl, a, C, rfl, T', hno, ea, fun dx h1 h2 => q dx h1 h2⟩
end
section
variable {P : Program} {w : World} {K : PySem.W.Frag} {mg : Str → Option Value} {base : Heap}
abbrev MC (mg : Str → Option Value) : Addr := ca mg "Made"
abbrev IC (mg : Str → Option Value) : Addr := ca mg "InvalidMade"
/-- a sign of made texts -/
def sgn (c : Nat) : Bool := c == 64 || decide (c ∈ alphabet)
def Signs (l : List Nat) : Prop := ∀ c ∈ l, sgn c = true
theorem Signs.app {a b : List Nat} (h : Signs a) (g : Signs b) : Signs (a ++ b) := fun c hc => (List.mem_append.mp hc).elim (h c) (g c)
theorem Signs.sub {a b : List Nat} (h : Signs b) (g : ∀ c ∈ a, c ∈ b) : Signs a := fun c hc => h c (g c hc)
/-- the first place of a sign that is none -/
def badAt (l : List Nat) : Option Nat := l.findIdx? fun c => !sgn c
def badV (l : List Nat) : V := match badAt l with
  | none => .non
  | some i => .int ((i : Nat) : Int)
theorem badAt_none {l : List Nat} (h : Signs l) : badAt l = none := by
  unfold badAt
  rw [List.findIdx?_eq_none_iff]
  intro c hc
  rw [h c hc]
  rfl
theorem badAt_some {l : List Nat} {i c : Nat} (hc : l[i]? = some c) (h : ∀ d ∈ l.take i, sgn d = true) (hb : sgn c = false) : badAt l = some i := by
  unfold badAt
  rw [List.findIdx?_eq_some_iff_getElem]
  have hi := (List.getElem?_eq_some_iff.mp hc).1
  refine ⟨hi, ?_, fun j hj => ?_⟩
  · have e : l[i] = c := (List.getElem?_eq_some_iff.mp hc).2
    rw [e, hb]
    rfl
  · have hm : l[j]'(Nat.lt_trans hj hi) ∈ l.take i := List.mem_take_iff_getElem.mpr ⟨j, by omega, rfl⟩
    rw [h _ hm]
    simp
/-- how many marks, which letters (in the alphabet's order) -/
def mks (l : List Nat) : Nat := (l.filter fun c => c == 64).length
def lts (l : List Nat) : List Nat := alphabet.filter fun c => decide (c ∈ l)
theorem filt_in {p : Nat → Bool} {ms l : List Nat} {i c : Nat} (hc : l[i]? = some c) (em : ms = (l.take i).filter p) (h : p c = true) : ms ++ [c] = (l.take (i + 1)).filter p := by
  rw [List.take_add_one, hc, List.filter_append, ← em]
  simp [h]
theorem filt_out {p : Nat → Bool} {ms l : List Nat} {i c : Nat} (hc : l[i]? = some c) (em : ms = (l.take i).filter p) (h : p c = false) : ms = (l.take (i + 1)).filter p := by
  rw [List.take_add_one, hc, List.filter_append, ← em]
  simp [h]
theorem filt_all {p : Nat → Bool} {ms l : List Nat} (em : ms = (l.take l.length).filter p) : ms = l.filter p := by
  rw [em, List.take_length]
theorem mark_b {c : Nat} {b : Bool} (h : decide (V.str (tx [c]) = V.str (tx [64])) = b) : (c == 64) = b := by
  rw [← h]
  by_cases e : c = 64
  · subst e
    simp
  · rw [show (c == 64) = false by simpa using e]
    symm
    refine decide_eq_false fun q => ?_
    injection q with q
    have := tx_inj q
    injection this with this
    exact e this
theorem flat_one : ∀ l : List Nat, (l.map fun c => [c]).flatten = l
  | [] => rfl
  | c :: l => by rw [List.map_cons, List.flatten_cons, flat_one l]; rfl
def Keep1 (a : Addr) (H H' : Hp) : Prop := ∀ b o, H b = some o → b ≠ a → H' b = some o
/-- a value that is no text -/
def NoStr (H : Hp) (v : V) : Prop := v = .non ∨ (∃ n, v = .int n) ∨ (∃ b, v = .bl b) ∨ (∃ p xs, v = .ref p ∧ H p = some (.lst xs)) ∨ ∃ p xs, v = .ref p ∧ H p = some (.tup xs)
def Wrong (H : Hp) (v : V) (i : Nat) : Prop := (∃ l, v = .str (tx l) ∧ l.length ≤ 1000 ∧ badAt l = some i) ∨ (i = 0 ∧ NoStr H v)
def spWrong0 : Sp := fun vs H Q _ => ∃ l, vs = [.str (tx l)] ∧ l.length ≤ 1000 ∧ ∀ H', Same H H' → Q (badV l) H'
def spWrong1 : Sp := fun vs H Q _ => ∃ l, vs = [.str (tx l)] ∧ l.length ≤ 1000 ∧ Q (badV l) H
def spWrong2 : Sp := fun vs H Q _ => ∃ v, vs = [v] ∧ NoStr H v ∧ Q (.int 0) H
def spWrong : Sp := fun vs H Q E => spWrong1 vs H Q E ∨ spWrong2 vs H Q E
theorem ok_wrong0 {f : Addr} {fd : FuncData} (T : Txt K mg) (F : Fun K "_wrong_at" "_wrong_at" s__wrong_at f fd) : FnOk P w K mg base CX0 1 f fd ["text"] spWrong0 := by
  refine F.ok sc__wrong_at (fun vs H Q E h => ?_) (fun cdv A outer s H vs Q E hr h => ?_)
  · obtain ⟨l, rfl, _⟩ := h
    rfl
  · obtain ⟨l, rfl, hl, q⟩ := h
    refine ⟨_, (pss_cons (ps_if (pt_not (pt_val (pe_callB call_isi (by rfl) T.m_isinstance (by decide +kernel) (pa_cons (pv 0) (pa_cons (pe_bltn (v := .ty "str") (by rfl) T.m_str (by decide +kernel) rfl) pa_nil)))))
      (pss_one (ps_ret pe_int))
      pss_nil)
      (Evl.pss_cut (ps_for PassesOwn.never rfl (pi_enumX (by rfl) T.m_enumerate (pa_cons (pv 0) pa_nil)) (pg_tup rfl (pgs_cons (pg_name (i := 1) sc__wrong_at.nd rfl (Or.inl rfl)) (pgs_cons (pg_name (i := 2) sc__wrong_at.nd rfl (Or.inl rfl)) pgs_nil)))
      (pss_one (ps_if (PW.pt (pw_and (pt_cmpR op_ne (pv 2) (pe_gstr (GT.c0 T.c_MARK) [64] (by decide +kernel) (by rfl)) (nomark _)) (pw_and1 (pt_cmpR op_notInX (pv 2) (pe_gstr (GT.c0 T.c_CHARACTERS) [45, 46, 47, 48, 49, 50, 51, 52, 53, 54, 55, 56, 57, 95, 97, 98, 99, 100, 101, 102, 103, 104, 105, 106, 107, 108, 109, 110, 111, 112, 113, 114, 115, 116, 117, 118, 119, 120, 121, 122] (by decide +kernel) (by rfl)) (by rfl)))))
      (pss_one (ps_ret (pv 1)))
      pss_nil)))
      (pss_one (ps_ret pe_non)))), ?_⟩
    walk_at "rds"
    refine rd_isiS ?_
    walk_at "rds"
    refine rd_ite (fun h => by cases h) (fun _ => ?_)
    walk_at "rds"
    refine rd_cut (fun σ' H' => Same H H' ∧ Signs l ∧ ∃ y z, σ' = [some (.str (tx l)), y, z]) ?_ ?_
    · walk_at "rds"
      refine ⟨l, rfl, for_enumX (l := l) (fun i σ' H' => Same H H' ∧ (∀ d ∈ l.take i, sgn d = true) ∧ ∃ y z, σ' = [some (.str (tx l)), y, z]) ⟨Same.refl H, by simp, none, none, rfl⟩ ?_ (fun σ' H' h => ⟨h.1, by have := h.2.1; rwa [List.take_length] at this, h.2.2⟩)⟩
      rintro i c σ' H' Tp hc ⟨sH, hs, y, z, rfl⟩ nT
      have s2 : Same H (upd H' Tp (.tup [.int (i : Nat), .str (tx [c])])) := sH.trans (same_upd nT)
      have next : sgn c = true → ∀ d ∈ l.take (i + 1), sgn d = true := fun h d hd => by
        rw [List.take_add_one, hc] at hd
        rcases List.mem_append.mp hd with hd | hd
        · exact hs d hd
        · rw [show d = c by simpa using hd]
          exact h
      refine rd_gtup (SqT.of upd_same) rfl ?_
      walk_at "rds"
      refine rd_ite (fun h1 => ?_) (fun h1 => ?_)
      · walk_at "rds"
        refine rd_ite (fun h2 => ?_) (fun h2 => ?_)
        · walk_at "rds"
          have e : badAt l = some i := badAt_some hc hs (by
            unfold sgn
            rw [mark_b (b := false) (by simpa using h1)]
            have h3 : (!decide (c ∈ alphabet)) = true := h2
            simpa using h3)
          have q' := q _ s2
          unfold badV at q'
          rw [e] at q'
          exact q'
        · refine ⟨s2, next ?_, _, _, rfl⟩
          unfold sgn
          have h3 : (!decide (c ∈ alphabet)) = false := h2
          rw [show decide (c ∈ alphabet) = true by simpa using h3]
          simp
      · walk_at "rds"
        refine ⟨s2, next ?_, _, _, rfl⟩
        unfold sgn
        rw [mark_b (b := true) (by simpa using h1)]
        rfl
    · rintro σ' H' ⟨sH, hs, y, z, rfl⟩
      walk_at "rds"
      have q' := q _ sH
      unfold badV at q'
      rw [badAt_none hs] at q'
      exact q'
theorem rd_isNoS {H : Hp} {v : V} {Q : VK} (h : NoStr H v) (q : Q (.bl false) H) : rIsi K [v, .ty "str"] H Q := by
  rcases h with rfl | ⟨n, rfl⟩ | ⟨b, rfl⟩ | ⟨p, xs, rfl, h⟩ | ⟨p, xs, rfl, h⟩
  · exact rd_isi (.base .non) (kit_ty (by decide +kernel)) q
  · exact rd_isi (.base (.int n)) (kit_ty (by decide +kernel)) q
  · exact rd_isi (.base (.bl b)) (kit_ty (by decide +kernel)) q
  · exact rd_isi (.base (.lst h)) (kit_ty (by decide +kernel)) q
  · exact rd_isi (.base (.tup h)) (kit_ty (by decide +kernel)) q
theorem cl_wrong (T : Txt K mg) : GT.Cl GT.noG tk P w K mg base "_wrong_at" ["text"] 1 spWrong := GT.cl_or T.a__wrong_at (fun f fd F => GT.FnT.plain (ok_wrong0 T F) fun vs H Q E h => by
    obtain ⟨l, rfl, hl, q⟩ := h
    refine ⟨l, rfl, hl, fun _ _ => ⟨?_, q⟩⟩
    unfold badV
    split <;> trivial) fun f fd F => by
  refine GT.ok F sc__wrong_at (fun vs H Q E h => ?_) (fun cdv A outer s H vs Q E ga hr h => ?_)
  · obtain ⟨v, rfl, _⟩ := h
    rfl
  · obtain ⟨v, rfl, hn, q⟩ := h
    refine ⟨_, (GT.pss_cons (GT.ps_if (GT.pt_not (GT.pt_val (GT.pe_callB GT.call_isi (by rfl) T.m_isinstance (by decide +kernel) (GT.pa_cons (GT.pv 0) (GT.pa_cons (GT.pe_bltn (v := .ty "str") (by rfl) T.m_str (by decide +kernel) rfl) GT.pa_nil)))))
      (GT.pss_one (GT.ps_ret GT.pe_int))
      GT.pss_nil)
      GT.pss_dead), ?_⟩
    walk_at "rds"
    refine rd_isNoS hn ?_
    walk_at "rds"
    refine rd_ite (fun _ => ?_) (fun h => by cases h)
    walk_at "rds"
    exact q
end

section
variable {P : Program} {w : World} {K : PySem.W.Frag} {mg : Str → Option Value} {base : Heap}
def spMade (mg : Str → Option Value) : Sp := fun vs H Q E => ∃ (a dx : Addr) (v : V), vs = [.ref a, v] ∧ H a = some (.ins (MC mg) dx []) ∧
  ((∃ l, v = .str (tx l) ∧ l.length ≤ 1000 ∧ Signs l ∧ ∀ (H' : Hp) (fs : List (Str × V)), Keep1 a H H' → H' a = some (.ins (MC mg) dx fs) → fs.lookup ("text" : Str) = some (V.str (tx l)) → fs.lookup ("marks" : Str) = some (V.int ((mks l : Nat) : Int)) → fs.lookup ("letters" : Str) = some (V.str (tx (lts l))) → Q .non H') ∨
  (∃ i, Wrong H v i ∧ ∀ (d : Addr) (H' : Hp), Same H H' → H' d = some (.xd [("at", V.int ((i : Nat) : Int))]) → E (.ref (IC mg)) (some d) H'))
theorem ok_made {f : Addr} {fd : FuncData} (T : Txt K mg) (F : FunD K "__init__" "Made.__init__" (defArgs s_Made___init__) (defBody s_Made___init__) (defScope s_Made___init__) [V.str (tx [])] [] f fd) :
    GT.FnX GT.noG tk P w K mg base 3 f fd ["self", "text"] (spMade mg) := by
  have C__wrong_at := cl_wrong (P := P) (w := w) (base := base) T
  have E_InvalidMade := mk_InvalidMade (P := P) (w := w) (base := base) T
  refine GT.okDX F sc_Made___init__ (fun vs H Q E h => ?_) (fun cdv A outer s H vs Q E ga hr h => ?_)
  · obtain ⟨a, dx, v, rfl, _⟩ := h
    rfl
  · obtain ⟨a, dx, v, rfl, ha, h⟩ := h
    refine ⟨_, (GT.pss_cons (GT.ps_set (i := 2) sc_Made___init__.nd rfl (Or.inl rfl) (GT.pe_cl C__wrong_at (hr.mono (by decide)) (by rfl) (GT.pa_cons (GT.pv 1) GT.pa_nil)))
      (GT.pss_cons (GT.ps_if (GT.pt_cmpR GT.op_notN' (GT.pv 2) GT.pe_non (nomark _))
      (GT.pss_one (GT.ps_raise rfl (GT.takes_of rfl rfl rfl rfl) (GT.pmk_G E_InvalidMade hr (by decide) (by rfl) (GT.pv 2))))
      GT.pss_nil)
      (GT.pss_cons (GT.ps_fld (GT.pv 0) (GT.pv 1) rfl)
      (GT.pss_cons (GT.ps_fld (GT.pv 0) (GT.pe_callB GT.call_lenQ (by rfl) T.m_len (by decide +kernel) (GT.pa_cons (GT.pe_lc (own := [("character", 3)]) (g := gName 3) (by rfl) sc_Made___init__.nd (GT.pi_str (GT.pv 1)) (blkOk_by (own := [("character", 3)]) (N := n_Made___init__) (sc := defScope s_Made___init__) (by decide +kernel)) (fun _ _ _ _ _ => (GT.pg_name (i := 3) sc_Made___init__.nd rfl (Or.inl rfl))) (fun _ _ _ _ _ => (GT.pts_one (GT.pt_cmpR GT.op_eq (GT.pv 3) (GT.pe_gstr T.c_MARK [64] (by decide +kernel) (by rfl)) (nomark _)))) (fun _ _ _ _ _ => (GT.pv 3))) GT.pa_nil)) rfl)
      (GT.pss_one (GT.ps_fld (GT.pv 0) (GT.pe_bm PySem.F.plainAttrs_str PySem.F.slot_str_join PySem.F.type_str_join GT.mt_joinX (GT.pe_strX [] (by decide +kernel)) (GT.pa_cons (GT.pe_lc (own := [("letter", 4)]) (g := gName 4) (by rfl) sc_Made___init__.nd (GT.pi_str (GT.pe_gstr T.c_CHARACTERS [45, 46, 47, 48, 49, 50, 51, 52, 53, 54, 55, 56, 57, 95, 97, 98, 99, 100, 101, 102, 103, 104, 105, 106, 107, 108, 109, 110, 111, 112, 113, 114, 115, 116, 117, 118, 119, 120, 121, 122] (by decide +kernel) (by rfl))) (blkOk_by (own := [("letter", 4)]) (N := n_Made___init__) (sc := defScope s_Made___init__) (by decide +kernel)) (fun _ _ _ _ _ => (GT.pg_name (i := 4) sc_Made___init__.nd rfl (Or.inl rfl))) (fun _ _ _ _ _ => (GT.pts_one (GT.pt_cmpR GT.op_inX (GT.pv 4) (GT.pv 1) (by rfl)))) (fun _ _ _ _ _ => (GT.pv 4))) GT.pa_nil)) rfl)))))), ?_⟩
    rcases h with ⟨l, rfl, hl, hs, q⟩ | ⟨i, hw, q⟩
    · walk_at "rds"
      refine .inl ⟨l, rfl, hl, ?_⟩
      unfold badV
      rw [badAt_none hs]
      walk_at "rds"
      refine rd_ite (fun h => by simp at h) (fun _ => ?_)
      walk_at "rds"
      refine ⟨a, MC mg, dx, [], rfl, ha, T.k_Made, T.n_Made_text, by decide, ?_⟩
      have k1 : Keep1 a H (upd H a (.ins (MC mg) dx (putF "text" (.str (tx l)) []))) := fun b o hb hne => by
        rw [upd_ne hne]
        exact hb
      have a1 : upd H a (.ins (MC mg) dx (putF "text" (.str (tx l)) [])) a = some (.ins (MC mg) dx (putF "text" (.str (tx l)) [])) := upd_same
      generalize upd H a (.ins (MC mg) dx (putF "text" (.str (tx l)) [])) = H1 at k1 a1 ⊢
      walk_at "rds"
      refine fun d nd => lc_text (l := l) (fun i H' => Same H1 H' ∧ ∃ ms : List Nat, ms.length ≤ i ∧ ms = (l.take i).filter (fun c => c == 64) ∧ H' d = some (.lst (sgs ms))) ⟨same_upd nd, [], Nat.le_refl _, by simp, upd_same⟩ ?_ ?_
      · rintro i c H2 hc ⟨s2, ms, hms, em, e2⟩
        have hi : i < l.length := (List.getElem?_eq_some_iff.mp hc).1
        walk_at "rds"
        refine ⟨rfl, ?_⟩
        walk_at "rds"
        refine rd_ite (fun h0 => ?_) (fun h0 => ?_)
        · walk_at "rds"
          refine ⟨_, e2, by rw [sgs_len]; exact small1000 (by omega), same_mut s2 nd, ms ++ [c], by rw [List.length_append]; simp; omega, filt_in hc em (mark_b h0), ?_⟩
          rw [upd_same]
          unfold sgs
          rw [List.map_append]
          rfl
        · exact ⟨s2, ms, by omega, filt_out hc em (mark_b h0), e2⟩
      rintro H2 ⟨s2, ms, hms, em, e2⟩
      walk_at "rds"
      refine rd_lenL (SqL.of e2) ?_
      walk_at "rds"
      have a2 := s2 _ _ a1
      have k2 : Keep1 a H H2 := fun b o hb hne => s2 _ _ (k1 b o hb hne)
      clear s2 e2 a1 k1 nd
      refine ⟨a, MC mg, dx, _, rfl, a2, T.k_Made, T.n_Made_marks, Nat.lt_of_le_of_lt (length_putF _ _ _) (by decide), ?_⟩
      have k3 : Keep1 a H (upd H2 a (.ins (MC mg) dx (putF "marks" (.int (((sgs ms).length : Nat) : Int)) (putF "text" (.str (tx l)) [])))) := fun b o hb hne => by
        rw [upd_ne hne]
        exact k2 b o hb hne
      have a3 : upd H2 a (.ins (MC mg) dx (putF "marks" (.int (((sgs ms).length : Nat) : Int)) (putF "text" (.str (tx l)) []))) a = some (.ins (MC mg) dx (putF "marks" (.int (((sgs ms).length : Nat) : Int)) (putF "text" (.str (tx l)) []))) := upd_same
      generalize upd H2 a (.ins (MC mg) dx (putF "marks" (.int (((sgs ms).length : Nat) : Int)) (putF "text" (.str (tx l)) []))) = H3 at k3 a3 ⊢
      walk_at "rds"
      refine fun d nd => lc_text (l := alphabet) (fun i H' => Same H3 H' ∧ ∃ zs : List Nat, zs.length ≤ i ∧ zs = (alphabet.take i).filter (fun c => decide (c ∈ l)) ∧ H' d = some (.lst (sgs zs))) ⟨same_upd nd, [], Nat.le_refl _, by simp, upd_same⟩ ?_ ?_
      · rintro i c H4 hc ⟨s4, zs, hzs, ez, e4⟩
        have hi : i < alphabet.length := (List.getElem?_eq_some_iff.mp hc).1
        have ha40 : alphabet.length = 40 := rfl
        walk_at "rds"
        refine ⟨rfl, ?_⟩
        walk_at "rds"
        refine rd_ite (fun h0 => ?_) (fun h0 => ?_)
        · walk_at "rds"
          refine ⟨_, e4, by rw [sgs_len]; exact small1000 (by omega), same_mut s4 nd, zs ++ [c], by rw [List.length_append]; simp; omega, filt_in hc ez (by simpa using h0), ?_⟩
          rw [upd_same]
          unfold sgs
          rw [List.map_append]
          rfl
        · exact ⟨s4, zs, by omega, filt_out hc ez (by simpa using h0), e4⟩
      rintro H4 ⟨s4, zs, hzs, ez, e4⟩
      have hz40 : zs.length ≤ 40 := hzs
      walk_at "rds"
      refine rd_joinX (ls := zs.map fun c => [c]) (SqL.of (by rw [e4, List.map_map]; rfl)) (by rw [List.map_map, show (List.length ∘ fun c : Nat => [c]) = fun _ => 1 from rfl, List.map_const', List.sum_replicate_nat]; omega) ?_
      walk_at "rds"
      have a4 := s4 _ _ a3
      refine ⟨a, MC mg, dx, _, rfl, a4, T.k_Made, T.n_Made_letters, Nat.lt_of_le_of_lt (Nat.le_trans (length_putF _ _ _) (Nat.succ_le_succ (length_putF _ _ _))) (by decide), ?_⟩
      walk_at "rds"
      refine q _ _ (fun b o hb hne => ?_) upd_same ?_ ?_ ?_
      · rw [upd_ne hne]
        exact s4 _ _ (k3 b o hb hne)
      · rw [lookup_putF, if_neg (by decide), lookup_putF, if_neg (by decide), lookup_putF, if_pos rfl]
      · rw [lookup_putF, if_neg (by decide), lookup_putF, if_pos rfl, sgs_len, filt_all em]
        rfl
      · rw [lookup_putF, if_pos rfl, filt_all ez, show ((alphabet.filter fun c => decide (c ∈ l)).map fun c => [c]).flatten = lts l from flat_one _]
    · walk_at "rds"
      have go : ∀ Q' : VK, Q' (.int ((i : Nat) : Int)) H → spWrong [v] H Q' E0 := fun Q' h => by
        rcases hw with ⟨l, rfl, hl, e⟩ | ⟨rfl, hn⟩
        · refine .inl ⟨l, rfl, hl, ?_⟩
          unfold badV
          rw [e]
          exact h
        · exact .inr ⟨v, rfl, hn, h⟩
      refine go _ ?_
      walk_at "rds"
      refine rd_ite (fun _ => ?_) (fun h => by simp at h)
      walk_at "rds"
      exact ⟨rfl, fun d hd => q d _ (same_upd hd) upd_same⟩
theorem mk_Made (T : Txt K mg) : GT.MakX GT.noG tk P w K mg base "Made" (MC mg) 3 (spMade mg) [] := by
  obtain ⟨f, fd, F, M⟩ := T.d_Made___init__
  obtain ⟨ds, v, b⟩ := F.binds1 (ps := ["self", "text"]) 2 1 (by simp) rfl fun T kV doc pm an cdv ct us its h1 h2 => match us, its, h1, h2 with | [_, _], [_], _, _ => ⟨_, rfl, rfl⟩
  cases v
  exact ⟨f, fd, _, [], M, ok_made T F, T.g_Made, b, .nil, GT.Gvs.nil⟩
theorem mk_Made0 (T : Txt K mg) : GT.MakX0 GT.noG tk P w K mg base "Made" (MC mg) 3 (spMade mg) [V.str (tx [])] := by
  obtain ⟨f, fd, F, M⟩ := T.d_Made___init__
  obtain ⟨ds, v, b, g⟩ := GT.binds1g F (ps := ["self", "text"]) 1 0 (by simp) rfl fun T kV doc pm an cdv ct us its h1 h2 => match us, its, h1, h2 with | [_], [_], _, _ => ⟨_, rfl, rfl⟩
  exact ⟨f, fd, _, ds, M, ok_made T F, T.g_Made, b, v, g _⟩
/-- a made text stands at a -/
def MadeAt (C : Addr) (H : Hp) (a : Addr) (l : List Nat) : Prop := ∃ (dx : Addr) (fs : List (Str × V)), H a = some (.ins C dx fs) ∧ fs.lookup ("text" : Str) = some (V.str (tx l)) ∧ fs.lookup ("marks" : Str) = some (V.int ((mks l : Nat) : Int)) ∧ fs.lookup ("letters" : Str) = some (V.str (tx (lts l)))
theorem MadeAt.same {C a : Addr} {l : List Nat} {H H' : Hp} (m : MadeAt C H a l) (s : Same H H') : MadeAt C H' a l := by
  obtain ⟨dx, fs, h, e⟩ := m
  exact ⟨dx, fs, s _ _ h, e⟩
theorem Same.made {H H' : Hp} {x dx C : Addr} (hx : H x = none) (hdx : H dx = none) (s : Same (upd (upd H dx (.own x)) x (.ins C dx [])) H') : Same H H' := fun b o hb => by
  have h1 : b ≠ x := fun z => by
    rw [z, hx] at hb
    cases hb
  have h2 : b ≠ dx := fun z => by
    rw [z, hdx] at hb
    cases hb
  exact s b o (by rw [upd_ne h1, upd_ne h2]; exact hb)
theorem make_made {H : Hp} {l : List Nat} {E : XK} {Q : Addr → Hp → Prop} (hl : l.length ≤ 1000) (hs : Signs l) (q : ∀ a H', Same H H' → H a = none → MadeAt (MC mg) H' a l → Q a H') :
    ∀ x dx, H x = none → H dx = none → dx ≠ x → spMade mg [.ref x, .str (tx l)] (upd (upd H dx (.own x)) x (.ins (MC mg) dx [])) (fun v H2 => v = .non ∧ Q x H2) E := by
  intro x dx hx hdx hne
  refine ⟨x, dx, _, rfl, upd_same, .inl ⟨l, rfl, hl, hs, fun H' fs k e lk lm ll => ⟨rfl, q x H' (fun b o hb => ?_) hx ⟨dx, fs, e, lk, lm, ll⟩⟩⟩⟩
  have h1 : b ≠ x := fun z => by
    rw [z, hx] at hb
    cases hb
  have h2 : b ≠ dx := fun z => by
    rw [z, hdx] at hb
    cases hb
  exact k b o (by rw [upd_ne h1, upd_ne h2]; exact hb) h1
theorem Wrong.keep {H H' : Hp} {v : V} {i : Nat} (h : Wrong H v i) (k : Same H H') : Wrong H' v i := by
  rcases h with h | ⟨e, h⟩
  · exact .inl h
  · refine .inr ⟨e, ?_⟩
    rcases h with h | h | h | ⟨p, xs, e1, e2⟩ | ⟨p, xs, e1, e2⟩
    · exact .inl h
    · exact .inr (.inl h)
    · exact .inr (.inr (.inl h))
    · exact .inr (.inr (.inr (.inl ⟨p, xs, e1, k _ _ e2⟩)))
    · exact .inr (.inr (.inr (.inr ⟨p, xs, e1, k _ _ e2⟩)))
/-- what the error of a wrong text asks -/
def Raised (mg : Str → Option Value) (H : Hp) (i : Nat) (E : XK) : Prop := ∀ (d : Addr) (H' : Hp), Same H H' → H' d = some (.xd [("at", V.int ((i : Nat) : Int))]) → E (.ref (IC mg)) (some d) H'
theorem make_bad {H : Hp} {v : V} {i : Nat} {E : XK} {Q : Addr → Hp → Prop} (h : Wrong H v i) (q : Raised mg H i E) :
    ∀ x dx, H x = none → H dx = none → dx ≠ x → spMade mg [.ref x, v] (upd (upd H dx (.own x)) x (.ins (MC mg) dx [])) (fun v H2 => v = .non ∧ Q x H2) E := by
  intro x dx hx hdx hne
  have s0 : Same H (upd (upd H dx (.own x)) x (.ins (MC mg) dx [])) := Same.made hx hdx (Same.refl _)
  exact ⟨x, dx, _, rfl, upd_same, .inr ⟨i, h.keep s0, fun d H' s e => q d H' (s0.trans s) e⟩⟩
end

section
variable {P : Program} {w : World} {K : PySem.W.Frag} {mg : Str → Option Value} {base : Heap}
theorem reps_len (n : Nat) (l : List Nat) : (reps n l).length = n * l.length := by
  unfold reps
  rw [List.length_flatten, List.map_replicate, List.sum_replicate_nat]
theorem Signs.reps {l : List Nat} (h : Signs l) (n : Nat) : Signs (reps n l) := fun c hc => by
  unfold Un.reps at hc
  obtain ⟨t, ht, hc⟩ := List.mem_flatten.mp hc
  rw [(List.mem_replicate.mp ht).2] at hc
  exact h c hc
theorem rd_text {C a : Addr} {l : List Nat} {H : Hp} (m : MadeAt C H a l) : ∃ dx fs, H a = some (.ins C dx fs) ∧ fs.lookup ("text" : Str) = some (V.str (tx l)) := by
  obtain ⟨dx, fs, h, e, _⟩ := m
  exact ⟨dx, fs, h, e⟩
/-- the text of a made text or of a string -/
def spText (mg : Str → Option Value) : Sp := fun vs H Q E => ∃ v, vs = [v] ∧
  ((∃ a l, v = .ref a ∧ MadeAt (MC mg) H a l ∧ Q (.str (tx l)) H) ∨ (∃ l, v = .str (tx l) ∧ l.length ≤ 1000 ∧ Signs l ∧ ∀ H', Same H H' → Q (.str (tx l)) H') ∨ (∃ l i, v = .str (tx l) ∧ Wrong H v i ∧ Raised mg H i E))
theorem cl_text (T : Txt K mg) : GT.ClX GT.noG tk P w K mg base "_text_of" ["value"] 5 (spText mg) := GT.clX_of T.a__text_of fun f fd F => by
  have C_Made_1 := mk_Made (P := P) (w := w) (base := base) T
  refine GT.okX F sc__text_of (fun vs H Q E h => ?_) (fun cdv A outer s H vs Q E ga hr h => ?_)
  · obtain ⟨v, rfl, _⟩ := h
    rfl
  · obtain ⟨v, rfl, h⟩ := h
    refine ⟨_, (GT.pss_cons (GT.ps_if (GT.pt_val (GT.pe_callB GT.call_isi (by rfl) T.m_isinstance (by decide +kernel) (GT.pa_cons (GT.pv 0) (GT.pa_cons (GT.pe_cls T.g_Made (by rfl)) GT.pa_nil))))
      (GT.pss_one (GT.ps_ret (GT.pe_fldK (K := K) (by rfl) (GT.pv 0) (by rfl))))
      GT.pss_nil)
      (GT.pss_cons (GT.ps_if (GT.pt_val (GT.pe_callB GT.call_isi (by rfl) T.m_isinstance (by decide +kernel) (GT.pa_cons (GT.pv 0) (GT.pa_cons (GT.pe_bltn (v := .ty "str") (by rfl) T.m_str (by decide +kernel) rfl) GT.pa_nil))))
      (GT.pss_one (GT.ps_ret (GT.pe_fldK (K := K) (by rfl) (GT.pe_mkDX C_Made_1 hr (by decide) (by rfl) (GT.takes_of rfl rfl rfl rfl) (GT.pa_cons (GT.pv 0) GT.pa_nil)) (by rfl))))
      GT.pss_nil)
      (GT.pss_one (GT.ps_ret GT.pe_non)))), ?_⟩
    rcases h with ⟨a, l, rfl, m, q⟩ | ⟨l, rfl, hl, hs, q⟩ | ⟨l, i, rfl, hw, q⟩
    · obtain ⟨dx, fs, ha, hf⟩ := rd_text m
      walk_at "rds"
      refine rd_isO ha T.k_Made T.i_Made ?_
      walk_at "rds"
      refine rd_ite (fun _ => ?_) (fun h => by cases h)
      walk_at "rds"
      exact ⟨a, MC mg, dx, fs, _, rfl, ha, T.k_Made, T.n_Made_text, hf, q⟩
    · walk_at "rds"
      refine rd_isNo (T := "str") (.base (.str _)) T.i_Made (by simp) ?_
      walk_at "rds"
      refine rd_ite (fun h => by cases h) (fun _ => ?_)
      walk_at "rds"
      refine rd_isiS ?_
      walk_at "rds"
      refine rd_ite (fun _ => ?_) (fun h => by cases h)
      walk_at "rds"
      refine make_made hl hs fun a H' s _ m => ?_
      obtain ⟨dx, fs, ha, hf⟩ := rd_text m
      exact ⟨a, MC mg, dx, fs, _, rfl, ha, T.k_Made, T.n_Made_text, hf, q _ s⟩
    · walk_at "rds"
      refine rd_isNo (T := "str") (.base (.str _)) T.i_Made (by simp) ?_
      walk_at "rds"
      refine rd_ite (fun h => by cases h) (fun _ => ?_)
      walk_at "rds"
      refine rd_isiS ?_
      walk_at "rds"
      refine rd_ite (fun _ => ?_) (fun h => by cases h)
      walk_at "rds"
      exact make_bad (Q := fun a H' => _) hw q
/-- made text + other -/
def spAdd (mg : Str → Option Value) : Sp := fun vs H Q E => ∃ a l v, vs = [.ref a, v] ∧ MadeAt (MC mg) H a l ∧ l.length ≤ 400 ∧ Signs l ∧
  ((∃ r, ((∃ b, v = .ref b ∧ MadeAt (MC mg) H b r) ∨ v = .str (tx r)) ∧ Signs r ∧ r.length ≤ 400 ∧ ∀ b H', Same H H' → H b = none → MadeAt (MC mg) H' b (l ++ r) → Q (.ref b) H') ∨ (∃ r i, v = .str (tx r) ∧ Wrong H v i ∧ Raised mg H i E))
def spRadd (mg : Str → Option Value) : Sp := fun vs H Q E => ∃ a l v, vs = [.ref a, v] ∧ MadeAt (MC mg) H a l ∧ l.length ≤ 400 ∧ Signs l ∧
  ((∃ r, ((∃ b, v = .ref b ∧ MadeAt (MC mg) H b r) ∨ v = .str (tx r)) ∧ Signs r ∧ r.length ≤ 400 ∧ ∀ b H', Same H H' → H b = none → MadeAt (MC mg) H' b (r ++ l) → Q (.ref b) H') ∨ (∃ r i, v = .str (tx r) ∧ Wrong H v i ∧ Raised mg H i E))
theorem ok_add {f : Addr} {fd : FuncData} (T : Txt K mg) (F : Fun K "__add__" "Made.__add__" s_Made___add__ f fd) : GT.FnX GT.noG tk P w K mg base 6 f fd ["self", "other"] (spAdd mg) := by
  have C_Made_1 := mk_Made (P := P) (w := w) (base := base) T
  have C__text_of := cl_text (P := P) (w := w) (base := base) T
  refine GT.okX F sc_Made___add__ (fun vs H Q E h => ?_) (fun cdv A outer s H vs Q E ga hr h => ?_)
  · obtain ⟨a, l, v, rfl, _⟩ := h
    rfl
  · obtain ⟨a, l, v, rfl, m, hl, hs, h⟩ := h
    refine ⟨_, (GT.pss_cons (GT.ps_set (i := 2) sc_Made___add__.nd rfl (Or.inl rfl) (GT.pe_clX C__text_of (hr.mono (by decide)) (by rfl) (GT.takes_of rfl rfl rfl rfl) (GT.pa_cons (GT.pv 1) GT.pa_nil)))
      (GT.pss_cons (GT.ps_if (GT.pt_cmpR GT.op_isN' (GT.pv 2) GT.pe_non (nomark _))
      (GT.pss_one GT.ps_dead)
      GT.pss_nil)
      (GT.pss_one (GT.ps_ret (GT.pe_mkDX C_Made_1 hr (by decide) (by rfl) (GT.takes_of rfl rfl rfl rfl) (GT.pa_cons (GT.pe_op GT.op_addX (GT.pe_fldK (K := K) (by rfl) (GT.pv 0) (by rfl)) (GT.pv 2)) GT.pa_nil)))))), ?_⟩
    have fin : ∀ r : List Nat, Signs r → r.length ≤ 400 → (∀ b H', Same H H' → H b = none → MadeAt (MC mg) H' b (l ++ r) → Q (.ref b) H') → ∀ H1, Same H H1 → ∀ x dx, H1 x = none → H1 dx = none → dx ≠ x → spMade mg [.ref x, .str (tx (l ++ r))] (upd (upd H1 dx (.own x)) x (.ins (MC mg) dx [])) (fun v H2 => v = .non ∧ Q (.ref x) H2) E := fun r hr2 lr q H1 s1 =>
      make_made (Q := fun x H2 => Q (.ref x) H2) (by rw [List.length_append]; omega) (hs.app hr2) fun b H' s' hn m' => q b H' (s1.trans s') (s1.free hn) m'
    rcases h with ⟨r, hv, hr2, lr, q⟩ | ⟨r, i, rfl, hw, q⟩
    · walk_at "rds"
      have go : ∀ Q' : VK, (∀ H1, Same H H1 → Q' (.str (tx r)) H1) → spText mg [v] H Q' E := fun Q' h => by
        rcases hv with ⟨b, rfl, mb⟩ | rfl
        · exact ⟨_, rfl, .inl ⟨b, r, rfl, mb, h _ (Same.refl _)⟩⟩
        · exact ⟨_, rfl, .inr (.inl ⟨r, rfl, by omega, hr2, h⟩)⟩
      refine go _ fun H1 s1 => ?_
      obtain ⟨dx, fs, ha, hf⟩ := rd_text (m.same s1)
      walk_at "rds"
      refine rd_ite (fun h => by simp at h) (fun _ => ?_)
      walk_at "rds"
      refine ⟨a, MC mg, dx, fs, _, rfl, ha, T.k_Made, T.n_Made_text, hf, ?_⟩
      walk_at "rds"
      refine rd_addX (sz_of' (by omega)) ?_
      walk_at "rds"
      exact fin r hr2 lr q _ s1
    · walk_at "rds"
      exact ⟨_, rfl, .inr (.inr ⟨r, i, rfl, hw, q⟩)⟩
theorem ok_radd {f : Addr} {fd : FuncData} (T : Txt K mg) (F : Fun K "__radd__" "Made.__radd__" s_Made___radd__ f fd) : GT.FnX GT.noG tk P w K mg base 6 f fd ["self", "other"] (spRadd mg) := by
  have C_Made_1 := mk_Made (P := P) (w := w) (base := base) T
  have C__text_of := cl_text (P := P) (w := w) (base := base) T
  refine GT.okX F sc_Made___radd__ (fun vs H Q E h => ?_) (fun cdv A outer s H vs Q E ga hr h => ?_)
  · obtain ⟨a, l, v, rfl, _⟩ := h
    rfl
  · obtain ⟨a, l, v, rfl, m, hl, hs, h⟩ := h
    refine ⟨_, (GT.pss_cons (GT.ps_set (i := 2) sc_Made___radd__.nd rfl (Or.inl rfl) (GT.pe_clX C__text_of (hr.mono (by decide)) (by rfl) (GT.takes_of rfl rfl rfl rfl) (GT.pa_cons (GT.pv 1) GT.pa_nil)))
      (GT.pss_cons (GT.ps_if (GT.pt_cmpR GT.op_isN' (GT.pv 2) GT.pe_non (nomark _))
      (GT.pss_one GT.ps_dead)
      GT.pss_nil)
      (GT.pss_one (GT.ps_ret (GT.pe_mkDX C_Made_1 hr (by decide) (by rfl) (GT.takes_of rfl rfl rfl rfl) (GT.pa_cons (GT.pe_op GT.op_addX (GT.pv 2) (GT.pe_fldK (K := K) (by rfl) (GT.pv 0) (by rfl))) GT.pa_nil)))))), ?_⟩
    have fin : ∀ r : List Nat, Signs r → r.length ≤ 400 → (∀ b H', Same H H' → H b = none → MadeAt (MC mg) H' b (r ++ l) → Q (.ref b) H') → ∀ H1, Same H H1 → ∀ x dx, H1 x = none → H1 dx = none → dx ≠ x → spMade mg [.ref x, .str (tx (r ++ l))] (upd (upd H1 dx (.own x)) x (.ins (MC mg) dx [])) (fun v H2 => v = .non ∧ Q (.ref x) H2) E := fun r hr2 lr q H1 s1 =>
      make_made (Q := fun x H2 => Q (.ref x) H2) (by rw [List.length_append]; omega) (hr2.app hs) fun b H' s' hn m' => q b H' (s1.trans s') (s1.free hn) m'
    rcases h with ⟨r, hv, hr2, lr, q⟩ | ⟨r, i, rfl, hw, q⟩
    · walk_at "rds"
      have go : ∀ Q' : VK, (∀ H1, Same H H1 → Q' (.str (tx r)) H1) → spText mg [v] H Q' E := fun Q' h => by
        rcases hv with ⟨b, rfl, mb⟩ | rfl
        · exact ⟨_, rfl, .inl ⟨b, r, rfl, mb, h _ (Same.refl _)⟩⟩
        · exact ⟨_, rfl, .inr (.inl ⟨r, rfl, by omega, hr2, h⟩)⟩
      refine go _ fun H1 s1 => ?_
      obtain ⟨dx, fs, ha, hf⟩ := rd_text (m.same s1)
      walk_at "rds"
      refine rd_ite (fun h => by simp at h) (fun _ => ?_)
      walk_at "rds"
      refine ⟨a, MC mg, dx, fs, _, rfl, ha, T.k_Made, T.n_Made_text, hf, ?_⟩
      walk_at "rds"
      refine rd_addX (sz_of' (by omega)) ?_
      walk_at "rds"
      exact fin r hr2 lr q _ s1
    · walk_at "rds"
      exact ⟨_, rfl, .inr (.inr ⟨r, i, rfl, hw, q⟩)⟩
/-- made text * int -/
def spMul (mg : Str → Option Value) : Sp := fun vs H Q E => ∃ a l n, vs = [.ref a, .int ((n : Nat) : Int)] ∧ MadeAt (MC mg) H a l ∧ l.length ≤ 100 ∧ n ≤ 9 ∧ Signs l ∧ ∀ b H', Same H H' → H b = none → MadeAt (MC mg) H' b (reps n l) → Q (.ref b) H'
theorem ok_mul {f : Addr} {fd : FuncData} (T : Txt K mg) (F : Fun K "__mul__" "Made.__mul__" s_Made___mul__ f fd) : GT.FnT GT.noG tk P w K mg base 5 f fd ["self", "other"] (spMul mg) := by
  have C_Made_1 := mk_Made (P := P) (w := w) (base := base) T
  refine GT.ok F sc_Made___mul__ (fun vs H Q E h => ?_) (fun cdv A outer s H vs Q E ga hr h => ?_)
  · obtain ⟨a, l, n, rfl, _⟩ := h
    rfl
  · obtain ⟨a, l, n, rfl, m, hl, hn, hs, q⟩ := h
    have hz : l.length * n ≤ 100 * 9 := Nat.mul_le_mul hl hn
    obtain ⟨dx, fs, ha, hf⟩ := rd_text m
    refine ⟨_, (GT.pss_cons (GT.ps_if (GT.pt_not (GT.pt_val (GT.pe_callB GT.call_isi (by rfl) T.m_isinstance (by decide +kernel) (GT.pa_cons (GT.pv 1) (GT.pa_cons (GT.pe_bltn (v := .ty "int") (by rfl) T.m_int (by decide +kernel) rfl) GT.pa_nil)))))
      (GT.pss_one GT.ps_dead)
      GT.pss_nil)
      (GT.pss_one (GT.ps_ret (GT.pe_mkDX C_Made_1 hr (by decide) (by rfl) GT.takes0 (GT.pa_cons (GT.pe_op GT.op_mulT (GT.pe_fldK (K := K) (by rfl) (GT.pv 0) (by rfl)) (GT.pv 1)) GT.pa_nil))))), ?_⟩
    walk_at "rds"
    refine rd_isB (T := "int") (b := true) (.base (.int _)) (kit_ty (by decide +kernel)) ?_
    walk_at "rds"
    refine rd_ite (fun h => by cases h) (fun _ => ?_)
    walk_at "rds"
    refine ⟨a, MC mg, dx, fs, _, rfl, ha, T.k_Made, T.n_Made_text, hf, ?_⟩
    walk_at "rds"
    refine rd_mulX (by omega) (by omega) (by rw [Int.toNat_natCast]; omega) ?_
    rw [Int.toNat_natCast]
    walk_at "rds"
    exact make_made (Q := fun x H2 => Q (.ref x) H2) (by rw [reps_len, Nat.mul_comm]; omega) (hs.reps n) q
theorem ok_rmul {f : Addr} {fd : FuncData} (T : Txt K mg) (F : Fun K "__rmul__" "Made.__rmul__" s_Made___rmul__ f fd) : GT.FnT GT.noG tk P w K mg base 5 f fd ["self", "other"] (spMul mg) := by
  have C_Made_1 := mk_Made (P := P) (w := w) (base := base) T
  refine GT.ok F sc_Made___rmul__ (fun vs H Q E h => ?_) (fun cdv A outer s H vs Q E ga hr h => ?_)
  · obtain ⟨a, l, n, rfl, _⟩ := h
    rfl
  · obtain ⟨a, l, n, rfl, m, hl, hn, hs, q⟩ := h
    have hz : l.length * n ≤ 100 * 9 := Nat.mul_le_mul hl hn
    obtain ⟨dx, fs, ha, hf⟩ := rd_text m
    refine ⟨_, (GT.pss_cons (GT.ps_if (GT.pt_not (GT.pt_val (GT.pe_callB GT.call_isi (by rfl) T.m_isinstance (by decide +kernel) (GT.pa_cons (GT.pv 1) (GT.pa_cons (GT.pe_bltn (v := .ty "int") (by rfl) T.m_int (by decide +kernel) rfl) GT.pa_nil)))))
      (GT.pss_one GT.ps_dead)
      GT.pss_nil)
      (GT.pss_one (GT.ps_ret (GT.pe_mkDX C_Made_1 hr (by decide) (by rfl) GT.takes0 (GT.pa_cons (GT.pe_op GT.op_mulT (GT.pe_fldK (K := K) (by rfl) (GT.pv 0) (by rfl)) (GT.pv 1)) GT.pa_nil))))), ?_⟩
    walk_at "rds"
    refine rd_isB (T := "int") (b := true) (.base (.int _)) (kit_ty (by decide +kernel)) ?_
    walk_at "rds"
    refine rd_ite (fun h => by cases h) (fun _ => ?_)
    walk_at "rds"
    refine ⟨a, MC mg, dx, fs, _, rfl, ha, T.k_Made, T.n_Made_text, hf, ?_⟩
    walk_at "rds"
    refine rd_mulX (by omega) (by omega) (by rw [Int.toNat_natCast]; omega) ?_
    rw [Int.toNat_natCast]
    walk_at "rds"
    exact make_made (Q := fun x H2 => Q (.ref x) H2) (by rw [reps_len, Nat.mul_comm]; omega) (hs.reps n) q
end

section
variable {P : Program} {w : World} {K : PySem.W.Frag} {mg : Str → Option Value} {base : Heap}
/-- == by the texts -/
def spEq (mg : Str → Option Value) : Sp := fun vs H Q _ => ∃ a l v, vs = [.ref a, v] ∧ MadeAt (MC mg) H a l ∧
  ((∃ b r, v = .ref b ∧ MadeAt (MC mg) H b r ∧ Q (.bl (decide (l = r))) H) ∨ ((NoStr H v ∨ ∃ r, v = .str r) ∧ Q (.bl false) H))
theorem rd_isNoM {H : Hp} {v : V} {Q : VK} {C : Addr} (i : InsK K C) (h : NoStr H v ∨ ∃ r, v = .str r) (q : Q (.bl false) H) : rIsi K [v, .ref C] H Q := by
  rcases h with h | ⟨r, rfl⟩
  · rcases h with rfl | ⟨n, rfl⟩ | ⟨b, rfl⟩ | ⟨p, xs, rfl, h⟩ | ⟨p, xs, rfl, h⟩
    · exact rd_isNo (T := "NoneType") (.base .non) i (by simp) q
    · exact rd_isNo (T := "int") (.base (.int n)) i (by simp) q
    · exact rd_isNo (T := "bool") (.base (.bl b)) i (by simp) q
    · exact rd_isNo (T := "list") (.base (.lst h)) i (by simp) q
    · exact rd_isNo (T := "tuple") (.base (.tup h)) i (by simp) q
  · exact rd_isNo (T := "str") (.base (.str r)) i (by simp) q
theorem ok_eq {f : Addr} {fd : FuncData} (T : Txt K mg) (F : Fun K "__eq__" "Made.__eq__" s_Made___eq__ f fd) : GT.FnT GT.noG tk P w K mg base 1 f fd ["self", "other"] (spEq mg) := by
  refine GT.ok F sc_Made___eq__ (fun vs H Q E h => ?_) (fun cdv A outer s H vs Q E ga hr h => ?_)
  · obtain ⟨a, l, v, rfl, _⟩ := h
    rfl
  · obtain ⟨a, l, v, rfl, m, h⟩ := h
    obtain ⟨dx, fs, ha, hf⟩ := rd_text m
    refine ⟨_, (GT.pss_one (GT.ps_ret (GT.pe_and (GT.pe_callB GT.call_isi (by rfl) T.m_isinstance (by decide +kernel) (GT.pa_cons (GT.pv 1) (GT.pa_cons (GT.pe_cls T.g_Made (by rfl)) GT.pa_nil))) (GT.pe_one (GT.pe_cmpR GT.op_eq (GT.pe_fldK (K := K) (by rfl) (GT.pv 0) (by rfl)) (GT.pe_fldK (K := K) (by rfl) (GT.pv 1) (by rfl)) (nomark _)))))), ?_⟩
    rcases h with ⟨b, r, rfl, mb, q⟩ | ⟨hv, q⟩
    · obtain ⟨dy, gs, hb, hg⟩ := rd_text mb
      walk_at "rds"
      refine rd_isO hb T.k_Made T.i_Made ?_
      walk_at "rds"
      rw [if_pos rfl]
      walk_at "rds"
      refine ⟨a, MC mg, dx, fs, _, rfl, ha, T.k_Made, T.n_Made_text, hf, ?_⟩
      walk_at "rds"
      refine ⟨b, MC mg, dy, gs, _, rfl, hb, T.k_Made, T.n_Made_text, hg, ?_⟩
      walk_at "rds"
      have e : decide (V.str (tx l) = V.str (tx r)) = decide (l = r) := by
        by_cases h : l = r
        · subst h
          simp
        · rw [decide_eq_false h]
          refine decide_eq_false fun z => h ?_
          injection z with z
          exact tx_inj z
      rw [e]
      exact q
    · walk_at "rds"
      refine rd_isNoM T.i_Made hv ?_
      walk_at "rds"
      exact q
def spLen (mg : Str → Option Value) : Sp := fun vs H Q _ => ∃ a l, vs = [.ref a] ∧ MadeAt (MC mg) H a l ∧ l.length ≤ 1000 ∧ Q (.int ((l.length : Nat) : Int)) H
theorem ok_len {f : Addr} {fd : FuncData} (T : Txt K mg) (F : Fun K "__len__" "Made.__len__" s_Made___len__ f fd) : GT.FnT GT.noG tk P w K mg base 1 f fd ["self"] (spLen mg) := by
  refine GT.ok F sc_Made___len__ (fun vs H Q E h => ?_) (fun cdv A outer s H vs Q E ga hr h => ?_)
  · obtain ⟨a, l, rfl, _⟩ := h
    rfl
  · obtain ⟨a, l, rfl, m, hl, q⟩ := h
    obtain ⟨dx, fs, ha, hf⟩ := rd_text m
    refine ⟨_, (GT.pss_one (GT.ps_ret (GT.pe_callB GT.call_lenX (by rfl) T.m_len (by decide +kernel) (GT.pa_cons (GT.pe_fldK (K := K) (by rfl) (GT.pv 0) (by rfl)) GT.pa_nil)))), ?_⟩
    walk_at "rds"
    refine ⟨a, MC mg, dx, fs, _, rfl, ha, T.k_Made, T.n_Made_text, hf, ?_⟩
    refine rd_lenX (sz_of' (by omega)) ?_
    exact q
/-- str(..) -/
def spelled (l : List Nat) : List Nat := if l = [] then [33] else l
def spStr (mg : Str → Option Value) : Sp := fun vs H Q _ => ∃ a l, vs = [.ref a] ∧ MadeAt (MC mg) H a l ∧ l.length ≤ 1000 ∧ Q (.str (tx (spelled l))) H
theorem ok_str {f : Addr} {fd : FuncData} (T : Txt K mg) (F : Fun K "__str__" "Made.__str__" s_Made___str__ f fd) : GT.FnT GT.noG tk P w K mg base 1 f fd ["self"] (spStr mg) := by
  refine GT.ok F sc_Made___str__ (fun vs H Q E h => ?_) (fun cdv A outer s H vs Q E ga hr h => ?_)
  · obtain ⟨a, l, rfl, _⟩ := h
    rfl
  · obtain ⟨a, l, rfl, m, hl, q⟩ := h
    obtain ⟨dx, fs, ha, hf⟩ := rd_text m
    refine ⟨_, (GT.pss_one (GT.ps_ret (GT.pe_callTy GT.call_strS (by rfl) T.m_str (by decide +kernel) (GT.pa_cons (GT.pe_orT (K := K) (by rfl) (GT.pe_fldK (K := K) (by rfl) (GT.pv 0) (by rfl)) (GT.pe_one (GT.pe_gstr T.c_EMPTY [33] (by decide +kernel) (by rfl)))) GT.pa_nil)))), ?_⟩
    walk_at "rds"
    refine ⟨a, MC mg, dx, fs, _, rfl, ha, T.k_Made, T.n_Made_text, hf, ?_⟩
    refine ⟨_, ⟨Nat.le_trans (Nat.le_of_eq (tx_len l)) (sz_of' (by omega)), rfl⟩, ?_⟩
    cases l with
    | nil =>
      rw [if_neg (by decide)]
      walk_at "rds"
      exact q
    | cons c l =>
      rw [if_pos (by rw [tx_len, List.length_cons, bne_iff_ne]; omega)]
      walk_at "rds"
      exact q
def spFilled (mg : Str → Option Value) : Sp := fun vs H Q _ => ∃ (a : Addr) (l n : List Nat), vs = [.ref a, .str (tx n)] ∧ MadeAt (MC mg) H a l ∧ l.length ≤ 1000 ∧ n.length ≤ 1000 ∧ n ≠ [64] ∧ Q (.str (tx (fill l n))) H
theorem cl_filled (T : Txt K mg) : GT.Cl GT.noG tk P w K mg base "filled" ["made", "name"] 1 (spFilled mg) := GT.cl_of T.a_filled fun f fd F => by
  refine GT.ok F sc_filled (fun vs H Q E h => ?_) (fun cdv A outer s H vs Q E ga hr h => ?_)
  · obtain ⟨a, l, n, rfl, _⟩ := h
    rfl
  · obtain ⟨a, l, n, rfl, ⟨dx, fs, ha, hf, _⟩, hl, hn, hne, q⟩ := h
    refine ⟨_, (GT.pss_one (GT.ps_ret (GT.pe_replM T.k_MARK.1 T.k_MARK.2 (by rfl) (GT.pe_fldK (K := K) (by rfl) (GT.pv 0) (by rfl)) (GT.pv 1)))), ?_⟩
    walk_at "rds"
    refine GT.rd_replM ?_
    walk_at "rds"
    refine ⟨a, MC mg, dx, fs, _, rfl, ha, T.k_Made, T.n_Made_text, hf, ⟨_, rfl⟩, ?_⟩
    walk_at "rds"
    refine ⟨_, _, rfl, rfl, fun e => hne (tx_inj (by rw [← mark_tx]; exact e)), ?_, ?_⟩
    · rw [tx_len, tx_len]
      have : (l.length + 1) * n.length ≤ 1001 * 1000 := Nat.mul_le_mul (by omega) hn
      omega
    · rw [mark_tx, repl_fill]
      exact q
theorem ok_call {f : Addr} {fd : FuncData} (T : Txt K mg) (F : Fun K "__call__" "Made.__call__" s_Made___call__ f fd) : GT.FnT GT.noG tk P w K mg base 2 f fd ["self", "name"] (spFilled mg) := by
  have C_filled := cl_filled (P := P) (w := w) (base := base) T
  refine GT.ok F sc_Made___call__ (fun vs H Q E h => ?_) (fun cdv A outer s H vs Q E ga hr h => ?_)
  · obtain ⟨a, l, n, rfl, _⟩ := h
    rfl
  · obtain ⟨a, l, n, rfl, m, hl, hn, hne, q⟩ := h
    refine ⟨_, (GT.pss_one (GT.ps_ret (GT.pe_cl C_filled (hr.mono (by decide)) (by rfl) (GT.pa_cons (GT.pv 0) (GT.pa_cons (GT.pv 1) GT.pa_nil))))), ?_⟩
    walk_at "rds"
    exact ⟨a, l, n, rfl, m, hl, hn, hne, q⟩
theorem mt_add (T : Txt K mg) : GT.MetGX tk P w K mg base (MC mg) "__add__" ["self", "other"] 6 (spAdd mg) := GT.metGX_of T.k_Made T.a_Made___add__ fun f fd F => ok_add T F
theorem mt_radd (T : Txt K mg) : GT.MetGX tk P w K mg base (MC mg) "__radd__" ["self", "other"] 6 (spRadd mg) := GT.metGX_of T.k_Made T.a_Made___radd__ fun f fd F => ok_radd T F
theorem mt_mul (T : Txt K mg) : GT.MetGX tk P w K mg base (MC mg) "__mul__" ["self", "other"] 5 (spMul mg) := GT.metGX_of T.k_Made T.a_Made___mul__ fun f fd F => .of (ok_mul T F)
theorem mt_rmul (T : Txt K mg) : GT.MetGX tk P w K mg base (MC mg) "__rmul__" ["self", "other"] 5 (spMul mg) := GT.metGX_of T.k_Made T.a_Made___rmul__ fun f fd F => .of (ok_rmul T F)
theorem mt_eq (T : Txt K mg) : GT.MetG tk P w K mg base (MC mg) "__eq__" ["self", "other"] 1 (spEq mg) := GT.metG_of T.k_Made T.a_Made___eq__ fun f fd F => ok_eq T F
theorem mt_len (T : Txt K mg) : GT.MetG tk P w K mg base (MC mg) "__len__" ["self"] 1 (spLen mg) := GT.metG_of T.k_Made T.a_Made___len__ fun f fd F => ok_len T F
theorem mt_str (T : Txt K mg) : GT.MetG tk P w K mg base (MC mg) "__str__" ["self"] 1 (spStr mg) := GT.metG_of T.k_Made T.a_Made___str__ fun f fd F => ok_str T F
theorem mt_call (T : Txt K mg) : GT.MetG tk P w K mg base (MC mg) "__call__" ["self", "name"] 2 (spFilled mg) := GT.metG_of T.k_Made T.a_Made___call__ fun f fd F => ok_call T F
end

section
variable {P : Program} {w : World} {K : PySem.W.Frag} {mg : Str → Option Value} {base : Heap}
def signs56 : List Nat := [45, 46, 47, 48, 49, 50, 51, 52, 53, 54, 55, 56, 57, 95, 97, 98, 99, 100, 101, 102, 103, 104, 105, 106, 107, 108, 109, 110, 111, 112, 113, 114, 115, 116, 117, 118, 119, 120, 121, 122, 64, 64, 64, 64, 64, 64, 64, 64, 64, 64, 64, 64, 64, 64, 64, 64]
theorem signs56_ok : ∀ c ∈ signs56, sgn c = true := by decide
theorem picked {D L e : Addr} {H3 H5 : Hp} {ls t : List Nat} {i c : Nat} (ne : H3 e = none) (eDL : e ≠ D ∧ e ≠ L) (ht : t.length = i) (hmem : ∀ c ∈ t, c ∈ ls) (kp : Keep D L H3 H5) (hd : Deal D L H5) (he : H5 e = some (.lst (sgs t))) (hc : c ∈ ls) (hi : i < 1000) :
    ∃ acc, H5 e = some (.lst acc) ∧ acc.length < sizeLine ∧ ∃ t' : List Nat, t'.length = i + 1 ∧ (∀ c ∈ t', c ∈ ls) ∧ Keep D L H3 (upd H5 e (.lst (acc ++ [.str (tx [c])]))) ∧ Deal D L (upd H5 e (.lst (acc ++ [.str (tx [c])]))) ∧ upd H5 e (.lst (acc ++ [.str (tx [c])])) e = some (.lst (sgs t')) := by
  refine ⟨_, he, by rw [sgs_len, ht]; exact small1000 (by omega), t ++ [c], by rw [List.length_append, ht]; rfl, fun d hdm => ?_, kp.mut ne, ?_, ?_⟩
  · rcases List.mem_append.mp hdm with h | h
    · exact hmem d h
    · rw [List.mem_singleton.mp h]
      exact hc
  · obtain ⟨cs, m, a1, a2, a3⟩ := hd
    exact ⟨cs, m, by rw [upd_ne eDL.1.symm]; exact a1, by rw [upd_ne eDL.2.symm]; exact a2, a3⟩
  · rw [upd_same]
    unfold sgs
    rw [List.map_append]
    rfl
def spString : Sp := fun vs H Q _ => ∃ (D L : Addr) (n : Int), vs = [.ref D, .int n] ∧ Deal D L H ∧ 0 ≤ n ∧ n ≤ 100 ∧
  ∀ (t : List Nat) (H' : Hp), Signs t → (t.length : Int) ≤ n → Keep D L H H' → Deal D L H' → Q (.str (tx t)) H'
theorem cl_string (T : Txt K mg) : GT.Cl GT.noG tk P w K mg base "_law_string" ["_law_deal_here", "_law_most"] 3 spString := GT.cl_of T.a__law_string fun f fd F => by
  have C__law_draw := cl_draw (P := P) (w := w) (base := base) T
  have C__law_pick := cl_pick (P := P) (w := w) (base := base) T
  refine GT.ok F sc__law_string (fun vs H Q E h => ?_) (fun cdv A outer s H vs Q E ga hr h => ?_)
  · obtain ⟨D, L, n, rfl, _⟩ := h
    rfl
  · obtain ⟨D, L, n, rfl, hd, h0, h1, q⟩ := h
    refine ⟨_, (GT.pss_cons (GT.ps_set (i := 2) sc__law_string.nd rfl (Or.inr rfl) (GT.pe_strX [45, 46, 47, 48, 49, 50, 51, 52, 53, 54, 55, 56, 57, 95, 97, 98, 99, 100, 101, 102, 103, 104, 105, 106, 107, 108, 109, 110, 111, 112, 113, 114, 115, 116, 117, 118, 119, 120, 121, 122, 64, 64, 64, 64, 64, 64, 64, 64, 64, 64, 64, 64, 64, 64, 64, 64] (by decide +kernel)))
      (GT.pss_one (GT.ps_ret (GT.pe_bm PySem.F.plainAttrs_str PySem.F.slot_str_join PySem.F.type_str_join GT.mt_joinX (GT.pe_strX [] (by decide +kernel)) (GT.pa_cons (GT.pe_lc (own := [("_law_k", 3)]) (g := gName 3) (tt := tYes) (by rfl) sc__law_string.nd (GT.pi_range1 (by rfl) T.m_range (GT.pa_cons (GT.pe_cl C__law_draw (hr.mono (by decide)) (by rfl) (GT.pa_cons (GT.pv 0) (GT.pa_cons (GT.pe_op GT.op_add (GT.pv 1) GT.pe_int) GT.pa_nil))) GT.pa_nil)) (blkOk_by (own := [("_law_k", 3)]) (N := n__law_string) (sc := defScope s__law_string) (by decide +kernel)) (fun _ _ _ _ _ => (GT.pg_name (i := 3) sc__law_string.nd rfl (Or.inl rfl))) (fun _ _ _ _ _ => GT.pts_nil) (fun _ _ _ _ _ => (GT.pe_cl C__law_pick (hr.mono (by decide)) (by rfl) (GT.pa_cons (GT.pv 0) (GT.pa_cons (GT.pv 2) GT.pa_nil))))) GT.pa_nil))))), ?_⟩
    walk_at "rds"
    refine ⟨D, L, _, rfl, hd, by omega, by omega, fun k H3 hk1 hk2 kp3 hd3 => ?_⟩
    refine ⟨k, rfl, by omega, by omega, fun e ne => lc_range (lo := 0) (n := (k).toNat) (fun i H4 => ∃ t : List Nat, t.length = i ∧ (∀ c ∈ t, c ∈ signs56) ∧ Keep D L H3 H4 ∧ Deal D L H4 ∧ H4 e = some (.lst (sgs t))) ⟨[], rfl, (fun _ h => by cases h), Keep.of_same (same_upd ne), hd3.keep (same_upd ne), upd_same⟩ ?_ ?_⟩
    · rintro i H4 hi ⟨t, ht, hmem, kp4, hd4, he⟩
      have eDL := hd3.new ne
      walk_at "rds"
      refine ⟨rfl, ?_⟩
      walk_at "rds"
      refine rd_ite (fun _ => ?_) (fun h => by cases h)
      walk_at "rds"
      refine ⟨D, L, _, sgs signs56, rfl, hd4, .inr ⟨signs56, rfl, rfl⟩, by rw [sgs_len]; decide, by rw [sgs_len]; decide, fun x H5 hx kp5 hd5 => ?_⟩
      obtain ⟨c, hc, rfl⟩ := List.mem_map.mp hx
      exact picked ne eDL ht hmem (kp4.trans kp5) hd5 (kp5 _ _ he eDL.1 eDL.2) hc (by omega)
    rintro H5 ⟨t, htl, ht, kp5, hd5, he5⟩
    refine rd_joinX (ls := t.map fun c => [c]) (SqL.of (by rw [he5, List.map_map]; rfl)) (by rw [List.map_map, show (List.length ∘ fun c : Nat => [c]) = fun _ => 1 from rfl, List.map_const', List.sum_replicate_nat]; omega) ?_
    rw [flat_ones]
    exact q t H5 (fun c hc => signs56_ok c (ht c hc)) (by omega) (kp3.trans kp5) hd5
/-- a wrong text refused: where, and that the error is what it should be -/
def spRefused (mg : Str → Option Value) : Sp := fun vs H Q _ => ∃ (a : Addr) (l : List Nat) (v : V) (n i : Nat), vs = [.ref a, v, .int ((n : Nat) : Int)] ∧ MadeAt (MC mg) H a l ∧ l.length ≤ 400 ∧ Signs l ∧ n ≤ 2 ∧ Wrong H v i ∧ (n = 0 ∨ ∃ r, v = .str (tx r)) ∧
  ∀ p H', Same H H' → H' p = some (.tup [.int ((i : Nat) : Int), .bl true]) → Q (.ref p) H'
theorem cl_refused (T : Txt K mg) (Z : Xt K mg) : GT.Cl GT.noG tk P w K mg base "_law_refused" ["_law_one", "_law_value", "_law_form"] 7 (spRefused mg) := GT.cl_of T.a__law_refused fun f fd F => by
  have C_Made_1 := mk_Made (P := P) (w := w) (base := base) T
  have C_Made___add__ := mt_add (P := P) (w := w) (base := base) T
  have C_Made___radd__ := mt_radd (P := P) (w := w) (base := base) T
  have ZQ := GT.opsQ_ok Z.zq
  refine GT.ok F sc__law_refused (fun vs H Q E h => ?_) (fun cdv A outer s H vs Q E ga hr h => ?_)
  · obtain ⟨a, l, v, n, i, rfl, _⟩ := h
    rfl
  · obtain ⟨a, l, v, n, i, rfl, m, hl, hs, hn, hw, hv, q⟩ := h
    refine ⟨_, (GT.pss_cons (GT.ps_set (i := 3) sc__law_refused.nd rfl (Or.inl rfl) GT.pe_non)
      (GT.pss_cons (GT.ps_try_as (i := 4) rfl rfl sc__law_refused.nd rfl rfl ⟨rfl, by decide, .inl T.e_InvalidMade.1⟩ GT.takes0 (fun W pn xe tk _ => (GT.pss_one (GT.ps_if (GT.pt_cmpR GT.op_eq (GT.pv 2) GT.pe_int (nomark _))
      (GT.pss_one (GT.ps_set (i := 3) sc__law_refused.nd rfl (Or.inl rfl) (GT.pe_fldK (K := K) (by rfl) (GT.pe_mkWX C_Made_1 hr (by decide) (by rfl) tk (GT.pa_cons (GT.pv 1) GT.pa_nil)) (by rfl))))
      (GT.pss_one (GT.ps_if (GT.pt_cmpR GT.op_eq (GT.pv 2) GT.pe_int (nomark _))
      (GT.pss_one (GT.ps_set (i := 3) sc__law_refused.nd rfl (Or.inl rfl) (GT.pe_fldK (K := K) (by rfl) (GT.pe_binVX (R := GT.IsStr) GT.ty_str ZQ.sf ZQ.ad C_Made___add__ hr (by decide) tk (GT.pv 0) (GT.pv 1)) (by rfl))))
      (GT.pss_one (GT.ps_set (i := 3) sc__law_refused.nd rfl (Or.inl rfl) (GT.pe_fldK (K := K) (by rfl) (GT.pe_binWX (R := GT.IsStr) GT.ty_str ZQ.sf ZQ.la C_Made___radd__ C_Made___add__ hr (by decide) tk (GT.pv 1) (GT.pv 0)) (by rfl))))))))) (fun a oe cls d pn hz hf => (GT.pss_one (GT.ps_set (i := 3) sc__law_refused.nd rfl (Or.inl rfl) (GT.pe_tup (GT.pa_cons (GT.pe_xf T.e_InvalidMade.2.1.xf T.e_InvalidMade.2.2.1 hz hf (GT.pv 4)) (GT.pa_cons (GT.pe_and (GT.pe_callB (GT.call_isC hz hf) (by rfl) T.m_isinstance (by decide +kernel) (GT.pa_cons (GT.pv 4) (GT.pa_cons (GT.pe_cls T.e_UnderError.1 (by rfl)) GT.pa_nil))) (GT.pe_one (GT.pe_callB (GT.call_isC hz hf) (by rfl) T.m_isinstance (by decide +kernel) (GT.pa_cons (GT.pv 4) (GT.pa_cons (GT.pe_bltn (v := .ty "ValueError") (by rfl) T.m_ValueError (by decide +kernel) rfl) GT.pa_nil))))) GT.pa_nil)))))))
      (GT.pss_one (GT.ps_ret (GT.pv 3))))), ?_⟩
    obtain ⟨dx, fs, ha, hf⟩ := rd_text m
    have ss : ∀ n : Nat, decide (V.int ((n : Nat) : Int) = V.int 0) = decide (n = 0) := fun n => by
      by_cases h : n = 0
      · subst h
        rfl
      · rw [decide_eq_false h]
        exact decide_eq_false fun z => h (by injection z with z; omega)
    walk_at "rds"
    rcases (show n = 0 ∨ n = 1 ∨ n = 2 by omega) with rfl | rfl | rfl
    · refine rd_ite (fun _ => ?_) (fun h => absurd h (by decide))
      walk_at "rds"
      refine make_bad (Q := fun _ _ => _) hw fun d H' s e => ?_
      refine ⟨true, Z.x_IM, fun _ x hx => ?_, fun h => Bool.noConfusion h⟩
      walk_at "rds"
      refine ⟨_, rfl, rfl, rfl, d, _, _, rfl, e, rfl, ?_⟩
      walk_at "rds"
      refine rd_isC1 T.e_InvalidMade.2.1.is (fun dd h => by cases h; exact ⟨_, e⟩) Z.k_UE ?_
      walk_at "rds"
      rw [if_pos rfl]
      walk_at "rds"
      refine ⟨IC mg, true, rfl, T.e_InvalidMade.2.1.is, (fun dd h => by cases h; exact ⟨_, e⟩), ?_, .inl ⟨_, _, rfl, .ty _, Z.k_VE⟩⟩
      walk_at "rds"
      refine ⟨by show 2 ≤ sizeLine; decide, fun p hp => ?_⟩
      walk_at "rds"
      exact q p _ (s.trans (same_upd hp)) upd_same
    · obtain ⟨r, rfl⟩ := hv.resolve_left (by decide)
      refine rd_ite (fun h => absurd h (by decide)) (fun _ => ?_)
      walk_at "rds"
      refine rd_ite (fun _ => ?_) (fun h => absurd h (by decide))
      walk_at "rds"
      refine rd_binS ?_
      walk_at "rds"
      refine ⟨a, dx, fs, rfl, ⟨_, rfl⟩, ha, a, l, _, rfl, m, hl, hs, .inr ⟨r, i, rfl, hw, fun d H' s e => ?_⟩⟩
      refine ⟨true, Z.x_IM, fun _ x hx => ?_, fun h => Bool.noConfusion h⟩
      walk_at "rds"
      refine ⟨_, rfl, rfl, rfl, d, _, _, rfl, e, rfl, ?_⟩
      walk_at "rds"
      refine rd_isC1 T.e_InvalidMade.2.1.is (fun dd h => by cases h; exact ⟨_, e⟩) Z.k_UE ?_
      walk_at "rds"
      rw [if_pos rfl]
      walk_at "rds"
      refine ⟨IC mg, true, rfl, T.e_InvalidMade.2.1.is, (fun dd h => by cases h; exact ⟨_, e⟩), ?_, .inl ⟨_, _, rfl, .ty _, Z.k_VE⟩⟩
      walk_at "rds"
      refine ⟨by show 2 ≤ sizeLine; decide, fun p hp => ?_⟩
      walk_at "rds"
      exact q p _ (s.trans (same_upd hp)) upd_same
    · obtain ⟨r, rfl⟩ := hv.resolve_left (by decide)
      refine rd_ite (fun h => absurd h (by decide)) (fun _ => ?_)
      walk_at "rds"
      refine rd_ite (fun h => absurd h (by decide)) (fun _ => ?_)
      walk_at "rds"
      refine rd_binS ?_
      walk_at "rds"
      refine ⟨a, dx, fs, rfl, ⟨_, rfl⟩, ha, a, l, _, rfl, m, hl, hs, .inr ⟨r, i, rfl, hw, fun d H' s e => ?_⟩⟩
      refine ⟨true, Z.x_IM, fun _ x hx => ?_, fun h => Bool.noConfusion h⟩
      walk_at "rds"
      refine ⟨_, rfl, rfl, rfl, d, _, _, rfl, e, rfl, ?_⟩
      walk_at "rds"
      refine rd_isC1 T.e_InvalidMade.2.1.is (fun dd h => by cases h; exact ⟨_, e⟩) Z.k_UE ?_
      walk_at "rds"
      rw [if_pos rfl]
      walk_at "rds"
      refine ⟨IC mg, true, rfl, T.e_InvalidMade.2.1.is, (fun dd h => by cases h; exact ⟨_, e⟩), ?_, .inl ⟨_, _, rfl, .ty _, Z.k_VE⟩⟩
      walk_at "rds"
      refine ⟨by show 2 ≤ sizeLine; decide, fun p hp => ?_⟩
      walk_at "rds"
      exact q p _ (s.trans (same_upd hp)) upd_same
end

--C _law_is_made._law_spelled
section
variable {P : Program} {w : World} {K : PySem.W.Frag} {mg : Str → Option Value} {base : Heap}
theorem good_z {z n : Nat} {d : PyData} (g : GoodZ z n d) (hz : z ≤ 20) (hn : n ≤ 1500) : Good d := by
  refine ⟨g.s, g.n, Nat.le_trans g.z hz, ?_⟩
  have h1 := PyData.shown_le 62 (by decide) d g.l
  have h2 := g.w
  omega
theorem sgn_lt {c : Nat} (h : sgn c = true) : c < 1000 := by
  unfold sgn at h
  rcases Bool.or_eq_true_iff.mp h with h | h
  · have := eq_of_beq h
    omega
  · have h2 : c ∈ alphabet := of_decide_eq_true h
    have : ∀ c ∈ alphabet, c < 1000 := by decide
    exact this c h2
theorem g3 {t l : List Nat} {m : Nat} (ht : ∀ c ∈ t, c < 1000) (hl : ∀ c ∈ l, c < 1000) (lt : t.length ≤ 200) (ll : l.length ≤ 200) (hm : m ≤ 1000) : Good (.tuple [.str (tx t), .int ((m : Nat) : Int), .str (tx l)]) := by
  have a := str_good ht
  have b := str_good hl
  have c := int_good (i := ((m : Nat) : Int)) (Nat.lt_of_le_of_lt (show ((m : Nat) : Int).natAbs ≤ 1000 by omega) (by decide))
  refine good_z (z := 1) (n := 600) ⟨?_, ?_, ?_, ?_, ?_⟩ (by decide) (by decide)
  · simp only [PyData.showable, PyData.showableAll, a.s, b.s, Bool.and_true, Bool.true_and]
    exact c.s
  · simp only [PyData.hasDict, PyData.hasDictAll, Bool.or_false]
  · simp [PyData.depth, PyData.depthAll]
  · simp only [PyData.leavesShort, PyData.leavesShortAll, Bool.and_true, Bool.and_eq_true]
    exact ⟨a.l, c.l, b.l⟩
  · have h1 := a.w
    have h2 := b.w
    have h3 := c.w
    simp only [PyData.weight, PyData.weightAll] at h1 h2 h3 ⊢
    omega
theorem g2 {l : List Nat} {m : Nat} (hl : ∀ c ∈ l, c < 1000) (ll : l.length ≤ 200) (hm : m ≤ 1000) : Good (.tuple [.int ((m : Nat) : Int), .str (tx l)]) := by
  have b := str_good hl
  have c := int_good (i := ((m : Nat) : Int)) (Nat.lt_of_le_of_lt (show ((m : Nat) : Int).natAbs ≤ 1000 by omega) (by decide))
  refine good_z (z := 1) (n := 600) ⟨?_, ?_, ?_, ?_, ?_⟩ (by decide) (by decide)
  · simp only [PyData.showable, PyData.showableAll, b.s, Bool.and_true, Bool.true_and]
    exact c.s
  · simp only [PyData.hasDict, PyData.hasDictAll, Bool.or_false]
  · simp [PyData.depth, PyData.depthAll]
  · simp only [PyData.leavesShort, PyData.leavesShortAll, Bool.and_true, Bool.and_eq_true]
    exact ⟨c.l, b.l⟩
  · have h2 := b.w
    have h3 := c.w
    simp only [PyData.weight, PyData.weightAll] at h2 h3 ⊢
    omega
theorem split_size {x n : List Nat} (hx : x.length ≤ 100) (hn : n.length ≤ 1000) : ((Txt.split (tx x) (tx [64])).map (·.length)).sum + (Txt.split (tx x) (tx [64])).length * (tx n).length ≤ 16777216 := by
  rw [split_tx, List.map_map, List.length_map, tx_len]
  have e : (fun s : Str => s.length) ∘ tx = List.length := funext tx_len
  rw [e]
  have h1 := spl_sum x []
  have h2 := spl_len x []
  have h3 : (TL.spl [64] 0 [] x).length * n.length ≤ 101 * 1000 := Nat.mul_le_mul (by omega) hn
  have h4 : ([] : List Nat).length = 0 := rfl
  omega
def spIs (mg : Str → Option Value) : Sp := fun vs H Q _ => ∃ (a : Addr) (t n : List Nat), vs = [.ref a, .str (tx t), .str (tx n)] ∧ MadeAt (MC mg) H a t ∧ t.length ≤ 100 ∧ Signs t ∧ n.length ≤ 100 ∧ (∀ c ∈ n, c ∈ alphabet) ∧ ∀ H', Same H H' → Q (.bl true) H'
theorem cl_is (T : Txt K mg) : GT.Cl GT.clear tk P w K mg base "_law_is_made" ["_law_made", "_law_text", "_law_name"] 7 (spIs mg) := GT.cl_of T.a__law_is_made fun f fd F => by
  have C_Made_1 := mk_Made (P := P) (w := w) (base := base) T
  have C_Made___call__ := mt_call (P := P) (w := w) (base := base) T
  have C_Made___len__ := mt_len (P := P) (w := w) (base := base) T
  have C_Made___str__ := mt_str (P := P) (w := w) (base := base) T
  have C_Made___eq__ := mt_eq (P := P) (w := w) (base := base) T
  refine GT.ok F sc__law_is_made (fun vs H Q E h => ?_) (fun cdv A outer s H vs Q E ga hr h => ?_)
  · obtain ⟨a, t, n, rfl, _⟩ := h
    rfl
  · have hgd : A.guards = some [] := ga
    obtain ⟨a, t, n, rfl, m, ht, hs, hn, hna, q⟩ := h
    refine ⟨_, (GT.pss_cons (GT.ps_setLc (i := 3) (own := [("_law_sign", 5)]) (g := gName 5) (by rfl) sc__law_is_made.nd rfl rfl (sw_true rfl rfl rfl (by decide +kernel)) (GT.pi_str (GT.pe_strX [45, 46, 47, 48, 49, 50, 51, 52, 53, 54, 55, 56, 57, 95, 97, 98, 99, 100, 101, 102, 103, 104, 105, 106, 107, 108, 109, 110, 111, 112, 113, 114, 115, 116, 117, 118, 119, 120, 121, 122] (by decide +kernel))) (blkOk_by (own := [("_law_sign", 5)]) (N := n__law_is_made) (sc := defScope s__law_is_made) (by decide +kernel)) (fun _ _ _ _ _ => (GT.pg_name (i := 5) sc__law_is_made.nd rfl (Or.inl rfl))) (fun _ _ _ _ _ => (GT.pts_one (GT.pt_cmpR GT.op_inX (GT.pv 5) (GT.pv 1) (by rfl)))) (fun _ _ _ _ _ => (GT.pv 5)))
      (GT.pss_cons (GT.ps_if (GT.pt_reprNe (GT.pew_repr hgd hr (by rfl) T.m_repr (by decide +kernel) (GT.pa_cons (GT.pe_tup (GT.pa_cons (GT.pe_fldK (K := K) (by rfl) (GT.pv 0) (by rfl)) (GT.pa_cons (GT.pe_fldK (K := K) (by rfl) (GT.pv 0) (by rfl)) (GT.pa_cons (GT.pe_fldK (K := K) (by rfl) (GT.pv 0) (by rfl)) GT.pa_nil)))) GT.pa_nil)) (GT.pew_repr hgd hr (by rfl) T.m_repr (by decide +kernel) (GT.pa_cons (GT.pe_tup (GT.pa_cons (GT.pv 1) (GT.pa_cons (GT.pe_bm PySem.F.plainAttrs_str PySem.F.slot_str_count PySem.F.type_str_count GT.mt_count (GT.pv 1) (GT.pa_cons (GT.pe_strX [64] (by decide +kernel)) GT.pa_nil)) (GT.pa_cons (GT.pe_bm PySem.F.plainAttrs_str PySem.F.slot_str_join PySem.F.type_str_join GT.mt_joinX (GT.pe_strX [] (by decide +kernel)) (GT.pa_cons (GT.pv 3) GT.pa_nil)) GT.pa_nil)))) GT.pa_nil)) (nomark _))
      (GT.pss_one (GT.ps_ret GT.pe_bl))
      GT.pss_nil)
      (GT.pss_cut (GT.ps_set (i := 4) sc__law_is_made.nd rfl (Or.inl rfl) (GT.pe_ifExp (GT.pt_cmpR GT.op_ne (GT.pv 1) (GT.pe_strX [] (by decide +kernel)) (nomark _)) (GT.pv 1) (GT.pe_strX [33] (by decide +kernel))))
      (GT.pss_cons (GT.ps_if (GT.PW.pt (GT.pw_or (GT.pt_not (GT.pt_val (GT.pe_callB GT.call_isi (by rfl) T.m_isinstance (by decide +kernel) (GT.pa_cons (GT.pv 0) (GT.pa_cons (GT.pe_cls T.g_Made (by rfl)) GT.pa_nil))))) (GT.pw_or1 (GT.pt_reprNe (GT.pew_repr hgd hr (by rfl) T.m_repr (by decide +kernel) (GT.pa_cons (GT.pe_tup (GT.pa_cons (GT.pe_callB (GT.len_G C_Made___len__ hr (by decide)) (by rfl) T.m_len (by decide +kernel) (GT.pa_cons (GT.pv 0) GT.pa_nil)) (GT.pa_cons (GT.pe_callTy (GT.call_strO C_Made___str__ hr (by decide)) (by rfl) T.m_str (by decide +kernel) (GT.pa_cons (GT.pv 0) GT.pa_nil)) GT.pa_nil))) GT.pa_nil)) (GT.pew_repr hgd hr (by rfl) T.m_repr (by decide +kernel) (GT.pa_cons (GT.pe_tup (GT.pa_cons (GT.pe_callB GT.call_lenX (by rfl) T.m_len (by decide +kernel) (GT.pa_cons (GT.pv 1) GT.pa_nil)) (GT.pa_cons (GT.pv 4) GT.pa_nil))) GT.pa_nil)) (nomark _)))))
      (GT.pss_one (GT.ps_ret GT.pe_bl))
      GT.pss_nil)
      (GT.pss_one (GT.ps_ret (GT.pe_and (GT.pe_cmpR GT.op_eq (GT.pe_callO (i := 0) rfl (by first | exact Or.inl rfl | exact Or.inr (Or.inl rfl) | exact Or.inr (Or.inr rfl)) C_Made___call__ hr (by decide) (GT.pa_cons (GT.pv 2) GT.pa_nil)) (GT.pe_bm PySem.F.plainAttrs_str PySem.F.slot_str_join PySem.F.type_str_join GT.mt_joinS (GT.pv 2) (GT.pa_cons (GT.pe_bm PySem.F.plainAttrs_str PySem.F.slot_str_split PySem.F.type_str_split GT.mt_splitB (GT.pv 1) (GT.pa_cons (GT.pe_strX [64] (by decide +kernel)) GT.pa_nil)) GT.pa_nil)) (nomark _)) (GT.pe_and (GT.pe_cmpR (GT.eq_G (R := RightO (ca mg "Made")) (right_o T.i_Made) C_Made___eq__ hr (by decide)) (GT.pv 0) (GT.pe_mkDX C_Made_1 hr (by decide) (by rfl) GT.takes0 (GT.pa_cons (GT.pv 1) GT.pa_nil)) (nomark _)) (GT.pe_one (GT.pe_not (GT.pe_cmpR (GT.ne_G (R := RightO (ca mg "Made")) (right_o T.i_Made) T.ne_Made C_Made___eq__ hr (by decide)) (GT.pv 0) (GT.pe_mkDX C_Made_1 hr (by decide) (by rfl) GT.takes0 (GT.pa_cons (GT.pv 1) GT.pa_nil)) (nomark _)))))))))))), ?_⟩
    walk_at "rds"
    refine fun d nd => lc_text (l := alphabet) (fun i H' => Same H H' ∧ ∃ zs : List Nat, zs.length ≤ i ∧ zs = (alphabet.take i).filter (fun c => decide (c ∈ t)) ∧ H' d = some (.lst (sgs zs))) ⟨same_upd nd, [], Nat.le_refl _, by simp, upd_same⟩ ?_ ?_
    · rintro i c H4 hc ⟨s4, zs, hzs, ez, e4⟩
      have hi : i < alphabet.length := (List.getElem?_eq_some_iff.mp hc).1
      have ha40 : alphabet.length = 40 := rfl
      walk_at "rds"
      refine ⟨rfl, ?_⟩
      walk_at "rds"
      refine rd_ite (fun h0 => ?_) (fun h0 => ?_)
      · walk_at "rds"
        refine ⟨_, e4, by rw [sgs_len]; exact small1000 (by omega), same_mut s4 nd, zs ++ [c], by rw [List.length_append]; simp; omega, filt_in hc ez h0, ?_⟩
        rw [upd_same]
        unfold sgs
        rw [List.map_append]
        rfl
      · exact ⟨s4, zs, by omega, filt_out hc ez h0, e4⟩
    rintro H4 ⟨s4, zs, hzs, ez, e4⟩
    have hz40 : zs.length ≤ 40 := hzs
    have ez2 : zs = lts t := filt_all ez
    subst ez2
    clear ez hzs nd
    have m4 := m.same s4
    walk_at "rds"
    obtain ⟨dx, fs, ha, hf, hk, hl⟩ := id m4
    refine ⟨a, MC mg, dx, fs, _, rfl, ha, T.k_Made, T.n_Made_text, hf, ?_⟩
    walk_at "rds"
    refine ⟨a, MC mg, dx, fs, _, rfl, ha, T.k_Made, T.n_Made_marks, hk, ?_⟩
    walk_at "rds"
    refine ⟨a, MC mg, dx, fs, _, rfl, ha, T.k_Made, T.n_Made_letters, hl, ?_⟩
    walk_at "rds"
    refine ⟨by show 3 ≤ sizeLine; decide, fun p hp => ?_⟩
    have tlt : ∀ c ∈ t, c < 1000 := fun c hc => sgn_lt (hs c hc)
    have llt : ∀ c ∈ lts t, c < 1000 := fun c hc => sgn_lt (by
      have h2 := (List.mem_filter.mp hc).1
      unfold sgn
      rw [decide_eq_true h2, Bool.or_true])
    have gd := g3 (m := mks t) tlt llt (by omega) (by omega) (Nat.le_trans (List.length_filter_le _ _) (by omega))
    walk_at "rds"
    refine rd_reprA (.tup (SqT.of upd_same) (.cons (.str _) (.cons (.int _) (.cons (.str _) .nil)))) gd ?_
    have s5 : Same H4 (upd H4 p (.tup [.str (tx t), .int ((mks t : Nat) : Int), .str (tx (lts t))])) := same_upd hp
    have e5 := s5 _ _ e4
    generalize upd H4 p (.tup [.str (tx t), .int ((mks t : Nat) : Int), .str (tx (lts t))]) = H5 at s5 e5 ⊢
    walk_at "rds"
    refine ⟨t, 64, rfl, rfl, ?_⟩
    walk_at "rds"
    refine rd_joinX (ls := (lts t).map fun c => [c]) (SqL.of (by rw [e5, List.map_map]; rfl)) (by rw [List.map_map, show (List.length ∘ fun c : Nat => [c]) = fun _ => 1 from rfl, List.map_const', List.sum_replicate_nat]; omega) ?_
    rw [flat_one]
    walk_at "rds"
    refine ⟨by show 3 ≤ sizeLine; decide, fun p2 hp2 => ?_⟩
    walk_at "rds"
    refine rd_reprA (d := .tuple [.str (tx t), .int ((mks t : Nat) : Int), .str (tx (lts t))]) (.tup (SqT.of upd_same) (.cons (.str _) (.cons (.int _) (.cons (.str _) .nil)))) gd ?_
    have s6 := s4.trans (s5.trans (same_upd (o := .tup [V.str (tx t), V.int ((mks t : Nat) : Int), V.str (tx (lts t))]) hp2))
    change rNe _ _ (upd H5 p2 (.tup [V.str (tx t), V.int ((mks t : Nat) : Int), V.str (tx (lts t))])) _
    generalize upd H5 p2 (.tup [V.str (tx t), V.int ((mks t : Nat) : Int), V.str (tx (lts t))]) = H6 at s6 ⊢
    generalize (PyData.tuple [.str (tx t), .int ((mks t : Nat) : Int), .str (tx (lts t))]).shown = zz
    clear s5 e5 e4 hp hp2 gd ha hf hk hl m4 s4
    have m6 := m.same s6
    walk_at "rds"
    refine rd_ite (fun h => by simp at h) (fun _ => ?_)
    walk_at "rds"
    -- how it is spelled
    refine rd_cut (fun σ' H' => σ' = [some (.ref a), some (.str (tx t)), some (.str (tx n)), some (.ref d), some (.str (tx (spelled t))), none] ∧ H' = H6) ?_ ?_
    · walk_at "rds"
      unfold spelled
      by_cases e : t = []
      · subst e
        refine rd_ite (fun h => absurd h (by decide)) (fun _ => ?_)
        rw [if_pos rfl]
        walk_at "rds"
        exact ⟨rfl, rfl⟩
      · refine rd_ite (fun _ => ?_) (fun h => ?_)
        · rw [if_neg e]
          walk_at "rds"
          exact ⟨rfl, rfl⟩
        · exfalso
          refine e (tx_inj ?_)
          have h2 : decide (V.str (tx t) = V.str (tx [])) = true := by simpa using h
          have h3 := of_decide_eq_true h2
          injection h3
    rintro σ' H' ⟨rfl, rfl⟩
    obtain ⟨dx, fs, ha, hf, hk, hl⟩ := id m6
    walk_at "rds"
    refine rd_isO ha T.k_Made T.i_Made ?_
    walk_at "rds"
    refine rd_ite (fun h => by cases h) (fun _ => ?_)
    walk_at "rds"
    refine ⟨a, dx, fs, rfl, ha, a, t, rfl, m6, by omega, _, rfl, by omega, ?_⟩
    walk_at "rds"
    refine ⟨a, dx, fs, rfl, ha, a, t, rfl, m6, by omega, _, rfl, ?_⟩
    walk_at "rds"
    refine ⟨by show 2 ≤ sizeLine; decide, fun p3 hp3 => ?_⟩
    have slt : (∀ c ∈ spelled t, c < 1000) ∧ (spelled t).length ≤ 100 := by
      unfold spelled
      split
      · exact ⟨by decide, by decide⟩
      · exact ⟨tlt, ht⟩
    have gs := g2 (m := t.length) slt.1 (by omega) (by omega)
    walk_at "rds"
    refine rd_reprA (d := .tuple [.int ((t.length : Nat) : Int), .str (tx (spelled t))]) (.tup (SqT.of upd_same) (.cons (.int _) (.cons (.str _) .nil))) gs ?_
    have s7 : Same H (upd H' p3 (.tup [.int ((t.length : Nat) : Int), .str (tx (spelled t))])) := s6.trans (same_upd hp3)
    generalize upd H' p3 (.tup [.int ((t.length : Nat) : Int), .str (tx (spelled t))]) = H7 at s7 ⊢
    walk_at "rds"
    refine rd_lenX (sz_of' (by omega)) ?_
    walk_at "rds"
    refine ⟨by show 2 ≤ sizeLine; decide, fun p4 hp4 => ?_⟩
    walk_at "rds"
    refine rd_reprA (d := .tuple [.int ((t.length : Nat) : Int), .str (tx (spelled t))]) (.tup (SqT.of upd_same) (.cons (.int _) (.cons (.str _) .nil))) gs ?_
    have s8 : Same H (upd H7 p4 (.tup [.int ((t.length : Nat) : Int), .str (tx (spelled t))])) := s7.trans (same_upd hp4)
    generalize upd H7 p4 (.tup [.int ((t.length : Nat) : Int), .str (tx (spelled t))]) = H8 at s8 ⊢
    generalize (PyData.tuple [.int ((t.length : Nat) : Int), .str (tx (spelled t))]).shown = zz
    clear s7 hp3 hp4 gs slt ha hf hk hl m6 s6
    have m8 := m.same s8
    obtain ⟨dx, fs, ha, _⟩ := id m8
    walk_at "rds"
    refine rd_ite (fun h => by simp at h) (fun _ => ?_)
    walk_at "rds"
    refine GT.rd_callO (a := a) rfl ?_
    walk_at "rds"
    have nno : n ≠ [64] := fun e => absurd (hna 64 (by rw [e]; exact List.mem_singleton.mpr rfl)) (by decide)
    refine ⟨⟨dx, fs, ha⟩, a, t, n, rfl, m8, by omega, by omega, nno, ?_⟩
    walk_at "rds"
    refine ⟨tx t, tx [64], rfl, rfl, by decide, sz_of' (by rw [tx_len]; omega), fun p1 np1 => ?_⟩
    have s9 : Same H8 (upd H8 p1 (.lst ((Txt.split (tx t) (tx [64])).map V.str))) := same_upd np1
    have e9 : upd H8 p1 (.lst ((Txt.split (tx t) (tx [64])).map V.str)) p1 = some (.lst ((Txt.split (tx t) (tx [64])).map V.str)) := upd_same
    generalize upd H8 p1 (.lst ((Txt.split (tx t) (tx [64])).map V.str)) = H9 at s9 e9 ⊢
    walk_at "rds"
    refine ⟨_, p1, _, rfl, rfl, SqL.of e9, split_size (by omega) (by omega), ?_⟩
    rw [join_split_fill]
    have m9 := m8.same s9
    clear e9
    walk_at "rds"
    rw [if_pos (by simp)]
    walk_at "rds"
    have s19 := s8.trans s9
    refine make_made (Q := fun x H2 => _) (by omega) hs fun b H10 s10 hn10 m10 => ?_
    have m11 := m9.same s10
    obtain ⟨dx, fs, ha, _⟩ := id m11
    obtain ⟨dy, gs, hb, _⟩ := id m10
    refine ⟨a, dx, fs, rfl, ha, ⟨b, rfl, .inl ⟨dy, gs, hb⟩⟩, a, t, _, rfl, m11, .inl ⟨b, t, rfl, m10, _, rfl, ?_⟩⟩
    rw [decide_eq_true rfl]
    refine ⟨_, rfl, ?_⟩
    rw [if_pos rfl]
    walk_at "rds"
    refine make_made (Q := fun x H2 => _) (by omega) hs fun b2 H11 s11 hn11 m12 => ?_
    have m13 := m11.same s11
    obtain ⟨dx, fs, ha, _⟩ := id m13
    obtain ⟨dz, gs, hb, _⟩ := id m12
    refine ⟨a, dx, fs, rfl, ha, ⟨b2, rfl, .inl ⟨dz, gs, hb⟩⟩, a, t, _, rfl, m13, .inl ⟨b2, t, rfl, m12, _, rfl, ?_⟩⟩
    rw [decide_eq_true rfl]
    exact ⟨_, rfl, q _ (s19.trans (s10.trans s11))⟩
end

--E law
section
variable {P : Program} {w : World} {K : PySem.W.Frag} {mg : Str → Option Value} {base : Heap}
theorem fill0 : ∀ l : List Nat, (fill l []).length ≤ l.length ∧ ∀ c ∈ fill l [], c ∈ l ∧ c ≠ 64
  | [] => ⟨Nat.le_refl _, fun c h => by cases h⟩
  | d :: l => by
    obtain ⟨h1, h2⟩ := fill0 l
    rw [fill_cons]
    by_cases e : d = 64
    · rw [if_pos e, List.nil_append]
      exact ⟨by simp; omega, fun c hc => ⟨List.mem_cons_of_mem _ (h2 c hc).1, (h2 c hc).2⟩⟩
    · rw [if_neg e]
      refine ⟨by simp; omega, fun c hc => ?_⟩
      rcases List.mem_append.mp hc with hc | hc
      · rw [List.mem_singleton.mp hc]
        exact ⟨List.mem_cons_self, e⟩
      · exact ⟨List.mem_cons_of_mem _ (h2 c hc).1, (h2 c hc).2⟩
theorem name_ok {l : List Nat} (h : Signs l) : ∀ c ∈ fill l [], c ∈ alphabet := fun c hc => by
  obtain ⟨h1, h2⟩ := (fill0 l).2 c hc
  have h3 := h c h1
  unfold sgn at h3
  rcases Bool.or_eq_true_iff.mp h3 with h4 | h4
  · exact absurd (eq_of_beq h4) h2
  · exact of_decide_eq_true h4
theorem repl0 (l : List Nat) : Txt.replace (tx l) "@" "" = tx (fill l []) := by
  have h := repl_fill l []
  rw [← mark_tx] at h
  exact h
theorem eqT (a b : List Nat) : decide (V.str (tx a) = V.str (tx b)) = decide (a = b) := by
  by_cases h : a = b
  · subst h
    simp
  · rw [decide_eq_false h]
    refine decide_eq_false fun z => h ?_
    injection z with z
    exact tx_inj z
/-- the signs that are none -/
theorem odd_ok {x : V} (h : x ∈ [V.str (tx [65]), V.str (tx [33]), V.str (tx [32]), V.str (tx [90]), V.str (tx [43]), V.str (tx [126]), V.str (tx [10]), V.str (tx [42])]) : ∃ c, x = .str (tx [c]) ∧ sgn c = false := by
  have go : ∀ c, sgn c = false → x = V.str (tx [c]) → ∃ c, x = .str (tx [c]) ∧ sgn c = false := fun c h e => ⟨c, e, h⟩
  simp only [List.mem_cons, List.not_mem_nil, or_false] at h
  rcases h with h | h | h | h | h | h | h | h
  · exact go 65 (by decide) h
  · exact go 33 (by decide) h
  · exact go 32 (by decide) h
  · exact go 90 (by decide) h
  · exact go 43 (by decide) h
  · exact go 126 (by decide) h
  · exact go 10 (by decide) h
  · exact go 42 (by decide) h
theorem few_ok {x : V} {c : Nat} (h : x ∈ [V.str (tx []), V.str (tx [c]), V.str (tx [97])]) : ∃ r, x = .str (tx r) ∧ r.length ≤ 1 := by
  simp only [List.mem_cons, List.not_mem_nil, or_false] at h
  rcases h with h | h | h
  · exact ⟨_, h, by decide⟩
  · exact ⟨_, h, by simp⟩
  · exact ⟨_, h, by decide⟩
theorem bad_at {t r : List Nat} {j c : Nat} (hs : Signs t) (hc : sgn c = false) (hj : j ≤ t.length) : badAt (t.take j ++ [c] ++ r ++ t.drop j) = some j := by
  have hl : (t.take j).length = j := by rw [List.length_take]; omega
  refine badAt_some (c := c) ?_ ?_ hc
  · rw [List.append_assoc, List.append_assoc, List.getElem?_append_right (by omega), hl]
    simp
  · have e : (t.take j ++ [c] ++ r ++ t.drop j).take j = t.take j := by
      rw [List.append_assoc, List.append_assoc, List.take_append_of_le_length (by omega), List.take_of_length_le (by omega)]
    rw [e]
    exact fun d hd => hs d (List.mem_of_mem_take hd)
theorem ne_same {H : Hp} {p q : Addr} {n : Nat} {Q : VK} (hp : H p = some (.tup [.int ((n : Nat) : Int), .bl true])) (hq : H q = some (.tup [.int ((n : Nat) : Int), .bl true])) (h : Q (.bl false) H) : rNeD K (.ref p) (.ref q) H Q := by
  refine ⟨.tuple [.int ((n : Nat) : Int), .bool true], .tuple [.int ((n : Nat) : Int), .bool true], .tup (SqT.of hp) (.cons (.int _) (.cons (.bl _) .nil)), .tup (SqT.of hq) (.cons (.int _) (.cons (.bl _) .nil)), rfl, rfl, ?_⟩
  have e : PyData.eqv (.tuple [.int ((n : Nat) : Int), .bool true]) (.tuple [.int ((n : Nat) : Int), .bool true]) = true := by simp [PyData.eqv, PyData.eqvAll]
  rw [e]
  exact h
/-- the source of draws and some made texts -/
structure Stand (mg : Str → Option Value) (D L : Addr) (H : Hp) (ms : List (Addr × List Nat)) : Prop where
  deal : Deal D L H
  made : ∀ p ∈ ms, MadeAt (MC mg) H p.1 p.2
theorem Stand.same {D L : Addr} {H H' : Hp} {ms : List (Addr × List Nat)} (h : Stand mg D L H ms) (s : Same H H') : Stand mg D L H' ms := ⟨h.deal.keep s, fun p hp => (h.made p hp).same s⟩
theorem Stand.keep {D L : Addr} {H H' : Hp} {ms : List (Addr × List Nat)} (h : Stand mg D L H ms) (k : Keep D L H H') (d : Deal D L H') : Stand mg D L H' ms := ⟨d, fun p hp => by
  obtain ⟨dx, fs, h0, e⟩ := h.made p hp
  obtain ⟨cs, m, a1, a2, _⟩ := h.deal
  exact ⟨dx, fs, k _ _ h0 (ne_of h0 a1 fun z => by cases z) (ne_of h0 a2 fun z => by cases z), e⟩⟩
theorem Stand.add {D L a : Addr} {l : List Nat} {H : Hp} {ms : List (Addr × List Nat)} (h : Stand mg D L H ms) (m : MadeAt (MC mg) H a l) : Stand mg D L H ((a, l) :: ms) := ⟨h.deal, fun p hp => by
  rcases List.mem_cons.mp hp with rfl | hp
  · exact m
  · exact h.made p hp⟩
theorem Stand.at {D L a : Addr} {l : List Nat} {H : Hp} {ms : List (Addr × List Nat)} (h : Stand mg D L H ms) (m : (a, l) ∈ ms) : MadeAt (MC mg) H a l := h.made _ m
theorem Stand.less {D L : Addr} {H : Hp} {ms ns : List (Addr × List Nat)} (h : Stand mg D L H ms) (s : ∀ p ∈ ns, p ∈ ms) : Stand mg D L H ns := ⟨h.deal, fun p hp => h.made p (s p hp)⟩
theorem Stand.ins {D L a : Addr} {l : List Nat} {H : Hp} {ms : List (Addr × List Nat)} (h : Stand mg D L H ms) (m : (a, l) ∈ ms) : ∃ dx fs, H a = some (.ins (MC mg) dx fs) ∧ fs.lookup ("text" : Str) = some (V.str (tx l)) := rd_text (h.made _ m)
/-- a made text with its text, as a pair -/
def Row (mg : Str → Option Value) (H : Hp) (x : V) : Prop := ∃ q a l, x = .ref q ∧ H q = some (.tup [.ref a, .str (tx l)]) ∧ MadeAt (MC mg) H a l ∧ l.length ≤ 100 ∧ Signs l
def Rows (mg : Str → Option Value) (H : Hp) (xs : List V) : Prop := ∀ x ∈ xs, Row mg H x
theorem Rows.same {H H' : Hp} {xs : List V} (h : Rows mg H xs) (s : Same H H') : Rows mg H' xs := fun x hx => by
  obtain ⟨q, a, l, e, h1, m, hl⟩ := h x hx
  exact ⟨q, a, l, e, s _ _ h1, m.same s, hl⟩
theorem Rows.add {H : Hp} {xs : List V} {q a : Addr} {l : List Nat} (h : Rows mg H xs) (m : MadeAt (MC mg) H a l) (hn : H q = none) (hl : l.length ≤ 100) (hs : Signs l) : Rows mg (upd H q (.tup [.ref a, .str (tx l)])) (xs ++ [.ref q]) := fun x hx => by
  rcases List.mem_append.mp hx with hx | hx
  · exact (h.same (same_upd hn)) x hx
  · rw [List.mem_singleton.mp hx]
    exact ⟨q, a, l, rfl, upd_same, m.same (same_upd hn), hl, hs⟩
theorem Stand.deal' {D L : Addr} {H : Hp} (d : Deal D L H) : Stand mg D L H [] := ⟨d, fun p hp => by cases hp⟩
def spLaw (K : PySem.W.Frag) : Sp := fun vs H Q _ => ∃ (a : Addr) (ns : List Int), vs = [.ref a] ∧ SqL K H a (ns.map V.int) ∧ ns.length ≤ 63 ∧ ∀ H', Q (.bl true) H'
set_option maxHeartbeats 800000 in
theorem ok_law {f : Addr} {fd : FuncData} (T : Txt K mg) (Z : Xt K mg) (F : Fun K "law" "law" s_law f fd) : GT.FnT GT.clear tk P w K mg base 12 f fd ["_law_script"] (spLaw K) := by
  have C__law_deal := cl_deal (P := P) (w := w) (base := base) T
  have C__law_draw := cl_draw (P := P) (w := w) (base := base) T
  have C__law_pick := cl_pick (P := P) (w := w) (base := base) T
  have C__law_string := cl_string (P := P) (w := w) (base := base) T
  have C__law_refused := cl_refused (P := P) (w := w) (base := base) T Z
  have C__law_is_made := cl_is (P := P) (w := w) (base := base) T
  have C_Made_1 := mk_Made (P := P) (w := w) (base := base) T
  have C_Made_0 := mk_Made0 (P := P) (w := w) (base := base) T
  have C_Made___add__ := mt_add (P := P) (w := w) (base := base) T
  have C_Made___radd__ := mt_radd (P := P) (w := w) (base := base) T
  have C_Made___mul__ := mt_mul (P := P) (w := w) (base := base) T
  have C_Made___rmul__ := mt_rmul (P := P) (w := w) (base := base) T
  have C_Made___eq__ := mt_eq (P := P) (w := w) (base := base) T
  have C_Made___str__ := mt_str (P := P) (w := w) (base := base) T
  have ZQ := GT.opsQ_ok Z.zq
  refine GT.ok F sc_law (fun vs H Q E h => ?_) (fun cdv A outer s H vs Q E ga hr h => ?_)
  · obtain ⟨a, ns, rfl, _⟩ := h
    rfl
  · have hgd : A.guards = some [] := ga
    obtain ⟨a, ns, rfl, hS, hl, q⟩ := h
    refine ⟨_, (GT.pss_cons (GT.ps_set (i := 1) sc_law.nd rfl (Or.inl rfl) (GT.pe_cl C__law_deal (hr.mono (by decide)) (by rfl) (GT.pa_cons (GT.pv 0) (GT.pa_cons GT.pe_int GT.pa_nil))))
      (GT.pss_cut (GT.ps_for PassesOwn.never rfl (GT.pi_range1 (by rfl) T.m_range (GT.pa_cons GT.pe_int GT.pa_nil)) (GT.pg_name (i := 2) sc_law.nd rfl (Or.inl rfl))
      (GT.pss_cons (GT.ps_asg (GT.pe_tup (GT.pa_cons (GT.pe_cl C__law_string (hr.mono (by decide)) (by rfl) (GT.pa_cons (GT.pv 1) (GT.pa_cons GT.pe_int GT.pa_nil))) (GT.pa_cons (GT.pe_cl C__law_string (hr.mono (by decide)) (by rfl) (GT.pa_cons (GT.pv 1) (GT.pa_cons GT.pe_int GT.pa_nil))) (GT.pa_cons (GT.pe_replE (GT.pe_cl C__law_string (hr.mono (by decide)) (by rfl) (GT.pa_cons (GT.pv 1) (GT.pa_cons GT.pe_int GT.pa_nil)))) GT.pa_nil)))) (GT.pg_tup rfl (GT.pgs_cons (GT.pg_name (i := 3) sc_law.nd rfl (Or.inl rfl)) (GT.pgs_cons (GT.pg_name (i := 4) sc_law.nd rfl (Or.inl rfl)) (GT.pgs_cons (GT.pg_name (i := 5) sc_law.nd rfl (Or.inr rfl)) GT.pgs_nil)))))
      (GT.pss_cons (GT.ps_par3 (i := 6) (j := 7) (l := 8) (by rfl) sc_law.nd rfl rfl rfl (by decide) (by decide) (by decide) rfl rfl rfl (GT.pa_cons (GT.pe_mkDX C_Made_1 hr (by decide) (by rfl) GT.takes0 (GT.pa_cons (GT.pv 3) GT.pa_nil)) (GT.pa_cons (GT.pe_mkDX C_Made_1 hr (by decide) (by rfl) GT.takes0 (GT.pa_cons (GT.pv 4) GT.pa_nil)) (GT.pa_cons (GT.pe_cl C__law_draw (hr.mono (by decide)) (by rfl) (GT.pa_cons (GT.pv 1) (GT.pa_cons GT.pe_int GT.pa_nil))) GT.pa_nil))) (by rfl))
      (GT.pss_cons (GT.ps_set (i := 9) sc_law.nd rfl (Or.inl rfl) (GT.pe_cl C__law_string (hr.mono (by decide)) (by rfl) (GT.pa_cons (GT.pv 1) (GT.pa_cons GT.pe_int GT.pa_nil))))
      (GT.pss_cons (GT.ps_par3 (i := 10) (j := 11) (l := 12) (by rfl) sc_law.nd rfl rfl rfl (by decide) (by decide) (by decide) rfl rfl rfl (GT.pa_cons (GT.pe_mkDX C_Made_1 hr (by decide) (by rfl) GT.takes0 (GT.pa_cons (GT.pv 9) GT.pa_nil)) (GT.pa_cons (GT.pe_mkDX C_Made_1 hr (by decide) (by rfl) GT.takes0 (GT.pa_cons (GT.pv 9) GT.pa_nil)) (GT.pa_cons (GT.pe_mkDX C_Made_1 hr (by decide) (by rfl) GT.takes0 (GT.pa_cons (GT.pv 9) GT.pa_nil)) GT.pa_nil))) (by rfl))
      (GT.pss_cons (GT.ps_par (i := 13) (j := 14) (by rfl) sc_law.nd rfl rfl (by decide) rfl rfl (GT.pa_cons (GT.pv 11) (GT.pa_cons (GT.pv 12) GT.pa_nil)) (by rfl))
      (GT.pss_cons (GT.ps_aug (i := 11) sc_law.nd rfl (Or.inl rfl) (GT.pv 7) (GT.ip_binOX ZQ.sf ZQ.ia C_Made___add__ hr (by decide)))
      (GT.pss_cons (GT.ps_aug (i := 11) sc_law.nd rfl (Or.inl rfl) (GT.pv 3) (GT.ip_binVX (R := GT.IsStr) GT.ty_str ZQ.sf ZQ.ad ZQ.ia C_Made___add__ hr (by decide)))
      (GT.pss_cons (GT.ps_aug (i := 12) sc_law.nd rfl (Or.inl rfl) (GT.pv 8) (GT.ip_binVX (R := GT.IsInt) GT.ty_int ZQ.sf ZQ.mu ZQ.im C_Made___mul__ hr (by decide)))
      (GT.pss_cons (GT.ps_if (GT.PW.pt (GT.pw_or (GT.pt_cmpR GT.op_ne (GT.pe_fldK (K := K) (by rfl) (GT.pv 13) (by rfl)) (GT.pv 9) (nomark _)) (GT.pw_or1 (GT.pt_cmpR GT.op_ne (GT.pe_fldK (K := K) (by rfl) (GT.pv 14) (by rfl)) (GT.pv 9) (nomark _)))))
      (GT.pss_one (GT.ps_ret GT.pe_bl))
      GT.pss_nil)
      (GT.pss_cons (GT.ps_par (i := 15) (j := 16) (by rfl) sc_law.nd rfl rfl (by decide) rfl rfl (GT.pa_cons (GT.pe_op GT.op_addX (GT.pv 3) (GT.pv 4)) (GT.pa_cons (GT.pe_op GT.op_mulT (GT.pv 9) (GT.pv 8)) GT.pa_nil)) (by rfl))
      (GT.pss_cons (GT.ps_set (i := 17) sc_law.nd rfl (Or.inl rfl) (GT.pe_lst (GT.pa_cons (GT.pe_tup (GT.pa_cons (GT.pv 6) (GT.pa_cons (GT.pv 3) GT.pa_nil))) (GT.pa_cons (GT.pe_tup (GT.pa_cons (GT.pe_binOX ZQ.sf C_Made___add__ hr (by decide) GT.takes0 (GT.pv 6) (GT.pv 7)) (GT.pa_cons (GT.pv 15) GT.pa_nil))) (GT.pa_cons (GT.pe_tup (GT.pa_cons (GT.pe_binVX (R := GT.IsStr) GT.ty_str ZQ.sf ZQ.ad C_Made___add__ hr (by decide) GT.takes0 (GT.pv 6) (GT.pv 4)) (GT.pa_cons (GT.pv 15) GT.pa_nil))) (GT.pa_cons (GT.pe_tup (GT.pa_cons (GT.pe_binWX (R := GT.IsStr) GT.ty_str ZQ.sf ZQ.la C_Made___radd__ C_Made___add__ hr (by decide) GT.takes0 (GT.pv 3) (GT.pv 7)) (GT.pa_cons (GT.pv 15) GT.pa_nil))) GT.pa_nil))))))
      (GT.pss_cons (GT.ps_set (i := 17) sc_law.nd rfl (Or.inl rfl) (GT.pe_op GT.op_cat (GT.pv 17) (GT.pe_lst (GT.pa_cons (GT.pe_tup (GT.pa_cons (GT.pe_binVX (R := GT.IsInt) GT.ty_int ZQ.sf ZQ.mu C_Made___mul__ hr (by decide) GT.takes0 (GT.pv 10) (GT.pv 8)) (GT.pa_cons (GT.pv 16) GT.pa_nil))) (GT.pa_cons (GT.pe_tup (GT.pa_cons (GT.pe_rmulX ZQ.sf ZQ.rv C_Made___rmul__ C_Made___mul__ hr (by decide) GT.takes0 (GT.pv 8) (GT.pv 10)) (GT.pa_cons (GT.pv 16) GT.pa_nil))) (GT.pa_cons (GT.pe_tup (GT.pa_cons (GT.pv 12) (GT.pa_cons (GT.pv 16) GT.pa_nil))) GT.pa_nil))))))
      (GT.pss_cons (GT.ps_set (i := 17) sc_law.nd rfl (Or.inl rfl) (GT.pe_op GT.op_cat (GT.pv 17) (GT.pe_lst (GT.pa_cons (GT.pe_tup (GT.pa_cons (GT.pv 11) (GT.pa_cons (GT.pe_op GT.op_addX (GT.pe_op GT.op_addX (GT.pv 9) (GT.pv 4)) (GT.pv 3)) GT.pa_nil))) GT.pa_nil))))
      (GT.pss_cons (GT.ps_if (GT.pt_cmpR (GT.op_neE hr.units) (GT.pe_lc (own := [("_law_told", 23), ("_law_due", 24)]) (g := (gTup K 2 (gCons (gName 23) (gCons (gName 24) gNil)))) (by rfl) sc_law.nd (GT.pi_list (GT.pv 17)) (blkOk_by (own := [("_law_told", 23), ("_law_due", 24)]) (N := n_law) (sc := defScope s_law) (by decide +kernel)) (fun _ _ _ _ _ => by exact (GT.pg_tup rfl (GT.pgs_cons (GT.pg_name (i := 23) sc_law.nd rfl (Or.inl rfl)) (GT.pgs_cons (GT.pg_name (i := 24) sc_law.nd rfl (Or.inl rfl)) GT.pgs_nil)))) (fun _ _ _ _ _ => (GT.pts_one (GT.pt_not (GT.pt_val (GT.pe_clG C__law_is_made hgd (hr.mono (by decide)) (by rfl) (GT.pa_cons (GT.pv 23) (GT.pa_cons (GT.pv 24) (GT.pa_cons (GT.pv 5) GT.pa_nil)))))))) (fun _ _ _ _ _ => (GT.pv 23))) (GT.pe_lst GT.pa_nil) (nomark _))
      (GT.pss_one (GT.ps_ret GT.pe_bl))
      GT.pss_nil)
      (GT.pss_cons (GT.ps_if (GT.pt_cmpR GT.op_ne (GT.pe_fldK (K := K) (by rfl) (GT.pv 10) (by rfl)) (GT.pv 9) (nomark _))
      (GT.pss_one (GT.ps_ret GT.pe_bl))
      GT.pss_nil)
      (GT.pss_cons (GT.ps_if (GT.PW.pt (GT.pw_or (GT.pt_cmpR GT.op_ne (GT.pe_cmpR (GT.eq_G (R := RightO (ca mg "Made")) (right_o T.i_Made) C_Made___eq__ hr (by decide)) (GT.pv 6) (GT.pv 7) (nomark _)) (GT.pe_cmpR GT.op_eq (GT.pv 3) (GT.pv 4) (nomark _)) (nomark _)) (GT.pw_or1 (GT.pt_cmpR (GT.op_inNo ZQ.rv C_Made___eq__ hr (by decide)) (GT.pv 6) (GT.pe_tup (GT.pa_cons (GT.pv 3) (GT.pa_cons GT.pe_non (GT.pa_cons GT.pe_int (GT.pa_cons (GT.pe_tup (GT.pa_cons (GT.pv 3) GT.pa_nil)) (GT.pa_cons (GT.pe_lst (GT.pa_cons (GT.pv 3) GT.pa_nil)) GT.pa_nil)))))) (by rfl)))))
      (GT.pss_one (GT.ps_ret GT.pe_bl))
      GT.pss_nil)
      (GT.pss_cons (GT.ps_if (GT.PW.pt (GT.pw_or (GT.pt_cmpR (GT.eq_G (R := GT.RightS (ca mg "Made")) (GT.right_s T.i_Made) C_Made___eq__ hr (by decide)) (GT.pv 6) (GT.pv 3) (nomark _)) (GT.pw_or (GT.pt_not (GT.pt_cmpR (GT.ne_G (R := GT.RightS (ca mg "Made")) (GT.right_s T.i_Made) T.ne_Made C_Made___eq__ hr (by decide)) (GT.pv 6) (GT.pv 3) (nomark _))) (GT.pw_or (GT.pt_cmpR (GT.op_eqRX ZQ.rv C_Made___eq__ hr (by decide)) (GT.pv 3) (GT.pv 6) (nomark _)) (GT.pw_or1 (GT.pt_cmpR (GT.eq_G (R := GT.RightS (ca mg "Made")) (GT.right_s T.i_Made) C_Made___eq__ hr (by decide)) (GT.pv 6) (GT.pe_callTy (GT.call_strO C_Made___str__ hr (by decide)) (by rfl) T.m_str (by decide +kernel) (GT.pa_cons (GT.pv 6) GT.pa_nil)) (nomark _)))))))
      (GT.pss_one (GT.ps_ret GT.pe_bl))
      GT.pss_nil)
      (GT.pss_cons (GT.ps_set (i := 18) sc_law.nd rfl (Or.inl rfl) (GT.pe_cl C__law_pick (hr.mono (by decide)) (by rfl) (GT.pa_cons (GT.pv 1) (GT.pa_cons (GT.pe_lst (GT.pa_cons (GT.pe_strX [65] (by decide +kernel)) (GT.pa_cons (GT.pe_strX [33] (by decide +kernel)) (GT.pa_cons (GT.pe_strX [32] (by decide +kernel)) (GT.pa_cons (GT.pe_strX [90] (by decide +kernel)) (GT.pa_cons (GT.pe_strX [43] (by decide +kernel)) (GT.pa_cons (GT.pe_strX [126] (by decide +kernel)) (GT.pa_cons (GT.pe_strX [10] (by decide +kernel)) (GT.pa_cons (GT.pe_strX [42] (by decide +kernel)) GT.pa_nil))))))))) GT.pa_nil))))
      (GT.pss_cons (GT.ps_set (i := 19) sc_law.nd rfl (Or.inl rfl) (GT.pe_cl C__law_draw (hr.mono (by decide)) (by rfl) (GT.pa_cons (GT.pv 1) (GT.pa_cons (GT.pe_op GT.op_add (GT.pe_callB GT.call_lenX (by rfl) T.m_len (by decide +kernel) (GT.pa_cons (GT.pv 3) GT.pa_nil)) GT.pe_int) GT.pa_nil))))
      (GT.pss_cons (GT.ps_set (i := 20) sc_law.nd rfl (Or.inl rfl) (GT.pe_op GT.op_addX (GT.pe_op GT.op_addX (GT.pe_op GT.op_addX (GT.pe_slice GT.sl_strX (GT.pv 3) GT.po_none (GT.po_some (GT.pv 19))) (GT.pv 18)) (GT.pe_cl C__law_pick (hr.mono (by decide)) (by rfl) (GT.pa_cons (GT.pv 1) (GT.pa_cons (GT.pe_lst (GT.pa_cons (GT.pe_strX [] (by decide +kernel)) (GT.pa_cons (GT.pv 18) (GT.pa_cons (GT.pe_strX [97] (by decide +kernel)) GT.pa_nil)))) GT.pa_nil)))) (GT.pe_slice GT.sl_strX (GT.pv 3) (GT.po_some (GT.pv 19)) GT.po_none)))
      (GT.pss_cut (GT.ps_for PassesOwn.never rfl (GT.pi_range1 (by rfl) T.m_range (GT.pa_cons GT.pe_int GT.pa_nil)) (GT.pg_name (i := 21) sc_law.nd rfl (Or.inl rfl))
      (GT.pss_one (GT.ps_if (GT.pt_cmpR (GT.op_neD hr.units) (GT.pe_cl C__law_refused (hr.mono (by decide)) (by rfl) (GT.pa_cons (GT.pv 7) (GT.pa_cons (GT.pv 20) (GT.pa_cons (GT.pv 21) GT.pa_nil)))) (GT.pe_tup (GT.pa_cons (GT.pv 19) (GT.pa_cons GT.pe_bl GT.pa_nil))) (nomark _))
      (GT.pss_one (GT.ps_ret GT.pe_bl))
      GT.pss_nil)))
      (GT.pss_one (GT.ps_for PassesOwn.never rfl (GT.pi_tup (GT.pe_tup (GT.pa_cons GT.pe_non (GT.pa_cons GT.pe_int (GT.pa_cons GT.pe_bl (GT.pa_cons (GT.pe_lst (GT.pa_cons (GT.pe_strX [97] (by decide +kernel)) GT.pa_nil)) (GT.pa_cons (GT.pe_tup (GT.pa_cons (GT.pe_strX [97] (by decide +kernel)) GT.pa_nil)) GT.pa_nil))))))) (GT.pg_name (i := 22) sc_law.nd rfl (Or.inl rfl))
      (GT.pss_one (GT.ps_if (GT.pt_cmpR (GT.op_neD hr.units) (GT.pe_cl C__law_refused (hr.mono (by decide)) (by rfl) (GT.pa_cons (GT.pv 7) (GT.pa_cons (GT.pv 22) (GT.pa_cons GT.pe_int GT.pa_nil)))) (GT.pe_tup (GT.pa_cons GT.pe_int (GT.pa_cons GT.pe_bl GT.pa_nil))) (nomark _))
      (GT.pss_one (GT.ps_ret GT.pe_bl))
      GT.pss_nil))))))))))))))))))))))))))
      (GT.pss_one (GT.ps_ret (GT.pe_and (GT.pe_cmpR GT.op_eq (GT.pe_fldK (K := K) (by rfl) (GT.pe_mkD0 C_Made_0 hr (by decide) (by rfl)) (by rfl)) (GT.pe_strX [] (by decide +kernel)) (nomark _)) (GT.pe_one (GT.pe_cmpR (GT.eq_G (R := RightO (ca mg "Made")) (right_o T.i_Made) C_Made___eq__ hr (by decide)) (GT.pe_mkDX C_Made_1 hr (by decide) (by rfl) GT.takes0 (GT.pa_cons (GT.pe_slice GT.sl_strX (GT.pe_strX [33] (by decide +kernel)) (GT.po_some GT.pe_int) GT.po_none) GT.pa_nil)) (GT.pe_mkD0 C_Made_0 hr (by decide) (by rfl)) (nomark _)))))))), ?_⟩
    walk_at "rds"
    refine ⟨a, ns, 0, rfl, hS, hl, by decide, by decide, fun D L H1 hD hL s1 hd1 => ?_⟩
    walk_at "rds"
    refine rd_cut (fun σ' H' => ∃ zs, zs.length = 23 ∧ σ' = some (.ref a) :: some (.ref D) :: zs) ?_ ?_
    rotate_left
    · rintro σ' H2 ⟨zs, hz, rfl⟩
      walk_at "rds"
      refine make_made (l := []) (Q := fun x H2 => _) (by decide) (fun c h => by cases h) fun b H3 s3 hn3 m3 => ?_
      obtain ⟨dx, fs, ha, hf⟩ := rd_text m3
      refine ⟨b, MC mg, dx, fs, _, rfl, ha, T.k_Made, T.n_Made_text, hf, ?_⟩
      walk_at "rds"
      refine ⟨_, rfl, ?_⟩
      dsimp only
      walk_at "rds"
      refine rd_slX (by decide) ?_
      walk_at "rds"
      refine make_made (l := []) (Q := fun x H2 => _) (by decide) (fun c h => by cases h) fun b4 H4 s4 hn4 m4 => ?_
      walk_at "rds"
      refine make_made (l := []) (Q := fun x H2 => _) (by decide) (fun c h => by cases h) fun b5 H5 s5 hn5 m5 => ?_
      obtain ⟨dx, fs, ha, _⟩ := rd_text (m4.same s5)
      obtain ⟨dy, gs, hb, _⟩ := rd_text m5
      refine ⟨b4, dx, fs, rfl, ha, ⟨b5, rfl, .inl ⟨dy, gs, hb⟩⟩, b4, [], _, rfl, m4.same s5, .inl ⟨b5, [], rfl, m5, _, rfl, ?_⟩⟩
      exact q _
    walk_at "rds"
    refine ⟨4, rfl, by decide, by decide, for_range (lo := 0) (n := (4 : Int).toNat) (fun i σ' H' => ∃ zs, zs.length = 23 ∧ σ' = some (.ref a) :: some (.ref D) :: zs ∧ Deal D L H') ⟨_, rfl, rfl, hd1⟩ ?_ (fun σ' H' h => by
      obtain ⟨zs, h1, h2, _⟩ := h
      exact ⟨zs, h1, h2⟩)⟩
    rintro i σ' H2 hi ⟨zs, hz, rfl, hd2⟩
    clear hd1 s1 hD hL hS
    obtain ⟨z2, z3, z4, z5, z6, z7, z8, z9, z10, z11, z12, z13, z14, z15, z16, z17, z18, z19, z20, z21, z22, z23, z24, rfl⟩ : ∃ z2 z3 z4 z5 z6 z7 z8 z9 z10 z11 z12 z13 z14 z15 z16 z17 z18 z19 z20 z21 z22 z23 z24, zs = [z2, z3, z4, z5, z6, z7, z8, z9, z10, z11, z12, z13, z14, z15, z16, z17, z18, z19, z20, z21, z22, z23, z24] := by
      match zs, hz with
      | [_, _, _, _, _, _, _, _, _, _, _, _, _, _, _, _, _, _, _, _, _, _, _], _ => exact ⟨_, _, _, _, _, _, _, _, _, _, _, _, _, _, _, _, _, _, _, _, _, _, _, rfl⟩
    clear hz
    walk_at "rds"
    -- three texts
    refine ⟨D, L, 12, rfl, hd2, by decide, by decide, fun t1 H3 st1 lt1 kp3 hd3 => ?_⟩
    walk_at "rds"
    refine ⟨D, L, 12, rfl, hd3, by decide, by decide, fun t2 H4 st2 lt2 kp4 hd4 => ?_⟩
    walk_at "rds"
    refine ⟨D, L, 20, rfl, hd4, by decide, by decide, fun t3 H5 st3 lt3 kp5 hd5 => ?_⟩
    refine ⟨_, rfl, by rw [tx_len]; omega, ?_⟩
    rw [repl0]
    have hname := name_ok st3
    have lname : (fill t3 []).length ≤ 20 := Nat.le_trans (fill0 t3).1 (by omega)
    generalize fill t3 [] = nm at hname lname ⊢
    clear kp3 kp4 kp5 hd2 hd3 hd4 st3 lt3
    walk_at "rds"
    refine ⟨by show 3 ≤ sizeLine; decide, fun p1 np1 => ?_⟩
    have s6 : Same H5 (upd H5 p1 (.tup [.str (tx t1), .str (tx t2), .str (tx nm)])) := same_upd np1
    have e6 : upd H5 p1 (.tup [.str (tx t1), .str (tx t2), .str (tx nm)]) p1 = some (.tup [.str (tx t1), .str (tx t2), .str (tx nm)]) := upd_same
    generalize upd H5 p1 (.tup [.str (tx t1), .str (tx t2), .str (tx nm)]) = H6 at s6 e6 ⊢
    have hd6 := hd5.keep s6
    refine rd_gtup (SqT.of e6) rfl ?_
    clear e6 s6 hd5 np1
    walk_at "rds"
    -- two made texts and a number
    refine make_made (Q := fun x H2 => _) (by omega) st1 fun a1 H7 s7 _ m7 => ?_
    walk_at "rds"
    have st7 : Stand mg D L H7 [(a1, t1)] := (Stand.deal' (hd6.keep s7)).add m7
    clear s7 m7 hd6
    refine make_made (Q := fun x H2 => _) (by omega) st2 fun a2 H8 s8 _ m8 => ?_
    walk_at "rds"
    have st8 : Stand mg D L H8 [(a2, t2), (a1, t1)] := (st7.same s8).add m8
    clear s8 m8 st7
    refine ⟨D, L, 5, rfl, st8.deal, by decide, by decide, fun k H9 hk1 hk2 kp9 hd9 => ?_⟩
    obtain ⟨k, rfl⟩ := Int.eq_ofNat_of_zero_le hk1
    have st9 := st8.keep kp9 hd9
    clear kp9 hd9 st8
    walk_at "rds"
    refine ⟨D, L, 8, rfl, st9.deal, by decide, by decide, fun u H10 su lu kp10 hd10 => ?_⟩
    have st10 := st9.keep kp10 hd10
    clear kp10 hd10 st9
    walk_at "rds"
    refine make_made (Q := fun x H2 => _) (by omega) su fun a3 H11 s11 _ m11 => ?_
    walk_at "rds"
    have st11 := (st10.same s11).add m11
    clear s11 m11 st10
    refine make_made (Q := fun x H2 => _) (by omega) su fun a4 H12 s12 _ m12 => ?_
    walk_at "rds"
    have st12 := (st11.same s12).add m12
    clear s12 m12 st11
    refine make_made (Q := fun x H2 => _) (by omega) su fun a5 H13 s13 _ m13 => ?_
    walk_at "rds"
    have st13 := (st12.same s13).add m13
    clear s13 m13 st12
    -- grown in place
    dsimp only [List.set]
    refine rd_aug rfl ?_
    walk_at "rds"
    obtain ⟨dx, fs, ha, hf⟩ := st13.ins (a := a4) (l := u) (by simp)
    obtain ⟨dy, gs, hb, _⟩ := st13.ins (a := a2) (l := t2) (by simp)
    refine ⟨a4, a2, dx, fs, dy, gs, rfl, rfl, ha, hb, a4, u, _, rfl, st13.at (by simp), by omega, su, .inl ⟨t2, .inl ⟨a2, rfl, st13.at (by simp)⟩, st2, by omega, fun a6 H14 s14 _ m14 => ?_⟩⟩
    have st14 := (st13.same s14).add m14
    clear s14 m14 st13 ha hf hb
    refine rd_aug rfl ?_
    walk_at "rds"
    obtain ⟨dx, fs, ha, hf⟩ := st14.ins (a := a6) (l := u ++ t2) (by simp)
    refine ⟨a6, dx, fs, rfl, ⟨_, rfl⟩, ha, a6, u ++ t2, _, rfl, st14.at (by simp), by rw [List.length_append]; omega, su.app st2, .inl ⟨t1, .inr rfl, st1, by omega, fun a7 H15 s15 _ m15 => ?_⟩⟩
    have st15 := (st14.same s15).add m15
    clear s15 m15 st14 ha hf
    refine rd_aug rfl ?_
    walk_at "rds"
    obtain ⟨dx, fs, ha, hf⟩ := st15.ins (a := a5) (l := u) (by simp)
    refine ⟨a5, dx, fs, rfl, ⟨_, rfl⟩, ha, a5, u, k, rfl, st15.at (by simp), by omega, by omega, su, fun a8 H16 s16 _ m16 => ?_⟩
    have st16 := (st15.same s16).add m16
    clear s16 m16 st15 ha hf
    -- the elder ones stay
    dsimp only [List.set]
    obtain ⟨dx, fs, ha, hf⟩ := st16.ins (a := a4) (l := u) (by simp)
    obtain ⟨dy, gs, hb, hg⟩ := st16.ins (a := a5) (l := u) (by simp)
    walk_at "rds"
    refine ⟨a4, MC mg, dx, fs, _, rfl, ha, T.k_Made, T.n_Made_text, hf, ?_⟩
    walk_at "rds"
    refine rd_ite (fun h => by simp at h) (fun _ => ?_)
    walk_at "rds"
    refine ⟨a5, MC mg, dy, gs, _, rfl, hb, T.k_Made, T.n_Made_text, hg, ?_⟩
    walk_at "rds"
    refine rd_ite (fun h => by simp at h) (fun _ => ?_)
    clear ha hf hb hg
    walk_at "rds"
    refine rd_addX (sz_of' (by omega)) ?_
    walk_at "rds"
    have hz : u.length * k ≤ 8 * 9 := Nat.mul_le_mul (by omega) (by omega)
    refine rd_mulX (by omega) (by omega) (by rw [Int.toNat_natCast]; omega) ?_
    rw [Int.toNat_natCast]
    have hrk := su.reps k
    have lrk : (reps k u).length ≤ 72 := by rw [reps_len, Nat.mul_comm]; omega
    walk_at "rds"
    dsimp only [List.set]
    generalize erk : reps k u = rk at hrk lrk st16 ⊢
    clear hz
    -- the pairs
    have r16 : Rows mg H16 [] := fun x hx => by cases hx
    walk_at "rds"
    refine ⟨by show 2 ≤ sizeLine; decide, fun q1 nq1 => ?_⟩
    have s17 := same_upd (o := .tup [V.ref a1, V.str (tx t1)]) nq1
    have r17 := r16.add (st16.at (a := a1) (l := t1) (by simp)) nq1 (by omega) st1
    have st17 := st16.same s17
    generalize upd H16 q1 (.tup [.ref a1, .str (tx t1)]) = H17 at r17 st17 ⊢
    clear s17 r16 st16 nq1
    walk_at "rds"
    refine rd_binS ?_
    walk_at "rds"
    obtain ⟨dx, fs, ha, _⟩ := st17.ins (a := a1) (l := t1) (by simp)
    obtain ⟨dy, gs, hb, _⟩ := st17.ins (a := a2) (l := t2) (by simp)
    refine ⟨a1, a2, dx, fs, dy, gs, rfl, rfl, ha, hb, a1, t1, _, rfl, st17.at (by simp), by omega, st1, .inl ⟨t2, .inl ⟨a2, rfl, st17.at (by simp)⟩, st2, by omega, fun a9 H18 s18 _ m18 => ?_⟩⟩
    have st18 := (st17.same s18).add m18
    have r18 := r17.same s18
    clear s18 m18 st17 r17 ha hb
    walk_at "rds"
    refine ⟨by show 2 ≤ sizeLine; decide, fun q19 nq19 => ?_⟩
    have s19 := same_upd (o := .tup [V.ref a9, V.str (tx (t1 ++ t2))]) nq19
    have r19 := r18.add (st18.at (a := a9) (l := (t1 ++ t2)) (by simp)) nq19 (by rw [List.length_append]; omega) (st1.app st2)
    have st19 := st18.same s19
    generalize upd H18 q19 (.tup [.ref a9, .str (tx (t1 ++ t2))]) = H19 at r19 st19 ⊢
    clear s19 r18 st18 nq19
    walk_at "rds"
    refine rd_binS ?_
    walk_at "rds"
    obtain ⟨dx, fs, ha, _⟩ := st19.ins (a := a1) (l := t1) (by simp)
    refine ⟨a1, dx, fs, rfl, ⟨_, rfl⟩, ha, a1, t1, _, rfl, st19.at (by simp), by omega, st1, .inl ⟨t2, .inr rfl, st2, by omega, fun a10 H20 s20 _ m20 => ?_⟩⟩
    have st20 := (st19.same s20).add m20
    have r20 := r19.same s20
    clear s20 m20 st19 r19 ha
    walk_at "rds"
    refine ⟨by show 2 ≤ sizeLine; decide, fun q21 nq21 => ?_⟩
    have s21 := same_upd (o := .tup [V.ref a10, V.str (tx (t1 ++ t2))]) nq21
    have r21 := r20.add (st20.at (a := a10) (l := (t1 ++ t2)) (by simp)) nq21 (by rw [List.length_append]; omega) (st1.app st2)
    have st21 := st20.same s21
    generalize upd H20 q21 (.tup [.ref a10, .str (tx (t1 ++ t2))]) = H21 at r21 st21 ⊢
    clear s21 r20 st20 nq21
    walk_at "rds"
    refine rd_binS ?_
    walk_at "rds"
    obtain ⟨dx, fs, ha, _⟩ := st21.ins (a := a2) (l := t2) (by simp)
    refine ⟨a2, dx, fs, rfl, ⟨_, rfl⟩, ha, a2, t2, _, rfl, st21.at (by simp), by omega, st2, .inl ⟨t1, .inr rfl, st1, by omega, fun a11 H22 s22 _ m22 => ?_⟩⟩
    have st22 := (st21.same s22).add m22
    have r22 := r21.same s22
    clear s22 m22 st21 r21 ha
    walk_at "rds"
    refine ⟨by show 2 ≤ sizeLine; decide, fun q23 nq23 => ?_⟩
    have s23 := same_upd (o := .tup [V.ref a11, V.str (tx (t1 ++ t2))]) nq23
    have r23 := r22.add (st22.at (a := a11) (l := (t1 ++ t2)) (by simp)) nq23 (by rw [List.length_append]; omega) (st1.app st2)
    have st23 := st22.same s23
    generalize upd H22 q23 (.tup [.ref a11, .str (tx (t1 ++ t2))]) = H23 at r23 st23 ⊢
    clear s23 r22 st22 nq23
    walk_at "rds"
    refine ⟨by show 4 ≤ sizeLine; decide, fun e1 ne1 => ?_⟩
    have s24 := same_upd (o := .lst [V.ref q1, .ref q19, .ref q21, .ref q23]) ne1
    have w24 : upd H23 e1 (.lst [V.ref q1, .ref q19, .ref q21, .ref q23]) e1 = some (.lst [V.ref q1, .ref q19, .ref q21, .ref q23]) := upd_same
    have r24 := r23.same s24
    have st24 := st23.same s24
    generalize upd H23 e1 (.lst [V.ref q1, .ref q19, .ref q21, .ref q23]) = H24 at r24 st24 w24 ⊢
    clear s24 r23 st23 ne1
    walk_at "rds"
    -- three more
    refine rd_binS ?_
    walk_at "rds"
    obtain ⟨dx, fs, ha, _⟩ := st24.ins (a := a3) (l := u) (by simp)
    refine ⟨a3, dx, fs, rfl, ⟨_, rfl⟩, ha, a3, u, k, rfl, st24.at (by simp), by omega, by omega, su, fun a12 H25 s25 _ m25 => ?_⟩
    rw [erk] at m25
    have st25 := (st24.same s25).add m25
    have r25 := r24.same s25
    have w25 := s25 _ _ w24
    clear s25 m25 st24 r24 w24 ha
    walk_at "rds"
    refine ⟨by show 2 ≤ sizeLine; decide, fun q26 nq26 => ?_⟩
    have s26 := same_upd (o := .tup [V.ref a12, V.str (tx rk)]) nq26
    have r26 := r25.add (st25.at (a := a12) (l := rk) (by simp)) nq26 (by omega) hrk
    have st26 := st25.same s26
    have w26 := s26 _ _ w25
    generalize upd H25 q26 (.tup [.ref a12, .str (tx rk)]) = H26 at r26 st26 w26 ⊢
    clear s26 r25 st25 nq26 w25
    walk_at "rds"
    refine rd_binS ?_
    walk_at "rds"
    obtain ⟨dx, fs, ha, _⟩ := st26.ins (a := a3) (l := u) (by simp)
    refine ⟨a3, dx, fs, rfl, ⟨_, rfl⟩, ha, a3, u, k, rfl, st26.at (by simp), by omega, by omega, su, fun a13 H27 s27 _ m27 => ?_⟩
    rw [erk] at m27
    have st27 := (st26.same s27).add m27
    have r27 := r26.same s27
    have w27 := s27 _ _ w26
    clear s27 m27 st26 r26 w26 ha
    walk_at "rds"
    refine ⟨by show 2 ≤ sizeLine; decide, fun q28 nq28 => ?_⟩
    have s28 := same_upd (o := .tup [V.ref a13, V.str (tx rk)]) nq28
    have r28 := r27.add (st27.at (a := a13) (l := rk) (by simp)) nq28 (by omega) hrk
    have st28 := st27.same s28
    have w28 := s28 _ _ w27
    generalize upd H27 q28 (.tup [.ref a13, .str (tx rk)]) = H28 at r28 st28 w28 ⊢
    clear s28 r27 st27 nq28 w27
    walk_at "rds"
    refine ⟨by show 2 ≤ sizeLine; decide, fun q29 nq29 => ?_⟩
    have s29 := same_upd (o := .tup [V.ref a8, V.str (tx rk)]) nq29
    have r29 := r28.add (st28.at (a := a8) (l := rk) (by simp)) nq29 (by omega) hrk
    have st29 := st28.same s29
    have w29 := s29 _ _ w28
    generalize upd H28 q29 (.tup [.ref a8, .str (tx rk)]) = H29 at r29 st29 w29 ⊢
    clear s29 r28 st28 nq29 w28
    walk_at "rds"
    refine ⟨by show 3 ≤ sizeLine; decide, fun e2 ne2 => ?_⟩
    have s30 := same_upd (o := .lst [V.ref q26, .ref q28, .ref q29]) ne2
    have v30 : upd H29 e2 (.lst [V.ref q26, .ref q28, .ref q29]) e2 = some (.lst [V.ref q26, .ref q28, .ref q29]) := upd_same
    have r30 := r29.same s30
    have st30 := st29.same s30
    have w30 := s30 _ _ w29
    generalize upd H29 e2 (.lst [V.ref q26, .ref q28, .ref q29]) = H30 at r30 st30 w30 v30 ⊢
    clear s30 r29 st29 ne2 w29
    walk_at "rds"
    refine rd_cat w30 v30 (by show 4 + 3 ≤ sizeLine; decide) fun e3 ne3 => ?_
    dsimp only [List.set, List.cons_append, List.nil_append]
    have s31 := same_upd (o := .lst [V.ref q1, .ref q19, .ref q21, .ref q23, .ref q26, .ref q28, .ref q29]) ne3
    have w31 : upd H30 e3 (.lst [V.ref q1, .ref q19, .ref q21, .ref q23, .ref q26, .ref q28, .ref q29]) e3 = some (.lst [V.ref q1, .ref q19, .ref q21, .ref q23, .ref q26, .ref q28, .ref q29]) := upd_same
    have r31 := r30.same s31
    have st31 := st30.same s31
    change gName 17 (V.ref e3) _ (upd H30 e3 (.lst [V.ref q1, .ref q19, .ref q21, .ref q23, .ref q26, .ref q28, .ref q29])) _
    generalize upd H30 e3 (.lst [V.ref q1, .ref q19, .ref q21, .ref q23, .ref q26, .ref q28, .ref q29]) = H31 at r31 st31 w31 ⊢
    clear s31 r30 st30 ne3 w30 v30
    walk_at "rds"
    -- the one that was grown
    refine rd_addX (sz_of' (by omega)) ?_
    walk_at "rds"
    refine rd_addX (sz_of' (by rw [List.length_append]; omega)) ?_
    walk_at "rds"
    refine ⟨by show 2 ≤ sizeLine; decide, fun q32 nq32 => ?_⟩
    have s32 := same_upd (o := .tup [V.ref a7, V.str (tx (u ++ t2 ++ t1))]) nq32
    have r32 := r31.add (st31.at (a := a7) (l := u ++ t2 ++ t1) (by simp)) nq32 (by rw [List.length_append, List.length_append]; omega) ((su.app st2).app st1)
    have st32 := st31.same s32
    have w32 := s32 _ _ w31
    generalize upd H31 q32 (.tup [.ref a7, .str (tx (u ++ t2 ++ t1))]) = H32 at r32 st32 w32 ⊢
    clear s32 r31 st31 nq32 w31
    walk_at "rds"
    refine ⟨by show 1 ≤ sizeLine; decide, fun e4 ne4 => ?_⟩
    have s33 := same_upd (o := .lst [V.ref q32]) ne4
    have v33 : upd H32 e4 (.lst [V.ref q32]) e4 = some (.lst [V.ref q32]) := upd_same
    have r33 := r32.same s33
    have st33 := st32.same s33
    have w33 := s33 _ _ w32
    generalize upd H32 e4 (.lst [V.ref q32]) = H33 at r33 st33 w33 v33 ⊢
    clear s33 r32 st32 ne4 w32
    walk_at "rds"
    refine rd_cat w33 v33 (by show 7 + 1 ≤ sizeLine; decide) fun e5 ne5 => ?_
    dsimp only [List.set, List.cons_append, List.nil_append]
    have s34 := same_upd (o := .lst [V.ref q1, .ref q19, .ref q21, .ref q23, .ref q26, .ref q28, .ref q29, .ref q32]) ne5
    have w34 : upd H33 e5 (.lst [V.ref q1, .ref q19, .ref q21, .ref q23, .ref q26, .ref q28, .ref q29, .ref q32]) e5 = some (.lst [V.ref q1, .ref q19, .ref q21, .ref q23, .ref q26, .ref q28, .ref q29, .ref q32]) := upd_same
    have r34 := r33.same s34
    have st34 := st33.same s34
    change gName 17 (V.ref e5) _ (upd H33 e5 (.lst [V.ref q1, .ref q19, .ref q21, .ref q23, .ref q26, .ref q28, .ref q29, .ref q32])) _
    generalize upd H33 e5 (.lst [V.ref q1, .ref q19, .ref q21, .ref q23, .ref q26, .ref q28, .ref q29, .ref q32]) = H34 at r34 st34 w34 ⊢
    clear s34 r33 st33 ne5 w33 v33
    have r34' : Rows mg H34 [V.ref q1, .ref q19, .ref q21, .ref q23, .ref q26, .ref q28, .ref q29, .ref q32] := r34
    clear r34
    generalize exs : [V.ref q1, .ref q19, .ref q21, .ref q23, .ref q26, .ref q28, .ref q29, .ref q32] = xs at w34 r34'
    clear exs
    have st35 := st34.less (ns := [(a3, u), (a2, t2), (a1, t1)]) (by simp)
    clear st34
    walk_at "rds"
    refine ⟨e5, rfl, ⟨_, SqL.of w34⟩, fun d nd => lc_list (K := K) (a := e5) (xs := xs) (fun _ H' => Same H34 H' ∧ H' d = some (.lst [])) ⟨same_upd nd, upd_same⟩ (fun _ H' _ h => SqL.of (h.1 _ _ w34)) ?_ ?_⟩
    · rintro j x H35 hx ⟨s35, v35⟩
      obtain ⟨q', a', l', rfl, h1', m', hl', hs'⟩ := r34' x (List.mem_of_getElem? hx)
      dsimp only [List.set]
      refine rd_gtup (SqT.of (s35 _ _ h1')) rfl ?_
      walk_at "rds"
      refine ⟨rfl, ?_⟩
      walk_at "rds"
      refine ⟨a', l', nm, rfl, m'.same s35, hl', hs', by omega, hname, fun H36 s36 => ?_⟩
      walk_at "rds"
      refine rd_ite (fun h => by cases h) (fun _ => ⟨s35.trans s36, s36 _ _ v35⟩)
    rintro H37 ⟨s37, v37⟩
    have st37 := st35.same s37
    clear s37 st35 r34' w34 nd xs
    dsimp only [List.set]
    walk_at "rds"
    refine ⟨Nat.zero_le _, fun e6 ne6 => ?_⟩
    have s38 := same_upd (o := .lst []) ne6
    have st38 := st37.same s38
    refine ⟨d, e6, [], rfl, rfl, SqL.of (s38 _ _ v37), SqL.of upd_same, ?_⟩
    generalize upd H37 e6 (.lst []) = H38 at st38 ⊢
    clear s38 st37 v37 ne6
    walk_at "rds"
    refine rd_ite (fun h => by cases h) (fun _ => ?_)
    walk_at "rds"
    obtain ⟨dx, fs, ha, hf⟩ := st38.ins (a := a3) (l := u) (by simp)
    refine ⟨a3, MC mg, dx, fs, _, rfl, ha, T.k_Made, T.n_Made_text, hf, ?_⟩
    walk_at "rds"
    refine rd_ite (fun h => by simp at h) (fun _ => ?_)
    clear ha hf
    walk_at "rds"
    -- == and in
    obtain ⟨dx, fs, ha, _⟩ := st38.ins (a := a1) (l := t1) (by simp)
    obtain ⟨dy, gs, hb, _⟩ := st38.ins (a := a2) (l := t2) (by simp)
    refine ⟨a1, dx, fs, rfl, ha, ⟨a2, rfl, .inl ⟨dy, gs, hb⟩⟩, a1, t1, _, rfl, st38.at (by simp), .inl ⟨a2, t2, rfl, st38.at (by simp), _, rfl, ?_⟩⟩
    clear ha hb
    walk_at "rds"
    refine rd_ite (fun h => ?_) (fun _ => ?_)
    · exfalso
      rw [eqT] at h
      simp at h
    walk_at "rds"
    refine ⟨by show 1 ≤ sizeLine; decide, fun q39 nq39 => ?_⟩
    have s39 := same_upd (o := .tup [V.str (tx t1)]) nq39
    have v39 : upd H38 q39 (.tup [V.str (tx t1)]) q39 = some (.tup [V.str (tx t1)]) := upd_same
    have st39 := st38.same s39
    generalize upd H38 q39 (.tup [.str (tx t1)]) = H39 at st39 v39 ⊢
    clear s39 st38 nq39
    walk_at "rds"
    refine ⟨by show 1 ≤ sizeLine; decide, fun q40 nq40 => ?_⟩
    have s40 := same_upd (o := .lst [V.str (tx t1)]) nq40
    have v40 : upd H39 q40 (.lst [V.str (tx t1)]) q40 = some (.lst [V.str (tx t1)]) := upd_same
    have w40 := s40 _ _ v39
    have st40 := st39.same s40
    generalize upd H39 q40 (.lst [.str (tx t1)]) = H40 at st40 v40 w40 ⊢
    clear s40 st39 nq40 v39
    walk_at "rds"
    refine ⟨by show 5 ≤ sizeLine; decide, fun q41 nq41 => ?_⟩
    have s41 := same_upd (o := .tup [V.str (tx t1), .non, .int 0, .ref q39, .ref q40]) nq41
    have u41 : upd H40 q41 (.tup [V.str (tx t1), .non, .int 0, .ref q39, .ref q40]) q41 = some (.tup [V.str (tx t1), .non, .int 0, .ref q39, .ref q40]) := upd_same
    have v41 := s41 _ _ v40
    have w41 := s41 _ _ w40
    have st41 := st40.same s41
    generalize upd H40 q41 (.tup [V.str (tx t1), .non, .int 0, .ref q39, .ref q40]) = H41 at st41 u41 v41 w41 ⊢
    clear s41 st40 nq41 v40 w40
    walk_at "rds"
    obtain ⟨dx, fs, ha, _⟩ := st41.ins (a := a1) (l := t1) (by simp)
    refine ⟨a1, dx, fs, q41, _, rfl, rfl, ha, u41, fun v hv => ?_, ?_⟩
    · have m41 := st41.at (a := a1) (l := t1) (by simp)
      rcases List.mem_cons.mp hv with rfl | hv
      · exact ⟨.inl ⟨_, rfl⟩, a1, t1, _, rfl, m41, .inr ⟨.inr ⟨_, rfl⟩, rfl, rfl⟩⟩
      rcases List.mem_cons.mp hv with rfl | hv
      · exact ⟨.inr (.inr (.inl rfl)), a1, t1, _, rfl, m41, .inr ⟨.inl (.inl rfl), rfl, rfl⟩⟩
      rcases List.mem_cons.mp hv with rfl | hv
      · exact ⟨.inr (.inl ⟨_, rfl⟩), a1, t1, _, rfl, m41, .inr ⟨.inl (.inr (.inl ⟨_, rfl⟩)), rfl, rfl⟩⟩
      rcases List.mem_cons.mp hv with rfl | hv
      · exact ⟨.inr (.inr (.inr (.inl ⟨_, _, rfl, w41⟩))), a1, t1, _, rfl, m41, .inr ⟨.inl (.inr (.inr (.inr (.inr ⟨_, _, rfl, w41⟩)))), rfl, rfl⟩⟩
      rcases List.mem_cons.mp hv with rfl | hv
      · exact ⟨.inr (.inr (.inr (.inr ⟨_, _, rfl, v41⟩))), a1, t1, _, rfl, m41, .inr ⟨.inl (.inr (.inr (.inr (.inl ⟨_, _, rfl, v41⟩)))), rfl, rfl⟩⟩
      · cases hv
    clear u41 v41 w41
    walk_at "rds"
    refine rd_ite (fun h => by cases h) (fun _ => ?_)
    walk_at "rds"
    have m41 := st41.at (a := a1) (l := t1) (by simp)
    refine ⟨a1, dx, fs, rfl, ha, .inr ⟨_, rfl⟩, a1, t1, _, rfl, m41, .inr ⟨.inr ⟨_, rfl⟩, _, rfl, ?_⟩⟩
    walk_at "rds"
    refine rd_ite (fun h => by cases h) (fun _ => ?_)
    walk_at "rds"
    refine ⟨a1, dx, fs, rfl, ha, .inr ⟨_, rfl⟩, a1, t1, _, rfl, m41, .inr ⟨.inr ⟨_, rfl⟩, _, rfl, ?_⟩⟩
    walk_at "rds"
    refine rd_ite (fun h => by cases h) (fun _ => ?_)
    walk_at "rds"
    refine ⟨tx t1, a1, dx, fs, rfl, rfl, ha, a1, t1, _, rfl, m41, .inr ⟨.inr ⟨_, rfl⟩, _, rfl, ?_⟩⟩
    walk_at "rds"
    refine rd_ite (fun h => by cases h) (fun _ => ?_)
    walk_at "rds"
    refine ⟨a1, dx, fs, rfl, ha, a1, t1, rfl, m41, by omega, _, rfl, ?_⟩
    walk_at "rds"
    refine ⟨a1, dx, fs, rfl, ha, .inr ⟨_, rfl⟩, a1, t1, _, rfl, m41, .inr ⟨.inr ⟨_, rfl⟩, _, rfl, ?_⟩⟩
    walk_at "rds"
    refine rd_ite (fun h => by cases h) (fun _ => ?_)
    clear ha m41
    walk_at "rds"
    refine ⟨by show 8 ≤ sizeLine; decide, fun e7 ne7 => ?_⟩
    have s42 := same_upd (o := .lst [V.str (tx [65]), V.str (tx [33]), V.str (tx [32]), V.str (tx [90]), V.str (tx [43]), V.str (tx [126]), V.str (tx [10]), V.str (tx [42])]) ne7
    have w42 : upd H41 e7 (.lst [V.str (tx [65]), V.str (tx [33]), V.str (tx [32]), V.str (tx [90]), V.str (tx [43]), V.str (tx [126]), V.str (tx [10]), V.str (tx [42])]) e7 = some (.lst [V.str (tx [65]), V.str (tx [33]), V.str (tx [32]), V.str (tx [90]), V.str (tx [43]), V.str (tx [126]), V.str (tx [10]), V.str (tx [42])]) := upd_same
    have n42 := st41.deal.new ne7
    have st42 := st41.same s42
    generalize upd H41 e7 (.lst [V.str (tx [65]), V.str (tx [33]), V.str (tx [32]), V.str (tx [90]), V.str (tx [43]), V.str (tx [126]), V.str (tx [10]), V.str (tx [42])]) = H42 at st42 w42 ⊢
    clear s42 st41 ne7
    walk_at "rds"
    refine ⟨D, L, _, _, rfl, st42.deal, .inl ⟨e7, rfl, n42.1, n42.2, SqL.of w42⟩, by decide, by decide, fun xo H43 hxo kp43 hd43 => ?_⟩
    obtain ⟨c, rfl, hc⟩ := odd_ok hxo
    have st43 := st42.keep kp43 hd43
    clear st42 kp43 hd43 hxo w42 n42
    walk_at "rds"
    refine rd_lenX (sz_of' (by omega)) ?_
    walk_at "rds"
    refine ⟨D, L, _, rfl, st43.deal, by omega, by omega, fun j H44 hj1 hj2 kp44 hd44 => ?_⟩
    obtain ⟨j, rfl⟩ := Int.eq_ofNat_of_zero_le hj1
    have hj : j ≤ t1.length := by omega
    have st44 := st43.keep kp44 hd44
    clear st43 kp44 hd44 hj1 hj2
    dsimp only [List.set]
    walk_at "rds"
    refine rd_slX (sz_of' (by omega)) ?_
    rw [cutL_take]
    walk_at "rds"
    refine rd_addX (sz_of' (by rw [List.length_take]; simp; omega)) ?_
    walk_at "rds"
    refine ⟨by show 3 ≤ sizeLine; decide, fun e8 ne8 => ?_⟩
    have s45 := same_upd (o := .lst [V.str (tx []), V.str (tx [c]), V.str (tx [97])]) ne8
    have w45 : upd H44 e8 (.lst [V.str (tx []), V.str (tx [c]), V.str (tx [97])]) e8 = some (.lst [V.str (tx []), V.str (tx [c]), V.str (tx [97])]) := upd_same
    have n45 := st44.deal.new ne8
    have st45 := st44.same s45
    generalize upd H44 e8 (.lst [V.str (tx []), V.str (tx [c]), V.str (tx [97])]) = H45 at st45 w45 ⊢
    clear s45 st44 ne8
    walk_at "rds"
    refine ⟨D, L, _, _, rfl, st45.deal, .inl ⟨e8, rfl, n45.1, n45.2, SqL.of w45⟩, by simp, by simp, fun xr H46 hxr kp46 hd46 => ?_⟩
    obtain ⟨r, rfl, hr1⟩ := few_ok hxr
    have st46 := (st45.keep kp46 hd46).less (ns := [(a2, t2)]) (by simp)
    clear st45 kp46 hd46 hxr w45 n45
    walk_at "rds"
    refine rd_addX (sz_of' (by simp only [List.length_append, List.length_take, List.length_singleton]; omega)) ?_
    walk_at "rds"
    refine rd_slX (sz_of' (by omega)) ?_
    rw [cut_from hj]
    refine rd_addX (sz_of' (by simp only [List.length_append, List.length_take, List.length_drop, List.length_singleton]; omega)) ?_
    have hbad := bad_at (r := r) st1 hc hj
    have lbad : (t1.take j ++ [c] ++ r ++ t1.drop j).length ≤ 100 := by simp only [List.length_append, List.length_take, List.length_drop, List.length_singleton]; omega
    generalize t1.take j ++ [c] ++ r ++ t1.drop j = bd at hbad lbad ⊢
    walk_at "rds"
    dsimp only [List.set]
    refine rd_cut (fun σ' H' => (∃ zs, zs.length = 23 ∧ zs[5]? = some (some (.ref a2)) ∧ σ' = some (.ref a) :: some (.ref D) :: zs) ∧ Stand mg D L H' [(a2, t2)]) ?_ ?_
    · walk_at "rds"
      refine ⟨3, rfl, by decide, by decide, for_range (lo := 0) (n := (3 : Int).toNat) (fun _ σ' H' => (∃ y21, σ' = [some (V.ref a), some (V.ref D), some (V.int (0 + (i : Int))), some (V.str (tx t1)), some (V.str (tx t2)), some (V.str (tx nm)), some (V.ref a1), some (V.ref a2), some (V.int (k : Int)), some (V.str (tx u)), some (V.ref a3), some (V.ref a7), some (V.ref a8), some (V.ref a4), some (V.ref a5), some (V.str (tx (t1 ++ t2))), some (V.str (tx rk)), some (V.ref e5), some (V.str (tx [c])), some (V.int (j : Int)), some (V.str (tx bd)), y21, z22, z23, z24]) ∧ Stand mg D L H' [(a2, t2)]) ⟨⟨_, rfl⟩, st46⟩ ?_ (fun σ' H' h => by
        obtain ⟨⟨y, e⟩, st⟩ := h
        exact ⟨⟨_, rfl, rfl, e⟩, st⟩)⟩
      rintro n σ' H47 hn ⟨⟨y21, rfl⟩, st47⟩
      have hn3 : n < 3 := hn
      rw [Int.zero_add]
      walk_at "rds"
      dsimp only [List.set]
      refine ⟨a2, t2, _, n, j, rfl, st47.at (by simp), by omega, st2, by omega, .inl ⟨bd, rfl, by omega, hbad⟩, .inr ⟨bd, rfl⟩, fun p48 H48 s48 v48 => ?_⟩
      walk_at "rds"
      refine ⟨by show 2 ≤ sizeLine; decide, fun p49 np49 => ?_⟩
      have s49 := same_upd (o := .tup [V.int (j : Int), V.bl true]) np49
      refine ne_same (s49 _ _ v48) upd_same ?_
      walk_at "rds"
      refine rd_ite (fun h => by cases h) (fun _ => ⟨⟨_, rfl⟩, st47.same (s48.trans s49)⟩)
    clear st46 hbad lbad hc hj hr1
    rintro σ' H50 ⟨⟨zs, hz, hz5, rfl⟩, st50⟩
    obtain ⟨z2, z3, z4, z5, z6, z7, z8, z9, z10, z11, z12, z13, z14, z15, z16, z17, z18, z19, z20, z21, z22, z23, z24, rfl⟩ : ∃ z2 z3 z4 z5 z6 z7 z8 z9 z10 z11 z12 z13 z14 z15 z16 z17 z18 z19 z20 z21 z22 z23 z24, zs = [z2, z3, z4, z5, z6, z7, z8, z9, z10, z11, z12, z13, z14, z15, z16, z17, z18, z19, z20, z21, z22, z23, z24] := by
      match zs, hz with
      | [_, _, _, _, _, _, _, _, _, _, _, _, _, _, _, _, _, _, _, _, _, _, _], _ => exact ⟨_, _, _, _, _, _, _, _, _, _, _, _, _, _, _, _, _, _, _, _, _, _, _, rfl⟩
    clear hz
    obtain rfl : z7 = some (.ref a2) := by
      have h := hz5
      simp at h
      exact h
    clear hz5
    walk_at "rds"
    refine ⟨by show 1 ≤ sizeLine; decide, fun p51 np51 => ?_⟩
    have s51 := same_upd (o := .lst [V.str (tx [97])]) np51
    have v51 : upd H50 p51 (.lst [V.str (tx [97])]) p51 = some (.lst [V.str (tx [97])]) := upd_same
    have st51 := st50.same s51
    generalize upd H50 p51 (.lst [V.str (tx [97])]) = H51 at st51 v51 ⊢
    clear s51 st50 np51
    walk_at "rds"
    refine ⟨by show 1 ≤ sizeLine; decide, fun p52 np52 => ?_⟩
    have s52 := same_upd (o := .tup [V.str (tx [97])]) np52
    have w52 : upd H51 p52 (.tup [V.str (tx [97])]) p52 = some (.tup [V.str (tx [97])]) := upd_same
    have v52 := s52 _ _ v51
    have st52 := st51.same s52
    generalize upd H51 p52 (.tup [V.str (tx [97])]) = H52 at st52 v52 w52 ⊢
    clear s52 st51 np52 v51
    walk_at "rds"
    refine ⟨by show 5 ≤ sizeLine; decide, fun p53 np53 => ?_⟩
    have s53 := same_upd (o := .tup [V.non, .int 0, .bl true, .ref p51, .ref p52]) np53
    have u53 : upd H52 p53 (.tup [V.non, .int 0, .bl true, .ref p51, .ref p52]) p53 = some (.tup [V.non, .int 0, .bl true, .ref p51, .ref p52]) := upd_same
    have v53 := s53 _ _ v52
    have w53 := s53 _ _ w52
    have st53 := st52.same s53
    generalize upd H52 p53 (.tup [V.non, .int 0, .bl true, .ref p51, .ref p52]) = H53 at st53 u53 v53 w53 ⊢
    clear s53 st52 np53 v52 w52
    walk_at "rds"
    refine ⟨p53, rfl, ⟨_, SqT.of u53⟩, for_tup (K := K) (a := p53) (xs := [V.non, .int 0, .bl true, .ref p51, .ref p52]) (fun _ σ' H' => (∃ y22, σ' = [some (V.ref a), some (V.ref D), z2, z3, z4, z5, z6, some (V.ref a2), z8, z9, z10, z11, z12, z13, z14, z15, z16, z17, z18, z19, z20, z21, y22, z23, z24]) ∧ Same H53 H') ⟨⟨_, rfl⟩, Same.refl _⟩ (fun _ _ H' _ h => SqT.of (h.2 _ _ u53)) ?_ (fun σ' H' h => by
      obtain ⟨⟨y, e⟩, s⟩ := h
      exact ⟨_, rfl, e, (st53.same s).deal⟩)⟩
    rintro n x σ' H54 hx ⟨⟨y22, rfl⟩, s54⟩
    have hno : NoStr H54 x := by
      rcases n with _ | _ | _ | _ | _ | n
      · cases hx; exact .inl rfl
      · cases hx; exact .inr (.inl ⟨_, rfl⟩)
      · cases hx; exact .inr (.inr (.inl ⟨_, rfl⟩))
      · cases hx; exact .inr (.inr (.inr (.inl ⟨_, _, rfl, s54 _ _ v53⟩)))
      · cases hx; exact .inr (.inr (.inr (.inr ⟨_, _, rfl, s54 _ _ w53⟩)))
      · cases hx
    walk_at "rds"
    dsimp only [List.set]
    refine ⟨a2, t2, _, 0, 0, rfl, (st53.same s54).at (by simp), by omega, st2, by omega, .inr ⟨rfl, hno⟩, .inl rfl, fun p55 H55 s55 v55 => ?_⟩
    walk_at "rds"
    refine ⟨by show 2 ≤ sizeLine; decide, fun p56 np56 => ?_⟩
    have s56 := same_upd (o := .tup [V.int ((0 : Nat) : Int), V.bl true]) np56
    refine ne_same (n := 0) (s56 _ _ v55) upd_same ?_
    walk_at "rds"
    exact rd_ite (fun h => by cases h) (fun _ => ⟨⟨_, rfl⟩, s54.trans (s55.trans s56)⟩)
end

set_option maxHeartbeats 4000000 in
theorem all_mk {l : PySem.W.OpenLaw} {w : World} {K : PySem.W.Frag} {h : Heap} {mg : Str → Option Value} {fa f1 f2 f3 f4 f5 f6 f7 f8 f9 f10 : Addr} (X : K.In h) (G : h.Ns mainGlobals mg) (hfa : mg "law" = some (.ref fa))
    {od1 od2 od3 od4 od5 od6 od7 od8 od9 od10 an1 an2 an3 an4 an5 an6 an7 an8 an9 an10 : Option Addr} {sl1 sl2 sl3 sl4 sl5 sl6 sl7 sl8 sl9 sl10 : Array (Option Value)} {oc1 oc2 oc3 oc4 oc5 oc6 oc7 oc8 oc9 oc10 kV1 kV2 kV3 kV4 kV5 kV6 kV7 kV8 kV9 kV10 dc1 dc2 dc3 dc4 dc5 dc6 dc7 dc8 dc9 dc10 pm1 pm2 pm3 pm4 pm5 pm6 pm7 pm8 pm9 pm10 ct1 ct2 ct3 ct4 ct5 ct6 ct7 ct8 ct9 ct10 cd1 cd2 cd3 cd4 cd5 cd6 cd7 cd8 cd9 cd10 : Value}
    {C1 C2 N1 N2 : Addr} {nm1 nm2 qn1 qn2 : Str} {bs1 bs2 sub1 sub2 : List Value} {sn1 sn2 : List Str} {ab1 ab2 : Bool} {col1 col2 : Option Bool} {dd1 dd2 : Option Addr} {m0_1 m0_2 m1_1 m1_2 m2_1 m2_2 m3_1 m3_2 m5_1 m5_2 : Option Value}
    {fI2 : Addr} {iod2 ian2 : Option Addr} {isl2 : Array (Option Value)} {ioc2 ikV2 idc2 ipm2 icd2 ict2 : Value}
    (g1 : PySem.W.nsIn K mainGlobals "UnderError" = some (some (.ref C1))) (x1 : K.lookup C1 = some (excClassObj nm1 qn1 C1 N1 bs1 [.type "ValueError", .type "Exception", .type "BaseException", .type "object"] true sn1 sub1 ab1 col1 dd1 m0_1 m1_1 m2_1 m3_1 m5_1 "ValueError.__new__")) (o1 : Un.clB K C1 = true)
    (e1 : PySem.W.excIn K C1 PySem.HandSPX.veTail "ValueError.__new__" = true)
    (g2 : PySem.W.nsIn K mainGlobals "InvalidMade" = some (some (.ref C2))) (x2 : K.lookup C2 = some (excClassObj nm2 qn2 C2 N2 bs2 [.ref C1, .type "ValueError", .type "Exception", .type "BaseException", .type "object"] true sn2 sub2 ab2 col2 dd2 m0_2 m1_2 m2_2 m3_2 m5_2 "ValueError.__new__")) (o2 : Un.clB K C2 = true)
    (n2 : PySem.W.findIn K (.ref C2) "at" = some none) (i2 : PySem.W.findIn K (.ref C2) "__init__" = some (some (.ref fI2))) (t2 : PySem.W.typeIn K (.ref fI2) = some (.type "function"))
    (li2 : K.lookup fI2 = some ⟨ioc2, iod2, .func (PySem.W.fnOf "__init__" "InvalidMade.__init__" (defArgs s_InvalidMade) (defBody s_InvalidMade) (defScope s_InvalidMade) .none ikV2 idc2 ipm2 ian2 icd2 ict2), isl2⟩) (ci2 : PySem.W.codeIn K icd2 "InvalidMade.__init__" = true) (ki2 : PySem.W.keepIn K (.ref fI2) = true)
    (a1 : PySem.W.nsIn K mainGlobals "_wrong_at" = some (some (.ref f1))) (l1 : K.lookup f1 = some ⟨oc1, od1, .func (PySem.W.fnOf "_wrong_at" "_wrong_at" (defArgs s__wrong_at) (defBody s__wrong_at) (defScope s__wrong_at) .none kV1 dc1 pm1 an1 cd1 ct1), sl1⟩) (c1 : PySem.W.codeIn K cd1 "_wrong_at" = true) (k1 : PySem.W.keepIn K (.ref f1) = true)
    (a2 : PySem.W.nsIn K mainGlobals "_text_of" = some (some (.ref f2))) (l2 : K.lookup f2 = some ⟨oc2, od2, .func (PySem.W.fnOf "_text_of" "_text_of" (defArgs s__text_of) (defBody s__text_of) (defScope s__text_of) .none kV2 dc2 pm2 an2 cd2 ct2), sl2⟩) (c2 : PySem.W.codeIn K cd2 "_text_of" = true) (k2 : PySem.W.keepIn K (.ref f2) = true)
    (a3 : PySem.W.nsIn K mainGlobals "filled" = some (some (.ref f3))) (l3 : K.lookup f3 = some ⟨oc3, od3, .func (PySem.W.fnOf "filled" "filled" (defArgs s_filled) (defBody s_filled) (defScope s_filled) .none kV3 dc3 pm3 an3 cd3 ct3), sl3⟩) (c3 : PySem.W.codeIn K cd3 "filled" = true) (k3 : PySem.W.keepIn K (.ref f3) = true)
    (a4 : PySem.W.nsIn K mainGlobals "_law_deal" = some (some (.ref f4))) (l4 : K.lookup f4 = some ⟨oc4, od4, .func (PySem.W.fnOf "_law_deal" "_law_deal" (defArgs s__law_deal) (defBody s__law_deal) (defScope s__law_deal) .none kV4 dc4 pm4 an4 cd4 ct4), sl4⟩) (c4 : PySem.W.codeIn K cd4 "_law_deal" = true) (k4 : PySem.W.keepIn K (.ref f4) = true)
    (a5 : PySem.W.nsIn K mainGlobals "_law_draw" = some (some (.ref f5))) (l5 : K.lookup f5 = some ⟨oc5, od5, .func (PySem.W.fnOf "_law_draw" "_law_draw" (defArgs s__law_draw) (defBody s__law_draw) (defScope s__law_draw) .none kV5 dc5 pm5 an5 cd5 ct5), sl5⟩) (c5 : PySem.W.codeIn K cd5 "_law_draw" = true) (k5 : PySem.W.keepIn K (.ref f5) = true)
    (a6 : PySem.W.nsIn K mainGlobals "_law_pick" = some (some (.ref f6))) (l6 : K.lookup f6 = some ⟨oc6, od6, .func (PySem.W.fnOf "_law_pick" "_law_pick" (defArgs s__law_pick) (defBody s__law_pick) (defScope s__law_pick) .none kV6 dc6 pm6 an6 cd6 ct6), sl6⟩) (c6 : PySem.W.codeIn K cd6 "_law_pick" = true) (k6 : PySem.W.keepIn K (.ref f6) = true)
    (a7 : PySem.W.nsIn K mainGlobals "_law_string" = some (some (.ref f7))) (l7 : K.lookup f7 = some ⟨oc7, od7, .func (PySem.W.fnOf "_law_string" "_law_string" (defArgs s__law_string) (defBody s__law_string) (defScope s__law_string) .none kV7 dc7 pm7 an7 cd7 ct7), sl7⟩) (c7 : PySem.W.codeIn K cd7 "_law_string" = true) (k7 : PySem.W.keepIn K (.ref f7) = true)
    (a8 : PySem.W.nsIn K mainGlobals "_law_refused" = some (some (.ref f8))) (l8 : K.lookup f8 = some ⟨oc8, od8, .func (PySem.W.fnOf "_law_refused" "_law_refused" (defArgs s__law_refused) (defBody s__law_refused) (defScope s__law_refused) .none kV8 dc8 pm8 an8 cd8 ct8), sl8⟩) (c8 : PySem.W.codeIn K cd8 "_law_refused" = true) (k8 : PySem.W.keepIn K (.ref f8) = true)
    (a9 : PySem.W.nsIn K mainGlobals "_law_is_made" = some (some (.ref f9))) (l9 : K.lookup f9 = some ⟨oc9, od9, .func (PySem.W.fnOf "_law_is_made" "_law_is_made" (defArgs s__law_is_made) (defBody s__law_is_made) (defScope s__law_is_made) .none kV9 dc9 pm9 an9 cd9 ct9), sl9⟩) (c9 : PySem.W.codeIn K cd9 "_law_is_made" = true) (k9 : PySem.W.keepIn K (.ref f9) = true)
    (a10 : PySem.W.nsIn K mainGlobals "law" = some (some (.ref f10))) (l10 : K.lookup f10 = some ⟨oc10, od10, .func (PySem.W.fnOf "law" "law" (defArgs s_law) (defBody s_law) (defScope s_law) .none kV10 dc10 pm10 an10 cd10 ct10), sl10⟩) (c10 : PySem.W.codeIn K cd10 "law" = true) (k10 : PySem.W.keepIn K (.ref f10) = true)
    (z1 : PySem.W.nsIn K mainGlobals "ValueError" = some none)
    (z2 : PySem.W.nsIn K mainGlobals "abs" = some none)
    (z3 : PySem.W.nsIn K mainGlobals "enumerate" = some none)
    (z4 : PySem.W.nsIn K mainGlobals "int" = some none)
    (z5 : PySem.W.nsIn K mainGlobals "isinstance" = some none)
    (z6 : PySem.W.nsIn K mainGlobals "len" = some none)
    (z7 : PySem.W.nsIn K mainGlobals "range" = some none)
    (z8 : PySem.W.nsIn K mainGlobals "repr" = some none)
    (z9 : PySem.W.nsIn K mainGlobals "str" = some none)
    {tq1 : Tok} (q1 : PySem.W.nsIn K mainGlobals "CHARACTERS" = some (some (.str "-./0123456789_abcdefghijklmnopqrstuvwxyz" tq1))) (gq1 : GT.Gv tk tk.n (.str "-./0123456789_abcdefghijklmnopqrstuvwxyz" tq1))
    (q2 : PySem.W.nsIn K mainGlobals "MARK" = some (some (.str "@" 236))) (gq2 : GT.Gv tk tk.n (.str "@" 236))
    {tq3 : Tok} (q3 : PySem.W.nsIn K mainGlobals "EMPTY" = some (some (.str "!" tq3))) (gq3 : GT.Gv tk tk.n (.str "!" tq3))
    {OC1 : Addr} (og1 : PySem.W.nsIn K mainGlobals "Made" = some (some (.ref OC1))) (op1 : PySem.W.plainGet K OC1 Str.empty = true) (oh1 : PySem.W.hasDictIn K OC1 = true) (oo1 : PySem.W.plainOver K OC1 = true) (os1 : PySem.W.findIn K (.ref OC1) "__setattr__" = some (some (.builtin "object.__setattr__")))
    (oq1 : PySem.W.noSeq K OC1 = true) (oi1 : Un.insB K OC1 = true) (on1 : PySem.W.findIn K (.ref OC1) "__ne__" = some (some (.builtin "object.__ne__"))) (or1 : PySem.W.mroIn K OC1 (.type "object") = some true) (om1 : PySem.W.makesIn K OC1 = true) (ok1 : PySem.W.keepIn K (.ref OC1) = true)
    (of1_text : PySem.W.findIn K (.ref OC1) "text" = some none)
    (of1_marks : PySem.W.findIn K (.ref OC1) "marks" = some none)
    (of1_letters : PySem.W.findIn K (.ref OC1) "letters" = some none)
    {mf1 : Addr} {mod1 man1 : Option Addr} {msl1 : Array (Option Value)} {moc1 mdc1 mpm1 mcd1 mct1 : Value}
    {mT1 : Addr}
    {mkv1 : Value}
    (ma1 : PySem.W.findIn K (.ref OC1) "__init__" = some (some (.ref mf1))) (mi1 : PySem.W.isFn K (.ref mf1) = true) (mn1 : PySem.W.fnIn K mf1 = true) (ml1 : K.lookup mf1 = some ⟨moc1, mod1, .func (PySem.W.fnOf "__init__" "Made.__init__" (defArgs s_Made___init__) (defBody s_Made___init__) (defScope s_Made___init__) (.ref mT1) mkv1 mdc1 mpm1 man1 mcd1 mct1), msl1⟩) (mc1 : PySem.W.codeIn K mcd1 "Made.__init__" = true) (mk1 : PySem.W.keepIn K (.ref mf1) = true)
    {mts1 : Array (Option Value)} {mtn1 : Nat} {mv1_0 : Tok} (mt1 : K.lookup mT1 = some ⟨.type "tuple", none, .seq #[.str "" mv1_0] mtn1, mts1⟩)
    {mf2 : Addr} {mod2 man2 : Option Addr} {msl2 : Array (Option Value)} {moc2 mdc2 mpm2 mcd2 mct2 : Value}
    {mkv2 : Value}
    (ma2 : PySem.W.findIn K (.ref OC1) "__call__" = some (some (.ref mf2))) (mi2 : PySem.W.isFn K (.ref mf2) = true) (mn2 : PySem.W.fnIn K mf2 = true) (ml2 : K.lookup mf2 = some ⟨moc2, mod2, .func (PySem.W.fnOf "__call__" "Made.__call__" (defArgs s_Made___call__) (defBody s_Made___call__) (defScope s_Made___call__) .none mkv2 mdc2 mpm2 man2 mcd2 mct2), msl2⟩) (mc2 : PySem.W.codeIn K mcd2 "Made.__call__" = true) (mk2 : PySem.W.keepIn K (.ref mf2) = true)
    {mf3 : Addr} {mod3 man3 : Option Addr} {msl3 : Array (Option Value)} {moc3 mdc3 mpm3 mcd3 mct3 : Value}
    {mkv3 : Value}
    (ma3 : PySem.W.findIn K (.ref OC1) "__add__" = some (some (.ref mf3))) (mi3 : PySem.W.isFn K (.ref mf3) = true) (mn3 : PySem.W.fnIn K mf3 = true) (ml3 : K.lookup mf3 = some ⟨moc3, mod3, .func (PySem.W.fnOf "__add__" "Made.__add__" (defArgs s_Made___add__) (defBody s_Made___add__) (defScope s_Made___add__) .none mkv3 mdc3 mpm3 man3 mcd3 mct3), msl3⟩) (mc3 : PySem.W.codeIn K mcd3 "Made.__add__" = true) (mk3 : PySem.W.keepIn K (.ref mf3) = true)
    {mf4 : Addr} {mod4 man4 : Option Addr} {msl4 : Array (Option Value)} {moc4 mdc4 mpm4 mcd4 mct4 : Value}
    {mkv4 : Value}
    (ma4 : PySem.W.findIn K (.ref OC1) "__radd__" = some (some (.ref mf4))) (mi4 : PySem.W.isFn K (.ref mf4) = true) (mn4 : PySem.W.fnIn K mf4 = true) (ml4 : K.lookup mf4 = some ⟨moc4, mod4, .func (PySem.W.fnOf "__radd__" "Made.__radd__" (defArgs s_Made___radd__) (defBody s_Made___radd__) (defScope s_Made___radd__) .none mkv4 mdc4 mpm4 man4 mcd4 mct4), msl4⟩) (mc4 : PySem.W.codeIn K mcd4 "Made.__radd__" = true) (mk4 : PySem.W.keepIn K (.ref mf4) = true)
    {mf5 : Addr} {mod5 man5 : Option Addr} {msl5 : Array (Option Value)} {moc5 mdc5 mpm5 mcd5 mct5 : Value}
    {mkv5 : Value}
    (ma5 : PySem.W.findIn K (.ref OC1) "__mul__" = some (some (.ref mf5))) (mi5 : PySem.W.isFn K (.ref mf5) = true) (mn5 : PySem.W.fnIn K mf5 = true) (ml5 : K.lookup mf5 = some ⟨moc5, mod5, .func (PySem.W.fnOf "__mul__" "Made.__mul__" (defArgs s_Made___mul__) (defBody s_Made___mul__) (defScope s_Made___mul__) .none mkv5 mdc5 mpm5 man5 mcd5 mct5), msl5⟩) (mc5 : PySem.W.codeIn K mcd5 "Made.__mul__" = true) (mk5 : PySem.W.keepIn K (.ref mf5) = true)
    {mf6 : Addr} {mod6 man6 : Option Addr} {msl6 : Array (Option Value)} {moc6 mdc6 mpm6 mcd6 mct6 : Value}
    {mkv6 : Value}
    (ma6 : PySem.W.findIn K (.ref OC1) "__rmul__" = some (some (.ref mf6))) (mi6 : PySem.W.isFn K (.ref mf6) = true) (mn6 : PySem.W.fnIn K mf6 = true) (ml6 : K.lookup mf6 = some ⟨moc6, mod6, .func (PySem.W.fnOf "__rmul__" "Made.__rmul__" (defArgs s_Made___rmul__) (defBody s_Made___rmul__) (defScope s_Made___rmul__) .none mkv6 mdc6 mpm6 man6 mcd6 mct6), msl6⟩) (mc6 : PySem.W.codeIn K mcd6 "Made.__rmul__" = true) (mk6 : PySem.W.keepIn K (.ref mf6) = true)
    {mf7 : Addr} {mod7 man7 : Option Addr} {msl7 : Array (Option Value)} {moc7 mdc7 mpm7 mcd7 mct7 : Value}
    {mkv7 : Value}
    (ma7 : PySem.W.findIn K (.ref OC1) "__eq__" = some (some (.ref mf7))) (mi7 : PySem.W.isFn K (.ref mf7) = true) (mn7 : PySem.W.fnIn K mf7 = true) (ml7 : K.lookup mf7 = some ⟨moc7, mod7, .func (PySem.W.fnOf "__eq__" "Made.__eq__" (defArgs s_Made___eq__) (defBody s_Made___eq__) (defScope s_Made___eq__) .none mkv7 mdc7 mpm7 man7 mcd7 mct7), msl7⟩) (mc7 : PySem.W.codeIn K mcd7 "Made.__eq__" = true) (mk7 : PySem.W.keepIn K (.ref mf7) = true)
    {mf8 : Addr} {mod8 man8 : Option Addr} {msl8 : Array (Option Value)} {moc8 mdc8 mpm8 mcd8 mct8 : Value}
    {mkv8 : Value}
    (ma8 : PySem.W.findIn K (.ref OC1) "__len__" = some (some (.ref mf8))) (mi8 : PySem.W.isFn K (.ref mf8) = true) (mn8 : PySem.W.fnIn K mf8 = true) (ml8 : K.lookup mf8 = some ⟨moc8, mod8, .func (PySem.W.fnOf "__len__" "Made.__len__" (defArgs s_Made___len__) (defBody s_Made___len__) (defScope s_Made___len__) .none mkv8 mdc8 mpm8 man8 mcd8 mct8), msl8⟩) (mc8 : PySem.W.codeIn K mcd8 "Made.__len__" = true) (mk8 : PySem.W.keepIn K (.ref mf8) = true)
    {mf9 : Addr} {mod9 man9 : Option Addr} {msl9 : Array (Option Value)} {moc9 mdc9 mpm9 mcd9 mct9 : Value}
    {mkv9 : Value}
    (ma9 : PySem.W.findIn K (.ref OC1) "__str__" = some (some (.ref mf9))) (mi9 : PySem.W.isFn K (.ref mf9) = true) (mn9 : PySem.W.fnIn K mf9 = true) (ml9 : K.lookup mf9 = some ⟨moc9, mod9, .func (PySem.W.fnOf "__str__" "Made.__str__" (defArgs s_Made___str__) (defBody s_Made___str__) (defScope s_Made___str__) .none mkv9 mdc9 mpm9 man9 mcd9 mct9), msl9⟩) (mc9 : PySem.W.codeIn K mcd9 "Made.__str__" = true) (mk9 : PySem.W.keepIn K (.ref mf9) = true)
    (X_zq : GT.opsQ K OC1 = true)
    (X_x_IM : PySem.W.exmOne K (.ref C2) (.ref C2) = some true)
    (X_k_UE : PySem.W.kitOne K (.ref C2) (.ref C1) = some true)
    (X_k_VE : PySem.W.kitOne K (.ref C2) (.type "ValueError") = some true)
    : ∃ fd : FuncData, (∀ (s : Shared) (v : Value), BindsTo s fd ⟨[v], []⟩ [("_law_script", v)]) ∧ ∀ base : Heap, K.In base → base.Ns mainGlobals mg → GT.FnT GT.clear tk l.prog w K mg base 12 fa fd ["_law_script"] (spLaw K) := by
  have e := hfa.symm.trans (PySem.W.mg_of X G a10)
  cases e
  have F1 := fun_mk (st := s__wrong_at) l1 c1 k1
  have b1 := F1.binds (ps := ["text"]) fun _ _ _ _ _ _ us hl => match us, hl with | [_], _ => rfl
  have F2 := fun_mk (st := s__text_of) l2 c2 k2
  have b2 := F2.binds (ps := ["value"]) fun _ _ _ _ _ _ us hl => match us, hl with | [_], _ => rfl
  have F3 := fun_mk (st := s_filled) l3 c3 k3
  have b3 := F3.binds (ps := ["made", "name"]) fun _ _ _ _ _ _ us hl => match us, hl with | [_, _], _ => rfl
  have F4 := fun_mk (st := s__law_deal) l4 c4 k4
  have b4 := F4.binds (ps := ["_law_script", "_law_base"]) fun _ _ _ _ _ _ us hl => match us, hl with | [_, _], _ => rfl
  have F5 := fun_mk (st := s__law_draw) l5 c5 k5
  have b5 := F5.binds (ps := ["_law_deal_here", "_law_many"]) fun _ _ _ _ _ _ us hl => match us, hl with | [_, _], _ => rfl
  have F6 := fun_mk (st := s__law_pick) l6 c6 k6
  have b6 := F6.binds (ps := ["_law_deal_here", "_law_some"]) fun _ _ _ _ _ _ us hl => match us, hl with | [_, _], _ => rfl
  have F7 := fun_mk (st := s__law_string) l7 c7 k7
  have b7 := F7.binds (ps := ["_law_deal_here", "_law_most"]) fun _ _ _ _ _ _ us hl => match us, hl with | [_, _], _ => rfl
  have F8 := fun_mk (st := s__law_refused) l8 c8 k8
  have b8 := F8.binds (ps := ["_law_one", "_law_value", "_law_form"]) fun _ _ _ _ _ _ us hl => match us, hl with | [_, _, _], _ => rfl
  have F9 := fun_mk (st := s__law_is_made) l9 c9 k9
  have b9 := F9.binds (ps := ["_law_made", "_law_text", "_law_name"]) fun _ _ _ _ _ _ us hl => match us, hl with | [_, _, _], _ => rfl
  have F10 := fun_mk (st := s_law) l10 c10 k10
  have b10 := F10.binds (ps := ["_law_script"]) fun _ _ _ _ _ _ us hl => match us, hl with | [_], _ => rfl
  have oc1 : ca mg "Made" = OC1 := ca_of (PySem.W.mg_of X G og1)
  have RO1_10 : mg "Made" = some (.ref (ca mg "Made")) := by rw [oc1]; exact PySem.W.mg_of X G og1
  have RO1_11 : Cls K (ca mg "Made") := by rw [oc1]; exact ⟨op1, oh1, oo1, os1⟩
  have RO1_12 : PySem.W.noSeq K (ca mg "Made") = true := by rw [oc1]; exact oq1
  have RO1_13 : InsK K (ca mg "Made") := by rw [oc1]; exact insB_ok oi1
  have RO1_14 : NeK K (ca mg "Made") := by rw [oc1]; exact ⟨on1, or1⟩
  have RO1_15 : NoAttr K (ca mg "Made") "text" := by rw [oc1]; exact of1_text
  have RO1_16 : NoAttr K (ca mg "Made") "marks" := by rw [oc1]; exact of1_marks
  have RO1_17 : NoAttr K (ca mg "Made") "letters" := by rw [oc1]; exact of1_letters
  have RO1_18 : GT.AtI1 K (ca mg "Made") "__init__" "Made.__init__" s_Made___init__ [V.str (tx [])] := by rw [oc1]; exact ⟨mf1, _, ⟨⟨_, _, _, _, _, _, _, _, _, _, rfl, ml1, mc1, .inr ⟨by simp, mT1, _, [.str "" mv1_0], mtn1, rfl, mt1, rfl, (.cons ⟨_, rfl⟩ .nil)⟩, .inl rfl⟩, mk1⟩, ⟨om1, ma1, mi1, ok1⟩⟩
  have RO1_19 : AtM K (ca mg "Made") "__call__" "Made.__call__" s_Made___call__ ["self", "name"] := by rw [oc1]; exact ⟨mf2, _, (fun_mk (st := s_Made___call__) ml2 mc2 mk2), ⟨ma2, mi2, mk2⟩, mn2, (fun_mk (st := s_Made___call__) ml2 mc2 mk2).binds (ps := ["self", "name"]) fun _ _ _ _ _ _ us hl => match us, hl with | [_, _], _ => rfl⟩
  have RO1_20 : AtM K (ca mg "Made") "__add__" "Made.__add__" s_Made___add__ ["self", "other"] := by rw [oc1]; exact ⟨mf3, _, (fun_mk (st := s_Made___add__) ml3 mc3 mk3), ⟨ma3, mi3, mk3⟩, mn3, (fun_mk (st := s_Made___add__) ml3 mc3 mk3).binds (ps := ["self", "other"]) fun _ _ _ _ _ _ us hl => match us, hl with | [_, _], _ => rfl⟩
  have RO1_21 : AtM K (ca mg "Made") "__radd__" "Made.__radd__" s_Made___radd__ ["self", "other"] := by rw [oc1]; exact ⟨mf4, _, (fun_mk (st := s_Made___radd__) ml4 mc4 mk4), ⟨ma4, mi4, mk4⟩, mn4, (fun_mk (st := s_Made___radd__) ml4 mc4 mk4).binds (ps := ["self", "other"]) fun _ _ _ _ _ _ us hl => match us, hl with | [_, _], _ => rfl⟩
  have RO1_22 : AtM K (ca mg "Made") "__mul__" "Made.__mul__" s_Made___mul__ ["self", "other"] := by rw [oc1]; exact ⟨mf5, _, (fun_mk (st := s_Made___mul__) ml5 mc5 mk5), ⟨ma5, mi5, mk5⟩, mn5, (fun_mk (st := s_Made___mul__) ml5 mc5 mk5).binds (ps := ["self", "other"]) fun _ _ _ _ _ _ us hl => match us, hl with | [_, _], _ => rfl⟩
  have RO1_23 : AtM K (ca mg "Made") "__rmul__" "Made.__rmul__" s_Made___rmul__ ["self", "other"] := by rw [oc1]; exact ⟨mf6, _, (fun_mk (st := s_Made___rmul__) ml6 mc6 mk6), ⟨ma6, mi6, mk6⟩, mn6, (fun_mk (st := s_Made___rmul__) ml6 mc6 mk6).binds (ps := ["self", "other"]) fun _ _ _ _ _ _ us hl => match us, hl with | [_, _], _ => rfl⟩
  have RO1_24 : AtM K (ca mg "Made") "__eq__" "Made.__eq__" s_Made___eq__ ["self", "other"] := by rw [oc1]; exact ⟨mf7, _, (fun_mk (st := s_Made___eq__) ml7 mc7 mk7), ⟨ma7, mi7, mk7⟩, mn7, (fun_mk (st := s_Made___eq__) ml7 mc7 mk7).binds (ps := ["self", "other"]) fun _ _ _ _ _ _ us hl => match us, hl with | [_, _], _ => rfl⟩
  have RO1_25 : AtM K (ca mg "Made") "__len__" "Made.__len__" s_Made___len__ ["self"] := by rw [oc1]; exact ⟨mf8, _, (fun_mk (st := s_Made___len__) ml8 mc8 mk8), ⟨ma8, mi8, mk8⟩, mn8, (fun_mk (st := s_Made___len__) ml8 mc8 mk8).binds (ps := ["self"]) fun _ _ _ _ _ _ us hl => match us, hl with | [_], _ => rfl⟩
  have RO1_26 : AtM K (ca mg "Made") "__str__" "Made.__str__" s_Made___str__ ["self"] := by rw [oc1]; exact ⟨mf9, _, (fun_mk (st := s_Made___str__) ml9 mc9 mk9), ⟨ma9, mi9, mk9⟩, mn9, (fun_mk (st := s_Made___str__) ml9 mc9 mk9).binds (ps := ["self"]) fun _ _ _ _ _ _ us hl => match us, hl with | [_], _ => rfl⟩
  have ox1 : OxC K C1 := Un.oxc_ve x1 o1
  have cc1 : ca mg "UnderError" = C1 := ca_of (PySem.W.mg_of X G g1)
  have E1 : Err0 K mg "UnderError" (ca mg "UnderError") := by rw [cc1]; exact ⟨PySem.W.mg_of X G g1, ox1, e1⟩
  have ox2 : OxC K C2 := Un.oxc_vs x2 o2
  have cc2 : ca mg "InvalidMade" = C2 := ca_of (PySem.W.mg_of X G g2)
  have FI2 := fun_mk (st := s_InvalidMade) li2 ci2 ki2
  have bI2 := FI2.binds (ps := ["self", "at"]) fun _ _ _ _ _ _ us hl => match us, hl with | [_, _], _ => rfl
  have E2 : ErrI K mg "InvalidMade" "InvalidMade.__init__" "at" s_InvalidMade (ca mg "InvalidMade") := by rw [cc2]; exact ⟨PySem.W.mg_of X G g2, ox2, n2, _, _, i2, t2, FI2, bI2⟩
  have T : Txt K mg := ⟨⟨_, _, F1, PySem.W.mg_of X G a1, b1⟩, ⟨_, _, F2, PySem.W.mg_of X G a2, b2⟩, ⟨_, _, F3, PySem.W.mg_of X G a3, b3⟩, ⟨_, _, F4, PySem.W.mg_of X G a4, b4⟩, ⟨_, _, F5, PySem.W.mg_of X G a5, b5⟩, ⟨_, _, F6, PySem.W.mg_of X G a6, b6⟩, ⟨_, _, F7, PySem.W.mg_of X G a7, b7⟩, ⟨_, _, F8, PySem.W.mg_of X G a8, b8⟩, ⟨_, _, F9, PySem.W.mg_of X G a9, b9⟩, ⟨_, _, F10, PySem.W.mg_of X G a10, b10⟩, RO1_10, RO1_11, RO1_12, RO1_13, RO1_14, RO1_15, RO1_16, RO1_17, RO1_18, RO1_19, RO1_20, RO1_21, RO1_22, RO1_23, RO1_24, RO1_25, RO1_26, E1, E2, PySem.W.mg_none_of X G z1, PySem.W.mg_none_of X G z2, PySem.W.mg_none_of X G z3, PySem.W.mg_none_of X G z4, PySem.W.mg_none_of X G z5, PySem.W.mg_none_of X G z6, PySem.W.mg_none_of X G z7, PySem.W.mg_none_of X G z8, PySem.W.mg_none_of X G z9, ⟨_, PySem.W.mg_of X G q1, gq1⟩, ⟨_, PySem.W.mg_of X G q2, gq2⟩, ⟨PySem.W.mg_of X G q2, gq2⟩, ⟨_, PySem.W.mg_of X G q3, gq3⟩⟩
  have Z : Xt K mg := ⟨(by rw [oc1]; exact X_zq), (by rw [cc2]; exact X_x_IM), (by rw [cc2, cc1]; exact X_k_UE), (by rw [cc2]; exact X_k_VE)⟩
  exact ⟨PySem.W.fnOf "law" "law" (defArgs s_law) (defBody s_law) (defScope s_law) .none kV10 dc10 pm10 an10 cd10 ct10, fun s v => .of_eq rfl, fun base _ _ => ok_law T Z F10⟩
end Zk10
open PySem PySem.W PyProof.Rows
set_option maxRecDepth 100000 in
set_option maxHeartbeats 0 in
theorem PySem.Challenge.cw_undername_k10_made_texts_holds : PySem.Challenge.rw_undername_k10_made_texts.Holds := by
  w_on; o_law; z_head; (case hw => w_witness2)
  k_fill
  refine GT.walkT (l := PySem.Challenge.rw_undername_k10_made_texts) (n := 63) (k := 12) (T := Zk10.tk) (x := "_law_script") (sp := fun w => Zk10.spLaw _) rfl (by decide) rfl ⟨rfl, by decide, by decide⟩ ?hK (by decide) ?kg ?F (fun _ _ a ns hl _ hS => ⟨a, ns, rfl, hS, hl, fun _ => rfl⟩)
  case hK => intro P; kernel_rfl
  case kg => intro P; kernel_rfl
  case F =>
    intro w mg fa h KX G hmg
    refine' Zk10.all_mk KX G hmg ?g1 ?x1 ?o1 ?e1 ?g2 ?x2 ?o2 ?n2 ?i2 ?t2 ?li2 ?ci2 ?ki2 ?a1 ?l1 ?c1 ?k1 ?a2 ?l2 ?c2 ?k2 ?a3 ?l3 ?c3 ?k3 ?a4 ?l4 ?c4 ?k4 ?a5 ?l5 ?c5 ?k5 ?a6 ?l6 ?c6 ?k6 ?a7 ?l7 ?c7 ?k7 ?a8 ?l8 ?c8 ?k8 ?a9 ?l9 ?c9 ?k9 ?a10 ?l10 ?c10 ?k10 ?z1 ?z2 ?z3 ?z4 ?z5 ?z6 ?z7 ?z8 ?z9 ?q1 ?gq1 ?q2 ?gq2 ?q3 ?gq3 ?og1 ?op1 ?oh1 ?oo1 ?os1 ?oq1 ?oi1 ?on1 ?or1 ?om1 ?ok1 ?of1_text ?of1_marks ?of1_letters ?ma1 ?mi1 ?mn1 ?ml1 ?mc1 ?mk1 ?mt1 ?ma2 ?mi2 ?mn2 ?ml2 ?mc2 ?mk2 ?ma3 ?mi3 ?mn3 ?ml3 ?mc3 ?mk3 ?ma4 ?mi4 ?mn4 ?ml4 ?mc4 ?mk4 ?ma5 ?mi5 ?mn5 ?ml5 ?mc5 ?mk5 ?ma6 ?mi6 ?mn6 ?ml6 ?mc6 ?mk6 ?ma7 ?mi7 ?mn7 ?ml7 ?mc7 ?mk7 ?ma8 ?mi8 ?mn8 ?ml8 ?mc8 ?mk8 ?ma9 ?mi9 ?mn9 ?ml9 ?mc9 ?mk9 ?X_zq ?X_x_IM ?X_k_UE ?X_k_VE
    (case g1 => k_is); (case x1 => k_is); (case o1 => kernel_rfl); (case e1 => kernel_rfl); (case g2 => k_is); (case x2 => k_is); (case o2 => kernel_rfl); (case n2 => k_is)
    (case i2 => k_is); (case t2 => k_is); (case li2 => k_is); (case ci2 => k_is); (case ki2 => k_is); (case a1 => k_is); (case l1 => k_is); (case c1 => k_is)
    (case k1 => k_is); (case a2 => k_is); (case l2 => k_is); (case c2 => k_is); (case k2 => k_is); (case a3 => k_is); (case l3 => k_is); (case c3 => k_is)
    (case k3 => k_is); (case a4 => k_is); (case l4 => k_is); (case c4 => k_is); (case k4 => k_is); (case a5 => k_is); (case l5 => k_is); (case c5 => k_is)
    (case k5 => k_is); (case a6 => k_is); (case l6 => k_is); (case c6 => k_is); (case k6 => k_is); (case a7 => k_is); (case l7 => k_is); (case c7 => k_is)
    (case k7 => k_is); (case a8 => k_is); (case l8 => k_is); (case c8 => k_is); (case k8 => k_is); (case a9 => k_is); (case l9 => k_is); (case c9 => k_is)
    (case k9 => k_is); (case a10 => k_is); (case l10 => k_is); (case c10 => k_is); (case k10 => k_is); (case z1 => k_is); (case z2 => k_is); (case z3 => k_is)
    (case z4 => k_is); (case z5 => k_is); (case z6 => k_is); (case z7 => k_is); (case z8 => k_is); (case z9 => k_is); (case q1 => k_is); (case gq1 => exact GT.gvB_ok (by decide))
    (case q2 => k_is); (case gq2 => exact GT.gvB_ok (by decide)); (case q3 => k_is); (case gq3 => exact GT.gvB_ok (by decide)); (case og1 => k_is); (case op1 => k_is); (case oh1 => k_is); (case oo1 => k_is)
    (case os1 => k_is); (case oq1 => kernel_rfl); (case oi1 => kernel_rfl); (case on1 => k_is); (case or1 => k_is); (case om1 => k_is); (case ok1 => k_is); (case of1_text => k_is)
    (case of1_marks => k_is); (case of1_letters => k_is); (case ma1 => k_is); (case mi1 => k_is); (case mn1 => k_is); (case ml1 => k_is); (case mc1 => k_is); (case mk1 => k_is)
    (case mt1 => k_is); (case ma2 => k_is); (case mi2 => k_is); (case mn2 => k_is); (case ml2 => k_is); (case mc2 => k_is); (case mk2 => k_is); (case ma3 => k_is)
    (case mi3 => k_is); (case mn3 => k_is); (case ml3 => k_is); (case mc3 => k_is); (case mk3 => k_is); (case ma4 => k_is); (case mi4 => k_is); (case mn4 => k_is)
    (case ml4 => k_is); (case mc4 => k_is); (case mk4 => k_is); (case ma5 => k_is); (case mi5 => k_is); (case mn5 => k_is); (case ml5 => k_is); (case mc5 => k_is)
    (case mk5 => k_is); (case ma6 => k_is); (case mi6 => k_is); (case mn6 => k_is); (case ml6 => k_is); (case mc6 => k_is); (case mk6 => k_is); (case ma7 => k_is)
    (case mi7 => k_is); (case mn7 => k_is); (case ml7 => k_is); (case mc7 => k_is); (case mk7 => k_is); (case ma8 => k_is); (case mi8 => k_is); (case mn8 => k_is)
    (case ml8 => k_is); (case mc8 => k_is); (case mk8 => k_is); (case ma9 => k_is); (case mi9 => k_is); (case mn9 => k_is); (case ml9 => k_is); (case mc9 => k_is)
    (case mk9 => k_is); (case X_zq => kernel_rfl); (case X_x_IM => kernel_rfl); (case X_k_UE => kernel_rfl); (case X_k_VE => kernel_rfl)
