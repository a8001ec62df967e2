import PyProof.Rows.All
import Wide.All
import OpenK.AllK
import Wide.FinOn
import PyProof.EqAt
import PyProof.EqKinds
import PyProof.TupleCall
import PyProof.DictTable
import HandS.Base
import HandS.Call
import HandS.List
import HandS.Ends
import HandS.Dict
import HandS.More
import HandS.Exc
import HandS.ExcOwn
import HandS.ExcValue
import HandS.ExcIs
import HandS.ExcField
import HandS.ExcInit
import HandS.IsInst
import HandS.ForMost
import HandS.ForExc
import HandS.Style
import HandS.Flow
import HandS.Evl
import HandS.RaiseMore
import HandS.StrMore
import HandS.Replace
import HandS.WideBits
import HandS.TupAny
import PyProof.ListStr
import PyProof.StrBlock2
import KE.GoesZip
import KE.GoesMore
import HandS.Zip
import PyProof.ReprRoads
import HandS.EndBits
import HandS.WordsExc
import HandS.TryOnly
import PyProof.NeKinds
import HandS.OwnEq
import HandS.TryMany
import HandS.Defaults
import PyProof.Rows.SortShellAny
import HandS.ListItems
import HandS.Walk
import HandS.MakeKwOnly
import HandS.DictComp
import KE.KExcInit
import PyProof.ReprLen
import HandS.Conv
import PyProof.InstNe
import KE.KLam
import KE.KNestM
import HandS.Lambda
import HandS.EndTab
import PyProof.SliceStr2
import PyProof.SliceStr
import HandS.ClsMeth
import HandS.Text
import PyProof.Rows.Range3
import HandS.SetBool
import HandS.HotCalls
import HandS.Iter
import HandS.Comp
import HandS.Finally
import HandS.ExcCtx
import KE.KWithOwn
import HandS.SuiteRaise
import HandS.Words
import HandS.Nested
import KE.KItemsList
import PyProof.Rows.IntOr
import HandS.ExcInitHot
import PySem.Challenge.RW_undername_k48_whole_trials_of_stores
set_option Elab.async false
set_option linter.all false
set_option maxRecDepth 100000
set_option maxHeartbeats 4000000
/-! UnX: own exceptions as values (over any base), made with and without an own __init__, their fields read, isinstance of them. -/
namespace PySem
namespace OXX
open PySem.W PySem.Calls PyProof.Rows PySem.HandSPX
open Builtin Builtin.ObjectAttr
section
variable {M : Model} {A : Around} {E : Value → Shared → Prop} {h : Heap} {g : Array GenState} {d : Drawn} {t : Nat} {os : OsState}
variable {nm q : Str} {C N : Addr} {bs bm bmB : List Value} {hdct : Bool} {sn : List Str} {sub : List Value} {ab : Bool} {col : Option Bool} {dd : Option Addr} {k0 k1 k2 k3 k5 : Option Value} {B newId initId : String}
/-- what the classes behind an own class must hold -/
structure Beh (B : String) (bm : List Value) : Prop where
  b : bm.contains (.type B) = true
  na : bm.contains (.type "AttributeError") = false
  nn : bm.contains (.type "NameError") = false
  ob : bm.contains (.type "object") = true
theorem check_new_x (F : ExcBaseFacts B newId initId bmB) (hT : Beh B bm) {rest : List Value} {Q : Unit → Shared → Prop}
    (hC : h.get? C = some (excClassObj nm q C N bs bm hdct sn sub ab col dd k0 k1 k2 k3 k5 newId)) (hq : Q () ⟨h, g, d, t, os⟩) : wpAny M A (checkBuiltinCall newId ⟨.ref C :: rest, []⟩) Q E ⟨h, g, d, t, os⟩ := by
  have hcont : (Value.ref C :: bm).contains (.type B) = true := by rw [List.contains_cons, hT.b, Bool.or_true]
  have hstar := F.noStar
  simp only [checkBuiltinCall, F.newKind, F.newSplit, F.newRow]
  repeat (first | refine wpAny_loadPart_at hC ?_ | (refine wpAny_isSubtype_exc hC ?_; rw [hcont]) | refine wpAny_staticBase_exc hC ?_ | refine wpAny_madeBy_exc hC ?_ | simp only [bne_self_eq_false, Bool.false_eq_true, if_false] | wp_step)
  exact hq
end
section
variable {prog : Program} {w : World} {A : Around} {E : Value → Shared → Prop} {R : Result → Shared → Prop} {h : Heap} {g : Array GenState} {d : Drawn} {t : Nat} {os : OsState}
variable {nm q : Str} {C N : Addr} {bs bm bmB : List Value} {hdct : Bool} {sn : List Str} {sub : List Value} {ab : Bool} {col : Option Bool} {dd : Option Addr} {k0 k1 k2 k3 k5 : Option Value} {B newId initId : String}
theorem new_x (F : ExcBaseFacts B newId initId bmB) (hT : Beh B bm) {rest : List Value}
    (hC : h.get? C = some (excClassObj nm q C N bs bm hdct sn sub ab col dd k0 k1 k2 k3 k5 newId))
    (hq : R (.ok (.ret (.ref (h.objs.size + 1)))) ⟨(h.push { cls := .type "tuple", data := .seq rest.toArray }).push
      { cls := .ref C, data := .fields #[.ref h.objs.size, .none, .none, .none, .bool false, .none] }, g, d, t, os⟩) (hrest : rest.length ≤ sizeLine) :
    codeAny (model prog w) A (.builtin newId ⟨.ref C :: rest, []⟩) R ⟨h, g, d, t, os⟩ := by
  have hends := F.ends
  have hcB : (Value.ref C :: bm).contains (.type B) = true := by rw [List.contains_cons, hT.b, Bool.or_true]
  have hcA : (Value.ref C :: bm).contains (.type "AttributeError") = false := by rw [List.contains_cons, hT.na]; rfl
  have hcN : (Value.ref C :: bm).contains (.type "NameError") = false := by rw [List.contains_cons, hT.nn]; rfl
  refine codeAny_builtinAt F.entry ?_
  unfold Builtin.«BaseException.__new__»
  refine wpAt_bind ?_
  show wpAt _ _ _ (stack >>= _) _ _ _
  refine wpAt_bind (wpAt_stack fun p below => wpAt_of_wpAny ?_)
  wp_walk
  refine wpAt_of_wpAny ?_
  rw [F.owner]
  repeat (first | with_reducible refine wpAny_madeHere_exc F.canon hC ?_ | with_reducible refine wpAny_loadPart_at hC ?_ | (with_reducible refine wpAny_isSubtype_exc hC ?_; first | rw [hcB] | rw [hcA] | rw [hcN]) | wp_step)
  show R _ _
  rw [Heap.size_push]
  exact hq
theorem type_call_x (F : ExcBaseFacts B newId initId bmB) (hT : Beh B bm) {rest : List Value} {fI : Addr} {Q : Fin → Shared → Prop}
    (hC : h.get? C = some (excClassObj nm q C N bs bm hdct sn sub ab col dd k0 k1 k2 k3 k5 newId))
    (hi : W.Looks (model prog w) h (typeLookup (.ref C) "__init__") (some (.ref fI))) (hb : ∀ self, W.Looks (model prog w) h (bindSpecial (.ref fI) self) (.ref fI, [self])) (hrest : rest.length ≤ sizeLine)
    (hq : codeAny (model prog w) A (.call (.ref fI) ⟨.ref (h.objs.size + 1) :: rest, []⟩)
      (fun r s' => match r with | .ok (.ret v) => v = .none ∧ Q (.done (.ret (.ref (h.objs.size + 1)))) s' | .ok _ => False | .error e => E e s')
      ⟨(h.push (W.kdv_tup rest)).push (excO C h.objs.size), g, d, t, os⟩) :
    wpAny (model prog w) A (Builtin.«type.__call__» ⟨.ref C :: rest, []⟩) Q E ⟨h, g, d, t, os⟩ := by
  repeat (first | with_reducible refine wpAny_loadPart_at hC ?_ | with_reducible refine wpAny_madeBy_exc hC ?_ | wp_step)
  refine codeAny_call_builtin_code (Code.quiet_builtin _ F.quiet) (check_new_x F hT hC ?_)
  refine new_x F hT hC ?_ hrest
  show wpAny _ _ _ _ _ _
  have k : ∀ b o, h.get? b = some o → ((h.push (W.kdv_tup rest)).push (excO C h.objs.size)).get? b = some o := fun b o e => Heap.get?_push_of_some _ (Heap.get?_push_of_some _ e)
  have hC₁ := k _ _ hC
  have hget : ((h.push (W.kdv_tup rest)).push (excO C h.objs.size)).get? (h.objs.size + 1) = some (excO C h.objs.size) := by heap_get
  have hcC : (Value.ref C :: bm).contains (.ref C) = true := by simp
  have i1 := hi.keeps k
  have b1 := (hb (.ref (h.objs.size + 1))).keeps k
  unfold isInstance
  repeat (first | with_reducible refine wpAny_loadPart_at hget ?_ | (with_reducible refine wpAny_isSubtype_exc hC₁ ?_; rw [hcC]) | wp_step)
  show wpAny _ _ (typeLookup (.ref C) _) _ _ _
  refine i1.at ?_
  refine wpAny_holding (wpAny_bind (b1.at ?_))
  refine wpAny_bind (wpAny_call (codeAny_mono hq fun r s' z => ?_))
  rcases r with e | (v | _ | _ | _) <;> first | exact z | exact z.elim | skip
  obtain ⟨rfl, z⟩ := z
  first
    | exact wpAny_pure (wpAny_pure z)
    | (wp_walk; exact z)
theorem call_x (F : ExcBaseFacts B newId initId bmB) (hT : Beh B bm) {rest : List Value} {fI : Addr}
    (hC : h.get? C = some (excClassObj nm q C N bs bm hdct sn sub ab col dd k0 k1 k2 k3 k5 newId))
    (hi : W.Looks (model prog w) h (typeLookup (.ref C) "__init__") (some (.ref fI))) (hb : ∀ self, W.Looks (model prog w) h (bindSpecial (.ref fI) self) (.ref fI, [self])) (hrest : rest.length ≤ sizeLine)
    (hq : codeAny (model prog w) (A.under (.builtin "type.__call__" ⟨.ref C :: rest, []⟩)) (.call (.ref fI) ⟨.ref (h.objs.size + 1) :: rest, []⟩) (W.InitBack (h.objs.size + 1) R)
      ⟨(h.push (W.kdv_tup rest)).push (excO C h.objs.size), g, d, t, os⟩) :
    codeAny (model prog w) A (.call (.ref C) ⟨rest, []⟩) R ⟨h, g, d, t, os⟩ := by
  have f1 := tc_lookup
  have f2 := tc_bind (.ref C)
  have hTy : (⟨h, g, d, t, os⟩ : Shared).TypeIs (.ref C) "type" := ⟨_, hC, rfl⟩
  refine codeAny_of_tree ?_
  show wpAny _ _ (callAny (.ref C) _) _ _ _
  repeat (any_goals (first | assumption | with_reducible refine wpAny_loadPart_at hC ?_ | wp_step))
  refine ⟨rfl, ?_⟩
  refine codeAny_call_builtin_at (Code.quiet_builtin _ (by decide +kernel)) entry_typeCall (wpAny_check_type_call_sub hC (type_call_x F hT hC hi hb hrest ?_))
  refine codeAny_mono hq fun r s' z => ?_
  rcases r with e | (v | _ | _ | _) <;> exact z
end
section
variable {prog : Program} {w : World} {A : Around} {R : Result → Shared → Prop} {hp : Heap} {g : Array GenState} {d : Drawn} {t : Nat} {os : OsState}
theorem osa_x {K : W.Frag} {name : Str} {tk : Tok} {v : Value} {x C : Addr} {fv : Array Value} {cd : ClassData}
    (X : K.In hp) (hx : hp.get? x = some { cls := .ref C, data := .fields fv }) (hcd : W.clsIn K C = some cd) (hne : cd.mro.isEmpty = false) (hob : cd.mro.contains (.type "object") = true) (hps : refuseLoop (.ref x) "__setattr__" cd.mro = pure ()) (hh : cd.hasDict = true) (ha : W.findIn K (.ref C) name = some none)
    (hq : ∀ h' tk' dx, (∀ b o, b ≠ x → hp.get? b = some o → h'.get? b = some o) → hp.objs.size ≤ dx → dx ≠ x → h'.get? x = some { cls := .ref C, dict := some dx, data := .fields fv } →
      h'.Ns1 dx (fun y => if y = name then some v else none) → R (.ok (.ret .none)) ⟨h', g, d, tk', os⟩) :
    codeAny (model prog w) A (.call (.builtin "object.__setattr__") ⟨[.ref x, .str name tk, v], []⟩) R ⟨hp, g, d, t, os⟩ := by
  have I : W.InstAt hp x { cls := .ref C, data := .fields fv } C none := ⟨hx, rfl, rfl, trivial⟩
  have SF := F.store_object
  have hxs : x ≠ hp.objs.size := Nat.ne_of_lt (Heap.lt_size hx)
  have sub : W.Looks (model prog w) hp (isInstance (.ref x) (.type "object")) true := I.type.andThen (W.looks_mroIn X (by unfold W.mroIn; rw [hcd, Option.bind_some, if_neg (by rw [hne]; decide), hob]))
  refine codeAny_call_builtin SF.slot.plain SF.entry (@W.check_slot (model prog w) _ _ ⟨hp, g, d, t, os⟩ "object.__setattr__" "object" "__setattr__" (.ref x) [.str name tk, v] [] _ SF.kind SF.split sub (SF.args (.ref x) (.str name tk) v) ?_)
  have hmr : W.Looks (model prog w) hp (mroOf (.ref C)) cd.mro := (W.looks_clsIn X hcd).andThen .now
  have L3 : W.Looks (model prog w) hp (storeTaker? none) none := .now
  have hcls : W.Looks (model prog w) hp (classData C) cd := W.looks_clsIn X hcd
  rw [W.osa_eq, refuse_eq]
  refine wpAny_bind (wpAny_bind (I.type.at (wpAny_bind (hmr.at ?_))))
  rw [hps]
  refine wpAny_pure (wpAny_bind (I.type.at (wpAny_bind ((W.looks_findIn X ha).at (wpAny_bind (L3.at ?_))))))
  show wpAny _ _ (storeInOwnDict (.ref x) (.ref C) (.str name tk) name v false) _ _ _
  obtain ⟨nm, bs, mro, ns, qn, hd, sn, sb, ab, col, del⟩ := cd
  dsimp only at hh
  subst hh
  unfold storeInOwnDict ownDictForStores
  repeat (first | with_reducible refine store_in_new ?_ ?_ | with_reducible refine wpAny_loadPart_at hx ?_ | with_reducible refine hcls.at ?_ | wp_step)
  · exact ⟨_, #[], _, (Heap.get?_update_ne _ _ _ _ hxs.symm).trans (Heap.get?_push_at rfl rfl), rfl, fun e he => absurd he (by simp), fun _ => rfl⟩
  · intro h' tk' hn' hs
    have hx₁ : (hp.push { cls := .type "dict", data := .dict #[] }).get? x = some { cls := .ref C, data := .fields fv } := Heap.get?_push_of_some _ hx
    refine hq h' tk' hp.objs.size (fun b o hb ho => ?_) (Nat.le_refl _) hxs.symm ?_ hn'
    · exact (hs.2 b (Nat.ne_of_lt (Heap.lt_size ho))).trans ((Heap.get?_update_ne _ _ _ _ hb).trans (Heap.get?_push_of_some _ ho))
    · exact (hs.2 x hxs).trans (Heap.get?_update_self _ hx₁ rfl)
end
end OXX
end PySem
namespace PySem.W
open PySem PySem.Spec PySem.Calls PyProof.Rows
section
variable {prog : Program} {w : World} {A : Around} {E : Value → Shared → Prop} {s : Shared} {K : Frag} {x D : Addr} {ox : Obj} {od : Option Obj}
theorem findObj_dataD {C : Addr} {name : Str} {a g : Value} (hc : (clsIn K C).isSome = true) (ha : findIn K (.ref C) name = some (some a)) (hg : specialIn K a "__get__" = some (some g)) (ht : takesIn K a = some true) : findObj K C od name = some (.bind g a) := by
  obtain ⟨cd, hc⟩ := Option.isSome_iff_exists.mp hc
  unfold findObj
  rw [hc, Option.bind_some, ha, Option.bind_some]
  simp [hg, ht]
theorem kin_classD {Q : Option Value → Shared → Prop} (hga : findIn K (.ref D) "__getattribute__" = some (some (.builtin "BaseException.__getattribute__"))) (hgt : findIn K (.ref D) "__getattr__" = some none) (hsub : subIn K (.ref D) (.type "BaseException") = some true)
    (hdct : hasDictIn K D = true) (ha : findIn K (.ref D) "__class__" = some (some (.builtin "object.__class__")))
    (hn : specialIn K (.builtin "object.__class__") "__get__" = some (some (.builtin "getset_descriptor.__get__"))) (htk : takesIn K (.builtin "object.__class__") = some true) (hm : mroIn K D (.type "object") = some true)
    (X : K.In s.heap) (I : InstAt s.heap x ox D od) (h : Q (some (.ref D)) { s with toks := s.toks + 1 }) : wpAny (model prog w) A (getAttr? (.ref x) "__class__") Q E s := by
  have hf : findObj K D od "__class__" = some (.bind (.builtin "getset_descriptor.__get__") (.builtin "object.__class__")) := findObj_dataD (by obtain ⟨cd, hc, _⟩ := any_some hdct; rw [hc]; rfl) ha hn htk
  obtain ⟨hp, g, d, t, os⟩ := s
  have L0 := I.type (M := model prog w)
  have L1 := looks_findIn (M := model prog w) X hga
  have L2 := looks_findIn (M := model prog w) X hgt
  have L3 := looks_find (M := model prog w) X I hf
  have sub : Looks (model prog w) hp (isInstance (.ref x) (.type "BaseException")) true := L0.andThen (looks_subIn X hsub)
  have hx0 : (false && onTheHeap (Value.builtin "BaseException.__getattribute__")) = false := rfl
  have hx2 : (Value.builtin "BaseException.__getattribute__" == Value.builtin "object.__getattribute__") = false := by decide +kernel
  have hx1 : (onTheHeap (Value.ref D) && Value.builtin "BaseException.__getattribute__" == Value.builtin "object.__getattribute__") = false := by rw [hx2]; rfl
  unfold getAttr? getAttrBy? getAttrBy
  refine wpAny_bind (wpAny_mkText (wpAny_bind (wpAny_attempt (wpAny_holding (wpAny_bind (L0.at (wpAny_bind (L1.at ?_))))))))
  show wpAny _ _ (if (onTheHeap (Value.ref D) && Value.builtin "BaseException.__getattribute__" == Value.builtin "object.__getattribute__") = true then _ else _) _ _ _
  rw [hx1, if_neg Bool.false_ne_true]
  unfold getAttrByItsOwn hookBefore
  refine wpAny_bind ?_
  rw [if_pos (show onTheHeap (Value.ref D) = true from rfl)]
  refine L2.at ?_
  refine wpAny_bind (wpAny_attempt (wpAny_holding ?_))
  unfold callGetattribute
  rw [hx0, if_neg Bool.false_ne_true]
  unfold boundAndCalled
  rw [PySem.F.excAttr_ValueError.ga.bind (.ref x)]
  refine wpAny_bind (wpAny_pure ?_)
  show wpAny _ _ (call (.builtin "BaseException.__getattribute__") [.ref x, .str "__class__" t]) _ _ _
  refine wpAny_call (codeAny_call_builtin PySem.F.excAttr_ValueError.ga.plain PySem.F.entry_bexc_ga ?_)
  refine @check_slot (model prog w) _ _ ⟨hp, g, d, t + 1, os⟩ "BaseException.__getattribute__" "BaseException" "__getattribute__" (.ref x) [.str "__class__" t] [] _ (by decide +kernel) (by decide +kernel) sub (PySem.F.args_bexc_ga (.ref x) (.str "__class__" t)) ?_
  unfold Builtin.«object.__getattribute__»
  refine wpAny_bind (wpAny_of_eq (a := ((Value.ref x : Value), [Value.str "__class__" t])) (by first | rfl | (simp only [slotArgs]; rfl)) ?_)
  refine wpAny_bind (wpAny_pure (wpAny_bind (L0.at (wpAny_bind (L3.at ?_)))))
  show wpAny _ _ (holding [Value.builtin "object.__class__"] (call (.builtin "getset_descriptor.__get__") [.builtin "object.__class__", .ref x, .ref D]) >>= ret) _ _ _
  refine wpAny_bind (wpAny_holding (wpAny_call (class_get (s := ⟨hp, g, d, t + 1, os⟩) (ox := ox) (od := od) X I hm ?_)))
  refine wpAny_pure ?_
  show wpAny _ _ (handedOut (.ref D)) _ _ _
  rw [handedOut_of (v := .ref D) rfl]
  first
    | exact wpAny_pure (wpAny_pure h)
    | exact wpAny_pure h
    | exact wpAny_pure (wpAny_bind (wpAny_pure (wpAny_pure h)))
theorem kitx_excD (hga : findIn K (.ref D) "__getattribute__" = some (some (.builtin "BaseException.__getattribute__"))) (hgt : findIn K (.ref D) "__getattr__" = some none) (hsub : subIn K (.ref D) (.type "BaseException") = some true) (hdct : hasDictIn K D = true) (ha : findIn K (.ref D) "__class__" = some (some (.builtin "object.__class__")))
    (hn : specialIn K (.builtin "object.__class__") "__get__" = some (some (.builtin "getset_descriptor.__get__"))) (htk : takesIn K (.builtin "object.__class__") = some true) (hm : mroIn K D (.type "object") = some true) :
    KitX K (.ref x) (.ref D) (fun h => InstAt h x ox D od) where
  ty := fun _ _ _ I => I.type
  it := fun _ _ X _ => by
    obtain ⟨cdD, hcD, _⟩ := any_some hdct
    unfold clsIn at hcD
    split at hcD
    · rename_i c' d' cd' sl' ho
      intro A' Q' E' s' k q
      unfold isType loadHead
      exact wpAny_bind (wpAny_loadPart (k _ _ (X _ _ ho)) (wpAny_pure q))
    · cases hcD
  ne := fun h tp dd its n sl X htp => by
    obtain ⟨cdD, hcD, _⟩ := any_some hdct
    refine Bool.eq_false_iff.mpr fun q => ?_
    have e : D = tp := Value.ref.inj (beq_iff_eq.mp q)
    subst e
    unfold clsIn at hcD
    split at hcD
    · rename_i c' d' cd' sl' ho
      have z := (X _ _ ho).symm.trans htp
      cases z
    · cases hcD
  ca := fun X I k => kin_classD hga hgt hsub hdct ha hn htk hm X I k
end
end PySem.W
namespace L2
open PySem PySem.Spec PyProof.Rows
/-- an own exception class, over whatever base -/
structure OxC (K : PySem.W.Frag) (C : Addr) : Prop where
  cls : ∃ nm q N bs bm sn sub ab col dd k0 k1 k2 k3 k5 B newId initId bmB, K.lookup C = some (excClassObj nm q C N bs bm true sn sub ab col dd k0 k1 k2 k3 k5 newId) ∧ ExcBaseFacts B newId initId bmB ∧ PySem.OXX.Beh B bm ∧ ∀ self, refuseLoop self "__setattr__" (.ref C :: bm) = pure ()
  sa : PySem.W.findIn K (.ref C) "__setattr__" = some (some (.builtin "object.__setattr__"))
  kC : PySem.W.keepIn K (.ref C) = true
  xf : XfC K C
  is : ExcC K C
  ty : PySem.W.typeIn K (.ref C) = some (.type "type")
  ex : PySem.W.exmOne K (.ref C) (.ref C) = some true
section
variable {X : Cx} {pins : List (Addr × Obj)} {σ : St} {H : Hp} {s : Shared} {a C dx : Addr} {f : Str} {y : V} {u : Value} {fs : List (Str × V)} {Q : Unit → Shared → Prop} {E : Value → Shared → Prop} {A : Around}
/-- self.f = y, the first one -/
theorem oxt_new (T : OxC X.K C) (I : Inv X pins σ H s) (e : H a = some (exo a C none)) (hno : PySem.W.findIn X.K (.ref C) f = some none) (ry : RelV y u)
    (h : ∀ dx s', H dx = none → dx ≠ a → Inv X pins σ (upd (upd H dx (exd dx [(f, y)])) a (exo a C (some dx))) s' → Q () s') : wpAny (model X.prog X.w) A (setAttr (.ref a) f u) Q E s := by
  obtain ⟨nm, q, N, bs, bm, sn, sub, ab, col, dd, k0, k1, k2, k3, k5, B, newId, initId, bmB, hC, FB, BB, hps⟩ := T.cls
  have hcl : PySem.W.clsIn X.K C = some { name := nm, bases := bs, mro := .ref C :: bm, ns := N, qualname := q, hasDict := true, slotNames := sn, subclasses := sub, abstract := ab, collection := col, hasDel := false } := by unfold PySem.W.clsIn; rw [hC] <;> rfl
  obtain ⟨t1, ho⟩ := exo_at I.hok e
  obtain ⟨hp, g, d, t, os⟩ := s
  refine PySem.W.set_plain I.kIn (ox := { cls := .ref C, dict := none, data := .fields #[.ref t1, .none, .none, .none, .bool false, .none] }) (od := none) ⟨ho, rfl, rfl, trivial⟩ T.sa ?_
  refine PySem.OXX.osa_x I.kIn ho hcl rfl (show (Value.ref C :: bm).contains (.type "object") = true by rw [List.contains_cons, BB.ob, Bool.or_true]) (hps _) rfl hno (fun h' tk' dx k dn dne hx hn => ?_)
  have hnd : H dx = none := I.hok.fresh dn
  have nd : ∀ {b : Addr} {o : Obj}, hp.get? b = some o → b ≠ dx := fun {b o} q => Nat.ne_of_lt (Nat.lt_of_lt_of_le (Heap.lt_size q) dn)
  have na : ∀ {b : Addr}, H b = none → b ≠ a := fun {b} n z => by
    rw [z, e] at n
    cases n
  have Un1 : Un X.fs [] H (upd (upd H dx (exd dx [(f, y)])) a (exo a C (some dx))) hp h' := {
    keep := fun b o q n _ _ => k b o (na n) q
    slot := fun b o q n _ _ => ⟨o.slots, k b o (na n) q⟩
    free := fun b o q n _ => by rw [upd_ne (na n), upd_ne (nd q)]; exact n
    there := fun b o q _ => by
      by_cases hb : b = a
      · exact ⟨_, by rw [hb]; exact hx⟩
      · exact ⟨o, k b o hb q⟩
    tups := fun b xs q => by rw [upd_ne (at_ne e q exo_tup), upd_ne (ne_of_none q hnd)]; exact q
    frzs := fun b o v q => by rw [upd_ne (at_ne e q exo_frz), upd_ne (ne_of_none q hnd)]; exact q
    tbls := fun b ps q => ⟨#[], by rw [upd_ne (at_ne e q exo_tbl), upd_ne (ne_of_none q hnd), q]; simp⟩ }
  refine h dx _ hnd dne (I.un (t' := tk') Un1 fun b o q => ?_)
  by_cases hb : b = a
  · subst hb
    rw [upd_same] at q
    cases q
    exact exo_ok hx
  · rw [upd_ne hb] at q
    by_cases hd : b = dx
    · subst hd
      rw [upd_same] at q
      cases q
      exact exd_ok hn (relO_put (fs := []) ry fun g => True.intro)
    · rw [upd_ne hd] at q
      exact (I.hok b o q).stay (fun c v hc z => k c v (by
          rcases hc with hc | hc
          · rw [hc]
            exact hb
          · exact at_ne e hc exo_own) z)
        (fun c hc => by rw [upd_ne (at_ne e hc exo_own), upd_ne (ne_of_none hc hnd)]; exact hc) (fun c xs hc => by rw [upd_ne (at_ne e hc exo_tup), upd_ne (ne_of_none hc hnd)]; exact hc)
end
/-- self.f = e, the first one -/
def tOxt (K : PySem.W.Frag) (f : Str) (to te : TE) : TS := fun D σ H => te σ H fun y H1 => to σ H1 fun x H2 => ∃ a C : Addr, x = .ref a ∧ OxC K C ∧ PySem.W.findIn K (.ref C) f = some none ∧
  (H2 a = some (exo a C none) ∧ ∀ dx, H2 dx = none → dx ≠ a → D.nx σ (upd (upd H2 dx (exd dx [(f, y)])) a (exo a C (some dx))))
/-- the promise of such an __init__: one field -/
def SpXI (K : PySem.W.Frag) (f : Str) : Sp := fun vs H Q _ => ∃ a v C, vs = [.ref a, v] ∧ OxC K C ∧ PySem.W.findIn K (.ref C) f = some none ∧ H a = some (exo a C none) ∧
  ∀ dx, H dx = none → dx ≠ a → Q .non (upd (upd H dx (exd dx [(f, v)])) a (exo a C (some dx)))
/-- C(e), C with such an __init__ -/
def tMkX (C : Addr) (f : Str) (te : TE) : TE := fun σ H Q => te σ H fun v H1 => ∀ a dx, H1 a = none → H1 dx = none → dx ≠ a → Q (.ref a) (upd (upd (upd H1 a (exo a C none)) dx (exd dx [(f, v)])) a (exo a C (some dx)))
/-- C() -/
def tMkN (C : Addr) : TE := fun _ H Q => ∀ a, H a = none → Q (.ref a) (upd H a (exo a C none))
section
variable {X : Cx} {o e : Expr} {es : List Expr} {to te : TE} {f x n : Str} {p p' pos : Pos} {C fI : Addr} {k : Nat} {fd : FuncData} {ps : List Str} {CX : CXT}
theorem ps_oxt (ho : PE X o to) (he : PE X e te) (hs : swapsWith e (some (.Attribute o f p')) pos.line X.env = pure false := by rfl) : PS X (.Assign [.Attribute o f p'] e pos) (tOxt X.K f to te) := by
  refine ⟨fun pins s σ H D I h => ?_⟩
  refine plainObj_wpAny_Assign_Attribute (thn (he.run pins s σ H _ I h) fun v s1 ⟨y, H1, I1, r1, q1⟩ => thn (ho.run pins s1 σ H1 _ I1 q1) fun u s2 ⟨x, H2, I2, r2, a, C, ex, T, hno, ea, q⟩ => ?_) hs
  subst ex
  obtain rfl : u = Value.ref a := r2
  exact oxt_new T I2 ea hno r1 fun dx s' n ne J => ⟨σ, _, J, q dx n ne⟩
theorem pe_mkN {bmB : List Value} {B newId initId : String} (F : ExcBaseFacts B newId initId bmB) (q : PySem.W.excIn X.K C bmB newId = true) (gC : X.mg x = some (.ref C)) (kC : PySem.W.keepIn X.K (.ref C) = true) (hg : Gl X x)
    (hdb : (x == ("__debug__" : Str)) = false := by decide) : PE X (.Call (.Name x p) [] [] pos) (tMkN C) := by
  refine ⟨fun pins s σ H Q I h => ?_⟩
  refine wpAny_Call_Name_kw (ld_glob I hg gC ?_ hdb)
  refine PySem.W.callWith_K0 (K := X.K) (I.tok _).kIn kC ?_
  show wpAny _ _ (call (.ref C) []) _ _ _
  obtain ⟨bm, N, nm, qn, bs, hdct, sn, sub, ab, col, dd, k0, k1, k2, k3, k5, mN, hC, hN, hni, T⟩ := exc_obj (I.tok _).kIn q
  refine wpAny_call_exc_subT F T hC hN hni (fun h' a hm => ?_) (by show 0 ≤ sizeLine; omega)
  have hn : H a = none := I.hok.gone hm.new
  obtain ⟨t, ht, _, _⟩ := hm.there
  exact ⟨.ref a, upd H a (exo a C none), I.laidN hm.keeps hm.new hn (exo_ok ht), rfl, h a hn⟩
theorem pe_mkX (T : OxC X.K C) (iC : PySem.W.findIn X.K (.ref C) "__init__" = some (some (.ref fI))) (tI : PySem.W.typeIn X.K (.ref fI) = some (.type "function")) (hno : PySem.W.findIn X.K (.ref C) f = some none)
    (F1 : FnOk X.prog X.w X.K X.mg X.base CX k fI fd ps (SpXI X.K f)) (hr : Room (k + 1) X.A) (hb : Binds X.K fd ps []) (hx : Passes CX X (fun _ _ _ => False)) (hg : Gl X x) (hm : X.mg x = some (.ref C)) (ha : PE X e te)
    (hdb : (x == ("__debug__" : Str)) = false := by decide) (he : starEach (e :: []) X.env = (false, eval e X.env) :: starEach [] X.env := by rfl) (hpl : (backTo pos (starEach [] X.env)).any (·.1) = false := by rfl) :
    PE X (.Call (.Name x p) [e] [] pos) (tMkX C f te) := by
  refine ⟨fun pins s σ H Q I h => ?_⟩
  obtain ⟨nm, q, N, bs, bm, sn, sub, ab, col, dd, k0, k1, k2, k3, k5, B, newId, initId, bmB, hC, FB, BB, hps⟩ := T.cls
  refine wpAny_Call_Name_kw (ld_glob I hg hm ?_ hdb)
  have hA : PA X [e] (tCons te tNil) := pa_cons ha pa_nil he
  refine PySem.W.callWith_K (h₀ := X.base) I.ok.mod.kin T.kC (thn (hA.run pos pins s σ H (fun vs H1 => match vs with | [v] => (∀ a dx, H1 a = none → H1 dx = none → dx ≠ a → Q (.ref a) (upd (upd (upd H1 a (exo a C none)) dx (exd dx [(f, v)])) a (exo a C (some dx)))) | _ => False) I h) fun us s1 ⟨vs, H1, I1, r1, q1⟩ => ⟨I1.kIn, ?_⟩) he hpl
  show wpAny _ _ (call (.ref C) us) _ _ _
  obtain ⟨v, rfl⟩ : ∃ v, vs = [v] := by
    rcases vs with _ | ⟨v, _ | ⟨v2, vs⟩⟩
    · exact q1.elim
    · exact ⟨v, rfl⟩
    · exact q1.elim
  replace q1 : ∀ a dx, H1 a = none → H1 dx = none → dx ≠ a → Q (.ref a) (upd (upd (upd H1 a (exo a C none)) dx (exd dx [(f, v)])) a (exo a C (some dx))) := q1
  obtain ⟨hp, g, dr, tk, os⟩ := s1
  have hsz : hp.objs.size ≤ hp.objs.size + 1 := Nat.le_succ _
  have hn : H1 (hp.objs.size + 1) = none := I1.hok.fresh hsz
  have hq : SpXI X.K f [.ref (hp.objs.size + 1), v] (upd H1 (hp.objs.size + 1) (exo (hp.objs.size + 1) C none)) (fun r H2 => r = .non ∧ Q (.ref (hp.objs.size + 1)) H2) (fun _ _ _ => False) :=
    ⟨_, v, C, rfl, T, hno, upd_same, fun dx hd hda => ⟨rfl, q1 _ dx hn (by rw [upd_ne hda] at hd; exact hd) hda⟩⟩
  have kk : ∀ b o, hp.get? b = some o → ((hp.push (PySem.W.kdv_tup us)).push (PySem.HandSPX.excO C hp.objs.size)).get? b = some o := fun b o e => Heap.get?_push_of_some _ (Heap.get?_push_of_some _ e)
  have hget : ((hp.push (PySem.W.kdv_tup us)).push (PySem.HandSPX.excO C hp.objs.size)).get? (hp.objs.size + 1) = some (PySem.HandSPX.excO C hp.objs.size) := by heap_get
  have I2 : Inv X pins σ (upd H1 (hp.objs.size + 1) (exo (hp.objs.size + 1) C none)) ⟨(hp.push (PySem.W.kdv_tup us)).push (PySem.HandSPX.excO C hp.objs.size), g, dr, tk, os⟩ :=
    I1.laid (t' := tk) (a := hp.objs.size + 1) (o := exo (hp.objs.size + 1) C none) (h' := (hp.push (PySem.W.kdv_tup us)).push (PySem.HandSPX.excO C hp.objs.size)) kk hsz (exo_ok hget)
  have r2 : Vals (V.ref (hp.objs.size + 1) :: ([v] ++ [])) (Value.ref (hp.objs.size + 1) :: (us ++ [])) := .cons rfl (r1.append .nil)
  have hl : (Value.ref (hp.objs.size + 1) :: us ++ []).length = ps.length := by
    have e := r2.length
    have e3 := F1.len _ _ _ _ hq
    simp only [List.length_cons, List.length_append, List.length_nil] at e e3 ⊢
    omega
  have hus : us.length ≤ sizeLine := by
    rw [← Paired.length r1, sizeLine_eq]
    simp
  refine wpAny_call (PySem.OXX.call_x FB BB (I1.kIn _ _ hC) (PySem.W.looks_findIn I1.kIn iC) (fun self => PySem.W.bind_fn I1.kIn self tI) hus
    (codeAny_mono (F1.run _ X.stack _ _ ⟨Value.ref (hp.objs.size + 1) :: us, []⟩ (Value.ref (hp.objs.size + 1) :: us ++ []) _ _ (fun _ _ _ => False) (hr.make C us []) (I2.env0.make C us []) (hb _ (Value.ref (hp.objs.size + 1) :: us) I2.kIn hl) r2 hq) fun r s' hq' => ?_))
  cases r with
  | error er => exact hx pins σ _ _ er s' I2 hq'
  | ok fl =>
    cases fl with
    | ret u =>
      obtain ⟨w, H2, os2, bare2, un2, hok2, rv, ev, q2⟩ := hq'
      subst ev
      exact ⟨rv, .ref (hp.objs.size + 1), H2, I2.call' (ch := []) os2 un2 hok2 bare2 (fun b z => absurd z (by simp)), rfl, q2⟩
    | next => exact False.elim hq'
    | brk => exact False.elim hq'
    | cont => exact False.elim hq'
/-- err.f -/
def tXfl (K : PySem.W.Frag) (n : Str) (te : TE) : TE := fun σ H Q => te σ H fun x H1 => ∃ (a C d : Addr) (fs : List (Str × V)) (v : V), x = .ref a ∧ XfC K C ∧ PySem.W.findIn K (.ref C) n = some none ∧ H1 a = some (exo a C (some d)) ∧ H1 d = some (exd d fs) ∧ fs.lookup n = some v ∧ Q v H1
theorem pe_xfl (he : PE X e te) (hb : attributeBase e n X.env (eval e X.env) = eval e X.env := by rfl) : PE X (.Attribute e n pos) (tXfl X.K n te) := by
  refine ⟨fun pins s σ H Q I h => ?_⟩
  refine attr_of hb (thn (he.run pins s σ H _ I h) fun u s1 hh => ?_)
  obtain ⟨x, H1, I1, rx, a, C, d, fs, v, ex, T, hno, ea, ed, l, q⟩ := hh
  subst ex
  obtain rfl : u = Value.ref a := rx
  obtain ⟨t1, ho⟩ := exo_at I1.hok ea
  obtain ⟨mA, hns, hr⟩ := exd_at I1.hok ed
  obtain ⟨od, ho2, hl⟩ := lookIn_ns hns
  obtain ⟨u, hu, ru⟩ := RelO.some_of (v := v) (o := mA n) (by rw [← l]; exact hr n)
  have J : PySem.W.InstAt s1.heap a { cls := .ref C, dict := some d, data := .fields #[.ref t1, .none, .none, .none, .bool false, .none] } C (some od) := ⟨ho, rfl, rfl, ho2⟩
  exact HandSPX.exc_get I1.kIn J T.ga T.gg T.exC (PySem.W.findObj_own T.hdC hno rfl (by rw [hl, hu])) (handed_of ru) ⟨v, H1, I1.tok _, ru, q⟩
/-- isinstance(err, c) -/
def rIsX (K : PySem.W.Frag) : List V → Hp → VK → Prop := fun xs H Q => ∃ (a C : Addr) (d : Option Addr) (c : V) (u : Value) (b : Bool), xs = [.ref a, c] ∧ H a = some (exo a C d) ∧ (∀ dx, d = some dx → ∃ fs, H dx = some (exd dx fs)) ∧ ExcC K C ∧ ClsV c u ∧ PySem.W.kitOne K (.ref C) u = some b ∧ Q (.bl b) H
theorem call_isX : CallR X (.builtin "isinstance") (rIsX X.K) := by
  intro pins s σ H xs us Q I r h
  obtain ⟨a, C, d, c, cv, b, rfl, ea, hd, T, k, e, q⟩ := h
  obtain ⟨u1, u2, rfl, r1, r2⟩ := vals2 r
  have e2 := k.eq r2
  subst e2
  cases (show u1 = Value.ref a from r1)
  obtain ⟨t1, ho⟩ := exo_at I.hok ea
  have hod : ∃ od : Option Obj, PySem.W.InstAt s.heap a { cls := .ref C, dict := d, data := .fields #[.ref t1, .none, .none, .none, .bool false, .none] } C od := by
    cases d with
    | none => exact ⟨none, ho, rfl, rfl, trivial⟩
    | some dx =>
      obtain ⟨fs, ed⟩ := hd dx rfl
      obtain ⟨mA, hns, hr⟩ := exd_at I.hok ed
      obtain ⟨od, ho2, hl⟩ := lookIn_ns hns
      exact ⟨some od, ho, rfl, rfl, ho2⟩
  obtain ⟨od, J⟩ := hod
  exact PySem.W.kia_one (PySem.W.kitx_excD T.hg T.hk T.hs T.hd T.ha T.hn T.ht T.hm) I.kIn J e (fun z => nomatch z) fun tk => ⟨.bl b, H, I.tok tk, rfl, q⟩
end
end L2

namespace Un
open PySem PySem.Spec PyProof.Rows L2

/-! ### defs as they stand, and as they keep a promise -/
def At (K : PySem.W.Frag) (mg : Str → Option Value) (nm : Str) (st : Stmt) (ps : List Str) : Prop :=
  ∃ (f : Addr) (fd : FuncData), Fun K nm nm st f fd ∧ mg nm = some (.ref f) ∧ Binds K fd ps []
def Cl (P : Program) (w : World) (K : PySem.W.Frag) (mg : Str → Option Value) (base : Heap) (nm : Str) (ps : List Str) (k : Nat) (sp : Sp) : Prop :=
  ∃ (f : Addr) (fd : FuncData), mg nm = some (.ref f) ∧ FnOk P w K mg base CX0 k f fd ps sp ∧ PySem.W.keepIn K (.ref f) = true ∧ Binds K fd ps []
theorem cl_of {P : Program} {w : World} {K : PySem.W.Frag} {mg : Str → Option Value} {base : Heap} {nm : Str} {st : Stmt} {ps : List Str} {k : Nat} {sp : Sp}
    (a : At K mg nm st ps) (h : ∀ f fd, Fun K nm nm st f fd → FnOk P w K mg base CX0 k f fd ps sp) : Cl P w K mg base nm ps k sp := by
  obtain ⟨f, fd, F, m, b⟩ := a
  exact ⟨f, fd, m, h f fd F, F.kp, b⟩
section
variable {X : Cx} {nm : Str} {ps : List Str} {j k : Nat} {sp : Sp} {e : Expr} {es : List Expr} {t : TA} {p pos : Pos}
theorem pe_cl (c : Cl X.prog X.w X.K X.mg X.base nm ps k sp) (hr : Room k X.A) (hg : Gl X nm) (ha : PA X (e :: es) t)
    (hdb : (nm == ("__debug__" : Str)) = false := by decide) (he : starEach (e :: es) X.env = (false, eval e X.env) :: starEach es X.env := by rfl) (hpl : (backTo pos (starEach es X.env)).any (·.1) = false := by rfl) :
    PE X (.Call (.Name nm p) (e :: es) [] pos) (tCall sp [] E0 t) := by
  obtain ⟨f, fd, m, F, kp, b⟩ := c
  exact pe_call F hr hg m kp b .nil pass0 ha hdb he hpl
theorem pe_cl0 (c : Cl X.prog X.w X.K X.mg X.base nm ps k sp) (hr : Room k X.A) (hg : Gl X nm)
    (hdb : (nm == ("__debug__" : Str)) = false := by decide) : PE X (.Call (.Name nm p) [] [] pos) (tCall sp [] E0 tNil) := by
  obtain ⟨f, fd, m, F, kp, b⟩ := c
  exact pe_call0 F hr hg m kp b .nil pass0 hdb
end

/-! ### texts as lists of sgs -/
def tx (l : List Nat) : Str := ⟨l.toArray⟩
theorem tx_cps (l : List Nat) : (tx l).cps.toList = l := by simp [tx]
theorem tx_len (l : List Nat) : (tx l).length = l.length := by simp [tx, Str.length]
theorem tx_inj {a b : List Nat} (h : tx a = tx b) : a = b := by
  have := congrArg (fun s : Str => s.cps.toList) h
  simpa [tx] using this
theorem tx_eq {a b : List Nat} : tx a = tx b ↔ a = b := ⟨tx_inj, fun h => by rw [h]⟩
theorem tx_of (s : Str) : tx s.cps.toList = s := by
  cases s with
  | mk c => simp [tx]
theorem tx_app (a b : List Nat) : tx a ++ tx b = tx (a ++ b) := by
  have e : (tx a ++ tx b) = (⟨(tx a).cps ++ (tx b).cps⟩ : Str) := rfl
  rw [e]
  simp [tx]
theorem tx_one (c : Nat) : (⟨#[c]⟩ : Str) = tx [c] := rfl

/-! ### rules for built-ins -/
def scalR : V → Prop
  | .non => True
  | .bl _ => True
  | .int i => i.natAbs.log2 < 1920
  | .str x => (reprText x).length ≤ sizeLine
  | _ => False
def reprS : V → Str
  | .non => "None"
  | .bl b => if b then "True" else "False"
  | .int i => toString i
  | .str x => reprText x
  | _ => ""
def rRepr : List V → Hp → VK → Prop := fun xs H Q => ∃ x, xs = [x] ∧ scalR x ∧ Q (.str (reprS x)) H
section
variable {X : Cx}
theorem call_reprS : CallR X (.builtin "repr") rRepr := by
  intro pins s σ H xs us Q I r h
  obtain ⟨x, rfl, hx, q⟩ := h
  obtain ⟨u, rfl, rx⟩ := vals1 r
  cases x with
  | non => cases rx; exact PySem.P.repr_of_none ⟨.str _, H, I.tok _, ⟨_, rfl⟩, q⟩
  | bl b => cases rx; exact PySem.P.repr_of_bool ⟨.str _, H, I.tok _, ⟨_, rfl⟩, q⟩
  | int i => obtain ⟨t, rfl⟩ := rx; exact PySem.P.repr_of_int hx ⟨.str _, H, I.tok _, ⟨_, rfl⟩, q⟩
  | str y => obtain ⟨t, rfl⟩ := rx; exact PySem.P.repr_of_str ⟨.str _, H, I.tok _, ⟨_, rfl⟩, q⟩ (hsz := hx)
  | _ => exact hx.elim
def sgs (l : List Nat) : List V := l.map fun c => V.str (tx [c])
theorem vals_of_get : ∀ {xs : List V} {us : List Value}, xs.length = us.length → (∀ (i : Nat) (x : V) (u : Value), xs[i]? = some x → us[i]? = some u → RelV x u) → Vals xs us
  | [], [], _, _ => .nil
  | [], _ :: _, h, _ => by simp at h
  | _ :: _, [], h, _ => by simp at h
  | x :: xs, u :: us, h, f => .cons (f 0 x u rfl rfl) (vals_of_get (by simpa using h) fun i a b ha hb => f (i + 1) a b (by simpa using ha) (by simpa using hb))
theorem call_list_strR (hc : X.calm = true) : CallR X (.type "list") (fun xs H Q => ∃ l : List Nat, xs = [.str (tx l)] ∧ l.length ≤ sizeLine ∧ ∀ p, H p = none → Q (.ref p) (upd H p (.lst (sgs l)))) := by
  intro pins s σ H xs us Q I r h
  obtain ⟨l, rfl, hl, q⟩ := h
  obtain ⟨u, rfl, t, rfl⟩ := vals1 r
  have hs : (tx l).cps.size = l.length := by simp [tx]
  refine PySem.call_list_str (I.ok.hd hc) (tx l) t (fun h' tk acc' c' hk hS hacc => ?_) (hn := by rw [hs]; exact hl)
  obtain ⟨hsz, hget⟩ := hacc
  have hv : Vals (sgs l) acc'.toList := vals_of_get (show (sgs l).length = acc'.toList.length by rw [Array.length_toList (xs := acc'), hsz, hs]; simp [sgs]) fun i x u hx hu => by
    have hu' : acc'[i]? = some u := by rw [← Array.getElem?_toList]; exact hu
    obtain ⟨c, tk', hc', rfl⟩ := hget i u hu'
    have hc2 : l[i]? = some c := by
      have : (tx l).cps[i]? = l[i]? := by simp [tx]
      rw [← this]; exact hc'
    have : x = V.str (tx [c]) := by
      unfold sgs at hx
      rw [List.getElem?_map, hc2] at hx
      exact (Option.some.inj hx).symm
    subst this
    exact ⟨tk', rfl⟩
  exact ⟨.ref s.heap.objs.size, _, I.laid (t' := tk) hk (Nat.le_refl _) (show ObjOk X.prog X.w _ h' _ (.lst (sgs l)) from ⟨by simpa [sgs] using hl, acc'.toList, c', hv, by simpa using hS⟩), rfl, q _ (I.hok.fresh (Nat.le_refl _))⟩
def reps (n : Nat) (l : List Nat) : List Nat := (List.replicate n l).flatten
theorem reps_len (n : Nat) (l : List Nat) : (reps n l).length = n * l.length := by
  unfold reps
  induction n with
  | zero => simp
  | succ n ih =>
    rw [List.replicate_succ, List.flatten_cons, List.length_append, ih, Nat.add_mul, Nat.one_mul, Nat.add_comm]
theorem foldl_app (l : List Nat) : ∀ (n : Nat) (a : Array Nat), ((List.replicate n l.toArray).foldl (· ++ ·) a).toList = a.toList ++ (List.replicate n l).flatten
  | 0, a => by simp
  | n + 1, a => by
    rw [List.replicate_succ, List.foldl_cons, foldl_app l n, List.replicate_succ, List.flatten_cons]
    simp
theorem txt_mul (l : List Nat) (n : Int) : Txt.mul (tx l) n = tx (reps n.toNat l) := by
  unfold Txt.mul
  by_cases h : n < 1
  · rw [if_pos h]
    have : n.toNat = 0 := by omega
    rw [this]
    rfl
  · rw [if_neg h]
    by_cases h1 : (n == 1 || (tx l).length == 0) = true
    · rw [if_pos h1]
      rw [Bool.or_eq_true] at h1
      rcases h1 with h1 | h1
      · have : n = 1 := by simpa using h1
        subst this
        simp [reps]
      · have : l = [] := by simpa [tx, Str.length] using h1
        subst this
        simp [reps]
    · rw [if_neg h1]
      have e := foldl_app l n.toNat #[]
      have e2 : (List.replicate n.toNat (tx l).cps) = List.replicate n.toNat l.toArray := rfl
      rw [e2]
      generalize hg : List.foldl (fun x1 x2 => x1 ++ x2) #[] (List.replicate n.toNat l.toArray) = z at *
      unfold tx reps
      congr 1
      apply Array.ext'
      rw [e]
      simp
theorem op_mul_str : OpR X (binaryOp .Mult) (fun x y H Q => ∃ (l : List Nat) (n : Int), x = .str (tx l) ∧ y = .int n ∧ -100000 ≤ n ∧ n ≤ 100000 ∧ l.length * n.toNat ≤ 100000 ∧ Q (.str (tx (reps n.toNat l))) H) := by
  intro pins s σ H x y v u Q I rx ry h
  obtain ⟨l, n, rfl, rfl, hn0, hn, hl, q⟩ := h
  obtain ⟨t, rfl⟩ := rx
  obtain ⟨t', rfl⟩ := ry
  have hk : (tx l).length = l.length := tx_len l
  refine SB.mul (n := n) ⟨?_, fun h1 _ => ?_, fun h1 _ => ?_⟩ (fun t2 k => ⟨.str (tx (reps n.toNat l)), H, I.tok _, ⟨t2, by rw [txt_mul]⟩, q⟩)
  · simp only [Bool.or_eq_false_iff, decide_eq_false_iff_not]
    constructor <;> omega
  · rw [hk]
    have h2 : (l.length : Int) ≤ 100000 := by
      have : l.length * 1 ≤ l.length * n.toNat := Nat.mul_le_mul_left _ (by omega)
      omega
    have h3 : (100000 : Int) ≤ (2 ^ 63 - 1) / n := by
      refine (Int.le_ediv_iff_mul_le (by omega)).mpr ?_
      omega
    omega
  · rw [hk]
    unfold Builtin.Str.tooLong
    have : (100000 : Nat) ≤ sizeLine := by decide
    simp only [decide_eq_false_iff_not]
    omega

/-! ### rules for texts as lists of sgs -/
theorem pe_strX {x : Str} {j : Nat} {pos : Pos} (l : List Nat) (h : x = tx l) : PE X (.Constant (.str x) j pos) (tC (.str (tx l))) := by
  subst h
  exact pe_str
def rAddX : R2 := fun x y H Q => ∃ a b, x = .str (tx a) ∧ y = .str (tx b) ∧ a.length + b.length ≤ sizeLine ∧ Q (.str (tx (a ++ b))) H
theorem op_addX : OpR X (binaryOp .Add) rAddX := by
  intro pins s σ H x y v u Q I rx ry h
  obtain ⟨a, b, rfl, rfl, hz, q⟩ := h
  exact op_add_str pins s σ H _ _ v u Q I rx ry ⟨_, _, rfl, rfl, by rw [tx_len, tx_len]; exact hz, by rw [tx_app]; exact q⟩
def rMulX : R2 := fun x y H Q => ∃ (l : List Nat) (n : Int), x = .str (tx l) ∧ y = .int n ∧ -100000 ≤ n ∧ n ≤ 100000 ∧ l.length * n.toNat ≤ 100000 ∧ Q (.str (tx (reps n.toNat l))) H
theorem op_mulT : OpR X (binaryOp .Mult) rMulX := op_mul_str
def rInX (neg : Bool) : R2 := fun x y H Q => ∃ (c : Nat) (z : List Nat), x = .str (tx [c]) ∧ y = .str (tx z) ∧ Q (.bl (if neg then !decide (c ∈ z) else decide (c ∈ z))) H
theorem op_inX : OpR X (compareOp .In) (rInX false) := by
  intro pins s σ H x y v u Q I rx ry h
  obtain ⟨c, z, rfl, rfl, q⟩ := h
  exact op_in_sign pins s σ H _ _ v u Q I rx ry ⟨c, tx z, rfl, rfl, by rw [tx_cps]; exact q⟩
theorem op_notInX : OpR X (compareOp .NotIn) (rInX true) := by
  intro pins s σ H x y v u Q I rx ry h
  obtain ⟨c, z, rfl, rfl, q⟩ := h
  exact op_notIn_sign pins s σ H _ _ v u Q I rx ry ⟨c, tx z, rfl, rfl, by rw [tx_cps]; exact q⟩
def rLtX : R2 := fun x y H Q => ∃ a b, x = .str (tx a) ∧ y = .str (tx b) ∧ Q (.bl (decide (a < b))) H
theorem op_ltX : OpR X (compareOp .Lt) rLtX := by
  intro pins s σ H x y v u Q I rx ry h
  obtain ⟨a, b, rfl, rfl, q⟩ := h
  exact op_lt_str pins s σ H _ _ v u Q I rx ry ⟨_, _, rfl, rfl, by rw [tx_cps, tx_cps]; exact q⟩
def rLeX : R2 := fun x y H Q => ∃ a b, x = .str (tx a) ∧ y = .str (tx b) ∧ Q (.bl (!decide (b < a))) H
theorem rLenX_aux (l : List Nat) : ((tx l).length : Int) = (l.length : Int) := by rw [tx_len]
def rLenX : List V → Hp → VK → Prop := fun xs H Q => ∃ l, xs = [.str (tx l)] ∧ l.length ≤ sizeLine ∧ Q (.int (l.length : Nat)) H
theorem call_lenX : CallR X (.builtin "len") rLenX := by
  intro pins s σ H xs us Q I r h
  obtain ⟨l, rfl, hz, q⟩ := h
  exact call_len_str pins s σ H _ us Q I r ⟨tx l, rfl, by rw [tx_len]; exact hz, by rw [tx_len]; exact q⟩
def rIxX : R2 := fun x y H Q => ∃ (l : List Nat) (i : Int) (c : Nat), x = .str (tx l) ∧ y = .int i ∧ l.length ≤ sizeLine ∧ atI l i = some c ∧ Q (.str (tx [c])) H
theorem ix_strX : IxR X rIxX := by
  intro value slice pins s σ H x y v u Q I rx ry h hs
  obtain ⟨l, i, c, rfl, rfl, hz, ha, q⟩ := h
  exact ix_str value slice pins s σ H _ _ v u Q I rx ry ⟨tx l, i, c, rfl, rfl, by rw [tx_len]; exact hz, by rw [tx_cps]; exact ha, q⟩ hs
def cutL (l : List Nat) (lo hi : Option Int) : List Nat := (l.drop (HT.sIx l.length 0 lo)).take (HT.sIx l.length l.length hi - HT.sIx l.length 0 lo)
theorem cutS_tx (l : List Nat) (lo hi : Option Int) : cutS (tx l) lo hi = tx (cutL l lo hi) := by
  unfold cutS cutL
  rw [tx_len, tx_cps]
  rfl
def rSlX : V → Option Int → Option Int → Hp → VK → Prop := fun x lo hi H Q => ∃ l, x = .str (tx l) ∧ l.length ≤ sizeLine ∧ Q (.str (tx (cutL l lo hi))) H
theorem sl_strX : SlR X rSlX := by
  intro pins s σ H x v vl vu l u a Q I rx hsl pl pu h
  obtain ⟨z, rfl, hz, q⟩ := h
  exact sl_str pins s σ H _ v vl vu l u a Q I rx hsl pl pu ⟨tx z, rfl, by rw [tx_len]; exact hz, by rw [cutS_tx]; exact q⟩
/-- letters.index(c), each letter once -/
theorem occ_nodup {z : List Nat} (nd : z.Nodup) {i : Nat} {c : Nat} (h : z[i]? = some c) : ∃ rest, Builtin.Str.occurrences (tx z) (tx [c]) 0 (tx z).length 1 = i :: rest := by
  have hc : c ∈ z := List.mem_of_getElem? h
  have hf := PySem.StrLaws.found_one (tx z) c
  rw [tx_cps, decide_eq_true hc] at hf
  have hsp := PySem.StrLaws.occ_spec (tx z) (tx [c]) 0 (tx z).length 1
  have e1 : (⟨#[c]⟩ : Str) = tx [c] := rfl
  rw [e1] at hf
  cases ho : Builtin.Str.occurrences (tx z) (tx [c]) 0 (tx z).length 1 with
  | nil => rw [ho] at hf; simp at hf
  | cons j rest =>
    obtain ⟨hj, hs⟩ := hsp j (by rw [ho]; exact List.mem_cons_self)
    rw [tx_len, tx_len] at hj
    have hj2 : z[j]? = some c := by
      unfold Builtin.Str.subAt at hs
      have h3 : (tx z).cps.extract j (j + (tx [c]).length) = (tx [c]).cps := by simpa using hs
      have h4 := congrArg Array.toList h3
      rw [tx_len] at h4
      simp only [tx, List.length_cons, List.length_nil, Nat.zero_add, Array.toList_extract, List.extract_eq_take_drop] at h4
      have h5 : (List.take 1 (List.drop j z))[0]? = some c := by
        have : j + 1 - j = 1 := by omega
        rw [this] at h4
        rw [h4]; rfl
      simpa using h5
    have : j = i := by
      have l1 : j < z.length := (List.getElem?_eq_some_iff.mp hj2).1
      have l2 : i < z.length := (List.getElem?_eq_some_iff.mp h).1
      exact (List.getElem_inj (h₀ := l1) (h₁ := l2) nd).mp (by
        rw [List.getElem?_eq_getElem l1] at hj2
        rw [List.getElem?_eq_getElem l2] at h
        exact (Option.some.inj hj2).trans (Option.some.inj h).symm)
    subst this
    exact ⟨rest, rfl⟩
def rIndexX : V → List V → Hp → VK → Prop := fun x xs H Q => ∃ (z : List Nat) (c i : Nat), x = .str (tx z) ∧ xs = [.str (tx [c])] ∧ z.Nodup ∧ z[i]? = some c ∧ Q (.int (i : Nat)) H
theorem mt_indexT : MtR X "str.index" rIndexX := by
  intro pins s σ H x xs v us Q I rx rs h
  obtain ⟨z, c, i, rfl, rfl, nd, hi, q⟩ := h
  obtain ⟨rest, ho⟩ := occ_nodup nd hi
  exact mt_sindex pins s σ H _ _ v us Q I rx rs ⟨_, _, i, rest, rfl, rfl, ho, q⟩
theorem join_tx : ∀ ls : List (List Nat), Str.join ("" : Str) (ls.map tx) = tx ls.flatten
  | [] => rfl
  | [a] => by simp [Str.join]
  | a :: b :: r => by
    have h := join_tx (b :: r)
    rw [List.map_cons] at h
    have e : Str.join ("" : Str) (tx a :: tx b :: r.map tx) = tx a ++ "" ++ Str.join ("" : Str) (tx b :: r.map tx) := rfl
    rw [List.map_cons, List.map_cons, e, h, List.flatten_cons (l := a)]
    have e0 : ("" : Str) = tx [] := rfl
    rw [e0, tx_app, tx_app, List.append_nil]
def rJoinX (K : PySem.W.Frag) : V → List V → Hp → VK → Prop := fun x xs H Q => ∃ (p : Addr) (ls : List (List Nat)), x = .str (tx []) ∧ xs = [.ref p] ∧ SqL K H p (ls.map fun l => V.str (tx l)) ∧ (ls.map List.length).sum ≤ 16777216 ∧ Q (.str (tx ls.flatten)) H
theorem mt_joinX : MtR X "str.join" (rJoinX X.K) := by
  intro pins s σ H x xs v us Q I rx rs h
  obtain ⟨p, ls, rfl, rfl, hp, hz, q⟩ := h
  refine mt_join pins s σ H _ _ v us Q I rx rs ⟨tx [], p, ls.map tx, rfl, rfl, .inl ?_, ?_, ?_⟩
  · rw [List.map_map]; exact hp
  · have : (List.map (fun x => x.length) (List.map tx ls)) = ls.map List.length := by
      rw [List.map_map]; exact List.map_congr_left fun l _ => tx_len l
    rw [this]
    have e0 : (tx []).length = 0 := rfl
    rw [e0]; omega
  · have : Txt.join (tx []) (ls.map tx) = tx ls.flatten := (PySem.StrLaws.glued_eq_join _ _).trans (join_tx ls)
    rw [this]; exact q
end
end Un

namespace Un
open PySem PySem.Spec PyProof.Rows L2
section
variable {K : PySem.W.Frag} {σ : L2.St} {H : Hp} {Q : VK} {D : Ends} {i j : Nat} {v x y : V} {ta tb te : TE} {tr : TA} {t u c : TT} {r : R2} {g : TG} {tu tw : TS} {A B R : Prop}
theorem rd_var (h : σ[i]? = some (some v)) (q : Q v H) : tVar i σ H Q := ⟨v, h, q⟩
theorem rd_c (q : Q v H) : tC v σ H Q := q
theorem rd_op (h : ta σ H fun x H1 => tb σ H1 fun y H2 => r x y H2 Q) : tOp r ta tb σ H Q := h
theorem rd_un {r : V → Hp → VK → Prop} (h : ta σ H fun x H1 => r x H1 Q) : tUn r ta σ H Q := h
theorem rd_I0 {g : Int → Int → V} {a b : Int} (q : Q (g a b) H) : rI0 g (.int a) (.int b) H Q := ⟨a, b, rfl, rfl, q⟩
theorem rd_I {C : Int → Int → Prop} {g : Int → Int → V} {a b : Int} (hc : C a b) (q : Q (g a b) H) : rI C g (.int a) (.int b) H Q := ⟨a, b, rfl, rfl, hc, q⟩
theorem rd_U {g : Int → V} {a : Int} (q : Q (g a) H) : rU g (.int a) H Q := ⟨a, rfl, q⟩
theorem rd_eq (hs : scal x y = true) (q : Q (.bl (decide (x = y))) H) : rEq x y H Q := ⟨hs, q⟩
theorem rd_ne (hs : scal x y = true) (q : Q (.bl (!decide (x = y))) H) : rNe x y H Q := ⟨hs, q⟩
theorem rd_isN (q : Q (.bl (decide (x = .non))) H) : (fun x y H Q => y = V.non ∧ Q (.bl (decide (x = .non))) H : R2) x .non H Q := ⟨rfl, q⟩
theorem rd_test {Q : Bool → Hp → Prop} (h : te σ H fun x H' => ∃ k, x = .bl k ∧ Q k H') : tTest te σ H Q := h
theorem rd_B {Q : Bool → Hp → Prop} (h : te σ H fun x H' => ∃ k, x = .bl k ∧ Q k H') : tB te σ H Q := h
theorem rd_bl {b : Bool} {P : Bool → Prop} (q : P b) : ∃ k, V.bl b = V.bl k ∧ P k := ⟨b, rfl, q⟩
theorem rd_and {Q : Bool → Hp → Prop} (h : t σ H fun c H1 => if c = true then u σ H1 Q else Q false H1) : tAnd t u σ H Q := h
theorem rd_or {Q : Bool → Hp → Prop} (h : t σ H fun c H1 => if c = true then Q true H1 else u σ H1 Q) : tOr t u σ H Q := h
theorem rd_not {Q : Bool → Hp → Prop} (h : t σ H fun c H1 => Q (!c) H1) : tNot t σ H Q := h
theorem rd_andV (h : ta σ H fun x H1 => ∃ c, x = .bl c ∧ if c = true then tb σ H1 Q else Q (.bl false) H1) : tAndV ta tb σ H Q := h
theorem rd_orV (h : ta σ H fun x H1 => ∃ c, x = .bl c ∧ if c = true then Q (.bl true) H1 else tb σ H1 Q) : tOrV ta tb σ H Q := h
theorem rd_notV (h : ta σ H fun x H1 => ∃ c, x = .bl c ∧ Q (.bl (!c)) H1) : tNotV ta σ H Q := h
theorem rd_if (h : t σ H fun c H1 => if c = true then ta σ H1 Q else tb σ H1 Q) : tIf t ta tb σ H Q := h
theorem rd_ite {b : Bool} (h1 : b = true → A) (h2 : b = false → B) : if b = true then A else B := by
  cases b with
  | true => exact h1 rfl
  | false => exact h2 rfl
theorem rd_seq (h : tu { D with nx := tw D } σ H) : tSeq tu tw D σ H := h
theorem rd_asg (h : te σ H fun x H1 => g x σ H1 D.nx) : tAsg te g D σ H := h
theorem rd_gname {Q : L2.St → Hp → Prop} (h : Q (σ.set i (some v)) H) : gName i v σ H Q := h
theorem rd_gsub {to ti : TE} {t : TSet} {Q : L2.St → Hp → Prop} (h : to σ H fun o H1 => ti σ H1 fun i H2 => t o i v H2 fun H3 => Q σ H3) : gSub to ti t v σ H Q := h
theorem rd_gtup {n : Nat} {tt : TGs} {a : Addr} {xs : List V} {Q : L2.St → Hp → Prop} (h : SqT K H a xs) (hn : xs.length = n) (q : tt xs σ H Q) : gTup K n tt (.ref a) σ H Q := ⟨a, xs, rfl, h, hn, q⟩
theorem rd_gcons {t : TG} {u : TGs} {v : V} {vs : List V} {Q : L2.St → Hp → Prop} (h : t v σ H fun σ' H' => u vs σ' H' Q) : gCons t u (v :: vs) σ H Q := ⟨v, vs, rfl, h⟩
theorem rd_gnil {Q : L2.St → Hp → Prop} (h : Q σ H) : gNil [] σ H Q := ⟨rfl, h⟩
theorem rd_ifS (h : c σ H fun b H1 => if b = true then tu D σ H1 else tw D σ H1) : tIfS c tu tw D σ H := h
theorem rd_ret (h : te σ H D.rt) : tRet te D σ H := h
theorem rd_retN (h : D.rt .non H) : tRetN D σ H := h
theorem rd_drop (h : te σ H fun _ H1 => D.nx σ H1) : tDrop te D σ H := h
theorem rd_next (h : D.nx σ H) : tNext D σ H := h
theorem rd_break (h : D.bk σ H) : tBreak D σ H := h
theorem rd_cont (h : D.ct σ H) : tCont D σ H := h
theorem rd_call {sp : Sp} {dvs : List V} {E : XK} (h : tr σ H fun vs H1 => sp (vs ++ dvs) H1 Q E) : tCall sp dvs E tr σ H Q := h
theorem rd_cons {Q : List V → Hp → Prop} (h : te σ H fun x H1 => tr σ H1 fun xs H2 => Q (x :: xs) H2) : tCons te tr σ H Q := h
theorem rd_nil {Q : List V → Hp → Prop} (h : Q [] H) : tNil σ H Q := h
theorem rd_cb {r : List V → Hp → VK → Prop} (h : tr σ H fun vs H1 => r vs H1 Q) : tCB r tr σ H Q := h
theorem rd_bm {T : String} {r : V → List V → Hp → VK → Prop} (h : te σ H fun x H1 => tyV K T x H1 ∧ tr σ H1 fun xs H2 => r x xs H2 Q) : tBM K T r te tr σ H Q := h
theorem rd_bm0 {T : String} {r : V → List V → Hp → VK → Prop} (h : te σ H fun x H1 => tyV K T x H1 ∧ r x [] H1 Q) : tBM0 K T r te σ H Q := h
theorem rd_tyS {z : Str} (q : R) : tyV K "str" (.str z) H ∧ R := ⟨rfl, q⟩
theorem rd_tyL {p : Addr} {xs : List V} (h : SqL K H p xs) (q : R) : tyV K "list" (.ref p) H ∧ R := ⟨.inl ⟨rfl, _, h⟩, q⟩
theorem rd_lst (h : tr σ H fun xs H1 => xs.length ≤ sizeLine ∧ ∀ p, H1 p = none → Q (.ref p) (upd H1 p (.lst xs))) : tLst tr σ H Q := h
theorem rd_tup (h : tr σ H fun xs H1 => xs.length ≤ sizeLine ∧ ∀ p, H1 p = none → Q (.ref p) (upd H1 p (.tup xs))) : tTup tr σ H Q := h
theorem rd_sl {r : V → Option Int → Option Int → Hp → VK → Prop} {tl th : TO} (h : te σ H fun x H1 => tl σ H1 fun l H2 => th σ H2 fun u H3 => r x l u H3 Q) : tSl r te tl th σ H Q := h
theorem rd_part {Q : Option Int → Hp → Prop} (h : te σ H fun x H1 => ∃ i, x = .int i ∧ Q (some i) H1) : tPart te σ H Q := h
theorem rd_some {a : Int} {P : Int → Prop} (q : P a) : ∃ i, V.int a = .int i ∧ P i := ⟨a, rfl, q⟩
theorem rd_strE {z : Str} {P : Str → Prop} (q : P z) : ∃ y, V.str z = .str y ∧ P y := ⟨z, rfl, q⟩
theorem rd_one {a : V} {P : V → Prop} (q : P a) : ∃ x, [a] = [x] ∧ P x := ⟨a, rfl, q⟩
theorem rd_nopart {Q : Option Int → Hp → Prop} (h : Q none H) : tNoPart σ H Q := h
theorem rd_par {ta : TA} (h : ta σ H fun vs H1 => ∃ v w, vs = [v, w] ∧ D.nx ((σ.set i (some v)).set j (some w)) H1) : tPar i j ta D σ H := h
theorem rd_two {P : V → V → Prop} {a b : V} (q : P a b) : ∃ v w, [a, b] = [v, w] ∧ P v w := ⟨a, b, rfl, q⟩
/-- named rules -/
theorem rd_addX {a b : List Nat} (hz : a.length + b.length ≤ sizeLine) (q : Q (.str (tx (a ++ b))) H) : rAddX (.str (tx a)) (.str (tx b)) H Q := ⟨a, b, rfl, rfl, hz, q⟩
theorem rd_mulX {l : List Nat} {n : Int} (h1 : -100000 ≤ n) (h2 : n ≤ 100000) (h3 : l.length * n.toNat ≤ 100000) (q : Q (.str (tx (reps n.toNat l))) H) : rMulX (.str (tx l)) (.int n) H Q := ⟨l, n, rfl, rfl, h1, h2, h3, q⟩
theorem rd_inX {neg : Bool} {n : Nat} {z : List Nat} (q : Q (.bl (if neg then !decide (n ∈ z) else decide (n ∈ z))) H) : rInX neg (.str (tx [n])) (.str (tx z)) H Q := ⟨n, z, rfl, rfl, q⟩
theorem rd_ltX {a b : List Nat} (q : Q (.bl (decide (a < b))) H) : rLtX (.str (tx a)) (.str (tx b)) H Q := ⟨a, b, rfl, rfl, q⟩
theorem rd_lenX {l : List Nat} (hz : l.length ≤ sizeLine) (q : Q (.int (l.length : Nat)) H) : rLenX [.str (tx l)] H Q := ⟨l, rfl, hz, q⟩
theorem rd_ixX {l : List Nat} {a : Int} {n : Nat} (hz : l.length ≤ sizeLine) (h : atI l a = some n) (q : Q (.str (tx [n])) H) : rIxX (.str (tx l)) (.int a) H Q := ⟨l, a, n, rfl, rfl, hz, h, q⟩
theorem rd_slX {l : List Nat} {lo hi : Option Int} (hz : l.length ≤ sizeLine) (q : Q (.str (tx (cutL l lo hi))) H) : rSlX (.str (tx l)) lo hi H Q := ⟨l, rfl, hz, q⟩
theorem rd_indexX {z : List Nat} {n k : Nat} (nd : z.Nodup) (h : z[k]? = some n) (q : Q (.int (k : Nat)) H) : rIndexX (.str (tx z)) [.str (tx [n])] H Q := ⟨z, n, k, rfl, rfl, nd, h, q⟩
theorem rd_repr (hx : scalR x) (q : Q (.str (reprS x)) H) : rRepr [x] H Q := ⟨x, rfl, hx, q⟩
theorem rd_ixL {p : Addr} {xs : List V} {a : Int} (h : SqL K H p xs) (ha : atI xs a = some v) (q : Q v H) : rIxL K (.ref p) (.int a) H Q := ⟨p, xs, a, v, rfl, rfl, h, ha, q⟩
theorem rd_ixT {p : Addr} {xs : List V} {a : Int} (h : SqT K H p xs) (ha : atI xs a = some v) (q : Q v H) : rIxT K (.ref p) (.int a) H Q := ⟨p, xs, a, v, rfl, rfl, h, ha, q⟩
theorem rd_setL {p : Addr} {xs : List V} {a : Int} {n : Nat} {Q : Hp → Prop} (h : H p = some (.lst xs)) (ha : ixN xs.length a = some n) (q : Q (upd H p (.lst (xs.set n v)))) : rSetL (.ref p) (.int a) v H Q := ⟨p, xs, a, n, rfl, rfl, h, ha, q⟩
theorem rd_app {p : Addr} {xs : List V} (h : H p = some (.lst xs)) (hz : xs.length < sizeLine) (q : Q .non (upd H p (.lst (xs ++ [v])))) : rAppend (.ref p) [v] H Q := ⟨p, xs, v, rfl, rfl, h, hz, q⟩
theorem rd_pop {p : Addr} {xs : List V} (h : H p = some (.lst (xs ++ [v]))) (q : Q v (upd H p (.lst xs))) : rPop (.ref p) [] H Q := ⟨p, xs ++ [v], v, rfl, rfl, h, by simp, by rw [List.dropLast_concat]; exact q⟩
end
/-! ### heaps: what stays when two objects D and L change -/
def Keep (D L : Addr) (H H' : Hp) : Prop := ∀ a o, H a = some o → a ≠ D → a ≠ L → H' a = some o
theorem Keep.refl {D L : Addr} (H : Hp) : Keep D L H H := fun _ _ h _ _ => h
theorem Keep.trans {D L : Addr} {H H1 H2 : Hp} (a : Keep D L H H1) (b : Keep D L H1 H2) : Keep D L H H2 := fun c o h h1 h2 => b c o (a c o h h1 h2) h1 h2
theorem Keep.new {D L p : Addr} {H : Hp} {o : HO} (h : H p = none) : Keep D L H (upd H p o) := fun a u e _ _ => by
  rw [upd_ne (ne_of_none e h)]
  exact e
theorem Keep.own {D L p : Addr} {H : Hp} {o : HO} (h : p = D ∨ p = L) : Keep D L H (upd H p o) := fun a u e h1 h2 => by
  rw [upd_ne (by rcases h with h | h <;> (rw [h]; assumption))]
  exact e
theorem Keep.of_same {D L : Addr} {H H' : Hp} (h : Same H H') : Keep D L H H' := fun a o e _ _ => h a o e
theorem same_upd {H : Hp} {p : Addr} {o : HO} (h : H p = none) : Same H (upd H p o) := fun b x e => by
  rw [upd_ne (ne_of_none e h)]
  exact e
theorem mulW_of {i j : Int} (h1 : i.natAbs < 2 ^ 250) (h2 : j.natAbs < 2 ^ 250) : CMulW i j := wide_mul h1 h2 (by decide) (by decide) (by decide)

/-! ### flat lists as data -/
theorem dpAll_ints {K : PySem.W.Frag} {H : Hp} : ∀ ns : List Int, DpAll K H (ns.map V.int) (ns.map PyData.int)
  | [] => .nil
  | n :: r => .cons (.int n) (dpAll_ints r)
theorem canLay_ints : ∀ ns : List Int, PyData.canLayAll0 (ns.map PyData.int) = true
  | [] => by simp [PyData.canLayAll0]
  | n :: r => by
    have h := canLay_ints r
    simp [PyData.canLayAll0, PyData.canLay0, h]
theorem depth_ints : ∀ ns : List Int, PyData.depthAll (ns.map PyData.int) = 0
  | [] => by simp [PyData.depthAll]
  | n :: r => by
    have h := depth_ints r
    simp [PyData.depthAll, PyData.depth, h]
theorem shaped_ints (ns : List Int) : SeqAt.shaped (.list (ns.map PyData.int)) = true := by
  unfold SeqAt.shaped
  simp [PyData.canLay0, canLay_ints, PyData.depth, depth_ints]
theorem eqv_nil_list (ds : List PyData) : PyData.eqv (.list ds) (.list []) = ds.isEmpty := by
  cases ds <;> simp [PyData.eqv, PyData.eqvAll]
section
variable {K : PySem.W.Frag} {H : Hp} {Q : VK}
theorem rd_neNil {p e : Addr} {ns : List Int} (h1 : SqL K H p (ns.map V.int)) (h2 : SqL K H e []) (q : Q (.bl (!ns.isEmpty)) H) : rNeD K (.ref p) (.ref e) H Q :=
  ⟨.list (ns.map PyData.int), .list [], .lst h1 (dpAll_ints ns), .lst h2 .nil, shaped_ints ns, shaped_ints [], by
    rw [eqv_nil_list]
    cases ns <;> exact q⟩
theorem rd_int1 {i : Int} {x : List Int} (q : Q (.int i) H) : (∃ j, [V.int i] = [V.int j] ∧ Q (.int j) H) ∨ ∃ k, [V.int i] = [V.bl k] ∧ Q (.int (if k = true then 1 else 0)) H := .inl ⟨i, rfl, q⟩
end
theorem atI_last1 {xs : List V} {v : V} (h : xs.getLast? = some v) : atI xs (-1) = some v := by
  obtain ⟨ys, rfl⟩ : ∃ ys, xs = ys ++ [v] := by
    cases hx : xs with
    | nil => rw [hx] at h; simp at h
    | cons a r =>
      have := List.dropLast_concat_getLast (l := xs) (by rw [hx]; simp)
      rw [List.getLast?_eq_getLast (by rw [hx]; simp)] at h
      exact ⟨xs.dropLast, by rw [← hx, ← Option.some.inj h, this]⟩
  exact atI_last _ _

/-! ### built-ins under names -/
def rIntI : List V → Hp → VK → Prop := fun xs H Q => ∃ i, xs = [.int i] ∧ Q (.int i) H
def rIntB : List V → Hp → VK → Prop := fun xs H Q => ∃ b : Bool, xs = [.bl b] ∧ Q (.int (if b then 1 else 0)) H
def rStrS : List V → Hp → VK → Prop := fun xs H Q => ∃ a, xs = [.str a] ∧ Q (.str a) H
def rListX : List V → Hp → VK → Prop := fun xs H Q => ∃ l : List Nat, xs = [.str (tx l)] ∧ l.length ≤ sizeLine ∧ ∀ p, H p = none → Q (.ref p) (upd H p (.lst (sgs l)))
def rDivmod : List V → Hp → VK → Prop := fun xs H Q => ∃ i j, xs = [.int i, .int j] ∧ 0 < j ∧ j.natAbs.log2 < 9000 ∧ ∀ p, H p = none → Q (.ref p) (upd H p (.tup [.int (i / j), .int (i % j)]))
def rLenQ (K : PySem.W.Frag) : List V → Hp → VK → Prop := fun xs H Q => ∃ p ys, xs = [.ref p] ∧ (SqL K H p ys ∨ SqT K H p ys) ∧ Q (.int (ys.length : Nat)) H
def rSplitW (K : PySem.W.Frag) : List V → Hp → VK → Prop := fun xs H Q => ∃ p ys, xs = [.ref p] ∧ (SqL K H p ys ∨ SqT K H p ys) ∧ ∀ l, H l = none → Q (.ref l) (upd H l (.lst ys))
section
variable {X : Cx}
theorem call_intI : CallR X (.type "int") rIntI := fun pins s σ H xs us Q I r h => call_int1 pins s σ H xs us Q I r (.inl h)
theorem call_intB : CallR X (.type "int") rIntB := fun pins s σ H xs us Q I r h => call_int1 pins s σ H xs us Q I r (.inr h)
theorem call_strS : CallR X (.type "str") rStrS := SkE.call_str_str
theorem call_listX (hc : X.calm = true) : CallR X (.type "list") rListX := call_list_strR hc
theorem call_lenQ : CallR X (.builtin "len") (rLenQ X.K) := call_len_seq
theorem call_listQ : CallR X (.type "list") (rSplitW X.K) := call_list_of
end
section
variable {K : PySem.W.Frag} {H : Hp} {Q : VK}
theorem rd_intI {i : Int} (q : Q (.int i) H) : rIntI [.int i] H Q := ⟨i, rfl, q⟩
theorem rd_intB {b : Bool} (q : Q (.int (if b then 1 else 0)) H) : rIntB [.bl b] H Q := ⟨b, rfl, q⟩
theorem rd_strS {a : Str} (q : Q (.str a) H) : rStrS [.str a] H Q := ⟨a, rfl, q⟩
theorem rd_listX {l : List Nat} (hl : l.length ≤ sizeLine) (q : ∀ p, H p = none → Q (.ref p) (upd H p (.lst (sgs l)))) : rListX [.str (tx l)] H Q := ⟨l, rfl, hl, q⟩
theorem rd_lenL {p : Addr} {ys : List V} (h : SqL K H p ys) (q : Q (.int (ys.length : Nat)) H) : rLenQ K [.ref p] H Q := ⟨p, ys, rfl, .inl h, q⟩
theorem rd_lenT {p : Addr} {ys : List V} (h : SqT K H p ys) (q : Q (.int (ys.length : Nat)) H) : rLenQ K [.ref p] H Q := ⟨p, ys, rfl, .inr h, q⟩
theorem rd_all {p : Addr} {bs : List Bool} (h : SqL K H p (bs.map V.bl)) (q : Q (.bl (bs.all id)) H) : rAll K [.ref p] H Q := ⟨p, bs, rfl, h, q⟩
theorem rd_sortS {p : Addr} {zs : List Str} (h : SqL K H p (zs.map V.str)) (hl : zs.length < 64) (q : ∀ (ys : List Str) (p : Addr), ys.Perm zs → sortedS ys = true → H p = none → Q (.ref p) (upd H p (.lst (ys.map V.str)))) : rSortedS K [.ref p] H Q := ⟨p, zs, rfl, h, hl, q⟩
theorem rd_popAt {p : Addr} {xs : List V} {i : Nat} {y : V} (h : H p = some (.lst xs)) (hi : i < 2 ^ 62) (hy : xs[i]? = some y) (q : Q y (upd H p (.lst (xs.eraseIdx i)))) : rPopAt (.ref p) [.int (i : Nat)] H Q := by
  have hl : i < xs.length := (List.getElem?_eq_some_iff.mp hy).1
  refine ⟨p, xs, (i : Int), i, y, rfl, rfl, h, by omega, by omega, ?_, hy, q⟩
  unfold seqIndex?
  simp
  omega
theorem rd_joinX {p : Addr} {ls : List (List Nat)} (h : SqL K H p (ls.map fun l => V.str (tx l))) (hz : (ls.map List.length).sum ≤ 16777216) (q : Q (.str (tx ls.flatten)) H) : rJoinX K (.str (tx [])) [.ref p] H Q := ⟨p, ls, rfl, rfl, h, hz, q⟩
theorem rd_slL {p : Addr} {xs : List V} {lo hi : Option Int} (h : SqL K H p xs) (q : ∀ n, H n = none → Q (.ref n) (upd H n (.lst (cutV xs lo hi)))) : rSlL K (.ref p) lo hi H Q := ⟨p, xs, rfl, h, q⟩
theorem rd_revL {σ : L2.St} {te : TE} (h : te σ H fun x H1 => ∃ a xs, x = .ref a ∧ SqL K H1 a xs ∧ ∀ p, H1 p = none → Q (.ref p) (upd H1 p (.lst xs.reverse))) : tRevL K te σ H Q := h
end

/-! ### comprehensions and loops -/
theorem same_mut {H H' : Hp} {p : Addr} {o : HO} (e : Same H H') (h : H p = none) : Same H (upd H' p o) := fun a u ha => by
  rw [upd_ne (ne_of_none ha h)]
  exact e a u ha
theorem Keep.mut {D L p : Addr} {H H' : Hp} {o : HO} (e : Keep D L H H') (h : H p = none) : Keep D L H (upd H' p o) := fun a u ha h1 h2 => by
  rw [upd_ne (ne_of_none ha h)]
  exact e a u ha h1 h2
section
variable {K : PySem.W.Frag} {σ : L2.St} {H : Hp} {Q : VK} {D : Ends} {tl te : TE} {tt : TT} {g : TG} {tb : TS} {wi : TI} {vs : List Nat} {R : It → Hp → Prop}
theorem rd_lc (h : wi σ H fun J H1 => ∀ D, H1 D = none → ∃ W : Nat → Nat → Hp → Prop, (∃ m, W 0 m (upd H1 D (.lst []))) ∧ ∀ i m H, W i m H →
  (J.stop i H ∧ Q (.ref D) H) ∨ (J.go i H ∧ ∃ Nx : Hp → Prop, (∀ H', Nx H' → ∃ m', m' < m ∧ W (i + 1) m' H') ∧ ∀ x H', J.yld i H x H' → g x (wipe σ vs) H' fun σ2 H2 => wipe σ2 vs = wipe σ vs ∧ tt σ2 H2 fun b H3 =>
    if b = true then te σ2 H3 fun y H4 => ∃ acc, H4 D = some (.lst acc) ∧ acc.length < sizeLine ∧ Nx (upd H4 D (.lst (acc ++ [y]))) else Nx H3)) : tLc wi g tt te vs σ H Q := h
theorem rd_iList (h : tl σ H fun x H1 => ∃ a, x = .ref a ∧ (∃ xs, SqL K H1 a xs) ∧ R (Itl K a) H1) : iList K tl σ H R := h
theorem rd_iStr (h : tl σ H fun v H1 => ∃ x, v = .str x ∧ R (Its x) H1) : iStr tl σ H R := h
theorem rd_iTup (h : tl σ H fun x H1 => ∃ a, x = .ref a ∧ (∃ xs, SqT K H1 a xs) ∧ R (Itt K a) H1) : iTup K tl σ H R := h
theorem rd_for (h : wi σ H fun J H1 => ∃ W : Nat → Nat → L2.St → Hp → Prop, (∃ m, W 0 m σ H1) ∧ ∀ i m σ H, W i m σ H →
  (J.stop i H ∧ D.nx σ H) ∨ (J.go i H ∧ ∃ N : L2.St → Hp → Prop, (∀ σ' H', N σ' H' → ∃ m', m' < m ∧ W (i + 1) m' σ' H') ∧ ∀ x H', J.yld i H x H' → g x σ H' fun σ2 H2 => tb { D with nx := N, ct := N, bk := D.nx } σ2 H2)) : tFor wi g tb D σ H := h
theorem rd_rng1 {ta : TA} (h : ta σ H fun vs H1 => ∃ j : Int, vs = [.int j] ∧ -(2 ^ 62) ≤ j ∧ j < 2 ^ 62 ∧ R (Itr 0 j.toNat) H1) : iRng1 ta σ H R := h
theorem rd_rng2 {ta : TA} (h : ta σ H fun vs H1 => ∃ i j : Int, vs = [.int i, .int j] ∧ (-(2 ^ 62) ≤ i ∧ i < 2 ^ 62 ∧ -(2 ^ 62) ≤ j ∧ j < 2 ^ 62) ∧ R (Itr i (j - i).toNat) H1) : iRng2 ta σ H R := h
theorem rd_yes {Q : Bool → Hp → Prop} (h : Q true H) : tYes σ H Q := h
theorem rd_cut {t u : TS} (Mid : L2.St → Hp → Prop) (h : t { D with nx := Mid } σ H) (k : ∀ σ' H', Mid σ' H' → u D σ' H') : Evl.tCut t u D σ H := ⟨Mid, h, k⟩
end
theorem cutV_ints (ns : List Int) (lo hi : Option Int) : ∃ zs : List Int, cutV (ns.map V.int) lo hi = zs.map V.int ∧ zs.length ≤ ns.length := by
  refine ⟨(ns.drop (HT.sIx (ns.map V.int).length 0 lo)).take (HT.sIx (ns.map V.int).length (ns.map V.int).length hi - HT.sIx (ns.map V.int).length 0 lo), ?_, ?_⟩
  · unfold cutV
    rw [List.map_take, List.map_drop]
  · rw [List.length_take, List.length_drop]
    omega
theorem take_snoc {α β : Type} {xs : List α} {i : Nat} {x : α} (f : α → β) (h : xs[i]? = some x) : (xs.take (i + 1)).map f = (xs.take i).map f ++ [f x] := by
  rw [List.take_add_one, h, List.map_append]
  rfl
theorem get_map {α : Type} {xs : List α} {f : α → V} {i : Nat} {v : V} (h : (xs.map f)[i]? = some v) : ∃ x, xs[i]? = some x ∧ v = f x := by
  rw [List.getElem?_map] at h
  cases e : xs[i]? with
  | none => rw [e] at h; cases h
  | some x => rw [e] at h; exact ⟨x, rfl, (Option.some.inj h).symm⟩

/-! ### a sequence that is a list or a text -/
def rLenA (K : PySem.W.Frag) : List V → Hp → VK → Prop := fun xs H Q => rLenQ K xs H Q ∨ rLenX xs H Q
def rIxA (K : PySem.W.Frag) : R2 := fun x y H Q => rIxL K x y H Q ∨ rIxX x y H Q
theorem sgs_len (l : List Nat) : (sgs l).length = l.length := by simp [sgs]
section
variable {X : Cx}
theorem call_lenA : CallR X (.builtin "len") (rLenA X.K) := fun pins s σ H xs us Q I r h => h.elim (call_lenQ pins s σ H xs us Q I r) (call_lenX pins s σ H xs us Q I r)
theorem ix_any : IxR X (rIxA X.K) := ix_list.or ix_strX
end
section
variable {K : PySem.W.Frag} {H : Hp} {Q : VK} {v x : V} {ys : List V} {j : Nat}
theorem rd_lenA (h : (∃ a, v = .ref a ∧ SqL K H a ys) ∨ ∃ l, v = .str (tx l) ∧ ys = sgs l ∧ l.length ≤ sizeLine) (q : Q (.int (ys.length : Nat)) H) : rLenA K [v] H Q := by
  rcases h with ⟨a, rfl, h⟩ | ⟨l, rfl, rfl, h⟩
  · exact .inl ⟨a, ys, rfl, .inl h, q⟩
  · exact .inr ⟨l, rfl, h, by rw [sgs_len] at q; exact q⟩
theorem rd_ixA (h : (∃ a, v = .ref a ∧ SqL K H a ys) ∨ ∃ l, v = .str (tx l) ∧ ys = sgs l ∧ l.length ≤ sizeLine) (hj : ys[j]? = some x) (q : Q x H) : rIxA K v (.int (j : Nat)) H Q := by
  rcases h with ⟨a, rfl, h⟩ | ⟨l, rfl, rfl, h⟩
  · exact .inl ⟨a, ys, _, x, rfl, rfl, h, atI_nat hj, q⟩
  · obtain ⟨c, hc, rfl⟩ := get_map hj
    exact .inr ⟨l, _, c, rfl, rfl, h, atI_nat hc, q⟩
end

/-! ### sorted sgs -/
theorem perm_map {α β : Type} {f : α → β} : ∀ {ys : List β} {xs : List α}, ys.Perm (xs.map f) → ∃ zs : List α, zs.Perm xs ∧ ys = zs.map f := by
  intro ys xs h
  generalize hz : xs.map f = zs at h
  induction h generalizing xs with
  | nil => exact ⟨xs, List.Perm.refl _, hz.symm⟩
  | cons x h ih =>
    cases xs with
    | nil => simp at hz
    | cons a r =>
      rw [List.map_cons] at hz
      injection hz with h1 h2
      obtain ⟨zs, p, e⟩ := ih h2
      exact ⟨a :: zs, p.cons a, by rw [List.map_cons, h1, e]⟩
  | swap x y l =>
    cases xs with
    | nil => simp at hz
    | cons a r =>
      cases r with
      | nil => simp at hz
      | cons b t =>
        rw [List.map_cons, List.map_cons] at hz
        injection hz with h1 h2
        injection h2 with h2 h3
        exact ⟨b :: a :: t, List.Perm.swap _ _ _, by rw [List.map_cons, List.map_cons, h1, h2, h3]⟩
  | trans h1 h2 ih1 ih2 =>
    obtain ⟨zs, p, e⟩ := ih2 hz
    obtain ⟨ws, p2, e2⟩ := ih1 e.symm
    exact ⟨ws, p2.trans p, e2⟩
theorem ltCps_one (a b : Nat) : ltCps [a] [b] = decide (a < b) := by
  first | rfl | simp [ltCps]
theorem rising_signs : ∀ (ks : List Nat) (p : Nat), risingS (tx [p]) (ks.map fun c => tx [c]) = true → (p :: ks).Pairwise (· ≤ ·)
  | [], p, _ => by simp
  | k :: r, p, h => by
    rw [List.map_cons] at h
    unfold risingS at h
    rw [Bool.and_eq_true, tx_cps, tx_cps, ltCps_one] at h
    have h1 : p ≤ k := by simpa using h.1
    have h2 := rising_signs r k h.2
    refine List.Pairwise.cons (fun x hx => ?_) h2
    rcases List.mem_cons.mp hx with e | hx
    · omega
    · have := (List.pairwise_cons.mp h2).1 x hx
      omega
theorem sorted_signs {fs : List Nat} {ys : List Str} (hp : ys.Perm (fs.map fun c => tx [c])) (hs : sortedS ys = true) (nd : fs.Nodup) : ∃ ks : List Nat, ys = (ks.map fun c => tx [c]) ∧ ks.Perm fs ∧ ks.Pairwise (· < ·) := by
  obtain ⟨ks, p, rfl⟩ := perm_map hp
  refine ⟨ks, rfl, p, ?_⟩
  have hle : ks.Pairwise (· ≤ ·) := by
    cases ks with
    | nil => exact List.Pairwise.nil
    | cons a r => exact rising_signs r a hs
  have hne : ks.Nodup := p.nodup_iff.mpr nd
  exact (hle.and hne).imp fun h => by omega
theorem flat_ones : ∀ ks : List Nat, (ks.map fun c => [c]).flatten = ks
  | [] => rfl
  | k :: r => by rw [List.map_cons, List.flatten_cons, flat_ones r]; rfl
theorem eraseIdx_perm {α : Type} : ∀ {xs : List α} {i : Nat} {x : α}, xs[i]? = some x → (x :: xs.eraseIdx i).Perm xs
  | [], _, _, h => by simp at h
  | a :: r, 0, x, h => by
    have : a = x := by simpa using h
    subst this
    exact List.Perm.refl _
  | a :: r, i + 1, x, h => by
    have ih := eraseIdx_perm (xs := r) (i := i) (x := x) (by simpa using h)
    rw [List.eraseIdx_cons_succ]
    exact (List.Perm.swap _ _ _).trans (ih.cons a)
theorem sgs_erase (l : List Nat) (i : Nat) : (sgs l).eraseIdx i = sgs (l.eraseIdx i) := by
  unfold sgs
  induction l generalizing i with
  | nil => simp
  | cons a r ih =>
    cases i with
    | zero => simp
    | succ i => simp [ih]

/-! ### walks over a text -/
theorem lc_text {l : List Nat} {g : TG} {tt : TT} {te : TE} {vs : List Nat} {σ : L2.St} {H1 : Hp} {D : Addr} {Qd : Hp → Prop} (Pv : Nat → Hp → Prop) (h0 : Pv 0 (upd H1 D (.lst [])))
    (hs : ∀ (i c : Nat) H, l[i]? = some c → Pv i H → g (.str (tx [c])) (wipe σ vs) H fun σ2 H2 => wipe σ2 vs = wipe σ vs ∧ tt σ2 H2 fun b H3 =>
      if b = true then te σ2 H3 fun y H4 => ∃ acc, H4 D = some (.lst acc) ∧ acc.length < sizeLine ∧ Pv (i + 1) (upd H4 D (.lst (acc ++ [y]))) else Pv (i + 1) H3) (hd : ∀ H, Pv l.length H → Qd H) :
    ∃ W : Nat → Nat → Hp → Prop, (∃ m, W 0 m (upd H1 D (.lst []))) ∧ ∀ i m H, W i m H →
      ((Its (tx l)).stop i H ∧ Qd H) ∨ ((Its (tx l)).go i H ∧ ∃ Nx : Hp → Prop, (∀ H', Nx H' → ∃ m', m' < m ∧ W (i + 1) m' H') ∧ ∀ x H', (Its (tx l)).yld i H x H' → g x (wipe σ vs) H' fun σ2 H2 => wipe σ2 vs = wipe σ vs ∧ tt σ2 H2 fun b H3 =>
        if b = true then te σ2 H3 fun y H4 => ∃ acc, H4 D = some (.lst acc) ∧ acc.length < sizeLine ∧ Nx (upd H4 D (.lst (acc ++ [y]))) else Nx H3) := by
  have hsz : (tx l).cps.size = l.length := by simp [tx]
  refine ⟨fun i m H => m + i = l.length ∧ Pv i H, ⟨l.length, rfl, h0⟩, fun i m H h => ?_⟩
  obtain ⟨hm, p⟩ := h
  by_cases hi : i < l.length
  · refine .inr ⟨show i < (tx l).cps.size by rw [hsz]; exact hi, Pv (i + 1), fun H' p' => ⟨m - 1, by omega, by omega, p'⟩, fun x H' hy => ?_⟩
    obtain ⟨rfl, c, hc, rfl⟩ := hy
    have hc2 : l[i]? = some c := by simpa [tx] using hc
    exact hs i c _ hc2 p
  · have e : i = l.length := by omega
    subst e
    exact .inl ⟨show (tx l).cps.size ≤ l.length by rw [hsz]; exact Nat.le_refl _, hd H p⟩
theorem for_text {l : List Nat} {g : TG} {tb : TS} {D : Ends} {σ : L2.St} {H : Hp} (Pv : Nat → L2.St → Hp → Prop) (h0 : Pv 0 σ H)
    (hs : ∀ (i c : Nat) σ H, l[i]? = some c → Pv i σ H → g (.str (tx [c])) σ H fun σ2 H2 => tb { D with nx := Pv (i + 1), ct := Pv (i + 1), bk := D.nx } σ2 H2) (hd : ∀ σ H, Pv l.length σ H → D.nx σ H) :
    ∃ W : Nat → Nat → L2.St → Hp → Prop, (∃ m, W 0 m σ H) ∧ ∀ i m σ H, W i m σ H →
      ((Its (tx l)).stop i H ∧ D.nx σ H) ∨ ((Its (tx l)).go i H ∧ ∃ N : L2.St → Hp → Prop, (∀ σ' H', N σ' H' → ∃ m', m' < m ∧ W (i + 1) m' σ' H') ∧ ∀ x H', (Its (tx l)).yld i H x H' → g x σ H' fun σ2 H2 => tb { D with nx := N, ct := N, bk := D.nx } σ2 H2) := by
  have hsz : (tx l).cps.size = l.length := by simp [tx]
  refine ⟨fun i m σ H => m + i = l.length ∧ Pv i σ H, ⟨l.length, rfl, h0⟩, fun i m σ H h => ?_⟩
  obtain ⟨hm, p⟩ := h
  by_cases hi : i < l.length
  · refine .inr ⟨show i < (tx l).cps.size by rw [hsz]; exact hi, Pv (i + 1), fun σ' H' p' => ⟨m - 1, by omega, by omega, p'⟩, fun x H' hy => ?_⟩
    obtain ⟨rfl, c, hc, rfl⟩ := hy
    have hc2 : l[i]? = some c := by simpa [tx] using hc
    exact hs i c _ _ hc2 p
  · have e : i = l.length := by omega
    subst e
    exact .inl ⟨show (tx l).cps.size ≤ l.length by rw [hsz]; exact Nat.le_refl _, hd σ H p⟩
def rDivm : List V → Hp → VK → Prop := fun xs H Q => ∃ i j, xs = [.int i, .int j] ∧ 0 < j ∧ j < 1000000000 ∧ ∀ p, H p = none → Q (.ref p) (upd H p (.tup [.int (i / j), .int (i % j)]))
theorem call_divm {X : Cx} : CallR X (.builtin "divmod") rDivm := fun pins s σ H xs us Q I r h => by
  obtain ⟨i, j, e, h1, h2, q⟩ := h
  exact call_divmod pins s σ H xs us Q I r ⟨i, j, e, ⟨h1, by omega⟩, q⟩
theorem rd_divm {H : Hp} {Q : VK} {i j : Int} (h1 : 0 < j) (h2 : j < 1000000000) (q : ∀ p, H p = none → Q (.ref p) (upd H p (.tup [.int (i / j), .int (i % j)]))) : rDivm [.int i, .int j] H Q := ⟨i, j, rfl, h1, h2, q⟩
theorem rd_isiS {K : PySem.W.Frag} {H : Hp} {Q : VK} {z : Str} (q : Q (.bl true) H) : rIsi K [.str z, .ty "str"] H Q := ⟨_, _, _, _, true, rfl, .ty "str", .base (.str z), kit_ty (by decide +kernel), q⟩

theorem scal_int {i : Int} (h : i.natAbs < 2 ^ 250) : scalR (.int i) := Nat.lt_trans (PySem.Flt.log2_lt_of (by decide) h) (by decide)
theorem cut_zero (l : List Nat) (k : Nat) : cutL l none (some (k : Int)) = l.take k := by
  unfold cutL
  rw [HT.sIx_none, HT.sIx_nat, List.drop_zero, Nat.sub_zero]
  rcases Nat.le_total k l.length with h | h
  · rw [Nat.min_eq_left h]
  · rw [Nat.min_eq_right h, List.take_length, List.take_of_length_le h]
theorem mem_reps {n : Nat} {l : List Nat} {c : Nat} (h : c ∈ reps n l) : c ∈ l := by
  unfold reps at h
  rw [List.mem_flatten] at h
  obtain ⟨m, hm, hc⟩ := h
  rw [(List.mem_replicate.mp hm).2] at hc
  exact hc
end Un

namespace Un
open PySem PySem.Spec PyProof.Rows L2
/-! ### rstrip of one sign, startswith, order of texts -/
theorem tail_cut (g : Nat) : ∀ t : List Nat, ∃ p m, t = p ++ List.replicate m g ∧ ∀ c, p.getLast? = some c → c ≠ g := by
  intro t
  induction ht : t.length generalizing t with
  | zero =>
    have : t = [] := List.length_eq_zero_iff.mp ht
    subst this
    exact ⟨[], 0, rfl, fun c h => by cases h⟩
  | succ n ih =>
    have hne : t ≠ [] := by
      rintro rfl
      cases ht
    obtain ⟨q, d, rfl⟩ : ∃ q d, t = q ++ [d] := ⟨t.dropLast, t.getLast hne, (List.dropLast_concat_getLast hne).symm⟩
    by_cases hd : d = g
    · subst hd
      obtain ⟨p, m, e, h⟩ := ih q (by simpa using ht)
      exact ⟨p, m + 1, by rw [e, List.append_assoc, ← List.replicate_succ'], h⟩
    · exact ⟨q ++ [d], 0, by simp, fun c hc => by
        rw [List.getLast?_concat] at hc
        rw [← Option.some.inj hc]
        exact hd⟩
theorem takeWhile_rep (g : Nat) (f : Nat → Bool) (hf : ∀ c, f c = (c == g)) : ∀ (m : Nat) (r : List Nat), (∀ c, r.head? = some c → c ≠ g) → (List.replicate m g ++ r).takeWhile f = List.replicate m g
  | 0, [], _ => rfl
  | 0, c :: r, h => by
    have h1 := h c rfl
    show (c :: r).takeWhile f = []
    rw [List.takeWhile_cons, hf, if_neg (by simpa using h1)]
  | m + 1, r, h => by
    rw [List.replicate_succ, List.cons_append, List.takeWhile_cons, hf, if_pos (by simp), takeWhile_rep g f hf m r h]
theorem rstrip_tx {p : List Nat} {m g : Nat} (h : ∀ c, p.getLast? = some c → c ≠ g) : Txt.rstripChars (tx (p ++ List.replicate m g)) (tx [g]) = tx p := by
  have hlo : stripLo (tx [g]).cps.contains false (tx (p ++ List.replicate m g)) = 0 := rfl
  have hw : ((tx (p ++ List.replicate m g)).cps.toList.drop 0).reverse.takeWhile (tx [g]).cps.contains = List.replicate m g := by
    rw [tx_cps, List.drop_zero, List.reverse_append, List.reverse_replicate]
    refine takeWhile_rep g _ (fun c => ?_) m p.reverse (fun c hc => h c ?_)
    · show (#[g] : Array Nat).contains c = (c == g)
      simp [Array.contains]
    · rw [List.head?_reverse] at hc
      exact hc
  have hhi : stripHi (tx [g]).cps.contains true (tx (p ++ List.replicate m g)) 0 = p.length := by
    unfold stripHi
    rw [if_pos rfl, hw, tx_len, List.length_append, List.length_replicate]
    omega
  unfold Txt.rstripChars Txt.stripBy stripSame
  rw [hlo, hhi, tx_len, List.length_append, List.length_replicate]
  by_cases hm : m = 0
  · subst hm
    simp
  · rw [if_neg (by simp; omega)]
    unfold stripped
    rw [hlo, hhi]
    unfold Builtin.Str.strSub tx
    simp
def rRstX : V → List V → Hp → VK → Prop := fun x xs H Q => ∃ (p : List Nat) (m g : Nat), x = .str (tx (p ++ List.replicate m g)) ∧ xs = [.str (tx [g])] ∧ (∀ c, p.getLast? = some c → c ≠ g) ∧ p.length + m ≤ sizeLine ∧ Q (.str (tx p)) H
section
variable {X : Cx}
theorem mt_rstX : MtR X "str.rstrip" rRstX := by
  intro pins s σ H x xs v us Q I rx rs h
  obtain ⟨p, m, g, rfl, rfl, hp, hz, q⟩ := h
  exact mt_rstripChars pins s σ H _ _ v us Q I rx rs ⟨_, _, rfl, rfl, by rw [tx_len, List.length_append, List.length_replicate]; exact hz, by rw [rstrip_tx hp]; exact q⟩
theorem starts_tx (a b : List Nat) : Txt.startswith (tx a) (tx b) = b.isPrefixOf a := by
  unfold Txt.startswith Builtin.Str.subAt
  rw [tx_len, tx_len, Nat.zero_add, Bool.eq_iff_iff, List.isPrefixOf_iff_prefix, Bool.and_eq_true, decide_eq_true_eq, beq_iff_eq]
  have e : (tx a).cps.extract 0 b.length = (tx b).cps ↔ a.take b.length = b := by
    rw [← Array.toList_inj]
    simp [tx]
  rw [e]
  constructor
  · rintro ⟨h1, h2⟩
    rw [← h2]
    exact List.take_prefix _ _
  · rintro ⟨r, rfl⟩
    simp
def rStartX : V → List V → Hp → VK → Prop := fun x xs H Q => ∃ a b : List Nat, x = .str (tx a) ∧ xs = [.str (tx b)] ∧ Q (.bl (b.isPrefixOf a)) H
theorem mt_startX : MtR X "str.startswith" rStartX := by
  intro pins s σ H x xs v us Q I rx rs h
  obtain ⟨a, b, rfl, rfl, q⟩ := h
  exact mt_startswith pins s σ H _ _ v us Q I rx rs ⟨_, _, rfl, rfl, by rw [starts_tx]; exact q⟩
theorem op_leX : OpR X (compareOp .LtE) rLeX := by
  intro pins s σ H x y v u Q I rx ry h
  obtain ⟨a, b, rfl, rfl, q⟩ := h
  exact op_le_str pins s σ H _ _ v u Q I rx ry ⟨_, _, rfl, rfl, by rw [tx_cps, tx_cps]; exact q⟩
def rIsN1 : R2 := fun x y H Q => y = .non ∧ Q (.bl (decide (x = .non))) H
def rNotN1 : R2 := fun x y H Q => y = .non ∧ Q (.bl (!decide (x = .non))) H
theorem op_isN' : OpR X (compareOp .Is) rIsN1 := op_isN
theorem op_notN' : OpR X (compareOp .IsNot) rNotN1 := op_notN
end
section
variable {K : PySem.W.Frag} {H : Hp} {Q : VK} {x : V}
theorem rd_rstX {p : List Nat} {m g : Nat} (h : ∀ c, p.getLast? = some c → c ≠ g) (hz : p.length + m ≤ sizeLine) (q : Q (.str (tx p)) H) : rRstX (.str (tx (p ++ List.replicate m g))) [.str (tx [g])] H Q := ⟨p, m, g, rfl, rfl, h, hz, q⟩
theorem rd_startX {a b : List Nat} (q : Q (.bl (b.isPrefixOf a)) H) : rStartX (.str (tx a)) [.str (tx b)] H Q := ⟨a, b, rfl, rfl, q⟩
theorem rd_leX {a b : List Nat} (q : Q (.bl (!decide (b < a))) H) : rLeX (.str (tx a)) (.str (tx b)) H Q := ⟨a, b, rfl, rfl, q⟩
theorem rd_isN1 (q : Q (.bl (decide (x = .non))) H) : rIsN1 x .non H Q := ⟨rfl, q⟩
theorem rd_notN1 (q : Q (.bl (!decide (x = .non))) H) : rNotN1 x .non H Q := ⟨rfl, q⟩
theorem rd_eqNilNil {p e : Addr} (h1 : SqL K H p []) (h2 : SqL K H e []) (q : Q (.bl true) H) : rEqD K (.ref p) (.ref e) H Q := ⟨.list [], .list [], .lst h1 .nil, .lst h2 .nil, shaped_ints [], shaped_ints [], by rw [eqv_nil_list]; exact q⟩
theorem rd_neNilNil {p e : Addr} (h1 : SqL K H p []) (h2 : SqL K H e []) (q : Q (.bl false) H) : rNeD K (.ref p) (.ref e) H Q := ⟨.list [], .list [], .lst h1 .nil, .lst h2 .nil, shaped_ints [], shaped_ints [], by rw [eqv_nil_list]; exact q⟩
theorem rd_cat {p q : Addr} {xs ys : List V} (h1 : H p = some (.lst xs)) (h2 : H q = some (.lst ys)) (hz : xs.length + ys.length ≤ sizeLine) (k : ∀ n, H n = none → Q (.ref n) (upd H n (.lst (xs ++ ys)))) : rCat (.ref p) (.ref q) H Q := ⟨p, q, xs, ys, rfl, rfl, h1, h2, hz, k⟩
end
theorem reps_one (n g : Nat) : reps n [g] = List.replicate n g := by
  unfold reps
  induction n with
  | zero => rfl
  | succ n ih => rw [List.replicate_succ, List.flatten_cons, ih]; rfl
theorem atI_m1 {l : List Nat} {c : Nat} (h : l.getLast? = some c) : atI l (-1) = some c := by
  have hne : l ≠ [] := by
    rintro rfl
    cases h
  rw [List.getLast?_eq_getLast hne] at h
  rw [← Option.some.inj h]
  conv => lhs; rw [← List.dropLast_concat_getLast hne]
  exact atI_last _ _
theorem cut_m1 (l : List Nat) (c : Nat) : cutL (l ++ [c]) none (some (-1)) = l := by
  unfold cutL
  have h : HT.sIx (l ++ [c]).length (l ++ [c]).length (some (-1)) = l.length := by
    unfold HT.sIx
    rw [List.length_append]
    simp
    try omega
  rw [HT.sIx_none, h]
  simp
end Un

set_option maxHeartbeats 2000000
/-! UnZip: zip of two texts, the signs in new pairs. -/
namespace Un
open PySem PySem.Spec PyProof.Rows L2
def ItzS (x y : Str) : It :=
  ⟨fun i _ => i < x.cps.size ∧ i < y.cps.size,
    fun i H v H' => ∃ T c d, v = .ref T ∧ H T = none ∧ H' = upd H T (.tup [.str ⟨#[c]⟩, .str ⟨#[d]⟩]) ∧ x.cps[i]? = some c ∧ y.cps[i]? = some d,
    fun i _ => i ≤ x.cps.size ∧ i ≤ y.cps.size ∧ (i = x.cps.size ∨ i = y.cps.size)⟩
theorem turn_zipS {P : Program} {w : World} {K : PySem.W.Frag} {elts : List Expr} {kk : Nat} {tpos : Pos} {z TI TO i1 i2 : Addr} {x y : Str} {t u : Tok} (D : ZipSep2 z TI TO i1 i2 [i1] [i2]) :
    Turn P w K (.Tuple elts kk tpos) (ItzS x y) [z, TI, TO, i1, i2] z (fun i h => IsZip h z TI TO .none ∧ IsTupOf2 h TI (.ref i1) (.ref i2) ∧ (∃ a b, IsTupOf2 h TO a b) ∧ h.IsStrIter i1 (strIterType x) x t i ∧ h.IsStrIter i2 (strIterType y) y u i) where
  mem := by simp
  obj := fun i h st c hc => by
    obtain ⟨hz, hTI, ⟨a, b, hTO⟩, ⟨o1, e1, _, d1⟩, ⟨o2, e2, _, d2⟩⟩ := st
    have e' : c = z ∨ c = TI ∨ c = TO ∨ c = i1 ∨ c = i2 := by simpa using hc
    rcases e' with q | q | q | q | q
    · rw [q]; exact ⟨_, hz, fun v q => nomatch q⟩
    · rw [q]; exact ⟨_, hTI, fun v q => nomatch q⟩
    · rw [q]; exact ⟨_, hTO, fun v q => nomatch q⟩
    · rw [q]; exact ⟨o1, e1, fun v q => by rw [d1] at q; cases q⟩
    · rw [q]; exact ⟨o2, e2, fun v q => by rw [d2] at q; cases q⟩
  keep := fun i h h' st k => by
    obtain ⟨hz, hTI, ⟨a, b, hTO⟩, ⟨o1, e1, r1⟩, ⟨o2, e2, r2⟩⟩ := st
    exact ⟨k z (by simp) _ hz, k TI (by simp) _ hTI, ⟨a, b, k TO (by simp) _ hTO⟩, ⟨o1, k i1 (by simp) o1 e1, r1⟩, ⟨o2, k i2 (by simp) o2 e2, r2⟩⟩
  item := by
    intro X hP hw hK hc i pins s σ H E I hf st hg
    subst hP hw hK
    obtain ⟨hz, hTI, ⟨a, b, hTO⟩, h1, h2⟩ := st
    have hzl : z < s.heap.objs.size := Heap.lt_size hz
    have hd : X.A.in1.handled = none := I.ok.hd hc
    refine wpAny_pyNext_zipD2_item D (Draws.text hd i1 x t) (Draws.text hd i2 y u) hz hTI hTO h1 h2 hg.1 hg.2 fun x1 x2 h' tk p1 p2 z' TO' h1' h2' hT hsz hk => ?_
    obtain ⟨c, tc, hcx, rfl⟩ := p1
    obtain ⟨d, td, hdy, rfl⟩ := p2
    refine ⟨_, rfl, wpAny_letOwnedTupleGo_zip (s := { s with heap := h', toks := tk }) z' fun h'' z'' sb => ?_⟩
    have hT2 : h''.get? s.heap.objs.size = some { cls := .type "tuple", data := .seq #[.str ⟨#[c]⟩ tc, .str ⟨#[d]⟩ td] } := (sb.2 _ (Nat.ne_of_gt hzl)).trans hT
    have new : ObjOk X.prog X.w (upd H s.heap.objs.size (.tup [.str ⟨#[c]⟩, .str ⟨#[d]⟩])) h'' s.heap.objs.size (.tup [.str ⟨#[c]⟩, .str ⟨#[d]⟩]) :=
      ⟨by show 2 ≤ sizeLine; decide, [.str ⟨#[c]⟩ tc, .str ⟨#[d]⟩ td], .cons ⟨tc, rfl⟩ (.cons ⟨td, rfl⟩ .nil), ⟨_, hT2, rfl, _, rfl⟩⟩
    have I1 : Inv X pins σ (upd H s.heap.objs.size (.tup [.str ⟨#[c]⟩, .str ⟨#[d]⟩])) { s with heap := h'', toks := tk } :=
      I.turnedNew (t' := tk) (ch := [z, TI, TO, i1, i2]) (fun c o hb q => (sb.2 c (fun q' => hb (by simp [q']))).trans (hk c o (fun q' => hb (by simp [q'])) (fun q' => hb (by simp [q'])) (fun q' => hb (by simp [q'])) (fun q' => hb (by simp [q'])) q)) hf (Nat.le_refl _) new
    have l1 : i1 < s.heap.objs.size := by obtain ⟨_, e1, _⟩ := h1; exact Heap.lt_size e1
    have l2 : i2 < s.heap.objs.size := by obtain ⟨_, e1, _⟩ := h2; exact Heap.lt_size e1
    refine ⟨.ref s.heap.objs.size, _, I1, rfl, ⟨_, c, d, rfl, I.hok.fresh (Nat.le_refl _), rfl, hcx, hdy⟩, ⟨z'', ?_, ⟨.str ⟨#[c]⟩ tc, .str ⟨#[d]⟩ td, ?_⟩, ?_, ?_⟩, fun c hcm => ?_⟩
    · exact (sb.2 _ D.TIz).trans (hk _ _ D.TIz D.TITO D.TIi1 D.TIi2 hTI)
    · exact (sb.2 _ D.TOz).trans TO'
    · obtain ⟨o, e, r⟩ := h1'
      exact ⟨o, (sb.2 _ D.zi1.symm).trans e, r⟩
    · obtain ⟨o, e, r⟩ := h2'
      exact ⟨o, (sb.2 _ D.zi2.symm).trans e, r⟩
    · have hlt : c < s.heap.objs.size := by
        have e' : c = z ∨ c = TI ∨ c = TO ∨ c = i1 ∨ c = i2 := by simpa using hcm
        rcases e' with q | q | q | q | q
        · rw [q]; exact hzl
        · rw [q]; exact Heap.lt_size hTI
        · rw [q]; exact Heap.lt_size hTO
        · rw [q]; exact l1
        · rw [q]; exact l2
      rw [upd_ne (Nat.ne_of_lt hlt)]
      exact (hf c hcm).1
  done := by
    intro X hP hw hK hc i pins s σ H E I hf st hg
    subst hP hw hK
    obtain ⟨hz, hTI, ⟨a, b, hTO⟩, h1, h2⟩ := st
    have hd : X.A.in1.handled = none := I.ok.hd hc
    exact wpAny_pyNext_zipD2_end D (Draws.text hd i1 x t) (Draws.text hd i2 y u) hz hTI hTO h1 h2 hg.1 hg.2.1 hg.2.2 fun h' tk hk => ⟨rfl, I.turnedL (t' := tk) (ch := [z, TI, TO, i1, i2]) (fun c o hb q =>
      hk c o (fun q' => hb (by simp [q'])) (fun q' => hb (by simp [q'])) (fun q' => hb (by simp [q'])) (fun q' => hb (by simp [q'])) q) hf⟩
  self := fun A i s Q E st h => wpAny_pyIter_zip st.1 h
def iZipS (ta : TA) : TI := fun σ H R => ta σ H fun vs H1 => ∃ x y, vs = [.str x, .str y] ∧ R (ItzS x y) H1
theorem sep5 (n : Addr) : ZipSep2 (n + 4) (n + 2) (n + 3) n (n + 1) [n] [n + 1] where
  TIz := Nat.ne_of_lt (Nat.add_lt_add_left (by decide) n)
  TOz := Nat.ne_of_lt (Nat.add_lt_add_left (by decide) n)
  TITO := Nat.ne_of_lt (Nat.add_lt_add_left (by decide) n)
  TIi1 := Nat.ne_of_gt (Nat.lt_add_of_pos_right (by decide))
  mem1 := List.mem_singleton.mpr rfl
  zf1 := fun h => absurd (List.mem_singleton.mp h) (Nat.ne_of_gt (Nat.lt_add_of_pos_right (by decide)))
  Tf1 := fun h => absurd (List.mem_singleton.mp h) (Nat.ne_of_gt (Nat.lt_add_of_pos_right (by decide)))
  TIi2 := Nat.ne_of_gt (Nat.add_lt_add_left (by decide) n)
  mem2 := List.mem_singleton.mpr rfl
  zf2 := fun h => absurd (List.mem_singleton.mp h) (Nat.ne_of_gt (Nat.add_lt_add_left (by decide) n))
  Tf2 := fun h => absurd (List.mem_singleton.mp h) (Nat.ne_of_gt (Nat.add_lt_add_left (by decide) n))
  sep1_2 := fun h => absurd (List.mem_singleton.mp h) (Nat.ne_of_lt (Nat.lt_add_of_pos_right (by decide)))
  sep2_1 := fun h => absurd (List.mem_singleton.mp h) (Nat.ne_of_gt (Nat.lt_add_of_pos_right (by decide)))
theorem pi_zipS {X : Cx} {e e2 : Expr} {ta : TA} {p pos tpos : Pos} {elts : List Expr} {kk : Nat} (hg : Gl X "zip") (hm : X.mg "zip" = none) (ha : PA X [e, e2] ta)
    (hs : starEach [e, e2] X.env = (false, eval e X.env) :: starEach [e2] X.env := by rfl) (hpl : (backTo pos (starEach [e2] X.env)).any (·.1) = false := by rfl) :
    PI X (.Tuple elts kk tpos) (.Call (.Name "zip" p) [e, e2] [] pos) (iZipS ta) := by
  refine ⟨fun pins s σ H R I h => ?_⟩
  refine Call_ (ld_blt I hg hm PyProof.Rows.boot_zip (PyProof.Rows.callWith_type1 (thn (ha.run pos pins s σ H _ I h) fun us s1 ⟨vs, H1, I1, r1, q1⟩ => ?_) hs hpl))
  obtain ⟨x, y, ex, q⟩ := q1
  subst ex
  cases r1 with
  | cons r rr =>
    cases rr with
    | cons r' rr =>
      cases rr
      obtain ⟨t, rfl⟩ := r
      obtain ⟨u, rfl⟩ := r'
      have fresh5 : ∀ c, c ∈ [s1.heap.objs.size + 4, s1.heap.objs.size + 2, s1.heap.objs.size + 3, s1.heap.objs.size, s1.heap.objs.size + 1] → FpOk X pins H1 c := fun c hcm => by
        have e' : c = s1.heap.objs.size + 4 ∨ c = s1.heap.objs.size + 2 ∨ c = s1.heap.objs.size + 3 ∨ c = s1.heap.objs.size ∨ c = s1.heap.objs.size + 1 := by simpa using hcm
        have hle : s1.heap.objs.size ≤ c := by
          rcases e' with z | z | z | z | z
          · rw [z]; exact Nat.le_add_right _ _
          · rw [z]; exact Nat.le_add_right _ _
          · rw [z]; exact Nat.le_add_right _ _
          · rw [z]; exact Nat.le_refl _
          · rw [z]; exact Nat.le_add_right _ _
        exact I1.fpOk hle (I1.hok.fresh hle)
      refine zip_begins2 (begins_text x t) (begins_text y u) trivial trivial fun h' hz hTI hTO h1 h2 hsz hk => wpAny_pyIter_zip hz ?_
      have I2 : Inv X pins σ H1 { s1 with heap := h' } := I1.kept (t' := s1.toks) hk
      exact ⟨s1.heap.objs.size + 4, [s1.heap.objs.size + 4, s1.heap.objs.size + 2, s1.heap.objs.size + 3, s1.heap.objs.size, s1.heap.objs.size + 1], _, _, H1, rfl, I2,
        turn_zipS (sep5 _), ⟨hz, hTI, ⟨_, _, hTO⟩, ⟨_, h1, rfl, rfl⟩, ⟨_, h2, rfl, rfl⟩⟩, fresh5, q⟩
theorem rd_zipS {x y : Str} {H : Hp} {R : It → Hp → Prop} (q : R (ItzS x y) H) : ∃ x' y', [V.str x, V.str y] = [.str x', .str y'] ∧ R (ItzS x' y') H := ⟨x, y, rfl, q⟩
end Un

/-! Defs whose promise is kept where no guard of a repr stands around the call: the same three steps as for a plain def (entry, body, call), each with one premise more. -/
namespace Un
open PySem PySem.Spec PyProof.Rows L2
structure FnG (P : Program) (w : World) (K : PySem.W.Frag) (mg : Str → Option Value) (base : Heap) (k : Nat) (f : Addr) (fd : FuncData) (ps : List Str) (sp : Sp) : Prop where
  len : ∀ vs H Q E, sp vs H Q E → vs.length = ps.length
  run : ∀ (A : Around) (outer : List Env) (s : Shared) (H : Hp) (args : Args) (us : List Value) (vs : List V) (Q : VK) (E : XK), A.guards = some [] → Room k A → Env0 P w K mg base A outer s H → BindsTo s fd args (ps.zip us) →
    Vals vs us → sp vs H Q E → codeAny (model P w) A (.call (.ref f) args) (CR CX0 outer P w H s Q E) s
section
variable {P : Program} {w : World} {K : PySem.W.Frag} {mg : Str → Option Value} {base : Heap}
theorem okG {nm qual : Str} {st : Stmt} {f : Addr} {fd : FuncData} {N ps : List Str} {k : Nat} {sp : Sp} (F : Fun K nm qual st f fd) (S : FnScope N ps (defScope st)) (hlen : ∀ vs H Q E, sp vs H Q E → vs.length = ps.length)
    (hb : ∀ (cdv : Value) (A : Around) (outer : List Env) (s : Shared) (H : Hp) (vs : List V) (Q : VK) (E : XK), A.guards = some [] → Room k (A.deeper (envOfC qual (defScope st) s.heap.objs.size f cdv)) → sp vs H Q E →
      ∃ t, PSs (cxOf CX0 P w K mg base N qual (defScope st) f cdv A outer s H E).nox (defBody st) t ∧ t { nx := fun _ H' => Q .non H', rt := Q } (start N vs) H) : FnG P w K mg base (k + 1) f fd ps sp := by
  obtain ⟨c1, c2, c3, c4, c5, c6, cdv, c7, c8, rfl, look, code⟩ := F.ex
  constructor
  · exact hlen
  · intro A outer s H args us vs Q E gA room e0 bd rel asked
    have same := hlen _ _ _ _ asked
    have inHeap : K.In s.heap := e0.mod.kin.keeps fun b o hbo => (e0.bs b o hbo).1
    have free := e0.mod.nolimit.keeps (h' := s.heap) fun b o hbo => (e0.bs b o hbo).1
    have kinds : ∀ y ∈ ps.zip us, (defScope st).names.lookup y.1 = some .local ∨ ((defScope st).names.lookup y.1 = some .cell ∧ ((cellsFrom (s.heap.objs.size + 1) (defScope st).names []).lookup y.1).isSome = true) := by
      rintro ⟨n, v⟩ hy
      exact (S.par n (List.of_mem_zip hy).1).imp id fun hc => ⟨hc, PySem.W.cellsFrom_some _ _ _ (.inl hc)⟩
    refine codeAny_call_function room.depth (inHeap _ _ look) rfl S.co S.gen rfl (PySem.W.codeRec_of inHeap code) (bd _ _ _ _ ?_)
    refine wpAny_newFunctionEnv_cells S.kind kinds fun env henv s1 entry => ?_
    subst henv
    obtain ⟨t, ht, hq⟩ := hb cdv A outer s H vs Q E gA (room.deeper _) asked
    have I0 : Inv (cxOf CX0 P w K mg base N qual (defScope st) f cdv A outer s H E) [] (start N vs) H s1 := inv_start S room.hd e0 same rel entry
    refine ⟨free.keeps entry.toInCall.keep, codeAny_func (wpAny_mono (ht.nox.run [] s1 (start N vs) H _ I0 hq) (fun flow s' hs => ?_) fun e s' hs => hs)⟩
    cases flow with
    | ret u => exact match hs with | ⟨v, σ', H', J, rv, q⟩ => ⟨v, H', J.os, J.bare, J.base, J.hok, rv, q⟩
    | next => exact match hs with | ⟨σ', H', J, q⟩ => ⟨V.non, H', J.os, J.bare, J.base, J.hok, rfl, q⟩
    | brk => exact match hs with | ⟨_, _, _, q⟩ => False.elim q
    | cont => exact match hs with | ⟨_, _, _, q⟩ => False.elim q
/-- a def under its name, of that kind -/
def ClG (P : Program) (w : World) (K : PySem.W.Frag) (mg : Str → Option Value) (base : Heap) (nm : Str) (ps : List Str) (k : Nat) (sp : Sp) : Prop :=
  ∃ (f : Addr) (fd : FuncData), mg nm = some (.ref f) ∧ FnG P w K mg base k f fd ps sp ∧ PySem.W.keepIn K (.ref f) = true ∧ Binds K fd ps []
theorem clG_of {nm : Str} {st : Stmt} {ps : List Str} {k : Nat} {sp : Sp} (a : At K mg nm st ps) (h : ∀ f fd, Fun K nm nm st f fd → FnG P w K mg base k f fd ps sp) : ClG P w K mg base nm ps k sp := by
  obtain ⟨f, fd, F, m, b⟩ := a
  exact ⟨f, fd, m, h f fd F, F.kp, b⟩
end
section
variable {X : Cx} {nm : Str} {ps : List Str} {k : Nat} {sp : Sp} {e : Expr} {es : List Expr} {t : TA} {p pos : Pos}
theorem pe_clG (c : ClG X.prog X.w X.K X.mg X.base nm ps k sp) (hgd : X.A.guards = some []) (hr : Room k X.A) (hg : Gl X nm) (ha : PA X (e :: es) t)
    (hdb : (nm == ("__debug__" : Str)) = false := by decide) (he : starEach (e :: es) X.env = (false, eval e X.env) :: starEach es X.env := by rfl) (hpl : (backTo pos (starEach es X.env)).any (·.1) = false := by rfl) :
    PE X (.Call (.Name nm p) (e :: es) [] pos) (tCall sp [] E0 t) := by
  obtain ⟨f, fd, m, F, kp, b⟩ := c
  constructor
  intro pins s σ H Q I h
  refine wpAny_Call_Name_kw (ld_glob I hg m (PySem.W.callWith_K (h₀ := X.base) I.ok.mod.kin kp (thn (ha.run pos pins s σ H _ I h) fun us s1 hx => ?_) he hpl) hdb)
  obtain ⟨vs, H1, I1, r, q⟩ := hx
  refine ⟨I1.kIn, ?_⟩
  rw [List.append_nil] at q
  have n1 : us.length = ps.length := by
    rw [← r.length]
    exact F.len _ _ _ _ q
  have bd := b s1 us I1.kIn (by rw [List.append_nil]; exact n1)
  rw [List.append_nil] at bd
  refine wpAny_call (codeAny_mono (F.run X.A X.stack s1 H1 ⟨us, []⟩ us vs Q E0 hgd hr I1.env0 bd r q) fun res s' hres => ?_)
  match res, hres with
  | .error e, hres => exact (show False from hres).elim
  | .ok (.ret u), hres => exact I1.after hres
  | .ok .next, hres => exact (show False from hres).elim
  | .ok .brk, hres => exact (show False from hres).elim
  | .ok .cont, hres => exact (show False from hres).elim
end
/-! ### repr of data -/
def rReprD (K : PySem.W.Frag) : List V → Hp → VK → Prop := fun xs H Q => ∃ (a : Addr) (d : PyData), xs = [.ref a] ∧ Dp K H (.ref a) d ∧ d.showable = true ∧ d.hasDict = false ∧ d.depth ≤ 60 ∧ d.shown.length ≤ sizeLine ∧ Q (.str d.shown) H
theorem call_reprD {X : Cx} {k : Nat} (hgd : X.A.guards = some []) (hr : Room k X.A) : CallR X (.builtin "repr") (rReprD X.K) := by
  intro pins s σ H xs us Q I r h
  obtain ⟨a, d, rfl, hd, hs, hn, hz, hl, q⟩ := h
  obtain ⟨u, rfl, rx⟩ := vals1 r
  obtain ⟨as, rd⟩ := Dp.reads I d _ u hd rx
  cases rx
  have hu := hr.units
  refine repr_of_reads' rd hs (PyData.noDict_hsm hn) hgd (by omega) (fun _ _ e => e) (fun h' u tk hk => ?_) hl
  exact ⟨.str d.shown, H, I.kept (t' := tk) hk, ⟨u, rfl⟩, q⟩

/-! ### the end of a law whose def is of that kind -/
theorem runG {P : Program} {w : World} {K : PySem.W.Frag} {mg mb : Str → Option Value} {k : Nat} {fa a : Addr} {fd : FuncData} {x : Str} {sp : Sp} {s₁ : Shared} {vs : List Value} {ns : List Int}
    (KX : K.In s₁.heap) (hns : s₁.heap.Ns mainGlobals mg) (hb : s₁.heap.Ns builtinsNs mb) (hbb : ∀ x : Str, x ≠ "__name__" → mb x = bootBuiltins x) (hlim : s₁.heap.NoLimit) (hg : s₁.gens = #[])
    (ha : s₁.heap.get? a = some { cls := .type "list", data := .seq vs.toArray }) (hi : IntsAre vs ns) (hl : ns.length ≤ sizeLine) (room : Room k callerA)
    (F : ∀ base : Heap, K.In base → base.Ns mainGlobals mg → FnG P w K mg base k fa fd [x] sp) (bind1 : ∀ (s : Shared) (u : Value), BindsTo s fd ⟨[u], []⟩ [(x, u)])
    (told : ∀ H : Hp, Only H → SqL K H a (ns.map V.int) → sp [.ref a] H (fun v _ => v = .bl true) fun _ _ _ => False) :
    codeAny (model P w) callerA (.call (.ref fa) ⟨[.ref a], []⟩) (fun r s' => r = .ok (.ret (.bool true)) ∧ OldK s₁.heap s'.heap ∧ s'.os = s₁.os ∧ AllBare s'.gens) s₁ := by
  have relV := vals_ints hi
  have sizes := hi.length
  suffices from_ : ∀ H : Hp, (∀ b u, H b = some u → b = a ∧ K.lookup a = none ∧ u = .frz { cls := .type "list", data := .seq vs.toArray } (.lst (ns.map V.int))) → SqL K H a (ns.map V.int) →
      codeAny (model P w) callerA (.call (.ref fa) ⟨[.ref a], []⟩) (fun r s' => r = .ok (.ret (.bool true)) ∧ OldK s₁.heap s'.heap ∧ s'.os = s₁.os ∧ AllBare s'.gens) s₁ by
    cases look : K.lookup a with
    | some o =>
      have there := KX a o look
      rw [ha] at there
      obtain rfl := Option.some.inj there
      exact from_ (fun _ => none) (fun b u z => by cases z) (.inr ⟨_, vs.toArray, _, look, rfl, rfl, rfl, by rw [List.size_toArray, sizes]; exact hl, by simpa using relV⟩)
    | none =>
      refine from_ (fun b => if b = a then some (.frz { cls := .type "list", data := .seq vs.toArray } (.lst (ns.map V.int))) else none) (fun b u z => ?_) (.inl (.inr ⟨_, if_pos rfl⟩))
      by_cases e : b = a
      · rw [if_pos e] at z
        exact ⟨e, look, (Option.some.inj z).symm⟩
      · rw [if_neg e] at z
        cases z
  intro H hH hS
  have only1 : Only H := fun b => by
    cases z : H b with
    | none => exact .inl rfl
    | some u => exact .inr ⟨_, _, by rw [(hH b u z).2.2]⟩
  have held : HOk P w H s₁.heap := fun b u z => by
    obtain ⟨rfl, _, rfl⟩ := hH b u z
    exact ⟨ha, by rw [List.length_map]; exact hl, vs, _, relV, ha⟩
  have not_dict : ∀ {b : Addr} {o : Obj} {es : Array DictEntry} {ep : Nat}, s₁.heap.get? b = some o → o.data = .dict es ep → H b = none := fun {b o es ep} e d => by
    cases z : H b with
    | none => rfl
    | some u =>
      obtain ⟨rfl, _, _⟩ := hH b u z
      rw [ha] at e
      obtain rfl := Option.some.inj e
      cases (show Data.seq vs.toArray _ = Data.dict es ep from d)
  have hidden : ∀ {b : Addr} {m : Str → Option Value}, s₁.heap.Ns b m → (hidT s₁.heap H).Ns b m := by
    rintro b m ⟨o, es, ep, e, d, r⟩
    exact ⟨o, es, ep, hidT_get e (not_dict e d), d, r⟩
  have kIn : K.In (hidT s₁.heap H) := fun b o e => hidT_get (KX b o e) (by
    cases z : H b with
    | none => rfl
    | some u =>
      obtain ⟨rfl, n, _⟩ := hH b u z
      rw [n] at e
      cases e)
  have md : Mod K mg (hidT s₁.heap H) := ⟨kIn, hidden hns, ⟨mb, hidden hb, hbb⟩, match hlim with | ⟨mc, h1, h2⟩ => ⟨mc, hidden h1, h2⟩⟩
  have none_in : ∀ b : Addr, b ∈ ([] : List Addr) → False := fun b hb => by cases hb
  have env0 : Env0 P w K mg (hidT s₁.heap H) callerA [] s₁ H := ⟨rfl, md, fun b o e => of_hidT e, Nat.le_of_eq (hidT_size _ _), trivial, fun b hb => (none_in b hb).elim, held, .of_eq hg⟩
  refine codeAny_mono ((F _ kIn (hidden hns)).run callerA [] s₁ H ⟨[.ref a], []⟩ [.ref a] [.ref a] _ _ rfl room env0 (bind1 s₁ (.ref a)) (.cons rfl .nil) (told H only1 hS)) fun r s' h => ?_
  match r, h with
  | .error e, h => exact (show False from h).elim
  | .ok .next, h => exact (show False from h).elim
  | .ok .brk, h => exact (show False from h).elim
  | .ok .cont, h => exact (show False from h).elim
  | .ok (.ret u), h =>
    obtain ⟨v, H', hos, hbare, un, held', rv, rfl⟩ := h
    obtain rfl : u = Value.bool true := rv
    refine ⟨rfl, OldK.of_keep fun b o e => ?_, hos, hbare⟩
    cases z : H b with
    | none => exact un.keep b o e z (none_in b) (none_in b)
    | some y =>
      obtain ⟨rfl, _, rfl⟩ := hH b y z
      have e1 := (held _ _ z).1
      rw [e] at e1
      rw [Option.some.inj e1]
      exact (held' _ _ (un.frzs _ _ _ z)).1
theorem walk_ofG {l : PySem.W.OpenLaw} {n k : Nat} {q : Program} {loose : List Str} {XP : (Str → Option Value) → Heap → Prop} {YP : World → Heap → Prop} {d : DefRec} {K : Params → PySem.W.Frag} {sp : World → Sp} {x : Str}
    (hn : l.most = some n) (hn2 : n ≤ sizeLine) (hdf : d.params.defaults = []) (room : Room k callerA) (hY : ∀ (w : World) (h : Heap), YP w h → (K w.params).In h)
    (F : ∀ (w : World) (mg : Str → Option Value) (fa : Addr) (h : Heap), (K w.params).In h → h.Ns mainGlobals mg → mg d.name = some (.ref fa) →
      ∃ fd : FuncData, (∀ (s : Shared) (u : Value), BindsTo s fd ⟨[u], []⟩ [(x, u)]) ∧ ∀ base : Heap, (K w.params).In base → base.Ns mainGlobals mg → FnG l.prog w (K w.params) mg base k fa fd [x] (sp w))
    (told : ∀ (w : World) (H : Hp) (a : Addr) (ns : List Int), ns.length ≤ n → Only H → SqL (K w.params) H a (ns.map V.int) → sp w [.ref a] H (fun v _ => v = .bl true) fun _ _ _ => False) :
    PySem.W.WalkO q loose XP YP l.row.toRowW d [] (fun f vs => PySem.call f vs) := by
  refine Att.attach_callB hn hdf fun w s₀ s₁ mg mb fa o pm cd doc a vs ns G Y ho hd hcd hmg hobj hints hlen _ hg => ?_
  obtain ⟨fd, bnd, hF⟩ := F w mg fa _ (hY w _ Y) G.T.g hmg
  exact runG (hY w _ Y) G.T.g G.T.b G.T.builtins G.T.nolimit hg hobj hints (Nat.le_trans hlen hn2) room hF bnd fun H => told w H a ns hlen
end Un

namespace Un
open PySem PySem.Spec PyProof.Rows L2
/-! ### for i, c in enumerate(text) -/
def ItEX (x : Str) : It := ⟨fun i _ => i < x.cps.size, fun i H v H' => ∃ (T : Addr) (c : Nat), v = .ref T ∧ H T = none ∧ x.cps[i]? = some c ∧ H' = upd H T (.tup [.int (i : Nat), .str ⟨#[c]⟩]), fun i _ => i = x.cps.size⟩
theorem turn_enumX {P : Program} {w : World} {K : PySem.W.Frag} {elts : List Expr} {kk : Nat} {tpos : Pos} (x : Str) (t : Tok) (e it : Addr) :
    Turn P w K (.Tuple elts kk tpos) (ItEX x) [e, it] e (fun i h => (∃ old, IsEnum h e it ((i : Nat) : Int) old) ∧ h.IsStrIter it (strIterType x) x t i ∧ e ≠ it) where
  mem := List.mem_cons_self
  obj := by
    rintro i h ⟨⟨old, he⟩, ⟨o, ho, hc, hd⟩, _⟩ b hb
    rcases List.mem_cons.mp hb with rfl | hb
    · exact ⟨_, he, fun v q => nomatch q⟩
    · obtain rfl := List.mem_singleton.mp hb
      exact ⟨o, ho, fun v q => by rw [hd] at q; cases q⟩
  keep := by
    rintro i h h' ⟨⟨old, he⟩, ⟨o, ho, r⟩, hne⟩ k
    exact ⟨⟨old, k e (by simp) _ he⟩, ⟨o, k it (by simp) o ho, r⟩, hne⟩
  item := by
    rintro X rfl rfl rfl hc i pins s σ H E I hf ⟨⟨old, he⟩, hit, hne⟩ hlt
    have he0 : e < s.heap.objs.size := Heap.lt_size he
    have hi0 : it < s.heap.objs.size := by
      obtain ⟨_, q, _⟩ := hit
      exact Heap.lt_size q
    refine wpAny_pyNext_enum_itemD (Draws.text (A := X.A.in1) (I.ok.hd hc) it x t) he hit hlt hne (by simp [hne]) fun v h' tk hv ho hit' hT hsz hk => ?_
    obtain ⟨c, u, hcx, rfl⟩ := hv
    refine ⟨_, rfl, wpAny_letOwnedTupleGo_enum (s := { s with heap := h', toks := tk + 1 }) ho fun h'' he' sb => ?_⟩
    have made : h''.get? s.heap.objs.size = some { cls := .type "tuple", data := .seq #[.int i tk, .str ⟨#[c]⟩ u] } := (sb.2 _ (Nat.ne_of_gt he0)).trans hT
    have new : ObjOk X.prog X.w (upd H s.heap.objs.size (.tup [.int (i : Nat), .str ⟨#[c]⟩])) h'' s.heap.objs.size (.tup [.int (i : Nat), .str ⟨#[c]⟩]) :=
      ⟨by show 2 ≤ sizeLine; decide, [.int i tk, .str ⟨#[c]⟩ u], .cons ⟨_, rfl⟩ (.cons ⟨_, rfl⟩ .nil), ⟨_, made, rfl, _, rfl⟩⟩
    have kept : ∀ b o, b ∉ [e, it] → s.heap.get? b = some o → h''.get? b = some o := fun b o hb q => by
      have h1 : b ≠ e := fun z => hb (by simp [z])
      have h2 : b ≠ it := fun z => hb (by simp [z])
      exact (sb.2 b h1).trans (hk b o h1 h2 q)
    refine ⟨.ref s.heap.objs.size, _, I.turnedNew (ch := [e, it]) kept hf (Nat.le_refl _) new, rfl, ⟨_, c, rfl, I.hok.fresh (Nat.le_refl _), hcx, rfl⟩, ⟨⟨.str ⟨#[c]⟩ u, ?_⟩, ?_, hne⟩, fun b hb => ?_⟩
    · have e1 : ((i + 1 : Nat) : Int) = (i : Int) + 1 := by omega
      rw [e1]
      exact he'
    · obtain ⟨o, q, r⟩ := hit'
      exact ⟨o, (sb.2 it (Ne.symm hne)).trans q, r⟩
    · have hb' : b < s.heap.objs.size := by
        rcases List.mem_cons.mp hb with rfl | hb
        · exact he0
        · rw [List.mem_singleton.mp hb]
          exact hi0
      rw [upd_ne (Nat.ne_of_lt hb')]
      exact (hf b hb).1
  done := by
    rintro X rfl rfl rfl hc i pins s σ H E I hf ⟨⟨old, he⟩, hit, hne⟩ hge
    obtain ⟨f0, f1, f2, f3, f4, f5⟩ := hf it (by simp)
    obtain rfl : i = x.cps.size := hge
    exact wpAny_pyNext_enum_endD (Draws.text (A := X.A.in1) (I.ok.hd hc) it x t) he hit fun h' eb => ⟨rfl, I.turned (t' := s.toks) (fun b o hb q => eb b o hb q) f0 f1 f3 f4 f5⟩
  self := fun A i s Q E st h => by
    obtain ⟨⟨_, he⟩, _⟩ := st
    exact wpAny_pyIter_enum he h

def iEnumX (ta : TA) : TI := fun σ H R => ta σ H fun vs H1 => ∃ l : List Nat, vs = [.str (tx l)] ∧ R (ItEX (tx l)) H1
theorem pi_enumX {X : Cx} {e : Expr} {ta : TA} {p pos tpos : Pos} {elts : List Expr} {kk : Nat} (hg : Gl X "enumerate") (hm : X.mg "enumerate" = none) (ha : PA X [e] ta) (hs : starEach [e] X.env = [(false, eval e X.env)] := by rfl) :
    PI X (.Tuple elts kk tpos) (.Call (.Name "enumerate" p) [e] [] pos) (iEnumX ta) := by
  constructor
  intro pins s σ H R I h
  refine Call_ (ld_blt I hg hm boot_enumerate (PyProof.Rows.callWith_type1 (thn (ha.run pos pins s σ H _ I h) fun us s1 hx => ?_) hs rfl))
  obtain ⟨vs, H1, I1, r1, l, rfl, q⟩ := hx
  obtain ⟨u, rfl, t, rfl⟩ := vals1 r1
  refine call_enumerate_str fun h' he hit hsz hk => wpAny_pyIter_enum he ?_
  have I2 : Inv X pins σ H1 { s1 with heap := h' } := I1.kept (t' := s1.toks) hk
  refine ⟨s1.heap.objs.size + 1, [s1.heap.objs.size + 1, s1.heap.objs.size], _, _, H1, rfl, I2, turn_enumX (tx l) t (s1.heap.objs.size + 1) s1.heap.objs.size, ⟨⟨.none, he⟩, hit, Nat.succ_ne_self _⟩, fun b hb => ?_, q⟩
  have hle : s1.heap.objs.size ≤ b := by
    rcases List.mem_cons.mp hb with rfl | hb
    · exact Nat.le_add_right _ _
    · exact Nat.le_of_eq (List.mem_singleton.mp hb).symm
  exact I1.fpOk hle (I1.hok.fresh hle)
theorem rd_iEnumX {ta : TA} {σ : L2.St} {H : Hp} {R : It → Hp → Prop} {l : List Nat} (h : ta σ H fun vs H1 => ∃ l : List Nat, vs = [.str (tx l)] ∧ R (ItEX (tx l)) H1) : iEnumX ta σ H R := h
theorem for_enumX {l : List Nat} {g : TG} {tb : TS} {D : Ends} {σ : L2.St} {H : Hp} (Pv : Nat → L2.St → Hp → Prop) (h0 : Pv 0 σ H)
    (hs : ∀ (i c : Nat) (σ : L2.St) (H : Hp) (T : Addr), l[i]? = some c → Pv i σ H → H T = none → g (.ref T) σ (upd H T (.tup [.int (i : Nat), .str (tx [c])])) fun σ2 H2 => tb { D with nx := Pv (i + 1), ct := Pv (i + 1), bk := D.nx } σ2 H2) (hd : ∀ σ H, Pv l.length σ H → D.nx σ H) :
    ∃ W : Nat → Nat → L2.St → Hp → Prop, (∃ m, W 0 m σ H) ∧ ∀ i m σ H, W i m σ H →
      ((ItEX (tx l)).stop i H ∧ D.nx σ H) ∨ ((ItEX (tx l)).go i H ∧ ∃ N : L2.St → Hp → Prop, (∀ σ' H', N σ' H' → ∃ m', m' < m ∧ W (i + 1) m' σ' H') ∧ ∀ x H', (ItEX (tx l)).yld i H x H' → g x σ H' fun σ2 H2 => tb { D with nx := N, ct := N, bk := D.nx } σ2 H2) := by
  have hsz : (tx l).cps.size = l.length := by simp [tx]
  refine ⟨fun i m σ H => m + i = l.length ∧ Pv i σ H, ⟨l.length, rfl, h0⟩, fun i m σ H h => ?_⟩
  obtain ⟨hm, p⟩ := h
  by_cases hi : i < l.length
  · refine .inr ⟨show i < (tx l).cps.size by rw [hsz]; exact hi, Pv (i + 1), fun σ' H' p' => ⟨m - 1, by omega, by omega, p'⟩, fun x H' hy => ?_⟩
    obtain ⟨T, c, rfl, hT, hc, rfl⟩ := hy
    exact hs i c σ H T (by simpa [tx] using hc) p hT
  · have e : i = l.length := by omega
    subst e
    exact .inl ⟨show l.length = (tx l).cps.size from hsz.symm, hd σ H p⟩
/-! ### x.find(y, 1): the first place -/
theorem occ_stay (s sub : Str) (hi : Nat) : ∀ (l : List Nat) (k f : Nat), (forIn l ((#[k] : Array Nat), f) (PySem.StrLaws.occBody s sub hi 1)).run.fst = #[k]
  | [], k, f => rfl
  | a :: l, k, f => by
    rw [List.forIn_cons]
    unfold PySem.StrLaws.occBody
    rw [if_neg (by simp)]
    exact occ_stay s sub hi l k f
theorem occ_find (s sub : Str) (hi : Nat) : ∀ (l : List Nat) (f : Nat), (∀ i ∈ l, f ≤ i) →
    (forIn l ((#[] : Array Nat), f) (PySem.StrLaws.occBody s sub hi 1)).run.fst.toList = (l.find? fun i => decide (i + sub.length ≤ hi) && Builtin.Str.subAt s sub i).toList
  | [], f, _ => rfl
  | a :: l, f, hf => by
    rw [List.forIn_cons, List.find?_cons]
    have ha : f ≤ a := hf a List.mem_cons_self
    have hl : ∀ i ∈ l, f ≤ i := fun i h => hf i (List.mem_cons_of_mem _ h)
    unfold PySem.StrLaws.occBody
    cases hc : (decide (a + sub.length ≤ hi) && Builtin.Str.subAt s sub a) with
    | true =>
      rw [Bool.and_eq_true, decide_eq_true_eq] at hc
      rw [if_pos ⟨⟨⟨by simp, ha⟩, hc.1⟩, hc.2⟩]
      have := occ_stay s sub hi l a (a + sub.length)
      show (forIn l ((#[] : Array Nat).push a, a + sub.length) (PySem.StrLaws.occBody s sub hi 1)).run.fst.toList = _
      have e : (#[] : Array Nat).push a = #[a] := rfl
      rw [e, this]
      rfl
    | false =>
      have hn : ¬ (((((#[] : Array Nat), f).fst.size < 1 ∧ ((#[] : Array Nat), f).snd ≤ a) ∧ a + sub.length ≤ hi) ∧ Builtin.Str.subAt s sub a = true) := fun h => by
        rw [decide_eq_true h.1.2, h.2] at hc
        cases hc
      rw [if_neg hn]
      exact occ_find s sub hi l f hl
theorem subAt_tx (x y : List Nat) (i : Nat) : Builtin.Str.subAt (tx x) (tx y) i = decide ((x.drop i).take y.length = y) := by
  unfold Builtin.Str.subAt
  rw [Bool.eq_iff_iff, beq_iff_eq, decide_eq_true_eq, ← Array.toList_inj, tx_len]
  simp [tx, List.extract_eq_take_drop]
def rFind1 : V → List V → Hp → VK → Prop := fun v xs H Q => ∃ (x y : List Nat) (k : Nat), v = .str (tx x) ∧ xs = [.str (tx y), .int 1] ∧ 1 ≤ k ∧ k + y.length ≤ x.length ∧ k ≤ x.length ∧ (x.drop k).take y.length = y ∧
  (∀ j, 1 ≤ j → j < k → (x.drop j).take y.length ≠ y) ∧ Q (.int (k : Nat)) H
theorem mt_find1 {X : Cx} : MtR X "str.find" rFind1 := by
  intro pins s σ H v xs u us Q I rx rs h
  obtain ⟨x, y, k, rfl, rfl, h1, h2, h3, h4, h5, q⟩ := h
  refine mt_find3 pins s σ H _ _ u us Q I rx rs ⟨tx x, tx y, 1, rfl, rfl, ?_⟩
  have e : Txt.find3 (tx x) (tx y) 1 = ((k : Nat) : Int) := by
    unfold Txt.find3
    have hlo : fromIndex (tx x).length 1 = 1 := rfl
    rw [hlo, PySem.StrLaws.occ_eq, occ_find _ _ _ _ _ (fun i hi => (List.mem_range'_1.mp hi).1)]
    have hf : (List.range' 1 ((tx x).length + 1 - 1)).find? (fun i => decide (i + (tx y).length ≤ (tx x).length) && Builtin.Str.subAt (tx x) (tx y) i) = some k := by
      rw [List.find?_range'_eq_some]
      rw [tx_len, tx_len]
      refine ⟨?_, ?_, ?_⟩
      · rw [subAt_tx, decide_eq_true h2, decide_eq_true h4]
        rfl
      · rw [List.mem_range'_1]
        omega
      · intro j hj1 hj2
        rw [subAt_tx, decide_eq_false (h5 j hj1 hj2), Bool.and_false]
        rfl
    rw [hf]
    rfl
  rw [e]
  exact q

def rMaxX : List V → Hp → VK → Prop := fun xs H Q => ∃ i j, xs = [.int i, .int j] ∧ Q (.int (if j > i then j else i)) H
theorem call_max2X {X : Cx} (hc : X.calm = true) : CallR X (.builtin "max") rMaxX := call_max2 hc
theorem rd_maxX {H : Hp} {Q : VK} {i j : Int} (q : Q (.int (if j > i then j else i)) H) : rMaxX [.int i, .int j] H Q := ⟨i, j, rfl, q⟩
theorem rd_find1 {H : Hp} {Q : VK} {x y : List Nat} {k : Nat} (h1 : 1 ≤ k) (h2 : k + y.length ≤ x.length) (h3 : (x.drop k).take y.length = y) (h4 : ∀ j, 1 ≤ j → j < k → (x.drop j).take y.length ≠ y) (q : Q (.int (k : Nat)) H) : rFind1 (.str (tx x)) [.str (tx y), .int 1] H Q :=
  ⟨x, y, k, rfl, rfl, h1, h2, by omega, h3, h4, q⟩
theorem rd_reprD {K : PySem.W.Frag} {H : Hp} {Q : VK} {a : Addr} {d : PyData} (h : Dp K H (.ref a) d) (hs : d.showable = true) (hn : d.hasDict = false) (hz : d.depth ≤ 60) (hl : d.shown.length ≤ sizeLine) (q : Q (.str d.shown) H) : rReprD K [.ref a] H Q := ⟨a, d, rfl, h, hs, hn, hz, hl, q⟩
/-! ### how long a shown pair is -/
theorem str_app_len (a b : Str) : (a ++ b).length = a.length + b.length := by
  show (a.cps ++ b.cps).size = _
  rw [Array.size_append]
  rfl
theorem tup2_len (a b : PyData) : (PyData.tuple [a, b]).shown.length ≤ a.shown.length + b.shown.length + 8 := by
  have e : (PyData.tuple [a, b]).shown = ("(" : Str) ++ (a.shown ++ (", " : Str) ++ b.shown) ++ (")" : Str) := by
    simp only [PyData.shown, PyData.shownAll]
    rfl
  have e1 : ("(" : Str).length = 1 := by decide
  have e2 : (", " : Str).length = 2 := by decide
  have e3 : (")" : Str).length = 1 := by decide
  rw [e, str_app_len, str_app_len, str_app_len, str_app_len, e1, e2, e3]
  omega
theorem shown_int_len {i : Int} (h : i.natAbs < 2 ^ 250) : (PyData.int i).shown.length ≤ 1000 := by
  have h1 : i.natAbs.log2 < 250 := PySem.Flt.log2_lt_of (by decide) h
  have h2 := PySem.int_text_length_le (a := i) (k := 250) (by decide) h1
  simp only [PyData.shown]
  show (Str.ofString (toString i)).length ≤ 1000
  rw [PySem.ofString_length]
  omega
theorem shown_str_len {l : List Nat} (h : ∀ c ∈ l, c < 1000) : (PyData.str (tx l)).shown.length ≤ 10 * l.length + 2 := by
  simp only [PyData.shown]
  have := PySem.StrLaws.reprText_len (tx l) (fun c hc => by
    rw [tx_cps] at hc
    have := h c hc
    have e : (1000 : Nat) < 16 ^ 8 := by decide
    omega)
  rw [tx_len] at this
  exact this
end Un

set_option maxHeartbeats 2000000
/-! UnY: own errors as the law uses them: by name, made, read, told apart; zip in a comprehension; repr of any value. -/
namespace Un
open PySem PySem.Spec PyProof.Rows L2
/-- the address of the class of a name -/
def ca (mg : Str → Option Value) (x : Str) : Addr := match mg x with
  | some (.ref C) => C
  | _ => 0
theorem ca_of {mg : Str → Option Value} {x : Str} {C : Addr} (h : mg x = some (.ref C)) : ca mg x = C := by
  unfold ca
  rw [h]
/-- an own error without an __init__, its class at C -/
def Err0 (K : PySem.W.Frag) (mg : Str → Option Value) (x : Str) (C : Addr) : Prop := mg x = some (.ref C) ∧ OxC K C ∧ PySem.W.excIn K C PySem.HandSPX.veTail "ValueError.__new__" = true
/-- one with an __init__ of one field -/
def ErrI (K : PySem.W.Frag) (mg : Str → Option Value) (x q f : Str) (st : Stmt) (C : Addr) : Prop := mg x = some (.ref C) ∧ OxC K C ∧ PySem.W.findIn K (.ref C) f = some none ∧
  ∃ (fI : Addr) (fd : FuncData), PySem.W.findIn K (.ref C) "__init__" = some (some (.ref fI)) ∧ PySem.W.typeIn K (.ref fI) = some (.type "function") ∧ Fun K "__init__" q st fI fd ∧ Binds K fd ["self", f] []
def Mk (P : Program) (w : World) (K : PySem.W.Frag) (mg : Str → Option Value) (base : Heap) (x f : Str) (C : Addr) : Prop := mg x = some (.ref C) ∧ OxC K C ∧ PySem.W.findIn K (.ref C) f = some none ∧
  ∃ (fI : Addr) (fd : FuncData), PySem.W.findIn K (.ref C) "__init__" = some (some (.ref fI)) ∧ PySem.W.typeIn K (.ref fI) = some (.type "function") ∧ FnOk P w K mg base CX0 1 fI fd ["self", f] (SpXI K f) ∧ Binds K fd ["self", f] []
theorem mk_of {P : Program} {w : World} {K : PySem.W.Frag} {mg : Str → Option Value} {base : Heap} {x q f : Str} {st : Stmt} {C : Addr} (e : ErrI K mg x q f st C)
    (h : ∀ fI fd, Fun K "__init__" q st fI fd → FnOk P w K mg base CX0 1 fI fd ["self", f] (SpXI K f)) : Mk P w K mg base x f C := by
  obtain ⟨g, o, n, fI, fd, i, t, F, b⟩ := e
  exact ⟨g, o, n, fI, fd, i, t, h fI fd F, b⟩
section
variable {X : Cx} {x f : Str} {C : Addr} {e : Expr} {te : TE} {p pos : Pos}
theorem pe_cls (hm : X.mg x = some (.ref C)) (hg : Gl X x) (hdb : (x == ("__debug__" : Str)) = false := by decide) : PE X (.Name x pos) (tC (.ref C)) := pe_glob hg hm rfl hdb
theorem pe_gstr {z : Str} (c : ∃ t, X.mg x = some (.str z t)) (l : List Nat) (h : z = tx l) (hg : Gl X x) (hdb : (x == ("__debug__" : Str)) = false := by decide) : PE X (.Name x pos) (tC (.str (tx l))) := by
  obtain ⟨t, c⟩ := c
  exact pe_glob hg c ⟨t, by rw [h]⟩ hdb
theorem pe_gint {i : Int} (c : ∃ t, X.mg x = some (.int i t)) (hg : Gl X x) (hdb : (x == ("__debug__" : Str)) = false := by decide) : PE X (.Name x pos) (tC (.int i)) := by
  obtain ⟨t, c⟩ := c
  exact pe_glob hg c ⟨t, rfl⟩ hdb
theorem pe_err0 (m : Err0 X.K X.mg x C) (hg : Gl X x) (hdb : (x == ("__debug__" : Str)) = false := by decide) : PE X (.Call (.Name x p) [] [] pos) (tMkN C) := pe_mkN F.excBase_ValueError m.2.2 m.1 m.2.1.kC hg hdb
theorem pe_errI (m : Mk X.prog X.w X.K X.mg X.base x f C) (hr : Room 2 X.A) (hg : Gl X x) (ha : PE X e te) (hdb : (x == ("__debug__" : Str)) = false := by decide)
    (he : starEach (e :: []) X.env = (false, eval e X.env) :: starEach [] X.env := by rfl) (hpl : (backTo pos (starEach [] X.env)).any (·.1) = false := by rfl) : PE X (.Call (.Name x p) [e] [] pos) (tMkX C f te) := by
  obtain ⟨g, o, n, fI, fd, i, t, F, b⟩ := m
  exact pe_mkX o i t n F hr b pass0 hg g ha hdb he hpl
end
theorem pmk_err0 {X : Cx} {x : Str} {C : Addr} {p pos : Pos} (m : Err0 X.K X.mg x C) (hg : Gl X x) (hdb : (x == ("__debug__" : Str)) = false := by decide) : PMk X (.Call (.Name x p) [] [] pos) (fun _ H Q => Q (.ref C) none H) := by
  intro pins s σ H Q I h
  refine wpAny_Call_Name_kw (ld_glob I hg m.1 ?_ hdb)
  refine PySem.W.callWith_K0 (K := X.K) (I.tok _).kIn m.2.1.kC ?_
  show wpAny _ _ (call (.ref C) []) _ _ _
  obtain ⟨bm, N, nm, qn, bs, hdct, sn, sub, ab, col, dd, k0, k1, k2, k3, k5, mN, hC, hN, hni, T⟩ := exc_obj (I.tok _).kIn m.2.2
  refine wpAny_call_exc_subT F.excBase_ValueError T hC hN hni (fun h' e hm => ?_) (by show 0 ≤ sizeLine; omega)
  exact L2.mk_of I hm (raises_own m.2.1.xf.exC m.2.1.ty) h (I.hok.gone hm.new)
/-- a def that may raise, under its name -/
def ClX (P : Program) (w : World) (K : PySem.W.Frag) (mg : Str → Option Value) (base : Heap) (nm : Str) (ps : List Str) (k : Nat) (sp : Sp) : Prop :=
  ∃ (f : Addr) (fd : FuncData), mg nm = some (.ref f) ∧ FnOk P w K mg base (L2.CX P w) k f fd ps sp ∧ PySem.W.keepIn K (.ref f) = true ∧ Binds K fd ps []
theorem clX_of {P : Program} {w : World} {K : PySem.W.Frag} {mg : Str → Option Value} {base : Heap} {nm : Str} {st : Stmt} {ps : List Str} {k : Nat} {sp : Sp}
    (a : At K mg nm st ps) (h : ∀ f fd, Fun K nm nm st f fd → FnOk P w K mg base (L2.CX P w) k f fd ps sp) : ClX P w K mg base nm ps k sp := by
  obtain ⟨f, fd, F, m, b⟩ := a
  exact ⟨f, fd, m, h f fd F, F.kp, b⟩
theorem pe_clX {X : Cx} {nm : Str} {ps : List Str} {k : Nat} {sp : Sp} {e : Expr} {es : List Expr} {t : TA} {p pos : Pos} {W : WX} (c : ClX X.prog X.w X.K X.mg X.base nm ps k sp) (hr : Room k X.A) (hg : Gl X nm) (tk : Takes X W) (ha : PA X (e :: es) t)
    (hdb : (nm == ("__debug__" : Str)) = false := by decide) (he : starEach (e :: es) X.env = (false, eval e X.env) :: starEach es X.env := by rfl) (hpl : (backTo pos (starEach es X.env)).any (·.1) = false := by rfl) :
    PE X (.Call (.Name nm p) (e :: es) [] pos) (tCallS sp (WE W) t) := by
  obtain ⟨f, fd, m, F, kp, b⟩ := c
  exact pe_callS F hr hg m kp b (fun σ => passAt tk σ) ha hdb he hpl
/-- an error stands at a: its class, its one field -/
def ErrAt (H : Hp) (a C : Addr) (f : Str) (v : V) : Prop := ∃ dx, H a = some (exo a C (some dx)) ∧ H dx = some (exd dx [(f, v)])
def IsErr (H : Hp) (a C : Addr) : Prop := ∃ d, H a = some (exo a C d) ∧ ∀ dx, d = some dx → ∃ fs, H dx = some (exd dx fs)
theorem ErrAt.is {H : Hp} {a C : Addr} {f : Str} {v : V} (h : ErrAt H a C f v) : IsErr H a C := by
  obtain ⟨dx, h1, h2⟩ := h
  refine ⟨some dx, h1, fun d e => ?_⟩
  cases e
  exact ⟨_, h2⟩
theorem IsErr.same {H H' : Hp} {a C : Addr} (h : IsErr H a C) (s : Same H H') : IsErr H' a C := by
  obtain ⟨d, h1, h2⟩ := h
  refine ⟨d, s _ _ h1, fun dx e => ?_⟩
  obtain ⟨fs, h3⟩ := h2 dx e
  exact ⟨fs, s _ _ h3⟩
theorem ErrAt.same {H H' : Hp} {a C : Addr} {f : Str} {v : V} (h : ErrAt H a C f v) (s : Same H H') : ErrAt H' a C f v := by
  obtain ⟨dx, h1, h2⟩ := h
  exact ⟨dx, s _ _ h1, s _ _ h2⟩
section
variable {K : PySem.W.Frag} {σ : L2.St} {H : Hp} {Q : VK} {te : TE} {ta : TA} {C : Addr} {f n : Str} {R : It → Hp → Prop}
theorem rd_mkN (q : ∀ a H', H a = none → Same H H' → IsErr H' a C → Q (.ref a) H') : tMkN C σ H Q := fun a ha => q a _ ha (same_upd ha) ⟨none, upd_same, fun _ e => by cases e⟩
theorem rd_mkX (h : te σ H fun v H1 => ∀ a dx, H1 a = none → H1 dx = none → dx ≠ a → Q (.ref a) (upd (upd (upd H1 a (exo a C none)) dx (exd dx [(f, v)])) a (exo a C (some dx)))) : tMkX C f te σ H Q := h
theorem mkX_end {v : V} (q : ∀ a H', H a = none → Same H H' → ErrAt H' a C f v → Q (.ref a) H') : ∀ a dx, H a = none → H dx = none → dx ≠ a → Q (.ref a) (upd (upd (upd H a (exo a C none)) dx (exd dx [(f, v)])) a (exo a C (some dx))) :=
  fun a dx ha hd hne => q a _ ha (same_mut (same_mut (same_upd ha) hd) ha) ⟨dx, upd_same, by rw [upd_ne hne, upd_same]⟩
theorem rd_xfl (h : te σ H fun x H1 => ∃ (a C d : Addr) (fs : List (Str × V)) (v : V), x = .ref a ∧ XfC K C ∧ PySem.W.findIn K (.ref C) n = some none ∧ H1 a = some (exo a C (some d)) ∧ H1 d = some (exd d fs) ∧ fs.lookup n = some v ∧ Q v H1) : tXfl K n te σ H Q := h
theorem xfl_end {a : Addr} {v : V} (T : OxC K C) (hno : PySem.W.findIn K (.ref C) n = some none) (e : ErrAt H a C n v) (q : Q v H) :
    ∃ (b C' d : Addr) (fs : List (Str × V)) (v' : V), V.ref a = .ref b ∧ XfC K C' ∧ PySem.W.findIn K (.ref C') n = some none ∧ H b = some (exo b C' (some d)) ∧ H d = some (exd d fs) ∧ fs.lookup n = some v' ∧ Q v' H := by
  obtain ⟨dx, h1, h2⟩ := e
  exact ⟨a, C, dx, _, v, rfl, T.xf, hno, h1, h2, by simp [List.lookup], q⟩
theorem rd_isX {a D : Addr} {b : Bool} (e : IsErr H a C) (T : OxC K C) (k : PySem.W.kitOne K (.ref C) (.ref D) = some b) (q : Q (.bl b) H) : rIsX K [.ref a, .ref D] H Q := by
  obtain ⟨d, h1, h2⟩ := e
  exact ⟨a, C, d, .ref D, .ref D, b, rfl, h1, h2, T.is, .own D, k, q⟩
theorem rd_isXT {a : Addr} {T' : String} {b : Bool} (e : IsErr H a C) (T : OxC K C) (k : PySem.W.kitOne K (.ref C) (.type T') = some b) (q : Q (.bl b) H) : rIsX K [.ref a, .ty T'] H Q := by
  obtain ⟨d, h1, h2⟩ := e
  exact ⟨a, C, d, .ty T', .type T', b, rfl, h1, h2, T.is, .ty T', k, q⟩
theorem rd_isi {x : V} {t : Value} {b : Bool} (ty : TyX K H x t) (k : PySem.W.kitOne K t (.type "str") = some b) (q : Q (.bl b) H) : rIsi K [x, .ty "str"] H Q := ⟨x, .ty "str", t, .type "str", b, rfl, .ty _, ty, k, q⟩
theorem rd_clX {sp : Sp} {E : L2.St → XK} {t : TA} (h : t σ H fun vs H1 => sp vs H1 Q (E σ)) : tCallS sp E t σ H Q := h
theorem rd_notB {a b : Bool} (q : Q (.bl (!decide (a = b))) H) : rNotB (.bl a) (.bl b) H Q := ⟨a, b, rfl, rfl, q⟩
theorem rd_chain {r r' : R2} {ta tb tc : TE} (h : ta σ H fun x H1 => tb σ H1 fun y H2 => r x y H2 fun z H3 => ∃ k, z = .bl k ∧ (if k = true then tc σ H3 fun w' H4 => r' y w' H4 Q else Q (.bl false) H3)) : tChain r r' ta tb tc σ H Q := h
theorem rd_mkN0 (h : ∀ a, H a = none → Q (.ref a) (upd H a (exo a C none))) : tMkN C σ H Q := h
theorem rd_iEnum (h : ta σ H fun vs H1 => ∃ a xs, vs = [.ref a] ∧ SqL K H1 a xs ∧ R (Ite K a) H1) : iEnum K ta σ H R := h
theorem rd_par3 {i j l : Nat} {D : Ends} (h : ta σ H fun vs H1 => ∃ v w u, vs = [v, w, u] ∧ D.nx (((σ.set i (some v)).set j (some w)).set l (some u)) H1) : tPar3 i j l ta D σ H := h
theorem rd_three {P : V → V → V → Prop} {a b c : V} (q : P a b c) : ∃ v w u, [a, b, c] = [v, w, u] ∧ P v w u := ⟨a, b, c, rfl, q⟩
theorem rd_iZipS (h : ta σ H fun vs H1 => ∃ x y, vs = [.str x, .str y] ∧ R (ItzS x y) H1) : iZipS ta σ H R := h
theorem rd_zipS2 {x y : Str} {P : Str → Str → Prop} (q : P x y) : ∃ x' y', [V.str x, V.str y] = [.str x', .str y'] ∧ P x' y' := ⟨x, y, rfl, q⟩
end
/-- a comprehension over zip of two texts -/
theorem lc_zip {l m : List Nat} {g : TG} {tt : TT} {te : TE} {vs : List Nat} {σ : L2.St} {H1 : Hp} {D : Addr} {Qd : Hp → Prop} (Pv : Nat → Hp → Prop) (h0 : Pv 0 (upd H1 D (.lst [])))
    (hs : ∀ (i c d : Nat) (T : Addr) (H : Hp), l[i]? = some c → m[i]? = some d → Pv i H → H T = none → g (.ref T) (wipe σ vs) (upd H T (.tup [.str (tx [c]), .str (tx [d])])) fun σ2 H2 => wipe σ2 vs = wipe σ vs ∧ tt σ2 H2 fun b H3 =>
      if b = true then te σ2 H3 fun y H4 => ∃ acc, H4 D = some (.lst acc) ∧ acc.length < sizeLine ∧ Pv (i + 1) (upd H4 D (.lst (acc ++ [y]))) else Pv (i + 1) H3) (hd : ∀ H, Pv (min l.length m.length) H → Qd H) :
    ∃ W : Nat → Nat → Hp → Prop, (∃ n, W 0 n (upd H1 D (.lst []))) ∧ ∀ i n H, W i n H →
      ((ItzS (tx l) (tx m)).stop i H ∧ Qd H) ∨ ((ItzS (tx l) (tx m)).go i H ∧ ∃ Nx : Hp → Prop, (∀ H', Nx H' → ∃ m', m' < n ∧ W (i + 1) m' H') ∧ ∀ x H', (ItzS (tx l) (tx m)).yld i H x H' → g x (wipe σ vs) H' fun σ2 H2 => wipe σ2 vs = wipe σ vs ∧ tt σ2 H2 fun b H3 =>
        if b = true then te σ2 H3 fun y H4 => ∃ acc, H4 D = some (.lst acc) ∧ acc.length < sizeLine ∧ Nx (upd H4 D (.lst (acc ++ [y]))) else Nx H3) := by
  have e1 : (tx l).cps.size = l.length := by simp [tx]
  have e2 : (tx m).cps.size = m.length := by simp [tx]
  refine ⟨fun i n H => n = min l.length m.length - i ∧ i ≤ min l.length m.length ∧ Pv i H, ⟨_, rfl, Nat.zero_le _, h0⟩, ?_⟩
  rintro i n H ⟨rfl, hi, p⟩
  by_cases hlt : i < min l.length m.length
  · refine .inr ⟨⟨by omega, by omega⟩, Pv (i + 1), fun H' p' => ⟨min l.length m.length - (i + 1), by omega, rfl, hlt, p'⟩, ?_⟩
    rintro x H' ⟨T, c, d, rfl, hT, rfl, hc, hd'⟩
    exact hs i c d T H (by simpa [tx] using hc) (by simpa [tx] using hd') p hT
  · have e : i = min l.length m.length := by omega
    subst e
    exact .inl ⟨⟨by omega, by omega, by omega⟩, hd H p⟩

/-! ### repr of any value -/
/-- how a value is shown, and that it can be -/
structure Good (d : PyData) : Prop where
  s : d.showable = true
  n : d.hasDict = false
  z : d.depth ≤ 20
  l : d.shown.length ≤ 100000
def rReprA (K : PySem.W.Frag) : List V → Hp → VK → Prop := fun xs H Q => ∃ (x : V) (d : PyData), xs = [x] ∧ Dp K H x d ∧ Good d ∧ Q (.str d.shown) H
theorem call_reprA {X : Cx} {k : Nat} (hgd : X.A.guards = some []) (hr : Room k X.A) : CallR X (.builtin "repr") (rReprA X.K) := by
  intro pins s σ H xs us Q I r h
  obtain ⟨x, d, rfl, hd, g, q⟩ := h
  have hsz : d.shown.length ≤ sizeLine := Nat.le_trans g.l (by decide)
  have base : scalR x → reprS x = d.shown → wpAny (model X.prog X.w) X.A (call (.builtin "repr") us) (EP X pins σ Q) X.xe s := fun h1 h2 => call_reprS pins s σ H [x] us Q I r ⟨x, rfl, h1, by rw [h2]; exact q⟩
  cases hd with
  | non => exact base trivial (by simp only [PyData.shown]; rfl)
  | bl b => exact base trivial (by simp only [PyData.shown]; rfl)
  | int i => exact base (by have h0 := g.s; simp only [PyData.showable, decide_eq_true_eq] at h0; exact h0) (by simp only [PyData.shown]; rfl)
  | str z => exact base (by have := hsz; simp only [PyData.shown] at this; exact this) (by simp only [PyData.shown]; rfl)
  | lst h1 h2 => exact call_reprD hgd hr pins s σ H _ us Q I r ⟨_, _, rfl, .lst h1 h2, g.s, g.n, by have := g.z; omega, hsz, q⟩
  | tup h1 h2 => exact call_reprD hgd hr pins s σ H _ us Q I r ⟨_, _, rfl, .tup h1 h2, g.s, g.n, by have := g.z; omega, hsz, q⟩
theorem rd_reprA {K : PySem.W.Frag} {H : Hp} {Q : VK} {x : V} {d : PyData} (h : Dp K H x d) (g : Good d) (q : Q (.str d.shown) H) : rReprA K [x] H Q := ⟨x, d, rfl, h, g, q⟩
theorem sqL_same {K : PySem.W.Frag} {H H' : Hp} {a : Addr} {ys : List V} (h : SqL K H a ys) (s : Same H H') : SqL K H' a ys := by
  rcases h with (h | ⟨o, h⟩) | h
  · exact .inl (.inl (s _ _ h))
  · exact .inl (.inr ⟨o, s _ _ h⟩)
  · exact .inr h
theorem sqT_same {K : PySem.W.Frag} {H H' : Hp} {a : Addr} {ys : List V} (h : SqT K H a ys) (s : Same H H') : SqT K H' a ys := by
  rcases h with (h | ⟨o, h⟩) | h
  · exact .inl (.inl (s _ _ h))
  · exact .inl (.inr ⟨o, s _ _ h⟩)
  · exact .inr h
mutual
theorem Dp.same {K : PySem.W.Frag} {H H' : Hp} (s : Same H H') : ∀ {v : V} {d : PyData}, Dp K H v d → Dp K H' v d
  | _, _, .non => .non
  | _, _, .bl b => .bl b
  | _, _, .int i => .int i
  | _, _, .str x => .str x
  | _, _, .lst h1 h2 => .lst (sqL_same h1 s) (DpAll.same s h2)
  | _, _, .tup h1 h2 => .tup (sqT_same h1 s) (DpAll.same s h2)
theorem DpAll.same {K : PySem.W.Frag} {H H' : Hp} (s : Same H H') : ∀ {vs : List V} {ds : List PyData}, DpAll K H vs ds → DpAll K H' vs ds
  | _, _, .nil => .nil
  | _, _, .cons h1 h2 => .cons (Dp.same s h1) (DpAll.same s h2)
end
end Un

/-! UnNil: xs == [] and xs != [], whatever stands in xs. -/
namespace Un
open PySem PySem.Spec PyProof.Rows L2
def rEqE (K : PySem.W.Frag) : R2 := fun x y H Q => ∃ a b xs, x = .ref a ∧ y = .ref b ∧ SqL K H a xs ∧ SqL K H b [] ∧ Q (.bl xs.isEmpty) H
def rNeE (K : PySem.W.Frag) : R2 := fun x y H Q => ∃ a b xs, x = .ref a ∧ y = .ref b ∧ SqL K H a xs ∧ SqL K H b [] ∧ Q (.bl (!xs.isEmpty)) H
section
variable {X : Cx}
theorem op_eqE (hu : X.A.units + 64 < cLine) : OpR X (compareOp .Eq) (rEqE X.K) := by
  intro pins s σ H x y v u Q I rx ry h
  obtain ⟨a, b, xs, rfl, rfl, ha, hb, q⟩ := h
  cases (show v = Value.ref a from rx)
  cases (show u = Value.ref b from ry)
  obtain ⟨us, r1, p1, _⟩ := I.list ha
  obtain ⟨ws, r2, p2, _⟩ := I.list hb
  cases r2
  cases r1 with
  | nil => exact (SeqAt.RcAt.lists (e := fun _ => true) p1.isList p2.isList rfl (by omega) (fun j h1 => absurd h1 (Nat.not_lt_zero j))) _ _ _ _ ⟨.bl true, H, I, rfl, q⟩
  | cons r rr => exact (SeqAt.RcAt.lists_lengths p1.isList p2.isList (by simp) (by omega)) _ _ _ _ ⟨.bl false, H, I, rfl, q⟩
theorem op_neE (hu : X.A.units + 64 < cLine) : OpR X (compareOp .NotEq) (rNeE X.K) := by
  intro pins s σ H x y v u Q I rx ry h
  obtain ⟨a, b, xs, rfl, rfl, ha, hb, q⟩ := h
  cases (show v = Value.ref a from rx)
  cases (show u = Value.ref b from ry)
  obtain ⟨us, r1, p1, _⟩ := I.list ha
  obtain ⟨ws, r2, p2, _⟩ := I.list hb
  cases r2
  cases r1 with
  | nil => exact (SeqAt.RcNeAt.lists (e := fun _ => true) p1.isList p2.isList rfl (by omega) (fun j h1 => absurd h1 (Nat.not_lt_zero j))) _ _ _ _ ⟨.bl false, H, I, rfl, q⟩
  | cons r rr => exact (SeqAt.RcNeAt.lists_lengths p1.isList p2.isList (by simp) (by omega)) _ _ _ _ ⟨.bl true, H, I, rfl, q⟩
end
section
variable {K : PySem.W.Frag} {H : Hp} {Q : VK} {p e : Addr} {xs : List V}
theorem rd_eqE (h1 : SqL K H p xs) (h2 : SqL K H e []) (q : Q (.bl xs.isEmpty) H) : rEqE K (.ref p) (.ref e) H Q := ⟨p, e, xs, rfl, rfl, h1, h2, q⟩
theorem rd_neE (h1 : SqL K H p xs) (h2 : SqL K H e []) (q : Q (.bl (!xs.isEmpty)) H) : rNeE K (.ref p) (.ref e) H Q := ⟨p, e, xs, rfl, rfl, h1, h2, q⟩
end
end Un

/-! UnOp: instances of own classes under [ ], in, len, == and !=, by their own methods. -/
namespace Un
open PySem PySem.Spec PyProof.Rows L2
section
variable {X : Cx} {CX : CXT} {k : Nat} {C f : Addr} {fd : FuncData} {ps : List Str} {sp : Sp} {E : XK}
/-- an own method called one level in -/
theorem run_in1 {pins : List (Addr × Obj)} {σ : L2.St} {H : Hp} {s : Shared} {Q : VK} {us : List Value} {vs : List V} (F : FnOk X.prog X.w X.K X.mg X.base CX k f fd ps sp) (hr : Room (k + 1) X.A) (hb : Binds X.K fd ps []) (hx : Passes CX X E)
    (I : Inv X pins σ H s) (r : Vals vs us) (h : sp vs H Q E) : wpAny (model X.prog X.w) X.A.in1 (call (.ref f) us) (EP X pins σ Q) X.xe s := by
  have hl : us.length = ps.length := by
    rw [← r.length]
    exact F.len _ _ _ _ h
  have hbd := hb s us I.kIn (by simpa using hl)
  rw [List.append_nil] at hbd
  refine wpAny_call (codeAny_mono (F.run X.A.in1 X.stack s H ⟨us, []⟩ us vs Q E hr.in1 I.env0.in1 hbd r h) fun q s' hq => ?_)
  match q, hq with
  | .error e, hq => exact hx pins σ H s e s' I hq
  | .ok (.ret u), hq => exact I.after hq
  | .ok .next, hq => exact hq.elim
  | .ok .brk, hq => exact hq.elim
  | .ok .cont, hq => exact hq.elim
theorem run_own {pins : List (Addr × Obj)} {σ : L2.St} {H : Hp} {s : Shared} {Q : VK} {us : List Value} {vs : List V} (F : FnOk X.prog X.w X.K X.mg X.base CX k f fd ps sp) (hr : Room k X.A) (hb : Binds X.K fd ps []) (hx : Passes CX X E)
    (I : Inv X pins σ H s) (r : Vals vs us) (h : sp vs H Q E) : wpAny (model X.prog X.w) X.A (call (.ref f) us) (EP X pins σ Q) X.xe s :=
  run_fn F hr hb .nil hx I r (by rw [List.append_nil]; exact h)
/-- o[i] = v -/
def rSetO (C : Addr) (sp : Sp) (E : XK) : TSet := fun o i v H Q => ∃ a dx fs, o = .ref a ∧ H a = some (.ins C dx fs) ∧ sp [.ref a, i, v] H (fun _ H' => Q H') E
theorem set_own (hm : Meth X.K C "__setitem__" f) (hq : PySem.W.noSeq X.K C = true) (F : FnOk X.prog X.w X.K X.mg X.base CX k f fd ps sp) (hr : Room k X.A) (hb : Binds X.K fd ps []) (hx : Passes CX X E) : PSet X (rSetO C sp E) := by
  intro pins s σ H o i v ov iv u Q I ro ri rv h
  obtain ⟨a, dx, fs, rfl, ha, h⟩ := h
  cases (show ov = Value.ref a from ro)
  obtain ⟨mA, O, _⟩ := ins_get I.hok ha
  obtain ⟨od, J, _⟩ := O.look
  obtain ⟨m, hF⟩ := I.fr
  refine PySem.W.ksp_setItem hF I.ok.mod.kin J hq hm.at_ hm.fn (wpAny_mono (run_own F hr hb hx I (show Vals [V.ref a, i, v] [Value.ref a, iv, u] from .cons rfl (.cons ri (.cons rv .nil))) h) (fun r s' hs => ?_) fun _ _ e => e)
  obtain ⟨z, H', I', rz, q⟩ := hs
  exact ⟨H', I', q⟩
/-- x in o, x not in o -/
def rInO (neg : Bool) (C : Addr) (sp : Sp) (E : XK) : R2 := fun x y H Q => ∃ a dx fs, y = .ref a ∧ H a = some (.ins C dx fs) ∧ sp [.ref a, x] H (fun r H' => ∃ b, r = .bl b ∧ Q (.bl (if neg then !b else b)) H') E
theorem op_inO (hm : Meth X.K C "__contains__" f) (F : FnOk X.prog X.w X.K X.mg X.base CX k f fd ps sp) (hr : Room k X.A) (hb : Binds X.K fd ps []) (hx : Passes CX X E) : OpR X (compareOp .In) (rInO false C sp E) := by
  intro pins s σ H x y v u Q I rx ry h
  obtain ⟨a, dx, fs, rfl, ha, h⟩ := h
  cases (show u = Value.ref a from ry)
  obtain ⟨mA, O, _⟩ := ins_get I.hok ha
  obtain ⟨od, J, _⟩ := O.look
  obtain ⟨m, hF⟩ := I.fr
  refine PySem.W.in_K hF I.ok.mod.kin J hm.at_ hm.fn (wpAny_mono (run_own F hr hb hx I (show Vals [V.ref a, x] [Value.ref a, v] from .cons rfl (.cons rx .nil)) h) (fun r s' hs => ?_) fun _ _ e => e)
  obtain ⟨z, H', I', rz, b, rfl, q⟩ := hs
  cases (show r = Value.bool b from rz)
  exact wpAny_truthy_bool ⟨.bl b, H', I', rfl, q⟩
theorem op_notInO (hm : Meth X.K C "__contains__" f) (F : FnOk X.prog X.w X.K X.mg X.base CX k f fd ps sp) (hr : Room k X.A) (hb : Binds X.K fd ps []) (hx : Passes CX X E) : OpR X (compareOp .NotIn) (rInO true C sp E) := by
  intro pins s σ H x y v u Q I rx ry h
  obtain ⟨a, dx, fs, rfl, ha, h⟩ := h
  cases (show u = Value.ref a from ry)
  obtain ⟨mA, O, _⟩ := ins_get I.hok ha
  obtain ⟨od, J, _⟩ := O.look
  obtain ⟨m, hF⟩ := I.fr
  refine PySem.W.notIn_K hF I.ok.mod.kin J hm.at_ hm.fn (wpAny_mono (run_own F hr hb hx I (show Vals [V.ref a, x] [Value.ref a, v] from .cons rfl (.cons rx .nil)) h) (fun r s' hs => ?_) fun _ _ e => e)
  obtain ⟨z, H', I', rz, b, rfl, q⟩ := hs
  cases (show r = Value.bool b from rz)
  exact wpAny_truthy_bool ⟨.bl (!b), H', I', rfl, q⟩
/-- len(o) -/
def rLenO (C : Addr) (sp : Sp) (E : XK) : List V → Hp → VK → Prop := fun xs H Q => ∃ a dx fs, xs = [.ref a] ∧ H a = some (.ins C dx fs) ∧ sp [.ref a] H (fun r H' => ∃ n : Nat, r = .int (n : Int) ∧ n ≤ 1000000 ∧ Q (.int (n : Int)) H') E
theorem call_lenO (hm : Meth X.K C "__len__" f) (F : FnOk X.prog X.w X.K X.mg X.base CX k f fd ps sp) (hr : Room (k + 1) X.A) (hb : Binds X.K fd ps []) (hx : Passes CX X E) : CallR X (.builtin "len") (rLenO C sp E) := by
  intro pins s σ H xs us Q I r h
  obtain ⟨a, dx, fs, rfl, ha, h⟩ := h
  obtain ⟨u, rfl, ru⟩ := vals1 r
  cases (show u = Value.ref a from ru)
  obtain ⟨mA, O, _⟩ := ins_get I.hok ha
  obtain ⟨od, J, _⟩ := O.look
  obtain ⟨m, hF⟩ := I.fr
  refine PySem.W.len_K hF I.ok.mod.kin J hm.at_ hm.fn (wpAny_mono (run_in1 F hr hb hx I (show Vals [V.ref a] [Value.ref a] from .cons rfl .nil) h) (fun r s' hs => ?_) fun _ _ e => e)
  obtain ⟨z, H', I', rz, n, rfl, hn, q⟩ := hs
  obtain ⟨t, rfl⟩ := rz
  exact ⟨⟨by omega, by omega⟩, .int n, H', I'.tok _, ⟨_, rfl⟩, q⟩
/-- o == y where the own method gives a truth value -/
def rEqO (C : Addr) (sp : Sp) (E : XK) (T : V → Hp → Prop) : R2 := fun x y H Q => ∃ a dx fs, x = .ref a ∧ H a = some (.ins C dx fs) ∧ T y H ∧ sp [.ref a, y] H (fun r H' => ∃ b, r = .bl b ∧ Q (.bl b) H') E
/-- what a right operand's class may be -/
def Right (X : Cx) (C : Addr) (T : V → Hp → Prop) : Prop := ∀ (pins : List (Addr × Obj)) (σ : L2.St) (H : Hp) (s : Shared) (y : V) (u : Value), Inv X pins σ H s → RelV y u → T y H → ∃ t, PySem.W.Looks (model X.prog X.w) s.heap (typeOf u) t ∧ PySem.W.notFirst X.K C t = true
theorem op_eqO {T : V → Hp → Prop} (hT : Right X C T) (hm : Meth X.K C "__eq__" f) (F : FnOk X.prog X.w X.K X.mg X.base CX k f fd ps sp) (hr : Room k X.A) (hb : Binds X.K fd ps []) (hx : Passes CX X E) : OpR X (compareOp .Eq) (rEqO C sp E T) := by
  intro pins s σ H x y v u Q I rx ry h
  obtain ⟨a, dx, fs, rfl, ha, ht, h⟩ := h
  cases (show v = Value.ref a from rx)
  obtain ⟨mA, O, _⟩ := ins_get I.hok ha
  obtain ⟨od, J, _⟩ := O.look
  obtain ⟨m, hF⟩ := I.fr
  obtain ⟨t, hL, hn⟩ := hT pins σ H s y u I ry ht
  refine PySem.W.cmp_K (op := .Eq) hr.units0 hF I.ok.mod.kin J hL hn hm.at_ hm.fn (wpAny_mono (run_own F hr hb hx I (show Vals [V.ref a, y] [Value.ref a, u] from .cons rfl (.cons ry .nil)) h) (fun r s' hs => ?_) fun _ _ e => e)
  obtain ⟨z, H', I', rz, b, rfl, q⟩ := hs
  cases (show r = Value.bool b from rz)
  exact ⟨.bl b, H', I', rfl, q⟩
/-- o[i] -/
def rGetO (C : Addr) (sp : Sp) (E : XK) : R2 := fun x y H Q => ∃ a dx fs, x = .ref a ∧ H a = some (.ins C dx fs) ∧ sp [.ref a, y] H Q E
theorem pe_getO {a b : Expr} {ta tb : TE} {pos : Pos} (hm : Meth X.K C "__getitem__" f) (hfn : PySem.W.fnIn X.K f = true) (F : FnOk X.prog X.w X.K X.mg X.base CX k f fd ps sp) (hr : Room (k + 1) X.A) (hb : Binds X.K fd ps []) (hx : Passes CX X E)
    (pa : PE X a ta) (pb : PE X b tb) (hs : ∀ (x : Addr) (i : Value), subscripted b true (.ref x) i = runValue (.builtin "lifetime.subscript" ⟨[.ref x, i], []⟩) := by exact fun _ _ => by with_unfolding_all rfl) : PE X (.Subscript a b pos) (tOp (rGetO C sp E) ta tb) := by
  refine ⟨fun pins s σ H Q I h => Subscript_ (binT pa pb I h fun v u s2 x y H2 I2 rx ry q => ?_)⟩
  obtain ⟨p, dx, fs, rfl, hp, q⟩ := q
  cases (show v = Value.ref p from rx)
  obtain ⟨mA, O, _⟩ := ins_get I2.hok hp
  obtain ⟨od, J, _⟩ := O.look
  obtain ⟨m, hF⟩ := I2.fr
  exact PySem.W.sub_K hF I2.ok.mod.kin J hm.at_ hfn hm.fn (run_in1 F hr hb hx I2 (show Vals [V.ref p, y] [Value.ref p, u] from .cons rfl (.cons ry .nil)) q) (hs p u)
end
end Un

set_option maxHeartbeats 4000000
/-! UnExc: own errors of one field raised, over any base; dead code; methods called with keywords; sorted texts of any number; a walk over a list or a tuple. -/
namespace Un
open PySem PySem.Spec PyProof.Rows L2
/-- code that is never come to -/
theorem ps_dead {X : Cx} {st : Stmt} : PS X st (fun _ _ _ => False) := ⟨fun _ _ _ _ _ _ h => h.elim⟩
theorem pss_dead {X : Cx} {sts : List Stmt} : PSs X sts (fun _ _ _ => False) := ⟨fun _ _ _ _ _ _ h => h.elim⟩
/-- raise C(e) -/
def tMkR (C : Addr) (f : Str) (te : TE) : L2.St → Hp → XK → Prop := fun σ H Q => te σ H fun v H1 => ∀ d, H1 d = none → Q (.ref C) (some d) (upd H1 d (.xd [(f, v)]))
section
variable {X : Cx} {o e : Expr} {te : TE} {f x : Str} {p pos : Pos} {C fI : Addr} {k : Nat} {fd : FuncData} {ps : List Str} {CX : CXT}
theorem pmk_X (T : OxC X.K C) (iC : PySem.W.findIn X.K (.ref C) "__init__" = some (some (.ref fI))) (tI : PySem.W.typeIn X.K (.ref fI) = some (.type "function")) (hno : PySem.W.findIn X.K (.ref C) f = some none)
    (F1 : FnOk X.prog X.w X.K X.mg X.base CX k fI fd ps (SpXI X.K f)) (hr : Room (k + 1) X.A) (hb : Binds X.K fd ps []) (hx : Passes CX X (fun _ _ _ => False)) (hg : Gl X x) (hm : X.mg x = some (.ref C)) (ha : PE X e te)
    (hdb : (x == ("__debug__" : Str)) = false := by decide) (he : starEach (e :: []) X.env = (false, eval e X.env) :: starEach [] X.env := by rfl) (hpl : (backTo pos (starEach [] X.env)).any (·.1) = false := by rfl) :
    PMk X (.Call (.Name x p) [e] [] pos) (tMkR C f te) := by
  intro pins s σ H Q I h
  obtain ⟨nm, q, N, bs, bm, sn, sub, ab, col, dd, k0, k1, k2, k3, k5, B, newId, initId, bmB, hC, FB, BB, hps⟩ := T.cls
  refine wpAny_Call_Name_kw (ld_glob I hg hm ?_ hdb)
  have hA : PA X [e] (tCons te tNil) := pa_cons ha pa_nil he
  refine PySem.W.callWith_K (h₀ := X.base) I.ok.mod.kin T.kC (thn (hA.run pos pins s σ H (fun vs H1 => match vs with | [v] => (∀ d, H1 d = none → Q (.ref C) (some d) (upd H1 d (.xd [(f, v)]))) | _ => False) I h) fun us s1 ⟨vs, H1, I1, r1, q1⟩ => ⟨I1.kIn, ?_⟩) he hpl
  show wpAny _ _ (call (.ref C) us) _ _ _
  obtain ⟨v, rfl⟩ : ∃ v, vs = [v] := by
    rcases vs with _ | ⟨v, _ | ⟨v2, vs⟩⟩
    · exact q1.elim
    · exact ⟨v, rfl⟩
    · exact q1.elim
  replace q1 : ∀ d, H1 d = none → Q (.ref C) (some d) (upd H1 d (.xd [(f, v)])) := q1
  obtain ⟨hp, g, dr, tk, os⟩ := s1
  have hsz : hp.objs.size ≤ hp.objs.size + 1 := Nat.le_succ _
  have hn : H1 (hp.objs.size + 1) = none := I1.hok.fresh hsz
  have hq : SpXI X.K f [.ref (hp.objs.size + 1), v] (upd H1 (hp.objs.size + 1) (exo (hp.objs.size + 1) C none))
      (fun r H2 => r = .non ∧ ∃ d, H1 d = none ∧ d ≠ hp.objs.size + 1 ∧ H2 = upd (upd (upd H1 (hp.objs.size + 1) (exo (hp.objs.size + 1) C none)) d (exd d [(f, v)])) (hp.objs.size + 1) (exo (hp.objs.size + 1) C (some d))) (fun _ _ _ => False) :=
    ⟨_, v, C, rfl, T, hno, upd_same, fun dx hd hda => ⟨rfl, dx, by rw [upd_ne hda] at hd; exact hd, hda, rfl⟩⟩
  have kk : ∀ b o, hp.get? b = some o → ((hp.push (PySem.W.kdv_tup us)).push (PySem.HandSPX.excO C hp.objs.size)).get? b = some o := fun b o z => Heap.get?_push_of_some _ (Heap.get?_push_of_some _ z)
  have hget : ((hp.push (PySem.W.kdv_tup us)).push (PySem.HandSPX.excO C hp.objs.size)).get? (hp.objs.size + 1) = some (PySem.HandSPX.excO C hp.objs.size) := by heap_get
  have I2 : Inv X pins σ (upd H1 (hp.objs.size + 1) (exo (hp.objs.size + 1) C none)) ⟨(hp.push (PySem.W.kdv_tup us)).push (PySem.HandSPX.excO C hp.objs.size), g, dr, tk, os⟩ :=
    I1.laid (t' := tk) (a := hp.objs.size + 1) (o := exo (hp.objs.size + 1) C none) (h' := (hp.push (PySem.W.kdv_tup us)).push (PySem.HandSPX.excO C hp.objs.size)) kk hsz (exo_ok hget)
  have r2 : Vals (V.ref (hp.objs.size + 1) :: ([v] ++ [])) (Value.ref (hp.objs.size + 1) :: (us ++ [])) := .cons rfl (r1.append .nil)
  have hl : (Value.ref (hp.objs.size + 1) :: us ++ []).length = ps.length := by
    have e1 := r2.length
    have e3 := F1.len _ _ _ _ hq
    simp only [List.length_cons, List.length_append, List.length_nil] at e1 e3 ⊢
    omega
  have hus : us.length ≤ sizeLine := by
    rw [← Paired.length r1, sizeLine_eq]
    simp
  refine wpAny_call (PySem.OXX.call_x FB BB (I1.kIn _ _ hC) (PySem.W.looks_findIn I1.kIn iC) (fun self => PySem.W.bind_fn I1.kIn self tI) hus
    (codeAny_mono (F1.run _ X.stack _ _ ⟨Value.ref (hp.objs.size + 1) :: us, []⟩ (Value.ref (hp.objs.size + 1) :: us ++ []) _ _ (fun _ _ _ => False) (hr.make C us []) (I2.env0.make C us []) (hb _ (Value.ref (hp.objs.size + 1) :: us) I2.kIn hl) r2 hq) fun r s' hq' => ?_))
  match r, hq' with
  | .error er, hq' => exact hx pins σ _ _ er s' I2 hq'
  | .ok .next, hq' => exact hq'.elim
  | .ok .brk, hq' => exact hq'.elim
  | .ok .cont, hq' => exact hq'.elim
  | .ok (.ret u), hq' =>
    obtain ⟨w', H2, os2, bare2, un2, hok2, rv, ev, d, hd1, hda, eH⟩ := hq'
    subst ev
    obtain ⟨h2, g2, d2, t2, os'⟩ := s'
    refine ⟨rv, mk_end (raises_own T.xf.exC T.ty) I1 hsz kk un2 hok2 os2 bare2 (by rw [eH, upd_same]) (by rw [eH, upd_ne hda, upd_same]) hd1 ?_⟩
    have e4 : upd (del H2 (hp.objs.size + 1)) d (.xd [(f, v)]) = upd H1 d (.xd [(f, v)]) := by
      funext b
      by_cases hb1 : b = d
      · subst hb1
        rw [upd_same, upd_same]
      · rw [upd_ne hb1, upd_ne hb1]
        by_cases hb2 : b = hp.objs.size + 1
        · subst hb2
          rw [del_same, hn]
        · rw [del_ne hb2, eH, upd_ne hb2, upd_ne hb1, upd_ne hb2]
    rw [e4]
    exact q1 d hd1
end
/-- sorted(texts), any number of them -/
def rSortedT (K : PySem.W.Frag) : List V → Hp → VK → Prop := fun vs H Q => ∃ (a : Addr) (xs : List Str), vs = [V.ref a] ∧ SqL K H a (xs.map V.str) ∧
  ∀ (ys : List Str) (p : Addr), ys.Perm xs → sortedS ys = true → H p = none → Q (.ref p) (upd H p (.lst (ys.map V.str)))
theorem cr_sortedT {X : Cx} : CallR X (.builtin "sorted") (rSortedT X.K) := by
  intro pins s σ H vs us Q I r h
  obtain ⟨a, xs, rfl, hs, q⟩ := h
  obtain ⟨its, rv, hl, hz⟩ := I.list hs
  rw [Vals.ref1 r]
  have hlen0 := rv.length
  refine PyProof.Rows.sorted_strsAny hl.isList rv.strs (by rw [← hlen0]; exact hz) fun out ys h1 h2 h3 => ?_
  obtain ⟨ep, he'⟩ := PyProof.Rows.sortedAll_at s.heap its out
  have hlen : (ys.map V.str).length ≤ sizeLine := by
    rw [List.length_map, h2.length_eq]
    rw [List.length_map] at hz
    exact hz
  exact ⟨.ref _, upd H (s.heap.objs.size + 1) (.lst (ys.map V.str)), I.laid (t' := s.toks) (fun _ _ => PyProof.Rows.sortedAll_old) (Nat.le_succ _) ⟨hlen, out.toList, ep, vals_of_strs h1, he'⟩, rfl, q ys _ h2 h3 (I.hok.fresh (Nat.le_succ _))⟩
/-- for x in xs, a list or a tuple -/
def iSeq (K : PySem.W.Frag) (tl : TE) : TI := fun σ H R => iList K tl σ H R ∨ iTup K tl σ H R
theorem pi_seq {X : Cx} {tg l : Expr} {tl : TE} (hl : PE X l tl) : PI X tg l (iSeq X.K tl) := ⟨fun pins s σ H R I h => h.elim ((pi_list hl).run pins s σ H R I) ((pi_tup hl).run pins s σ H R I)⟩
/-- o.m(e, .., k = v, ..) -/
def tMethN (C : Addr) (m : Str) (n l : Nat) (sp : Sp) (gV : List V → List V → List V) (E : XK) (ta : TE) (t tk : TA) : TE := fun σ H Q => ta σ H fun x H1 => ∃ a dx fs, x = .ref a ∧ H1 a = some (.ins C dx fs) ∧ fs.lookup m = none ∧
  t σ H1 fun vs H2 => tk σ H2 fun zs H3 => vs.length + 1 = n ∧ zs.length = l ∧ sp (gV (x :: vs) zs) H3 Q E
section
variable {X : Cx} {CX : CXT} {k n : Nat} {C f : Addr} {fd : FuncData} {ps ks : List Str} {sp : Sp} {E : XK} {m : Str} {apos pos : Pos} {o e : Expr} {es : List Expr} {kws : List Keyword} {ta : TE} {t tk : TA} {g : List Value → List Value → List Value} {gV : List V → List V → List V}
theorem pe_methN {pl : Sem Bool} (he : PE X o ta) (c : Cls X.K C) (hm : Meth X.K C m f) (F : FnOk X.prog X.w X.K X.mg X.base CX k f fd ps sp) (hr : Room k X.A) (hb : KBn X.K fd ps n ks g gV) (hx : Passes CX X E) (ha : PA X (e :: es) t) (hkw : PK X kws tk)
    (hall : (backToKw pos (keywordEach kws X.env)).all (·.1.isSome) = true := by rfl) (hks : (backToKw pos (keywordEach kws X.env)).filterMap (·.1) = ks := by rfl)
    (hst : starEach (e :: es) X.env = (false, eval e X.env) :: starEach es X.env := by rfl)
    (hpl : ((backTo pos (starEach (e :: es) X.env)).any (·.1) || (backToKw pos (keywordEach kws X.env)).any (·.1.isNone)) = false := by rfl)
    (ht : eval (.Call (.Attribute o m apos) (e :: es) kws pos) X.env = (do let ov ← eval o X.env; standAt apos.atName; let (f, first) ← holding [ov] (getMethod ov m pl); callWith pos f first (backTo pos (starEach (e :: es) X.env)) (backToKw pos (keywordEach kws X.env))) := by rfl) :
    PE X (.Call (.Attribute o m apos) (e :: es) kws pos) (tMethN C m n ks.length sp gV E ta t tk) := by
  refine ⟨fun pins s σ H Q I h => ?_⟩
  refine PySem.W.methodCall_KW (pl := pl) (thn (he.run pins s σ H _ I h) fun u s1 ⟨x, H1, I1, rx, a, dx, fs, ex, ea, l, q⟩ => ?_) ht
  subst ex
  obtain rfl : u = Value.ref a := rx
  refine getmeth_ok I1 ea c hm l ?_
  refine PySem.W.callWith_KW (first := [.ref a]) (h₀ := X.base) I.ok.mod.kin hm.kp hall (thn (ha.run pos pins s1 σ H1 _ I1 q) fun us s2 ⟨vs, H2, I2, r, q2⟩ => ?_) hpl hst
  refine thn (hkw.run pos pins s2 σ H2 _ I2 q2) fun ws s3 ⟨zs, H3, I3, rz, l1, l2, q3⟩ => ⟨I3.kIn, ?_⟩
  rw [hks]
  exact run_fnN (us := .ref a :: us) (vs := .ref a :: vs) F hr hb hx I3 (.cons rfl r) rz (by rw [List.length_cons]; exact l1) l2 q3
end
end Un

/-! UnM: methods in bundles; texts as keys of dicts. -/
namespace Un
open PySem PySem.Spec PyProof.Rows L2
/-- a method as it stands, no default -/
def AtM (K : PySem.W.Frag) (C : Addr) (m qual : Str) (st : Stmt) (ps : List Str) : Prop := ∃ (f : Addr) (fd : FuncData), Fun K m qual st f fd ∧ Meth K C m f ∧ PySem.W.fnIn K f = true ∧ Binds K fd ps []
/-- the same as a promise -/
def MetG (P : Program) (w : World) (K : PySem.W.Frag) (mg : Str → Option Value) (base : Heap) (CX : CXT) (C : Addr) (m : Str) (ps : List Str) (k : Nat) (sp : Sp) : Prop :=
  ∃ (f : Addr) (fd : FuncData), Cls K C ∧ Meth K C m f ∧ FnOk P w K mg base CX k f fd ps sp ∧ PySem.W.fnIn K f = true ∧ Binds K fd ps []
section
variable {P : Program} {w : World} {K : PySem.W.Frag} {mg : Str → Option Value} {base : Heap} {C : Addr} {m qual : Str} {st : Stmt} {ps : List Str} {k : Nat} {sp : Sp} {CX : CXT}
theorem metG_of (c : Cls K C) (a : AtM K C m qual st ps) (h : ∀ f fd, Fun K m qual st f fd → FnOk P w K mg base CX k f fd ps sp) : MetG P w K mg base CX C m ps k sp := by
  obtain ⟨f, fd, F, M, i, b⟩ := a
  exact ⟨f, fd, c, M, h f fd F, i, b⟩
end
section
variable {X : Cx} {C : Addr} {m : Str} {ps : List Str} {k j : Nat} {sp : Sp} {a b : Expr} {ta tb : TE} {pos : Pos} {CX : CXT} {E : XK}
theorem set_G (g : MetG X.prog X.w X.K X.mg X.base CX0 C "__setitem__" ps k sp) (hq : PySem.W.noSeq X.K C = true) (hr : Room j X.A) (hk : k ≤ j) : PSet X (rSetO C sp E0) := by
  obtain ⟨f, fd, c, M, F, i, b⟩ := g
  exact set_own M hq F (hr.mono hk) b pass0
theorem in_G (g : MetG X.prog X.w X.K X.mg X.base CX0 C "__contains__" ps k sp) (hr : Room j X.A) (hk : k ≤ j) : OpR X (compareOp .In) (rInO false C sp E0) := by
  obtain ⟨f, fd, c, M, F, i, b⟩ := g
  exact op_inO M F (hr.mono hk) b pass0
theorem notIn_G (g : MetG X.prog X.w X.K X.mg X.base CX0 C "__contains__" ps k sp) (hr : Room j X.A) (hk : k ≤ j) : OpR X (compareOp .NotIn) (rInO true C sp E0) := by
  obtain ⟨f, fd, c, M, F, i, b⟩ := g
  exact op_notInO M F (hr.mono hk) b pass0
theorem len_G (g : MetG X.prog X.w X.K X.mg X.base CX0 C "__len__" ps k sp) (hr : Room j X.A) (hk : k + 1 ≤ j) : CallR X (.builtin "len") (rLenO C sp E0) := by
  obtain ⟨f, fd, c, M, F, i, b⟩ := g
  exact call_lenO M F (hr.mono hk) b pass0
theorem eq_G {T : V → Hp → Prop} (hT : Right X C T) (g : MetG X.prog X.w X.K X.mg X.base CX0 C "__eq__" ps k sp) (hr : Room j X.A) (hk : k ≤ j) : OpR X (compareOp .Eq) (rEqO C sp E0 T) := by
  obtain ⟨f, fd, c, M, F, i, b⟩ := g
  exact op_eqO hT M F (hr.mono hk) b pass0
theorem pe_getG (g : MetG X.prog X.w X.K X.mg X.base CX C "__getitem__" ps k sp) (hr : Room j X.A) (hk : k + 1 ≤ j) (hx : Passes CX X E) (pa : PE X a ta) (pb : PE X b tb)
    (hs : ∀ (x : Addr) (i : Value), subscripted b true (.ref x) i = runValue (.builtin "lifetime.subscript" ⟨[.ref x, i], []⟩) := by exact fun _ _ => by with_unfolding_all rfl) : PE X (.Subscript a b pos) (tOp (rGetO C sp E) ta tb) := by
  obtain ⟨f, fd, c, M, F, i, b⟩ := g
  exact pe_getO M i F (hr.mono hk) b hx pa pb hs
end
section
variable {X : Cx} {C : Addr} {m x : Str} {ps : List Str} {k j : Nat} {sp : Sp} {e o : Expr} {es : List Expr} {ta : TE} {t : TA} {p pos apos : Pos} {dvs : List V}
/-- o.m(e, ..) and o.m() -/
theorem pe_mtG {pl : Sem Bool} (g : MetG X.prog X.w X.K X.mg X.base CX0 C m ps k sp) (hr : Room j X.A) (hk : k ≤ j) (he : PE X o ta) (ha : PA X (e :: es) t)
    (hst : starEach (e :: es) X.env = (false, eval e X.env) :: starEach es X.env := by rfl) (hpl : (backTo pos (starEach es X.env)).any (·.1) = false := by rfl)
    (ht : eval (.Call (.Attribute o m apos) (e :: es) [] pos) X.env = (do let ov ← eval o X.env; standAt apos.atName; let (f, first) ← holding [ov] (getMethod ov m pl); callWith pos f first (backTo pos (starEach (e :: es) X.env)) (backToKw pos (keywordEach [] X.env))) := by rfl) :
    PE X (.Call (.Attribute o m apos) (e :: es) [] pos) (tMeth C m sp [] E0 ta t) := by
  obtain ⟨f, fd, c, M, F, i, b⟩ := g
  exact pe_meth (pl := pl) he c M F (hr.mono hk) b .nil pass0 ha hst hpl ht
theorem pe_mtG0 {pl : Sem Bool} (g : MetG X.prog X.w X.K X.mg X.base CX0 C m ps k sp) (hr : Room j X.A) (hk : k ≤ j) (he : PE X o ta)
    (ht : eval (.Call (.Attribute o m apos) [] [] pos) X.env = (do let ov ← eval o X.env; standAt apos.atName; let (f, first) ← holding [ov] (getMethod ov m pl); callWith pos f first (backTo pos (starEach [] X.env)) (backToKw pos (keywordEach [] X.env))) := by rfl) :
    PE X (.Call (.Attribute o m apos) [] [] pos) (tMeth C m sp [] E0 ta tNil) := by
  obtain ⟨f, fd, c, M, F, i, b⟩ := g
  exact pe_meth0 (pl := pl) he c M F (hr.mono hk) b .nil pass0 ht
/-- the same with defaults -/
def MetD (P : Program) (w : World) (K : PySem.W.Frag) (mg : Str → Option Value) (base : Heap) (C : Addr) (m : Str) (k : Nat) (sp : Sp) (dvs : List V) : Prop :=
  ∃ (f : Addr) (fd : FuncData) (ps : List Str) (ds : List Value), Cls K C ∧ Meth K C m f ∧ FnOk P w K mg base CX0 k f fd ps sp ∧ Binds K fd ps ds ∧ Vals dvs ds
theorem pe_mtD {pl : Sem Bool} (g : MetD X.prog X.w X.K X.mg X.base C m k sp dvs) (hr : Room j X.A) (hk : k ≤ j) (he : PE X o ta) (ha : PA X (e :: es) t)
    (hst : starEach (e :: es) X.env = (false, eval e X.env) :: starEach es X.env := by rfl) (hpl : (backTo pos (starEach es X.env)).any (·.1) = false := by rfl)
    (ht : eval (.Call (.Attribute o m apos) (e :: es) [] pos) X.env = (do let ov ← eval o X.env; standAt apos.atName; let (f, first) ← holding [ov] (getMethod ov m pl); callWith pos f first (backTo pos (starEach (e :: es) X.env)) (backToKw pos (keywordEach [] X.env))) := by rfl) :
    PE X (.Call (.Attribute o m apos) (e :: es) [] pos) (tMeth C m sp dvs E0 ta t) := by
  obtain ⟨f, fd, ps, ds, c, M, F, b, d⟩ := g
  exact pe_meth (pl := pl) he c M F (hr.mono hk) b d pass0 ha hst hpl ht
theorem pe_mtD0 {pl : Sem Bool} (g : MetD X.prog X.w X.K X.mg X.base C m k sp dvs) (hr : Room j X.A) (hk : k ≤ j) (he : PE X o ta)
    (ht : eval (.Call (.Attribute o m apos) [] [] pos) X.env = (do let ov ← eval o X.env; standAt apos.atName; let (f, first) ← holding [ov] (getMethod ov m pl); callWith pos f first (backTo pos (starEach [] X.env)) (backToKw pos (keywordEach [] X.env))) := by rfl) :
    PE X (.Call (.Attribute o m apos) [] [] pos) (tMeth C m sp dvs E0 ta tNil) := by
  obtain ⟨f, fd, ps, ds, c, M, F, b, d⟩ := g
  exact pe_meth0 (pl := pl) he c M F (hr.mono hk) b d pass0 ht
/-- C(e, ..) -/
def MakD (P : Program) (w : World) (K : PySem.W.Frag) (mg : Str → Option Value) (base : Heap) (x : Str) (C : Addr) (k : Nat) (sp : Sp) (dvs : List V) : Prop :=
  ∃ (f : Addr) (fd : FuncData) (ps : List Str) (ds : List Value), L2.Mk K C f ∧ FnOk P w K mg base CX0 k f fd ps sp ∧ mg x = some (.ref C) ∧ Binds K fd ps ds ∧ Vals dvs ds
theorem pe_mkD (g : MakD X.prog X.w X.K X.mg X.base x C k sp dvs) (hr : Room j X.A) (hk : k + 1 ≤ j) (hg : Gl X x) (ha : PA X (e :: es) t)
    (hdb : (x == ("__debug__" : Str)) = false := by decide) (he : starEach (e :: es) X.env = (false, eval e X.env) :: starEach es X.env := by rfl) (hpl : (backTo pos (starEach es X.env)).any (·.1) = false := by rfl) :
    PE X (.Call (.Name x p) (e :: es) [] pos) (tMake C sp dvs E0 t) := by
  obtain ⟨f, fd, ps, ds, M, F, hm, b, d⟩ := g
  exact pe_make M F (hr.mono hk) hg hm b d pass0 ha hdb he hpl
end
def rGtX : R2 := fun x y H Q => ∃ a b, x = .str (tx a) ∧ y = .str (tx b) ∧ Q (.bl (decide (b < a))) H
theorem op_gtX {X : Cx} : OpR X (compareOp .Gt) rGtX := by
  intro pins s σ H x y v u Q I rx ry h
  obtain ⟨a, b, rfl, rfl, q⟩ := h
  exact op_gt_str pins s σ H _ _ v u Q I rx ry ⟨_, _, rfl, rfl, by rw [tx_cps, tx_cps]; exact q⟩
/-! ### tables from texts to ints -/
abbrev Tab := List (List Nat × Int)
def encT (m : Tab) : List (Key × V) := m.map fun p => (Sum.inr (tx p.1), V.int p.2)
def getT (m : Tab) (k : List Nat) : Option Int := (m.find? fun p => decide (p.1 = k)).map (·.2)
def putT (m : Tab) (k : List Nat) (v : Int) : Tab := if (m.any fun p => decide (p.1 = k)) = true then m.map (fun p => if p.1 = k then (p.1, v) else p) else m ++ [(k, v)]
def dropT (m : Tab) (k : List Nat) : Tab := m.filter fun p => decide (p.1 ≠ k)
theorem key_eq {a b : List Nat} : ((Sum.inr (tx a) : Key) = Sum.inr (tx b)) ↔ a = b := ⟨fun h => tx_inj (Sum.inr.inj h), fun h => by rw [h]⟩
theorem valV_enc (k : List Nat) : ∀ m : Tab, valV (encT m) (Sum.inr (tx k)) = (getT m k).map V.int
  | [] => rfl
  | (a, v) :: r => by
    by_cases h : a = k
    · subst h
      show valV ((Sum.inr (tx a), V.int v) :: encT r) (Sum.inr (tx a)) = _
      rw [valV_pos rfl]
      simp [getT]
    · show valV ((Sum.inr (tx a), V.int v) :: encT r) (Sum.inr (tx k)) = _
      rw [valV_neg (fun e => h (key_eq.mp e)), valV_enc k r]
      simp [getT, h]
theorem putK_enc (m : Tab) (k : List Nat) (v : Int) : putK (encT m) (Sum.inr (tx k)) (V.int v) = encT (putT m k v) := by
  unfold putK putT
  have e1 : ((encT m).any fun kv => decide (kv.1 = Sum.inr (tx k))) = (m.any fun p => decide (p.1 = k)) := by
    unfold encT
    rw [List.any_map]
    congr 1
    funext p
    show decide ((Sum.inr (tx p.1) : Key) = Sum.inr (tx k)) = decide (p.1 = k)
    rw [decide_eq_decide]
    exact key_eq
  rw [e1]
  split
  · unfold encT
    rw [List.map_map, List.map_map]
    congr 1
    funext p
    show (if (Sum.inr (tx p.1) : Key) = Sum.inr (tx k) then _ else _) = (Sum.inr (tx (if p.1 = k then (p.1, v) else p).1), V.int (if p.1 = k then (p.1, v) else p).2)
    by_cases h : p.1 = k
    · rw [if_pos (key_eq.mpr h), if_pos h]
    · rw [if_neg (fun e => h (key_eq.mp e)), if_neg h]
  · unfold encT
    rw [List.map_append]
    rfl
theorem dropK_enc (m : Tab) (k : List Nat) : dropK (encT m) (Sum.inr (tx k)) = encT (dropT m k) := by
  unfold dropK dropT encT
  rw [List.filter_map]
  congr 1
  congr 1
  funext p
  show decide ((Sum.inr (tx p.1) : Key) ≠ Sum.inr (tx k)) = decide (p.1 ≠ k)
  rw [decide_eq_decide]
  exact not_congr key_eq
theorem encT_len (m : Tab) : (encT m).length = m.length := List.length_map _
def keysT (m : Tab) : List (List Nat) := m.map (·.1)
theorem putT_keys (m : Tab) (k : List Nat) (v : Int) : keysT (putT m k v) = if k ∈ keysT m then keysT m else keysT m ++ [k] := by
  unfold putT
  have e : (m.any fun p => decide (p.1 = k)) = decide (k ∈ keysT m) := by
    rw [Bool.eq_iff_iff, List.any_eq_true, decide_eq_true_eq]
    unfold keysT
    rw [List.mem_map]
    constructor
    · rintro ⟨p, h1, h2⟩
      exact ⟨p, h1, by simpa using h2⟩
    · rintro ⟨p, h1, h2⟩
      exact ⟨p, h1, by simpa using h2⟩
  rw [e]
  by_cases h : k ∈ keysT m
  · rw [if_pos (decide_eq_true h), if_pos h]
    unfold keysT
    rw [List.map_map]
    congr 1
    funext p
    show (if p.1 = k then (p.1, v) else p).1 = p.1
    split <;> rfl
  · rw [if_neg (by simpa using h), if_neg h]
    unfold keysT
    rw [List.map_append]
    rfl
theorem putT_nodup {m : Tab} {k : List Nat} {v : Int} (h : (keysT m).Nodup) : (keysT (putT m k v)).Nodup := by
  rw [putT_keys]
  split
  · exact h
  · rename_i hk
    exact List.nodup_append.mpr ⟨h, by simp, fun a ha b hb => by
      have : b = k := by simpa using hb
      subst this
      rintro rfl
      exact hk ha⟩
theorem dropT_nodup {m : Tab} {k : List Nat} (h : (keysT m).Nodup) : (keysT (dropT m k)).Nodup := by
  unfold keysT dropT at *
  exact h.sublist (List.filter_sublist.map _)
theorem getT_some {m : Tab} {k : List Nat} (h : k ∈ keysT m) : ∃ v, getT m k = some v := by
  unfold getT keysT at *
  obtain ⟨p, hp, rfl⟩ := List.mem_map.mp h
  cases e : m.find? fun q => decide (q.1 = p.1) with
  | none =>
    have := List.find?_eq_none.mp e p hp
    simp at this
  | some q => exact ⟨q.2, rfl⟩
theorem getT_none {m : Tab} {k : List Nat} (h : k ∉ keysT m) : getT m k = none := by
  unfold getT keysT at *
  rw [Option.map_eq_none_iff, List.find?_eq_none]
  intro p hp
  simp only [decide_eq_true_eq]
  intro e
  exact h (List.mem_map.mpr ⟨p, hp, e⟩)
/-! ### sorted texts -/
theorem sortedS_le : ∀ {ys : List (List Nat)}, sortedS (ys.map tx) = true → ys.Pairwise (fun a b => ¬ b < a) := by
  have aux : ∀ (r : List (List Nat)) (p : List Nat), risingS (tx p) (r.map tx) = true → (p :: r).Pairwise (fun a b => ¬ b < a) := by
    intro r
    induction r with
    | nil => intro p _; simp
    | cons k r ih =>
      intro p h
      rw [List.map_cons] at h
      unfold risingS at h
      rw [Bool.and_eq_true, tx_cps, tx_cps, PyProof.Rows.ltCps_eq] at h
      have h1 : ¬ k < p := by simpa using h.1
      have h2 := ih k h.2
      refine List.Pairwise.cons (fun x hx => ?_) h2
      rcases List.mem_cons.mp hx with e | hx
      · rw [e]
        exact h1
      · have h3 := (List.pairwise_cons.mp h2).1 x hx
        intro h4
        rcases Classical.em (p < k) with h5 | h5
        · exact h3 (List.lt_trans h4 h5)
        · exact h3 (by
            have : p = k := List.le_antisymm (List.not_lt.mp h1) (List.not_lt.mp h5)
            rw [← this]
            exact h4)
  intro ys h
  cases ys with
  | nil => exact .nil
  | cons a r => exact aux r a h
theorem sort_unique : ∀ {xs ys : List (List Nat)}, xs.Perm ys → xs.Pairwise (fun a b => ¬ b < a) → ys.Pairwise (fun a b => ¬ b < a) → xs = ys
  | [], ys, h, _, _ => (List.nil_perm.mp h).symm
  | a :: r, ys, h, hx, hy => by
    cases ys with
    | nil => exact absurd h (by simp)
    | cons b t =>
      have hab : a = b := by
        have ha : a ∈ b :: t := h.mem_iff.mp List.mem_cons_self
        have hb : b ∈ a :: r := h.mem_iff.mpr List.mem_cons_self
        rcases List.mem_cons.mp ha with e | ha
        · exact e
        · rcases List.mem_cons.mp hb with e | hb
          · exact e.symm
          · exact List.le_antisymm (List.not_lt.mp ((List.pairwise_cons.mp hx).1 b hb)) (List.not_lt.mp ((List.pairwise_cons.mp hy).1 a ha))
      subst hab
      rw [sort_unique (List.Perm.cons_inv h) (List.pairwise_cons.mp hx).2 (List.pairwise_cons.mp hy).2]
/-! ### two tables compared -/
def eqTab (m n : Tab) : Bool := decide (m.length = n.length) && m.all fun p => decide (getT n p.1 = some p.2)
theorem relO_none {o : Option Value} (h : RelO none o) : o = none := by
  cases o with
  | none => rfl
  | some v => exact h.elim
theorem hits_tab {A : Around} {s : Shared} {n : Tab} {vb : List (Key × Value)} (rb : KV (encT n) vb) : ∀ {m : Tab} {va : List (Key × Value)}, KV (encT m) va → PySem.W.KeqHits A s vb va (m.all fun p => decide (getT n p.1 = some p.2))
  | [], va, ra => by
    cases ra
    exact .nil
  | (k, x) :: r, va, ra => by
    cases ra with
    | @cons _ q _ qs h t =>
      obtain ⟨key, v⟩ := q
      obtain ⟨h1, h2⟩ := h
      have h1' : (Sum.inr (tx k) : Key) = key := h1
      subst h1'
      obtain ⟨tk, rfl⟩ := h2
      have ih := hits_tab (A := A) (s := s) rb (m := r) t
      have rr : RelO ((getT n k).map V.int) (valueAt vb (Sum.inr (tx k))) := by
        rw [← valV_enc]
        exact rb.val _
      rw [List.all_cons]
      cases e : getT n k with
      | none =>
        rw [e] at rr
        have : decide ((none : Option Int) = some x) = false := by simp
        simp only [e, this, Bool.false_and]
        exact .miss (relO_none rr)
      | some y =>
        rw [e] at rr
        obtain ⟨u, hu, ru⟩ := RelO.some_of (v := V.int y) (o := valueAt vb (Sum.inr (tx k))) rr
        obtain ⟨tk2, rfl⟩ := ru
        have e2 : decide (some y = some x) = (x == y) := by
          rw [Bool.eq_iff_iff, decide_eq_true_eq, beq_iff_eq]
          exact ⟨fun h => (Option.some.inj h).symm, fun h => by rw [h]⟩
        simp only [e, e2]
        exact .hit hu (SeqAt.EqAt.int_int x tk y tk2) ih
def rEqT : R2 := fun x y H Q => ∃ a b m n, x = .ref a ∧ y = .ref b ∧ H a = some (.dK (encT m)) ∧ H b = some (.dK (encT n)) ∧ Q (.bl (eqTab m n)) H
theorem op_eqT {X : Cx} (hu : X.A.units + 1 < cLine) : OpR X (compareOp .Eq) rEqT := by
  intro pins s σ H x y v u Q I rx ry h
  obtain ⟨a, b, m, n, rfl, rfl, ea, eb, q⟩ := h
  cases (show v = Value.ref a from rx)
  cases (show u = Value.ref b from ry)
  obtain ⟨_, ya, va, ra, da⟩ := (show ObjOk X.prog X.w H s.heap a (.dK (encT m)) from I.hok a _ ea)
  obtain ⟨_, yb, vb, rb, db⟩ := (show ObjOk X.prog X.w H s.heap b (.dK (encT n)) from I.hok b _ eb)
  have e1 : va.length = m.length := by rw [← Paired.length ra, encT_len]
  have e2 : vb.length = n.length := by rw [← Paired.length rb, encT_len]
  refine PySem.W.keq_eq (knd := mixKind X.prog X.w) ya yb da db (by omega) (fun _ => hits_tab rb ra) (fin_bl I q ?_)
  unfold eqTab
  congr 1
  rw [Bool.eq_iff_iff, decide_eq_true_eq, beq_iff_eq, e1, e2]
theorem rd_eqT {H : Hp} {Q : VK} {a b : Addr} {m n : Tab} (h1 : H a = some (.dK (encT m))) (h2 : H b = some (.dK (encT n))) (q : Q (.bl (eqTab m n)) H) : rEqT (.ref a) (.ref b) H Q := ⟨a, b, m, n, rfl, rfl, h1, h2, q⟩
end Un

/-! UnK: what the end of a proof asks of own exception classes, one Bool a class. -/
namespace Un
open PySem PySem.Spec PyProof.Rows L2
def clB (K : PySem.W.Frag) (C : Addr) : Bool :=
  decide (PySem.W.findIn K (.ref C) "__setattr__" = some (some (.builtin "object.__setattr__"))) && (PySem.W.keepIn K (.ref C) && (xfB K C &&
  (decide (PySem.W.findIn K (.ref C) "__class__" = some (some (.builtin "object.__class__"))) && (decide (PySem.W.specialIn K (.builtin "object.__class__") "__get__" = some (some (.builtin "getset_descriptor.__get__"))) &&
  (decide (PySem.W.takesIn K (.builtin "object.__class__") = some true) && (decide (PySem.W.mroIn K C (.type "object") = some true) && (decide (PySem.W.typeIn K (.ref C) = some (.type "type")) && decide (PySem.W.exmOne K (.ref C) (.ref C) = some true))))))))
section
variable {K : PySem.W.Frag} {C N : Addr} {nm q : Str} {bs bm : List Value} {sn : List Str} {sub : List Value} {ab : Bool} {col : Option Bool} {dd : Option Addr} {k0 k1 k2 k3 k5 : Option Value} {newId : String}
theorem oxc_of (cls : ∃ nm q N bs bm sn sub ab col dd k0 k1 k2 k3 k5 B newId initId bmB, K.lookup C = some (excClassObj nm q C N bs bm true sn sub ab col dd k0 k1 k2 k3 k5 newId) ∧ ExcBaseFacts B newId initId bmB ∧ PySem.OXX.Beh B bm ∧ ∀ self, refuseLoop self "__setattr__" (.ref C :: bm) = pure ())
    (b : clB K C = true) : OxC K C := by
  obtain ⟨h1, b⟩ := Bool.and_eq_true_iff.mp b
  obtain ⟨h2, b⟩ := Bool.and_eq_true_iff.mp b
  obtain ⟨h3, b⟩ := Bool.and_eq_true_iff.mp b
  obtain ⟨h4, b⟩ := Bool.and_eq_true_iff.mp b
  obtain ⟨h5, b⟩ := Bool.and_eq_true_iff.mp b
  obtain ⟨h6, b⟩ := Bool.and_eq_true_iff.mp b
  obtain ⟨h7, b⟩ := Bool.and_eq_true_iff.mp b
  obtain ⟨h8, h9⟩ := Bool.and_eq_true_iff.mp b
  have x := xfB_ok h3
  exact ⟨cls, of_decide_eq_true h1, h2, x, ⟨x.ga, x.gg, x.exC, x.hdC, of_decide_eq_true h4, of_decide_eq_true h5, of_decide_eq_true h6, of_decide_eq_true h7⟩, of_decide_eq_true h8, of_decide_eq_true h9⟩
theorem oxc_ve (xL : K.lookup C = some (excClassObj nm q C N bs [.type "ValueError", .type "Exception", .type "BaseException", .type "object"] true sn sub ab col dd k0 k1 k2 k3 k5 "ValueError.__new__")) (b : clB K C = true) : OxC K C :=
  oxc_of ⟨nm, q, N, bs, _, sn, sub, ab, col, dd, k0, k1, k2, k3, k5, _, _, _, _, xL, PySem.F.excBase_ValueError, ⟨by decide +kernel, by decide +kernel, by decide +kernel, by decide +kernel⟩, fun self => by rw [refuseLoop_ref]; exact F.store_ValueError.passes self⟩ b
theorem oxc_vs {U : Addr} (xL : K.lookup C = some (excClassObj nm q C N bs [.ref U, .type "ValueError", .type "Exception", .type "BaseException", .type "object"] true sn sub ab col dd k0 k1 k2 k3 k5 "ValueError.__new__")) (b : clB K C = true) : OxC K C :=
  oxc_of ⟨nm, q, N, bs, _, sn, sub, ab, col, dd, k0, k1, k2, k3, k5, _, _, _, _, xL, PySem.F.excBase_ValueError, ⟨by rfl, by rfl, by rfl, by rfl⟩, fun self => by rw [refuseLoop_ref, refuseLoop_ref]; exact F.store_ValueError.passes self⟩ b
theorem oxc_ke (xL : K.lookup C = some (excClassObj nm q C N bs [.type "KeyError", .type "LookupError", .type "Exception", .type "BaseException", .type "object"] true sn sub ab col dd k0 k1 k2 k3 k5 "LookupError.__new__")) (b : clB K C = true) : OxC K C :=
  oxc_of ⟨nm, q, N, bs, _, sn, sub, ab, col, dd, k0, k1, k2, k3, k5, _, _, _, _, xL, PySem.F.excBase_LookupError, ⟨by decide +kernel, by decide +kernel, by decide +kernel, by decide +kernel⟩, fun self => by rw [refuseLoop_ref]; kernel_rfl⟩ b
end
end Un

/-! UnSt: defs with defaults as they stand; isinstance of own classes; an own error raised. -/
namespace Un
open PySem PySem.Spec PyProof.Rows L2
def AtD (K : PySem.W.Frag) (C : Addr) (m qual : Str) (st : Stmt) (dvs : List V) (kws : List (Str × V)) : Prop :=
  ∃ (f : Addr) (fd : FuncData), FunD K m qual (defArgs st) (defBody st) (defScope st) dvs kws f fd ∧ Meth K C m f ∧ PySem.W.fnIn K f = true
/-- an __init__ whose one default is the empty tuple of the text -/
def AtI (K : PySem.W.Frag) (C : Addr) (m qual : Str) (st : Stmt) : Prop :=
  ∃ (f T : Addr) (fd : FuncData), FunD K m qual (defArgs st) (defBody st) (defScope st) [.ref T] [] f fd ∧ L2.Mk K C f ∧ ∃ o : Obj, K.lookup T = some o ∧ o.cls = .type "tuple" ∧ o.data = .seq #[] 0 ∧ o.dict = none
/-- isinstance of instances of the class at C, and of other things -/
structure InsK (K : PySem.W.Frag) (C : Addr) : Prop where
  ha : PySem.W.findIn K (.ref C) "__class__" = some (some (.builtin "object.__class__"))
  hn : PySem.W.specialIn K (.builtin "object.__class__") "__get__" = some (some (.builtin "getset_descriptor.__get__"))
  htk : PySem.W.takesIn K (.builtin "object.__class__") = some true
  hm : PySem.W.mroIn K C (.type "object") = some true
  me : PySem.W.kitOne K (.ref C) (.ref C) = some true
  no : ∀ T, T ∈ ["list", "dict", "tuple", "str", "int", "bool", "NoneType"] → PySem.W.kitOne K (.type T) (.ref C) = some false ∧ PySem.W.notFirst K C (.type T) = true
  nf : PySem.W.notFirst K C (.ref C) = true
def insB (K : PySem.W.Frag) (C : Addr) : Bool :=
  decide (PySem.W.findIn K (.ref C) "__class__" = some (some (.builtin "object.__class__"))) && (decide (PySem.W.specialIn K (.builtin "object.__class__") "__get__" = some (some (.builtin "getset_descriptor.__get__"))) && (decide (PySem.W.takesIn K (.builtin "object.__class__") = some true) &&
  (decide (PySem.W.mroIn K C (.type "object") = some true) && (decide (PySem.W.kitOne K (.ref C) (.ref C) = some true) && ((["list", "dict", "tuple", "str", "int", "bool", "NoneType"].all fun T => decide (PySem.W.kitOne K (.type T) (.ref C) = some false) && PySem.W.notFirst K C (.type T)) && PySem.W.notFirst K C (.ref C))))))
theorem insB_ok {K : PySem.W.Frag} {C : Addr} (b : insB K C = true) : InsK K C := by
  obtain ⟨h1, b⟩ := Bool.and_eq_true_iff.mp b
  obtain ⟨h2, b⟩ := Bool.and_eq_true_iff.mp b
  obtain ⟨h3, b⟩ := Bool.and_eq_true_iff.mp b
  obtain ⟨h4, b⟩ := Bool.and_eq_true_iff.mp b
  obtain ⟨h5, b⟩ := Bool.and_eq_true_iff.mp b
  obtain ⟨h6, h7⟩ := Bool.and_eq_true_iff.mp b
  refine ⟨of_decide_eq_true h1, of_decide_eq_true h2, of_decide_eq_true h3, of_decide_eq_true h4, of_decide_eq_true h5, fun T hT => ?_, h7⟩
  have := List.all_eq_true.mp h6 T hT
  obtain ⟨a, c⟩ := Bool.and_eq_true_iff.mp this
  exact ⟨of_decide_eq_true a, c⟩
section
variable {K : PySem.W.Frag} {H : Hp} {Q : VK} {a C dx : Addr} {fs : List (Str × V)}
theorem rd_isO (h : H a = some (.ins C dx fs)) (c : Cls K C) (i : InsK K C) (q : Q (.bl true) H) : rIsi K [.ref a, .ref C] H Q := ⟨.ref a, .ref C, .ref C, .ref C, true, rfl, .own C, .base (.ins h c i.ha i.hn i.htk i.hm), i.me, q⟩
theorem rd_isNo {x : V} {T : String} (h : TyX K H x (.type T)) (i : InsK K C) (hT : T ∈ ["list", "dict", "tuple", "str", "int", "bool", "NoneType"]) (q : Q (.bl false) H) : rIsi K [x, .ref C] H Q := ⟨x, .ref C, .type T, .ref C, false, rfl, .own C, h, (i.no T hT).1, q⟩
end
section
variable {X : Cx} {x f : Str} {C : Addr} {k j : Nat} {e : Expr} {te : TE} {p pos : Pos}
/-- raise C(e), the class under its name -/
theorem pmk_G (g : Un.Mk X.prog X.w X.K X.mg X.base x f C) (hr : Room j X.A) (hk : 2 ≤ j) (hg : Gl X x) (ha : PE X e te)
    (hdb : (x == ("__debug__" : Str)) = false := by decide) (he : starEach (e :: []) X.env = (false, eval e X.env) :: starEach [] X.env := by rfl) (hpl : (backTo pos (starEach [] X.env)).any (·.1) = false := by rfl) :
    PMk X (.Call (.Name x p) [e] [] pos) (tMkR C f te) := by
  obtain ⟨m, o, n, fI, fd, i, t, F, b⟩ := g
  exact pmk_X o i t n F (hr.mono hk) b pass0 hg m ha hdb he hpl
end
section
variable {X : Cx} {CX : CXT} {k j n : Nat} {C : Addr} {ks : List Str} {sp : Sp} {m : Str} {apos pos : Pos} {o e : Expr} {es : List Expr} {kws : List Keyword} {ta : TE} {t tk : TA} {gV : List V → List V → List V}
/-- a method called with keywords, bundled -/
def MetK (P : Program) (w : World) (K : PySem.W.Frag) (mg : Str → Option Value) (base : Heap) (C : Addr) (m : Str) (n : Nat) (ks : List Str) (k : Nat) (sp : Sp) (gV : List V → List V → List V) : Prop :=
  ∃ (f : Addr) (fd : FuncData) (ps : List Str) (g : List Value → List Value → List Value), Cls K C ∧ Meth K C m f ∧ FnOk P w K mg base CX0 k f fd ps sp ∧ KBn K fd ps n ks g gV
theorem methN_G {pl : Sem Bool} (q : MetK X.prog X.w X.K X.mg X.base C m n ks k sp gV) (hr : Room j X.A) (hk : k ≤ j) (he : PE X o ta) (ha : PA X (e :: es) t) (hkw : PK X kws tk)
    (hall : (backToKw pos (keywordEach kws X.env)).all (·.1.isSome) = true := by rfl) (hks : (backToKw pos (keywordEach kws X.env)).filterMap (·.1) = ks := by rfl)
    (hst : starEach (e :: es) X.env = (false, eval e X.env) :: starEach es X.env := by rfl)
    (hpl : ((backTo pos (starEach (e :: es) X.env)).any (·.1) || (backToKw pos (keywordEach kws X.env)).any (·.1.isNone)) = false := by rfl)
    (ht : eval (.Call (.Attribute o m apos) (e :: es) kws pos) X.env = (do let ov ← eval o X.env; standAt apos.atName; let (f, first) ← holding [ov] (getMethod ov m pl); callWith pos f first (backTo pos (starEach (e :: es) X.env)) (backToKw pos (keywordEach kws X.env))) := by rfl) :
    PE X (.Call (.Attribute o m apos) (e :: es) kws pos) (tMethN C m n ks.length sp gV E0 ta t tk) := by
  obtain ⟨f, fd, ps, g, c, M, F, b⟩ := q
  exact pe_methN (pl := pl) he c M F (hr.mono hk) b pass0 ha hkw hall hks hst hpl ht
end
end Un

/-! UnRdM: readings of instances and dicts, step by step. -/
namespace Un
open PySem PySem.Spec PyProof.Rows L2
section
variable {K : PySem.W.Frag} {σ : L2.St} {H : Hp} {Q : VK} {D : Ends} {ta tb te td ty tv tz : TE} {t tk : TA} {f m : Str} {C : Addr} {sp : Sp} {dvs : List V} {E : XK} {n l : Nat} {gV : List V → List V → List V}
theorem rd_fld (h : ta σ H fun x H1 => ∃ a C dx fs v, x = .ref a ∧ H1 a = some (.ins C dx fs) ∧ Cls K C ∧ NoAttr K C f ∧ fs.lookup f = some v ∧ Q v H1) : tFld K ta f σ H Q := h
theorem rd_sfld (h : tv σ H fun y H1 => ta σ H1 fun x H2 => ∃ a C dx fs, x = .ref a ∧ H2 a = some (.ins C dx fs) ∧ Cls K C ∧ NoAttr K C f ∧ fs.length < 1000 ∧ D.nx σ (upd H2 a (.ins C dx (putF f y fs)))) : sFld K ta tv f D σ H := h
theorem rd_dput (h : tv σ H fun v H1 => td σ H1 fun x H2 => ty σ H2 fun y H3 => ∃ a H4, x = .ref a ∧ DPut H3 a y v H4 ∧ D.nx σ H4) : sDPut td ty tv D σ H := h
theorem rd_dget (h : td σ H fun x H1 => ty σ H1 fun y H2 => ∃ a v, x = .ref a ∧ DGet H2 a y (some v) ∧ Q v H2) : tDGet td ty σ H Q := h
theorem rd_din (h : ty σ H fun y H1 => td σ H1 fun x H2 => ∃ a o, x = .ref a ∧ DGet H2 a y o ∧ Q (.bl o.isSome) H2) : tDIn ty td σ H Q := h
theorem rd_dnotin (h : ty σ H fun y H1 => td σ H1 fun x H2 => ∃ a o, x = .ref a ∧ DGet H2 a y o ∧ Q (.bl (!o.isSome)) H2) : tDNotIn ty td σ H Q := h
theorem rd_ddel (h : td σ H fun x H1 => ty σ H1 fun y H2 => ∃ a kvs k, x = .ref a ∧ H2 a = some (.dK kvs) ∧ y = kV k ∧ (valV kvs k).isSome = true ∧ D.nx σ (upd H2 a (.dK (dropK kvs k)))) : sDDel td ty D σ H := h
theorem rd_dnew (h : ∀ p, H p = none → Q (.ref p) (upd H p (.dK []))) : tDNewK σ H Q := h
theorem rd_make (h : t σ H fun vs H1 => ∀ x dx, H1 x = none → H1 dx = none → dx ≠ x → sp (.ref x :: (vs ++ dvs)) (upd (upd H1 dx (.own x)) x (.ins C dx [])) (fun v H2 => v = .non ∧ Q (.ref x) H2) E) : tMake C sp dvs E t σ H Q := h
theorem rd_meth (h : ta σ H fun x H1 => ∃ a dx fs, x = .ref a ∧ H1 a = some (.ins C dx fs) ∧ fs.lookup m = none ∧ t σ H1 fun vs H2 => sp (x :: (vs ++ dvs)) H2 Q E) : tMeth C m sp dvs E ta t σ H Q := h
theorem rd_methN (h : ta σ H fun x H1 => ∃ a dx fs, x = .ref a ∧ H1 a = some (.ins C dx fs) ∧ fs.lookup m = none ∧ t σ H1 fun vs H2 => tk σ H2 fun zs H3 => vs.length + 1 = n ∧ zs.length = l ∧ sp (gV (x :: vs) zs) H3 Q E) : tMethN C m n l sp gV E ta t tk σ H Q := h
theorem rd_iKeys {R : It → Hp → Prop} (h : td σ H fun x H1 => ∃ d o, x = .ref d ∧ ((∃ kvs, H1 d = some (.frz o (.dK kvs)) ∧ R (Itk d o kvs) H1) ∨ ∃ kvs, H1 d = some (.frz o (.dT kvs)) ∧ R (Itkt d o kvs) H1)) : iKeys td σ H R := h
theorem rd_items (h : te σ H fun x H1 => LiI.rItemsL x H1 Q) : LiI.tListItems te σ H Q := h
theorem rd_mkR {Q : XK} (h : te σ H fun v H1 => ∀ d, H1 d = none → Q (.ref C) (some d) (upd H1 d (.xd [(f, v)]))) : tMkR C f te σ H Q := h
theorem rd_pop1 (h : td σ H fun x H1 => ∃ a, x = .ref a ∧ IsD H1 a ∧ ty σ H1 fun y H2 => ∃ kvs k v, H2 a = some (.dK kvs) ∧ y = kV k ∧ valV kvs k = some v ∧ Q v (upd H2 a (.dK (dropK kvs k)))) : tDPop1 td ty σ H Q := h
theorem rd_get2 (h : td σ H fun x H1 => ∃ a, x = .ref a ∧ IsD H1 a ∧ ty σ H1 fun y H2 => tz σ H2 fun z H3 => ∃ o, DGet H3 a y o ∧ Q (o.getD z) H3) : tDGet2 td ty tz σ H Q := h
theorem rd_fldS {a dx : Addr} {fs : List (Str × V)} {v : V} (h : H a = some (.ins C dx fs)) (c : Cls K C) (n : NoAttr K C f) (l : fs.lookup f = some v) (q : Q v H) : ∃ a' C' dx' fs' v', V.ref a = .ref a' ∧ H a' = some (.ins C' dx' fs') ∧ Cls K C' ∧ NoAttr K C' f ∧ fs'.lookup f = some v' ∧ Q v' H := ⟨a, C, dx, fs, v, rfl, h, c, n, l, q⟩
theorem rd_isB {x : V} {T T' : String} {b : Bool} (h : TyX K H x (.type T)) (k : PySem.W.kitOne K (.type T) (.type T') = some b) (q : Q (.bl b) H) : rIsi K [x, .ty T'] H Q := ⟨x, .ty T', .type T, .type T', b, rfl, .ty _, h, k, q⟩
theorem rd_gtX {a b : List Nat} (q : Q (.bl (decide (b < a))) H) : rGtX (.str (tx a)) (.str (tx b)) H Q := ⟨a, b, rfl, rfl, q⟩
end
end Un

/-! UnPr: stretches of keys, lists of pairs. -/
namespace Un
open PySem PySem.Spec PyProof.Rows L2
theorem okN {P : Program} {w : World} {K : PySem.W.Frag} {mg : Str → Option Value} {base : Heap} {x qual : Str} {params : Arguments} {body : List Stmt} {scope : Scope} {dvs : List V} {kws : List (Str × V)} {f : Addr} {fd : FuncData} {CX : CXT} {N ps : List Str} {k : Nat} {sp : Sp}
    (F : FunD K x qual params body scope dvs kws f fd) (S : FnScope N ps scope) (len : ∀ vs H Q E, sp vs H Q E → vs.length = ps.length)
    (hbody : ∀ (cdv : Value) (A : Around) (outer : List Env) (s : Shared) (H : Hp) (vs : List V) (Q : VK) (E : XK), Room k (A.deeper (envOfC qual scope s.heap.objs.size f cdv)) → sp vs H Q E →
      ∃ t, PSs (cxOf CX P w K mg base N qual scope f cdv A outer s H E).nox body t ∧ t { nx := fun _ H' => Q .non H', rt := Q } (start N vs) H) : FnOk P w K mg base CX (k + 1) f fd ps sp :=
  F.ok S len fun cdv A outer s H vs Q E hr h => by
    obtain ⟨t, ht, q⟩ := hbody cdv A outer s H vs Q E hr h
    exact ⟨t, ht.nox, q⟩
def bnd : Option (List Nat) → V
  | none => .non
  | some u => .str (tx u)
def upB (hi : Option (List Nat)) (k : List Nat) : Bool := match hi with | none => true | some h => decide (k < h)
def afB (af : Option (List Nat)) (k : List Nat) : Bool := match af with | none => true | some a => decide (a < k)
def inR (lo : List Nat) (hi af : Option (List Nat)) (k : List Nat) : Bool := !decide (k < lo) && (upB hi k && afB af k)
/-- the keys of a stretch, ascending -/
def KR (m : Tab) (lo : List Nat) (hi af : Option (List Nat)) (ks : List (List Nat)) : Prop := ks.Perm ((keysT m).filter (inR lo hi af)) ∧ ks.Pairwise fun a b => ¬ b < a
theorem KR.uniq {m : Tab} {lo : List Nat} {hi af : Option (List Nat)} {ks js : List (List Nat)} (a : KR m lo hi af ks) (b : KR m lo hi af js) : ks = js := sort_unique (a.1.trans b.1.symm) a.2 b.2
theorem KR.mem {m : Tab} {lo : List Nat} {hi af : Option (List Nat)} {ks : List (List Nat)} (a : KR m lo hi af ks) {k : List Nat} (h : k ∈ ks) : k ∈ keysT m := (List.mem_filter.mp (a.1.mem_iff.mp h)).1
theorem KR.len {m : Tab} {lo : List Nat} {hi af : Option (List Nat)} {ks : List (List Nat)} (a : KR m lo hi af ks) : ks.length ≤ m.length := by
  rw [a.1.length_eq]
  have := List.length_filter_le (inR lo hi af) (keysT m)
  unfold keysT at this
  rw [List.length_map] at this
  exact this
/-- the pairs of some keys -/
def prT (m : Tab) (ks : List (List Nat)) : Tab := ks.map fun k => (k, (getT m k).getD 0)
theorem prT_len (m : Tab) (ks : List (List Nat)) : (prT m ks).length = ks.length := List.length_map _
/-- tuples of a key and a value -/
def PrV (H : Hp) (p : List Nat × Int) (v : V) : Prop := ∃ T, v = .ref T ∧ H T = some (.tup [.str (tx p.1), .int p.2])
def Prs (H : Hp) (m : Tab) (vs : List V) : Prop := Paired (PrV H) m vs
theorem PrV.keep {H H' : Hp} {p : List Nat × Int} {v : V} (h : PrV H p v) (s : ∀ T, v = .ref T → H T = some (.tup [.str (tx p.1), .int p.2]) → H' T = some (.tup [.str (tx p.1), .int p.2])) : PrV H' p v := by
  obtain ⟨T, rfl, h⟩ := h
  exact ⟨T, rfl, s T rfl h⟩
theorem Prs.keep {H H' : Hp} (s : ∀ T l, H T = some (.tup l) → H' T = some (.tup l)) : ∀ {m : Tab} {vs : List V}, Prs H m vs → Prs H' m vs
  | _, _, .nil => .nil
  | _, _, .cons h t => .cons (h.keep fun T _ e => s T _ e) (Prs.keep s t)
theorem Prs.same {H H' : Hp} {m : Tab} {vs : List V} (h : Prs H m vs) (s : Same H H') : Prs H' m vs := h.keep fun T l e => s _ _ e
theorem Prs.len {H : Hp} {m : Tab} {vs : List V} (h : Prs H m vs) : m.length = vs.length := Paired.length h
theorem Prs.app {H : Hp} : ∀ {m n : Tab} {vs ws : List V}, Prs H m vs → Prs H n ws → Prs H (m ++ n) (vs ++ ws)
  | _, _, _, _, .nil, b => b
  | _, _, _, _, .cons h t, b => .cons h (Prs.app t b)
theorem Prs.one {H : Hp} {p : List Nat × Int} {T : Addr} (h : H T = some (.tup [.str (tx p.1), .int p.2])) : Prs H [p] [.ref T] := .cons ⟨T, rfl, h⟩ .nil
theorem Prs.take {H : Hp} : ∀ {m : Tab} {vs : List V} (n : Nat), Prs H m vs → Prs H (m.take n) (vs.take n)
  | _, _, 0, _ => .nil
  | _, _, n + 1, .nil => .nil
  | _, _, n + 1, .cons h t => .cons h (Prs.take n t)
theorem Prs.get {H : Hp} : ∀ {m : Tab} {vs : List V} {i : Nat} {v : V}, Prs H m vs → vs[i]? = some v → ∃ p, m[i]? = some p ∧ PrV H p v
  | _, _, 0, _, .cons h t, e => ⟨_, rfl, by cases e; exact h⟩
  | _, _, i + 1, _, .cons h t, e => by
    obtain ⟨p, e1, e2⟩ := Prs.get (i := i) t (by simpa using e)
    exact ⟨p, by simpa using e1, e2⟩
/-- what stands where a sequence is read -/
def SeqO (us : List V) (o : HO) : Prop := o = .lst us ∨ o = .tup us ∨ (∃ x, o = .frz x (.lst us)) ∨ ∃ x, o = .frz x (.tup us)
def Seq1 (K : PySem.W.Frag) (H : Hp) (p : Addr) (us : List V) : Prop := SqL K H p us ∨ SqT K H p us
theorem SeqL.keep {K : PySem.W.Frag} {H H' : Hp} {p : Addr} {us : List V} (hp : SqL K H p us) (k : ∀ o, SeqO us o → H p = some o → H' p = some o) : SqL K H' p us := by
  rcases hp with (h | ⟨o, h⟩) | h
  · exact .inl (.inl (k _ (.inl rfl) h))
  · exact .inl (.inr ⟨o, k _ (.inr (.inr (.inl ⟨_, rfl⟩))) h⟩)
  · exact .inr h
theorem SeqT.keep {K : PySem.W.Frag} {H H' : Hp} {p : Addr} {us : List V} (hp : SqT K H p us) (k : ∀ o, SeqO us o → H p = some o → H' p = some o) : SqT K H' p us := by
  rcases hp with (h | ⟨o, h⟩) | h
  · exact .inl (.inl (k _ (.inr (.inl rfl)) h))
  · exact .inl (.inr ⟨o, k _ (.inr (.inr (.inr ⟨_, rfl⟩))) h⟩)
  · exact .inr h
theorem Seq1.keep {K : PySem.W.Frag} {H H' : Hp} {p : Addr} {us : List V} (hp : Seq1 K H p us) (k : ∀ o, SeqO us o → H p = some o → H' p = some o) : Seq1 K H' p us := hp.elim (fun h => .inl (SeqL.keep h k)) (fun h => .inr (SeqT.keep h k))
theorem SeqO.ndK {us : List V} {kvs : List (Key × V)} : ¬ SeqO us (.dK kvs) := by
  rintro (h | h | ⟨_, h⟩ | ⟨_, h⟩) <;> cases h
theorem SeqO.nins {us : List V} {C dx : Addr} {fs : List (Str × V)} : ¬ SeqO us (.ins C dx fs) := by
  rintro (h | h | ⟨_, h⟩ | ⟨_, h⟩) <;> cases h
/-- a walk over a list or a tuple -/
theorem rd_iSeqF {K : PySem.W.Frag} {tl : TE} {σ : L2.St} {H : Hp} {R : It → Hp → Prop} {p : Addr} {us : List V} (hv : ∀ Q : VK, Q (.ref p) H → tl σ H Q) (hp : Seq1 K H p us)
    (q : ∀ (J : It) (G : Hp → Prop), Walk J us.length G (YAt us) → (∀ H', (∀ o, SeqO us o → H p = some o → H' p = some o) → G H') → R J H) : iSeq K tl σ H R := by
  rcases hp with hp | hp
  · exact .inl (rd_iList (hv _ ⟨p, rfl, ⟨us, hp⟩, q _ _ walk_list fun H' k => SeqL.keep hp k⟩))
  · exact .inr (rd_iTup (hv _ ⟨p, rfl, ⟨us, hp⟩, q _ _ walk_tup fun H' k => SeqT.keep hp k⟩))
/-! ### many keys taken away, or put -/
def dropsT (m : Tab) (ks : List (List Nat)) : Tab := ks.foldl dropT m
def putsT (m : Tab) (ks : List (List Nat)) (v : Int) : Tab := ks.foldl (fun m k => putT m k v) m
theorem drops_snoc {m : Tab} {ks : List (List Nat)} {i : Nat} {k : List Nat} (h : ks[i]? = some k) : dropsT m (ks.take (i + 1)) = dropT (dropsT m (ks.take i)) k := by
  unfold dropsT
  rw [List.take_add_one, h, Option.toList_some, List.foldl_append]
  rfl
theorem puts_snoc {m : Tab} {ks : List (List Nat)} {i : Nat} {k : List Nat} {v : Int} (h : ks[i]? = some k) : putsT m (ks.take (i + 1)) v = putT (putsT m (ks.take i) v) k v := by
  unfold putsT
  rw [List.take_add_one, h, Option.toList_some, List.foldl_append]
  rfl
theorem mem_drop {m : Tab} {j k : List Nat} : k ∈ keysT (dropT m j) ↔ k ∈ keysT m ∧ k ≠ j := by
  unfold keysT dropT
  rw [List.mem_map, List.mem_map]
  constructor
  · rintro ⟨p, hp, rfl⟩
    obtain ⟨h1, h2⟩ := List.mem_filter.mp hp
    exact ⟨⟨p, h1, rfl⟩, of_decide_eq_true h2⟩
  · rintro ⟨⟨p, hp, rfl⟩, h⟩
    exact ⟨p, List.mem_filter.mpr ⟨hp, decide_eq_true h⟩, rfl⟩
theorem mem_drops {k : List Nat} : ∀ {ks : List (List Nat)} {m : Tab}, k ∈ keysT (dropsT m ks) ↔ k ∈ keysT m ∧ k ∉ ks
  | [], m => by simp [dropsT]
  | j :: r, m => by
    have h := mem_drops (k := k) (ks := r) (m := dropT m j)
    show k ∈ keysT (dropsT (dropT m j) r) ↔ _
    rw [h, mem_drop, List.mem_cons]
    constructor
    · rintro ⟨⟨a, b⟩, c⟩
      exact ⟨a, fun e => e.elim b c⟩
    · rintro ⟨a, b⟩
      exact ⟨⟨a, fun e => b (.inl e)⟩, fun e => b (.inr e)⟩
theorem drops_nodup : ∀ {ks : List (List Nat)} {m : Tab}, (keysT m).Nodup → (keysT (dropsT m ks)).Nodup
  | [], _, h => h
  | _ :: r, _, h => drops_nodup (ks := r) (dropT_nodup h)
theorem drops_len : ∀ {ks : List (List Nat)} {m : Tab}, (dropsT m ks).length ≤ m.length
  | [], _ => Nat.le_refl _
  | j :: r, m => Nat.le_trans (drops_len (ks := r) (m := dropT m j)) (List.length_filter_le _ _)
theorem puts_keys {v : Int} : ∀ {ks : List (List Nat)} {m : Tab}, (∀ k ∈ ks, k ∈ keysT m) → keysT (putsT m ks v) = keysT m
  | [], _, _ => rfl
  | j :: r, m, h => by
    have e : keysT (putT m j v) = keysT m := by rw [putT_keys, if_pos (h j List.mem_cons_self)]
    show keysT (putsT (putT m j v) r v) = _
    rw [puts_keys (ks := r) (fun k hk => by rw [e]; exact h k (List.mem_cons_of_mem _ hk)), e]
theorem keys_len (m : Tab) : (keysT m).length = m.length := List.length_map _
theorem KR.nodup {m : Tab} {lo : List Nat} {hi af : Option (List Nat)} {ks : List (List Nat)} (a : KR m lo hi af ks) (h : (keysT m).Nodup) : ks.Nodup := (a.1.nodup_iff).mpr (h.sublist List.filter_sublist)
theorem not_before {α : Type} {l : List α} {i : Nat} {x : α} (h : l.Nodup) (hx : l[i]? = some x) : x ∉ l.take i := by
  intro hm
  obtain ⟨j, hj⟩ := List.mem_iff_getElem?.mp hm
  rw [List.getElem?_take] at hj
  split at hj
  · rename_i hji
    have e : l[i]? = l[j]? := by rw [hx, hj]
    have hil : i < l.length := (List.getElem?_eq_some_iff.mp hx).1
    have := (List.getElem?_inj hil h).mp e
    omega
  · cases hj
/-- pairs put one behind another -/
def putsP (m : Tab) (ps : Tab) : Tab := ps.foldl (fun m p => putT m p.1 p.2) m
theorem putsP_snoc {m ps : Tab} {i : Nat} {p : List Nat × Int} (h : ps[i]? = some p) : putsP m (ps.take (i + 1)) = putT (putsP m (ps.take i)) p.1 p.2 := by
  unfold putsP
  rw [List.take_add_one, h, Option.toList_some, List.foldl_append]
  rfl
theorem putT_len (m : Tab) (k : List Nat) (v : Int) : (putT m k v).length ≤ m.length + 1 := by
  rw [← keys_len, ← keys_len, putT_keys]
  split
  · omega
  · simp
theorem putsP_len : ∀ (ps m : Tab), (putsP m ps).length ≤ m.length + ps.length
  | [], _ => Nat.le_refl _
  | p :: r, m => by
    have h1 := putsP_len r (putT m p.1 p.2)
    have h2 := putT_len m p.1 p.2
    show (putsP (putT m p.1 p.2) r).length ≤ _
    rw [List.length_cons]
    omega
theorem putsP_nodup : ∀ {ps m : Tab}, (keysT m).Nodup → (keysT (putsP m ps)).Nodup
  | [], _, h => h
  | _ :: r, _, h => putsP_nodup (ps := r) (putT_nodup h)
theorem prs_of_items {H : Hp} : ∀ {m : Tab} {ts : List Addr}, Paired (fun (t : Addr) (q : Key × V) => H t = some (.tup [kV q.1, q.2])) ts (encT m) → Prs H m (ts.map V.ref)
  | [], _, h => by
    cases h
    exact .nil
  | _ :: _, _, h => by
    cases h with
    | cons a b => exact .cons ⟨_, rfl, a⟩ (prs_of_items b)
theorem putT_new {m : Tab} {k : List Nat} {v : Int} (h : k ∉ keysT m) : putT m k v = m ++ [(k, v)] := by
  unfold putT
  rw [if_neg]
  rw [List.any_eq_true]
  rintro ⟨p, hp, e⟩
  exact h (List.mem_map.mpr ⟨p, hp, of_decide_eq_true e⟩)
theorem putsP_same : ∀ (m acc : Tab), (keysT (acc ++ m)).Nodup → putsP acc m = acc ++ m
  | [], acc, _ => (List.append_nil acc).symm
  | p :: r, acc, h => by
    have h1 : p.1 ∉ keysT acc := fun hm => by
      unfold keysT at h hm
      rw [List.map_append] at h
      exact (List.nodup_append.mp h).2.2 p.1 hm p.1 List.mem_cons_self rfl
    show putsP (putT acc p.1 p.2) r = _
    rw [putT_new h1]
    have e : acc ++ p :: r = (acc ++ [(p.1, p.2)]) ++ r := by simp
    rw [e] at h ⊢
    exact putsP_same r _ h
theorem cutL_take (xs : List Nat) (n : Nat) : cutL xs none (some (n : Int)) = xs.take n := by
  unfold cutL
  rw [HT.sIx_none, HT.sIx_nat, List.drop_zero, Nat.sub_zero]
  by_cases h : n ≤ xs.length
  · rw [Nat.min_eq_left h]
  · rw [Nat.min_eq_right (by omega), List.take_length, List.take_of_length_le (by omega)]
theorem reps_mem {l : List Nat} {c n : Nat} (h : c ∈ reps n l) : c ∈ l := by
  unfold reps at h
  obtain ⟨x, h1, h2⟩ := List.mem_flatten.mp h
  rw [(List.mem_replicate.mp h1).2] at h2
  exact h2
/-- as data -/
def pD (p : List Nat × Int) : PyData := .tuple [.str (tx p.1), .int p.2]
theorem rd_lock {t : TE} {σ : L2.St} {H : Hp} {Q : VK} {d : Addr} {u : HO} (h : H d = some u) (mt : Mut (some u)) (q : ∀ od, t σ (upd H d (.frz od u)) fun v H' => H' d = some (.frz od u) ∧ Q v (upd H' d u)) : tLockE t σ H Q := ⟨d, u, h, mt, q⟩
theorem txs_of : ∀ (ys : List Str), ∃ ks : List (List Nat), ys = ks.map tx
  | [] => ⟨[], rfl⟩
  | z :: r => by
    obtain ⟨ks, e⟩ := txs_of r
    exact ⟨z.cps.toList :: ks, by rw [List.map_cons, tx_of, ← e]⟩
theorem rd_sortT {K : PySem.W.Frag} {H : Hp} {Q : VK} {a : Addr} {ks : List (List Nat)} (hs : SqL K H a (ks.map fun k => V.str (tx k)))
    (q : ∀ (js : List (List Nat)) (p : Addr), js.Perm ks → js.Pairwise (fun a b => ¬ b < a) → H p = none → Q (.ref p) (upd H p (.lst (js.map fun k => V.str (tx k))))) : rSortedT K [.ref a] H Q := by
  refine ⟨a, ks.map tx, rfl, by rw [List.map_map]; exact hs, fun ys p hp hss hn => ?_⟩
  obtain ⟨js, rfl⟩ := txs_of ys
  rw [List.map_map]
  exact q js p (by
    have h := hp.map fun z => z.cps.toList
    rw [List.map_map, List.map_map] at h
    have e : ∀ l : List (List Nat), l.map ((fun z => z.cps.toList) ∘ tx) = l := fun l => by
      conv => rhs; rw [← List.map_id l]
      congr 1
    rw [e, e] at h
    exact h) (sortedS_le hss) hn
theorem pe_fldK {X : Cx} {e : Expr} {ta : TE} {f : Str} {pos : Pos} {K : PySem.W.Frag} (hK : X.K = K) (he : PE X e ta) (hb : attributeBase e f X.env (eval e X.env) = eval e X.env) : PE X (.Attribute e f pos) (tFld K ta f) := by
  subst hK
  exact pe_fld he hb
theorem same_none {H H' : Hp} {p : Addr} (s : Same H H') (h : H' p = none) : H p = none := by
  cases z : H p with
  | none => rfl
  | some o =>
    rw [s _ _ z] at h
    cases h
theorem cutV_take (xs : List V) (n : Nat) : cutV xs none (some (n : Int)) = xs.take n := by
  unfold cutV
  rw [HT.sIx_none, HT.sIx_nat, List.drop_zero, Nat.sub_zero]
  by_cases h : n ≤ xs.length
  · rw [Nat.min_eq_left h]
  · rw [Nat.min_eq_right (by omega), List.take_length, List.take_of_length_le (by omega)]
/-- low <= key and (high is None or key < high) and (after is None or key > after) -/
theorem rd_up {σ : L2.St} {H : Hp} {Q : Bool → Hp → Prop} {h j : Nat} {k : List Nat} {hi : Option (List Nat)} (e2 : σ[h]? = some (some (bnd hi))) (e1 : σ[j]? = some (some (.str (tx k)))) (q : Q (upB hi k) H) :
    tOr (tTest (tOp rIsN1 (tVar h) (tC V.non))) (tTest (tOp rLtX (tVar j) (tVar h))) σ H Q := by
  refine rd_or (rd_test (rd_op (rd_var e2 (rd_c (rd_isN1 (rd_bl ?_))))))
  cases hi with
  | none => exact q
  | some u =>
    refine rd_ite (fun h => by cases h) (fun _ => ?_)
    exact rd_test (rd_op (rd_var e1 (rd_var e2 (rd_ltX (rd_bl q)))))
theorem rd_af {σ : L2.St} {H : Hp} {Q : Bool → Hp → Prop} {h j : Nat} {k : List Nat} {af : Option (List Nat)} (e2 : σ[h]? = some (some (bnd af))) (e1 : σ[j]? = some (some (.str (tx k)))) (q : Q (afB af k) H) :
    tOr (tTest (tOp rIsN1 (tVar h) (tC V.non))) (tTest (tOp rGtX (tVar j) (tVar h))) σ H Q := by
  refine rd_or (rd_test (rd_op (rd_var e2 (rd_c (rd_isN1 (rd_bl ?_))))))
  cases af with
  | none => exact q
  | some u =>
    refine rd_ite (fun h => by cases h) (fun _ => ?_)
    exact rd_test (rd_op (rd_var e1 (rd_var e2 (rd_gtX (rd_bl q)))))
theorem rd_stretch {σ : L2.St} {H : Hp} {Q : Bool → Hp → Prop} {l h g j : Nat} {lo k : List Nat} {hi af : Option (List Nat)} (e0 : σ[l]? = some (some (.str (tx lo)))) (e2 : σ[h]? = some (some (bnd hi))) (e3 : σ[g]? = some (some (bnd af)))
    (e1 : σ[j]? = some (some (.str (tx k)))) (q : Q (inR lo hi af k) H) :
    tAnd (tTest (tOp rLeX (tVar l) (tVar j))) (tAnd (tOr (tTest (tOp rIsN1 (tVar h) (tC V.non))) (tTest (tOp rLtX (tVar j) (tVar h)))) (tOr (tTest (tOp rIsN1 (tVar g) (tC V.non))) (tTest (tOp rGtX (tVar j) (tVar g))))) σ H Q := by
  refine rd_and (rd_test (rd_op (rd_var e0 (rd_var e1 (rd_leX (rd_bl ?_))))))
  unfold inR at q
  refine rd_ite (fun h1 => ?_) (fun h1 => ?_)
  · rw [h1, Bool.true_and] at q
    refine rd_and (rd_up e2 e1 ?_)
    refine rd_ite (fun h2 => ?_) (fun h2 => ?_)
    · rw [h2, Bool.true_and] at q
      exact rd_af e3 e1 q
    · rw [h2, Bool.false_and] at q
      exact q
  · rw [h1, Bool.false_and] at q
    exact q
theorem filt_snoc {α : Type} {l : List α} {i : Nat} {x : α} {p : α → Bool} (h : l[i]? = some x) (hp : p x = true) : (l.take (i + 1)).filter p = (l.take i).filter p ++ [x] := by
  rw [List.take_add_one, h, Option.toList_some, List.filter_append]
  simp [hp]
theorem filt_skip {α : Type} {l : List α} {i : Nat} {x : α} {p : α → Bool} (h : l[i]? = some x) (hp : p x = false) : (l.take (i + 1)).filter p = (l.take i).filter p := by
  rw [List.take_add_one, h, Option.toList_some, List.filter_append]
  simp [hp]
theorem filt_len {α : Type} (l : List α) (i : Nat) (p : α → Bool) : ((l.take i).filter p).length ≤ l.length := by
  have := List.length_filter_le p (l.take i)
  rw [List.length_take] at this
  omega
theorem keys_at {m : Tab} {i : Nat} {k : Key} {v : V} (hk : (encT m)[i]? = some (k, v)) : ∃ key, (keysT m)[i]? = some key ∧ k = Sum.inr (tx key) := by
  unfold encT at hk
  rw [List.getElem?_map] at hk
  cases hmi : m[i]? with
  | none => rw [hmi] at hk; cases hk
  | some p =>
    rw [hmi] at hk
    cases hk
    exact ⟨p.1, by unfold keysT; rw [List.getElem?_map, hmi]; rfl, rfl⟩
end Un

/-! UnZ: repr of lists of pairs. -/
namespace Un
open PySem PySem.Spec PyProof.Rows L2
/-- how a value is shown, and that it can be: depth and weight bounded -/
structure GoodZ (z w : Nat) (d : PyData) : Prop where
  s : d.showable = true
  n : d.hasDict = false
  z : d.depth ≤ z
  l : d.leavesShort 62 = true
  w : d.weight ≤ w
def rReprZ (K : PySem.W.Frag) : List V → Hp → VK → Prop := fun xs H Q => ∃ (x : V) (d : PyData), xs = [x] ∧ Dp K H x d ∧ GoodZ 20 200000 d ∧ Q (.str d.shown) H
theorem call_reprZ {X : Cx} {k : Nat} (hgd : X.A.guards = some []) (hr : Room k X.A) : CallR X (.builtin "repr") (rReprZ X.K) := by
  intro pins s σ H xs us Q I r h
  obtain ⟨x, d, rfl, hd, g, q⟩ := h
  have hsz : d.shown.length ≤ sizeLine := by
    have h1 := PyData.shown_le 62 (by decide) d g.l
    have h2 := g.w
    rw [sizeLine_eq]
    omega
  have base : scalR x → reprS x = d.shown → wpAny (model X.prog X.w) X.A (call (.builtin "repr") us) (EP X pins σ Q) X.xe s := fun h1 h2 => call_reprS pins s σ H [x] us Q I r ⟨x, rfl, h1, by rw [h2]; exact q⟩
  cases hd with
  | non => exact base trivial (by simp only [PyData.shown]; rfl)
  | bl b => exact base trivial (by simp only [PyData.shown]; rfl)
  | int i => exact base (by have h0 := g.s; simp only [PyData.showable, decide_eq_true_eq] at h0; exact h0) (by simp only [PyData.shown]; rfl)
  | str z => exact base (by have := hsz; simp only [PyData.shown] at this; exact this) (by simp only [PyData.shown]; rfl)
  | lst h1 h2 => exact call_reprD hgd hr pins s σ H _ us Q I r ⟨_, _, rfl, .lst h1 h2, g.s, g.n, by have := g.z; omega, hsz, q⟩
  | tup h1 h2 => exact call_reprD hgd hr pins s σ H _ us Q I r ⟨_, _, rfl, .tup h1 h2, g.s, g.n, by have := g.z; omega, hsz, q⟩
theorem rd_reprZ {K : PySem.W.Frag} {H : Hp} {Q : VK} {x : V} {d : PyData} (h : Dp K H x d) (g : GoodZ 20 200000 d) (q : Q (.str d.shown) H) : rReprZ K [x] H Q := ⟨x, d, rfl, h, g, q⟩
theorem GoodZ.mono {z w z' w' : Nat} {d : PyData} (g : GoodZ z w d) (h1 : z ≤ z') (h2 : w ≤ w') : GoodZ z' w' d := ⟨g.s, g.n, Nat.le_trans g.z h1, g.l, Nat.le_trans g.w h2⟩
/-- a pair that may be shown -/
structure OkP (q : List Nat × Int) : Prop where
  k : q.1.length ≤ 300
  c : ∀ c ∈ q.1, c < 1000
  v : q.2.natAbs < 2 ^ 60
theorem int_good {i : Int} (h : i.natAbs < 2 ^ 60) : GoodZ 0 61 (.int i) := by
  have h1 : i.natAbs.log2 < 60 := PySem.Flt.log2_lt_of (by decide) h
  have h2 := PySem.int_text_length_le (a := i) (k := 60) (by decide) h1
  refine ⟨?_, rfl, ?_, ?_, ?_⟩
  · simp only [PyData.showable, decide_eq_true_eq]
    omega
  · simp [PyData.depth]
  · simp only [PyData.leavesShort, PyData.shown]
    refine decide_eq_true ?_
    show (Str.ofString (toString i)).length ≤ 62
    rw [PySem.ofString_length]
    omega
  · simp only [PyData.weight]
    split <;> omega
theorem str_good {l : List Nat} (h : ∀ c ∈ l, c < 1000) : GoodZ 0 l.length (.str (tx l)) := by
  refine ⟨rfl, rfl, by simp [PyData.depth], ?_, ?_⟩
  · simp only [PyData.leavesShort, List.all_eq_true, decide_eq_true_eq]
    intro c hc
    rw [tx_cps] at hc
    have := h c hc
    have e : (1000 : Nat) < 16 ^ 8 := by decide
    omega
  · simp only [PyData.weight]
    simp [tx]
theorem bool_good (b : Bool) : GoodZ 0 0 (.bool b) := by cases b <;> exact ⟨rfl, rfl, by decide +kernel, rfl, by decide +kernel⟩
theorem pair_good {q : List Nat × Int} (o : OkP q) : GoodZ 1 400 (pD q) := by
  have a := str_good o.c
  have b := int_good o.v
  have k := o.k
  unfold pD
  refine ⟨?_, ?_, ?_, ?_, ?_⟩
  · simp only [PyData.showable, PyData.showableAll, Bool.and_eq_true]
    exact ⟨trivial, b.s, trivial⟩
  · simp only [PyData.hasDict, PyData.hasDictAll, Bool.or_false]
  · simp [PyData.depth, PyData.depthAll]
  · simp only [PyData.leavesShort, PyData.leavesShortAll, Bool.and_true, Bool.and_eq_true]
    exact ⟨a.l, b.l⟩
  · have h1 := a.w
    have h2 := b.w
    simp only [PyData.weight, PyData.weightAll] at h1 h2 ⊢
    omega
/-- a list of pairs -/
def plD (m : Tab) : PyData := .list (m.map pD)
theorem plD_all : ∀ {m : Tab}, (∀ q ∈ m, OkP q) → PyData.showableAll (m.map pD) = true ∧ PyData.hasDictAll (m.map pD) = false ∧ PyData.depthAll (m.map pD) ≤ 1 ∧ PyData.leavesShortAll 62 (m.map pD) = true ∧ PyData.weightAll (m.map pD) ≤ 401 * m.length
  | [], _ => by simp [PyData.showableAll, PyData.hasDictAll, PyData.depthAll, PyData.leavesShortAll, PyData.weightAll]
  | q :: r, h => by
    obtain ⟨h1, h2, h3, h4, h5⟩ := plD_all (m := r) fun x hx => h x (List.mem_cons_of_mem _ hx)
    have g := pair_good (h q List.mem_cons_self)
    have gz := g.z
    have gw := g.w
    rw [List.map_cons]
    refine ⟨?_, ?_, ?_, ?_, ?_⟩
    · simp only [PyData.showableAll, g.s, h1, Bool.and_true]
    · simp only [PyData.hasDictAll, g.n, h2, Bool.or_false]
    · simp only [PyData.depthAll]
      omega
    · simp only [PyData.leavesShortAll, g.l, h4, Bool.and_true]
    · simp only [PyData.weightAll, List.length_cons]
      omega
theorem plD_good {m : Tab} (h : ∀ q ∈ m, OkP q) (hm : m.length ≤ 200) : GoodZ 2 80200 (plD m) := by
  obtain ⟨h1, h2, h3, h4, h5⟩ := plD_all h
  unfold plD
  refine ⟨?_, ?_, ?_, ?_, ?_⟩
  · simp only [PyData.showable, h1]
  · simp only [PyData.hasDict, h2]
  · simp only [PyData.depth]
    omega
  · simp only [PyData.leavesShort, h4]
  · simp only [PyData.weight]
    omega
theorem two_good {z w : Nat} {a b : PyData} (g : GoodZ z w a) (k : GoodZ z w b) : GoodZ (z + 1) (2 * w + 2) (.list [a, b]) := by
  have gz := g.z
  have kz := k.z
  have gw := g.w
  have kw := k.w
  refine ⟨?_, ?_, ?_, ?_, ?_⟩
  · simp only [PyData.showable, PyData.showableAll, g.s, k.s, Bool.and_true]
  · simp only [PyData.hasDict, PyData.hasDictAll, g.n, k.n, Bool.or_false]
  · simp only [PyData.depth, PyData.depthAll]
    omega
  · simp only [PyData.leavesShort, PyData.leavesShortAll, g.l, k.l, Bool.and_true]
  · simp only [PyData.weight, PyData.weightAll]
    omega
theorem Prs.dp {K : PySem.W.Frag} {H : Hp} : ∀ {m : Tab} {us : List V}, Prs H m us → DpAll K H us (m.map pD)
  | _, _, .nil => .nil
  | _, _, .cons ⟨T, e, h⟩ t => by
    subst e
    exact .cons (.tup (SqT.of h) (.cons (.str _) (.cons (.int _) .nil))) (Prs.dp t)
theorem Prs.list {K : PySem.W.Frag} {H : Hp} {a : Addr} {m : Tab} {us : List V} (h : H a = some (.lst us)) (p : Prs H m us) : Dp K H (.ref a) (plD m) := .lst (SqL.of h) p.dp
/-- [(key, table[key]) for key in keys] -/
theorem lc_prs {K : PySem.W.Frag} {g : TG} {tt : TT} {te : TE} {vs : List Nat} {σ : L2.St} {H1 : Hp} {r e : Addr} {m : Tab} {js : List (List Nat)} {Qd : Hp → Prop} (er : H1 r = some (.lst (js.map fun k => V.str (tx k)))) (ne : H1 e = none) (hin : ∀ k ∈ js, k ∈ keysT m) (hl : js.length ≤ 1000)
    (hs : ∀ (key : List Nat) (v : Int) (H2 : Hp) (Q' : VK) (B : Hp → Prop), key ∈ js → getT m key = some v → Same H1 H2 → (∀ p, H2 p = none → Q' (.ref p) (upd H2 p (.tup [.str (tx key), .int v]))) →
      g (.str (tx key)) (wipe σ vs) H2 fun σ2 H3 => wipe σ2 vs = wipe σ vs ∧ tt σ2 H3 fun b H4 => if b = true then te σ2 H4 Q' else B H4)
    (hd : ∀ us H, Same H1 H → H e = some (.lst us) → Prs H (prT m js) us → Qd H) :
    ∃ W : Nat → Nat → Hp → Prop, (∃ n, W 0 n (upd H1 e (.lst []))) ∧ ∀ i n H, W i n H →
      ((Itl K r).stop i H ∧ Qd H) ∨ ((Itl K r).go i H ∧ ∃ Nx : Hp → Prop, (∀ H', Nx H' → ∃ m', m' < n ∧ W (i + 1) m' H') ∧ ∀ x H', (Itl K r).yld i H x H' → g x (wipe σ vs) H' fun σ2 H2 => wipe σ2 vs = wipe σ vs ∧ tt σ2 H2 fun b H3 =>
        if b = true then te σ2 H3 fun y H4 => ∃ acc, H4 e = some (.lst acc) ∧ acc.length < sizeLine ∧ Nx (upd H4 e (.lst (acc ++ [y]))) else Nx H3) := by
  refine lc_it (walk_list (K := K) (a := r) (xs := js.map fun k => V.str (tx k))) (fun i H' => Same H1 H' ∧ ∃ us, H' e = some (.lst us) ∧ Prs H' (prT m (js.take i)) us) ⟨same_upd ne, [], upd_same, .nil⟩ (fun i H' _ h => SqL.of (h.1 _ _ er)) ?_ ?_
  · rintro i x H2 H2' hi ⟨s2, us, eu, pu⟩ ⟨rfl, hx⟩
    obtain ⟨key, hk, rfl⟩ := get_map hx
    have hkj := List.mem_of_getElem? hk
    obtain ⟨v, hv⟩ := getT_some (hin key hkj)
    refine hs key v _ _ _ hkj hv s2 (fun p hp => ?_)
    have hpe : e ≠ p := fun z => by
      rw [← z, eu] at hp
      cases hp
    have hz : us.length < sizeLine := by
      rw [← pu.len, prT_len, List.length_take]
      exact small1000 (by omega)
    refine ⟨us, by rw [upd_ne hpe]; exact eu, hz, same_mut (same_mut s2 (same_none s2 hp)) ne, _, upd_same, ?_⟩
    have e1 : prT m (js.take (i + 1)) = prT m (js.take i) ++ [(key, v)] := by
      unfold prT
      rw [List.take_add_one, hk, Option.toList_some, List.map_append]
      show _ ++ [(key, (getT m key).getD 0)] = _
      rw [hv]
      rfl
    rw [e1]
    refine (pu.keep fun T l h => ?_).app (Prs.one ?_)
    · have h1 : T ≠ e := fun z => by
        rw [z, eu] at h
        cases h
      have h2 : T ≠ p := fun z => by
        rw [z, hp] at h
        cases h
      rw [upd_ne h1, upd_ne h2]
      exact h
    · rw [upd_ne hpe.symm, upd_same]
  · rintro H2 ⟨s2, us, eu, pu⟩
    rw [List.length_map, List.take_length] at pu
    exact hd us H2 s2 eu pu
theorem prT_ok {m : Tab} {ks : List (List Nat)} (h : ∀ q ∈ m, OkP q) (hk : ∀ k ∈ ks, k ∈ keysT m) : ∀ q ∈ prT m ks, OkP q := by
  intro q hq
  obtain ⟨k, hk1, rfl⟩ := List.mem_map.mp hq
  obtain ⟨v, hv⟩ := getT_some (hk k hk1)
  rw [hv]
  unfold getT at hv
  cases e : m.find? fun p => decide (p.1 = k) with
  | none => rw [e] at hv; cases hv
  | some p =>
    rw [e] at hv
    cases hv
    have h1 := List.find?_some e
    have h2 := h p (List.mem_of_find?_eq_some e)
    have h3 : p.1 = k := of_decide_eq_true h1
    rw [← h3]
    exact h2
end Un

/-! UnTry: o[i] of an own class within try; isinstance of a caught error with a field. -/
namespace Un
open PySem PySem.Spec PyProof.Rows L2
section
variable {X : Cx} {CX : CXT} {k : Nat} {C f : Addr} {fd : FuncData} {ps : List Str} {sp : Sp} {E : XK}
theorem run_in1S {pins : List (Addr × Obj)} {σ : L2.St} {H : Hp} {s : Shared} {Q : VK} {us : List Value} {vs : List V} (F : FnOk X.prog X.w X.K X.mg X.base CX k f fd ps sp) (hr : Room (k + 1) X.A) (hb : Binds X.K fd ps []) (hx : PassesAt CX X σ E)
    (I : Inv X pins σ H s) (r : Vals vs us) (h : sp vs H Q E) : wpAny (model X.prog X.w) X.A.in1 (call (.ref f) us) (EP X pins σ Q) X.xe s := by
  have hl : us.length = ps.length := by
    rw [← r.length]
    exact F.len _ _ _ _ h
  have hbd := hb s us I.kIn (by simpa using hl)
  rw [List.append_nil] at hbd
  refine wpAny_call (codeAny_mono (F.run X.A.in1 X.stack s H ⟨us, []⟩ us vs Q E hr.in1 I.env0.in1 hbd r h) fun q s' hq => ?_)
  match q, hq with
  | .error e, hq => exact hx pins H s e s' I hq
  | .ok (.ret u), hq => exact I.after hq
  | .ok .next, hq => exact hq.elim
  | .ok .brk, hq => exact hq.elim
  | .ok .cont, hq => exact hq.elim
def tGetS (C : Addr) (sp : Sp) (E : L2.St → XK) (ta tb : TE) : TE := fun σ H Q => ta σ H fun x H1 => tb σ H1 fun y H2 => rGetO C sp (E σ) x y H2 Q
theorem pe_getGS {a b : Expr} {ta tb : TE} {pos : Pos} {j : Nat} {E : L2.St → XK} (g : MetG X.prog X.w X.K X.mg X.base CX C "__getitem__" ps k sp) (hr : Room j X.A) (hk : k + 1 ≤ j) (hx : ∀ σ, PassesAt CX X σ (E σ)) (pa : PE X a ta) (pb : PE X b tb)
    (hs : ∀ (x : Addr) (i : Value), subscripted b true (.ref x) i = runValue (.builtin "lifetime.subscript" ⟨[.ref x, i], []⟩) := by exact fun _ _ => by with_unfolding_all rfl) : PE X (.Subscript a b pos) (tGetS C sp E ta tb) := by
  obtain ⟨f, fd, c, hm, F, hfn, hb⟩ := g
  refine ⟨fun pins s σ H Q I h => Subscript_ (binT pa pb I h fun v u s2 x y H2 I2 rx ry q => ?_)⟩
  obtain ⟨p, dx, fs, rfl, hp, q⟩ := q
  cases (show v = Value.ref p from rx)
  obtain ⟨mA, O, _⟩ := ins_get I2.hok hp
  obtain ⟨od, J, _⟩ := O.look
  obtain ⟨m, hF⟩ := I2.fr
  exact PySem.W.sub_K hF I2.ok.mod.kin J hm.at_ hfn hm.fn (run_in1S F (hr.mono hk) hb (hx σ) I2 (show Vals [V.ref p, y] [Value.ref p, u] from .cons rfl (.cons ry .nil)) q) (hs p u)
end
theorem rd_getS {C : Addr} {sp : Sp} {E : L2.St → XK} {ta tb : TE} {σ : L2.St} {H : Hp} {Q : VK} (h : ta σ H fun x H1 => tb σ H1 fun y H2 => rGetO C sp (E σ) x y H2 Q) : tGetS C sp E ta tb σ H Q := h
/-- repr within a suite -/
theorem call_reprU {X : Cx} (hgd : X.A.guards = some []) (hu : X.A.units + 64 < cLine) : CallR X (.builtin "repr") (rReprZ X.K) := by
  intro pins s σ H xs us Q I r h
  obtain ⟨x, d, rfl, hd, g, q⟩ := h
  have hsz : d.shown.length ≤ sizeLine := by
    have h1 := PyData.shown_le 62 (by decide) d g.l
    have h2 := g.w
    rw [sizeLine_eq]
    omega
  have base : scalR x → reprS x = d.shown → wpAny (model X.prog X.w) X.A (call (.builtin "repr") us) (EP X pins σ Q) X.xe s := fun h1 h2 => call_reprS pins s σ H [x] us Q I r ⟨x, rfl, h1, by rw [h2]; exact q⟩
  have deep : ∀ a, x = .ref a → wpAny (model X.prog X.w) X.A (call (.builtin "repr") us) (EP X pins σ Q) X.xe s := by
    rintro a rfl
    obtain ⟨u, rfl, rx⟩ := vals1 r
    obtain ⟨as, rd⟩ := Dp.reads I d _ u hd rx
    cases rx
    have hz := g.z
    refine repr_of_reads' rd g.s (PyData.noDict_hsm g.n) hgd (by omega) (fun _ _ e => e) (fun h' u tk hk => ?_) hsz
    exact ⟨.str d.shown, H, I.kept (t' := tk) hk, ⟨u, rfl⟩, q⟩
  cases hd with
  | non => exact base trivial (by simp only [PyData.shown]; rfl)
  | bl b => exact base trivial (by simp only [PyData.shown]; rfl)
  | int i => exact base (by have h0 := g.s; simp only [PyData.showable, decide_eq_true_eq] at h0; exact h0) (by simp only [PyData.shown]; rfl)
  | str z => exact base (by have := hsz; simp only [PyData.shown] at this; exact this) (by simp only [PyData.shown]; rfl)
  | lst h1 h2 => exact deep _ rfl
  | tup h1 h2 => exact deep _ rfl
/-- isinstance(e, T): e just caught, of an own class, with its fields -/
def rIsS (K : PySem.W.Frag) (a : Addr) (cls : Value) (d : Option Addr) : List V → Hp → VK → Prop := fun xs H Q => ∃ (D : Addr) (T : String) (b : Bool) (dd : Addr) (fs : List (Str × V)), xs = [.ref a, .ty T] ∧ cls = .ref D ∧ d = some dd ∧ H dd = some (.xd fs) ∧ ExcC K D ∧
  PySem.W.kitOne K (.ref D) (.type T) = some b ∧ Q (.bl b) H
theorem call_isS {X : Cx} {a : Addr} {oe : Obj} {cls : Value} {d : Option Addr} {pn : List (Addr × Obj)} (hz : Zc cls d oe) (hf : ∃ vs, oe.data = .fields vs) : CallR (X.suite a ((a, oe) :: pn)) (.builtin "isinstance") (rIsS X.K a cls d) := by
  intro pins s σ H xs us Q I r h
  obtain ⟨D, T', b, dd, fs, rfl, rfl, rfl, ea, T, e, q⟩ := h
  obtain ⟨u1, u2, rfl, r1, r2⟩ := vals2 r
  cases (show u1 = Value.ref a from r1)
  cases (show u2 = Value.type T' from r2)
  obtain ⟨ha, _⟩ := I.pin (a, oe) (List.mem_append_left _ List.mem_cons_self)
  obtain ⟨vs, hd⟩ := hf
  have hx : ObjOk X.prog X.w H s.heap dd (.xd fs) := I.hok dd _ ea
  obtain ⟨mA, hns, hr⟩ := hx
  obtain ⟨od, ho, hl⟩ := lookIn_ns hns
  have J : PySem.W.InstAt s.heap a oe D (some od) := ⟨ha, hz.1, by unfold PySem.W.notCls; rw [hd] <;> rfl, by rw [hz.2]; exact ho⟩
  exact PySem.W.kia_one (PySem.W.kitx_excD T.hg T.hk T.hs T.hd T.ha T.hn T.ht T.hm) I.kIn J e (fun z => nomatch z) fun tk => ⟨.bl b, H, I.tok tk, rfl, q⟩
end Un

/-! UnNe: x != y where x's own class has __eq__ and no __ne__. -/
namespace Un
open PySem PySem.Spec PyProof.Rows L2
section
variable {prog : Program} {w : World} {A : Around} {E : Value → Shared → Prop} {s : Shared} {K : PySem.W.Frag} {x C f L : Addr} {ox : Obj} {od : Option Obj} {b tb : Value} {h₀ : Heap} {m : Str → Option Value}
theorem ne_entry (X : K.In s.heap) (I : PySem.W.InstAt s.heap x ox C od) (hs : PySem.W.findIn K (.ref C) "__eq__" = some (some (.ref f))) (hf : PySem.W.isFn K (.ref f) = true) (hu : A.units < cLine) {Q : Fin → Shared → Prop}
    (hcall : wpAny (model prog w) A (call (.ref f) [.ref x, b]) (fun v s' => ∃ c, v = .bool c ∧ Q (.done (.ret (.bool (!c)))) s') E s) :
    wpAny (model prog w) A (Builtin.«object.__ne__» ⟨[.ref x, b], []⟩) Q E s := by
  unfold Builtin.«object.__ne__»
  repeat (first
    | with_reducible refine wpAny_cRoomFor hu ?_
    | (refine wpAny_bind (m := callSpecialIfBound? (.ref x) (Str.ofString "__eq__") [b])
        (PySem.W.ifBound_K X I hs hf (wpAny_mono hcall (fun r s' hr => by
          obtain ⟨c, rfl, hq⟩ := hr
          repeat (first | exact hq | exact wpAny_pure hq | exact wpAny_truthy_bool hq | (refine wpAny_bind (m := truthy (.bool _)) (wpAny_truthy_bool ?_)) | wp_step)) fun _ _ e => e)))
    | wp_step)
theorem ifBound_ne {M : Model} {args : List Value} {Q : Option Value → Shared → Prop} (X : K.In s.heap) (I : PySem.W.InstAt s.heap x ox C od) (hs : PySem.W.findIn K (.ref C) "__ne__" = some (some (.builtin "object.__ne__")))
    (h : wpAny M A (call (.builtin "object.__ne__") (.ref x :: args)) (fun v => Q (some v)) E s) : wpAny M A (callSpecialIfBound? (.ref x) "__ne__" args) Q E s := by
  simp only [callSpecialIfBound?, bindSpecialIfBound?]
  refine wpAny_holding (wpAny_bind (wpAny_bind (wpAny_bind (I.type.here ((PySem.W.looks_findIn X hs).here ?_)))))
  refine wpAny_bind (wpAny_askSetting (wpAny_ite ?_))
  have fin : wpAny M A (call (.builtin "object.__ne__") ([.ref x] ++ args) >>= fun v => pure (some v)) Q E s := wpAny_bind (wpAny_mono h (fun v s' h' => wpAny_pure h') fun _ _ h' => h')
  split
  · exact wpAny_bind (wpAny_of_eq (PySem.F.cmp_object.ne.bind _) (wpAny_pure (by exact fin)))
  · exact wpAny_tryCatch (wpAny_bind (wpAny_of_eq (PySem.F.cmp_object.ne.bind _) (wpAny_pure (by exact fin))))
theorem ne_K {Q : Value → Shared → Prop} (hu : A.units + 1 < cLine) (X : K.In s.heap) (I : PySem.W.InstAt s.heap x ox C od) (hb : PySem.W.Looks (model prog w) s.heap (typeOf b) tb) (hn : PySem.W.notFirst K C tb = true)
    (he : PySem.W.findIn K (.ref C) "__eq__" = some (some (.ref f))) (hf : PySem.W.isFn K (.ref f) = true) (hne : PySem.W.findIn K (.ref C) "__ne__" = some (some (.builtin "object.__ne__"))) (hm : PySem.W.mroIn K C (.type "object") = some true)
    (h : wpAny (model prog w) A.in1 (call (.ref f) [.ref x, b]) (fun v s' => ∃ c, v = .bool c ∧ Q (.bool (!c)) s') E s) : wpAny (model prog w) A (richCompare .NotEq (.ref x) b) Q E s := by
  have one : wpAny (model prog w) A (tryCompare (.ref x) "__ne__" b) (fun r s' => ∃ v, r = some v ∧ Q v s') E s := by
    unfold tryCompare
    refine wpAny_bind (ifBound_ne X I hne (wpAny_call (codeAny_call_builtin PySem.F.cmp_object.ne.plain PySem.F.cmpEntry_ne (PySem.W.check_slot PySem.F.cmpKind_ne PySem.F.cmpSplit_ne (I.type.andThen (PySem.W.looks_mroIn X hm)) (PySem.F.cmpArgs_ne _ _)
      (ne_entry (A := A.in1) X I he hf hu (wpAny_mono h (fun v s' hv => ?_) fun _ _ e => e))))))
    obtain ⟨c, rfl, hq⟩ := hv
    refine ⟨c, rfl, ?_⟩
    first | exact wpAny_pure ⟨_, rfl, hq⟩ | exact wpAny_pure (wpAny_pure ⟨_, rfl, hq⟩) | exact ⟨_, rfl, hq⟩
  unfold richCompare
  simp only [oneThing_ref]
  refine wpAny_holding (wpAny_bind (wpAny_cRoomFor (Nat.lt_of_succ_lt hu) ?_))
  rw [cmpInfo_NotEq]
  dsimp only
  refine wpAny_bind (I.type.here (wpAny_bind (hb.here ?_)))
  split
  · rename_i q
    have e : PySem.W.subIn K tb (.ref C) = some false := by
      rcases Bool.or_eq_true_iff.mp hn with e | e
      · rw [beq_iff_eq.mp e] at q; simp at q
      · exact beq_iff_eq.mp e
    refine wpAny_bind ((PySem.W.looks_subIn X e).here ?_)
    simp only [Bool.false_eq_true, if_false]
    refine wpAny_bind (wpAny_mono one (fun r s' z => ?_) fun _ _ e => e)
    obtain ⟨v, rfl, hq⟩ := z
    exact wpAny_pure hq
  · refine wpAny_bind (wpAny_pure ?_)
    simp only [Bool.false_eq_true, if_false]
    refine wpAny_bind (wpAny_mono one (fun r s' z => ?_) fun _ _ e => e)
    obtain ⟨v, rfl, hq⟩ := z
    exact wpAny_pure hq
end
section
variable {X : Cx} {CX : CXT} {k : Nat} {C f : Addr} {fd : FuncData} {ps : List Str} {sp : Sp} {E : XK}
/-- o != y -/
def rNeO (C : Addr) (sp : Sp) (E : XK) (T : V → Hp → Prop) : R2 := fun x y H Q => ∃ a dx fs, x = .ref a ∧ H a = some (.ins C dx fs) ∧ T y H ∧ sp [.ref a, y] H (fun r H' => ∃ b, r = .bl b ∧ Q (.bl (!b)) H') E
/-- no __ne__ of its own -/
structure NeK (K : PySem.W.Frag) (C : Addr) : Prop where
  ne : PySem.W.findIn K (.ref C) "__ne__" = some (some (.builtin "object.__ne__"))
  mr : PySem.W.mroIn K C (.type "object") = some true
theorem op_neO {T : V → Hp → Prop} (hT : Right X C T) (hN : NeK X.K C) (hm : Meth X.K C "__eq__" f) (F : FnOk X.prog X.w X.K X.mg X.base CX k f fd ps sp) (hr : Room (k + 1) X.A) (hb : Binds X.K fd ps []) (hx : Passes CX X E) : OpR X (compareOp .NotEq) (rNeO C sp E T) := by
  intro pins s σ H x y v u Q I rx ry h
  obtain ⟨a, dx, fs, rfl, ha, ht, h⟩ := h
  cases (show v = Value.ref a from rx)
  obtain ⟨mA, O, _⟩ := ins_get I.hok ha
  obtain ⟨od, J, _⟩ := O.look
  obtain ⟨t, hL, hn⟩ := hT pins σ H s y u I ry ht
  have hu : X.A.units + 1 < cLine := by have := hr.units; omega
  unfold compareOp
  refine ne_K hu I.kIn J hL hn hm.at_ hm.fn hN.ne hN.mr (wpAny_mono (run_in1 F hr hb hx I (show Vals [V.ref a, y] [Value.ref a, u] from .cons rfl (.cons ry .nil)) h) (fun r s' hs => ?_) fun _ _ e => e)
  obtain ⟨z, H', I', rz, b, rfl, q⟩ := hs
  cases (show r = Value.bool b from rz)
  exact ⟨b, rfl, .bl (!b), H', I', rfl, q⟩
theorem ne_G {j : Nat} {T : V → Hp → Prop} (hT : Right X C T) (hN : NeK X.K C) (g : MetG X.prog X.w X.K X.mg X.base CX0 C "__eq__" ps k sp) (hr : Room j X.A) (hk : k + 1 ≤ j) : OpR X (compareOp .NotEq) (rNeO C sp E0 T) := by
  obtain ⟨f, fd, c, M, F, i, b⟩ := g
  exact op_neO hT hN M F (hr.mono hk) b pass0
end
/-- what may stand on the right of == and != : a store, a list, a dict -/
def RightO (C : Addr) (y : V) (H : Hp) : Prop := ∃ a, y = .ref a ∧ ((∃ dx fs, H a = some (.ins C dx fs)) ∨ (∃ xs, H a = some (.lst xs)) ∨ ∃ kvs, H a = some (.dK kvs))
theorem right_o {X : Cx} {C : Addr} (hi : InsK X.K C) : Right X C (RightO C) := by
  rintro pins σ H s y u I ry ⟨a, rfl, h⟩
  cases (show u = Value.ref a from ry)
  rcases h with ⟨dx, fs, h⟩ | ⟨xs, h⟩ | ⟨kvs, h⟩
  · obtain ⟨mA, O, _⟩ := ins_get I.hok h
    obtain ⟨od, J, _⟩ := O.look
    exact ⟨.ref C, J.type, hi.nf⟩
  · obtain ⟨_, its, n, _, e⟩ := (show ObjOk X.prog X.w H s.heap a (.lst xs) from I.hok a _ h)
    exact ⟨.type "list", (PySem.W.Looks.ld e).andThen .now, (hi.no "list" (by decide)).2⟩
  · obtain ⟨_, _, vs, _, o, es, ep, e, x, _⟩ := (show ObjOk X.prog X.w H s.heap a (.dK kvs) from I.hok a _ h)
    have hc : o.cls = .type "dict" := x.1
    exact ⟨.type "dict", hc ▸ (PySem.W.Looks.ld e).andThen .now, (hi.no "dict" (by decide)).2⟩
end Un

/-! UnMin: min of two texts. -/
namespace Un
open PySem PySem.Spec PyProof.Rows L2
theorem cmp_txt {prog : Program} {w : World} {A : Around} {its : Array Value} (z : Nat → Str) (hz : ∀ (i : Nat) (v : Value), its[i]? = some v → ∃ t, v = Value.str (z i) t) :
    CmpOf prog w A .Lt (fun i v => its[i]? = some v) (fun i j => decide ((z i).cps.toList < (z j).cps.toList)) := by
  intro i j a b s Q E ha hb q
  obtain ⟨t, rfl⟩ := hz i a ha
  obtain ⟨u, rfl⟩ := hz j b hb
  exact P.lt_str q
theorem min_txt {prog : Program} {w : World} {A : Around} {E : Value → Shared → Prop} {s : Shared} {x y : Str} {t u : Tok} {Q : Value → Shared → Prop} (hh : A.handled = none)
    (q : ∀ g tk (v : Value), (v = Value.str x t ∨ v = Value.str y u) → (∀ d o, s.heap.get? d = some o → g.get? d = some o) → Q v { s with heap := g, toks := tk }) : wpAny (model prog w) A (call (.builtin "min") [.str x t, .str y u]) Q E s := by
  have sz : (s.heap.push { cls := .type "tuple", data := .seq #[.str x t, .str y u] }).objs.size = s.heap.objs.size + 1 := by rw [Heap.size_push]
  have tp : (s.heap.push { cls := .type "tuple", data := .seq #[.str x t, .str y u] }).IsTuple s.heap.objs.size #[.str x t, .str y u] := ⟨_, Heap.get?_push_size _ rfl, rfl, 0, rfl⟩
  have two : ∀ (i : Nat) (v : Value), (#[Value.str x t, Value.str y u])[i]? = some v → v = .str x t ∧ i = 0 ∨ v = .str y u ∧ i = 1 := fun i v e => by
    match i, e with
    | 0, e => exact .inl ⟨(Option.some.inj e).symm, rfl⟩
    | 1, e => exact .inr ⟨(Option.some.inj e).symm, rfl⟩
    | i + 2, e => simp at e
  refine call_min_two (wpAny_pyIter_tuple tp ?_)
  refine ⟨_, _, [_], _, _, _, _, rfl, Walks.tuple (A := A.in1) hh _ s.heap.objs.size (by rw [sz]; exact (Nat.succ_ne_self _).symm) #[.str x t, .str y u], ⟨⟨_, Heap.get?_push_size _ rfl, rfl, rfl⟩, tp.push _⟩, fun d hd => ?_, by simp, cmp_txt (fun i => if i = 0 then x else y) (fun i v e => ?_), fun v g tk hp hk => ?_⟩
  · show d < ((s.heap.push _).push _).objs.size
    rw [Heap.size_push, sz]
    simp only [List.mem_cons, List.not_mem_nil, or_false] at hd
    rcases hd with rfl | rfl
    · rw [sz]; exact Nat.lt_succ_self _
    · exact Nat.lt_succ_of_lt (Nat.lt_succ_self _)
  · rcases two i v e with ⟨rfl, rfl⟩ | ⟨rfl, rfl⟩
    · exact ⟨t, rfl⟩
    · exact ⟨u, rfl⟩
  · refine q g tk v ?_ fun d o e => ?_
    · rcases two _ v hp with h | h
      · exact .inl h.1
      · exact .inr h.1
    · refine hk d o (fun hm => ?_) (Heap.get?_push_of_some _ (Heap.get?_push_of_some _ e))
      have l := Heap.lt_size e
      rw [List.mem_singleton.mp hm, sz] at l
      exact absurd l (Nat.not_lt_of_le (Nat.le_succ _))
def rMinX : List V → Hp → VK → Prop := fun xs H Q => ∃ a b, xs = [.str (tx a), .str (tx b)] ∧ ∀ c, (c = a ∨ c = b) → Q (.str (tx c)) H
theorem call_minX {X : Cx} (hc : X.calm = true) : CallR X (.builtin "min") rMinX := by
  intro pins s σ H xs us Q I r h
  obtain ⟨a, b, rfl, q⟩ := h
  obtain ⟨u1, u2, rfl, ⟨t1, rfl⟩, ⟨t2, rfl⟩⟩ := vals2 r
  refine min_txt (I.ok.hd hc) fun g tk v hv hk => ?_
  rcases hv with rfl | rfl
  · exact ⟨.str (tx a), H, I.kept hk, ⟨t1, rfl⟩, q a (.inl rfl)⟩
  · exact ⟨.str (tx b), H, I.kept hk, ⟨t2, rfl⟩, q b (.inr rfl)⟩
theorem rd_minX {H : Hp} {Q : VK} {a b : List Nat} (q : ∀ c, (c = a ∨ c = b) → Q (.str (tx c)) H) : rMinX [.str (tx a), .str (tx b)] H Q := ⟨a, b, rfl, q⟩
def rMinI : List V → Hp → VK → Prop := fun xs H Q => ∃ i j, xs = [.int i, .int j] ∧ Q (.int (if j < i then j else i)) H
theorem call_min2X {X : Cx} (hc : X.calm = true) : CallR X (.builtin "min") rMinI := call_min2 hc
theorem rd_minI {H : Hp} {Q : VK} {i j : Int} (q : Q (.int (if j < i then j else i)) H) : rMinI [.int i, .int j] H Q := ⟨i, j, rfl, q⟩
end Un

/-! UnHds: try with several except clauses, each with a name or without. -/
namespace Un
open PySem PySem.Spec PyProof.Rows L2
/-- an except clause: its class, the slot of its name, its suite's reading -/
abbrev Hd := Value × Option Nat × (Addr → Value → Option Addr → TS)
def clause (a : Addr) (cls : Value) (d : Option Addr) (D : Ends) : Option Nat → (Addr → Value → Option Addr → TS) → L2.St → Hp → Prop
  | none, t, ρ, G => t a cls d D ρ G
  | some i, t, ρ, G => t a cls d { nx := fun ρ1 G1 => D.nx (ρ1.set i none) G1, rt := D.rt, bk := fun ρ1 G1 => D.bk (ρ1.set i none) G1, ct := fun ρ1 G1 => D.ct (ρ1.set i none) G1 } (ρ.set i (some (.ref a))) G
def wHds (K : PySem.W.Frag) (W0 : WX) (D : Ends) : List Hd → WX
  | [] => W0
  | (c, i, t) :: r => fun cls d ρ G => ∃ b, PySem.W.exmOne K cls c = some b ∧ (b = true → ∀ a, G a = none → clause a cls d D i t ρ G) ∧ (b = false → wHds K W0 D r cls d ρ G)
inductive Hds (X : Cx) : List ExceptHandler → List Hd → Prop
  | nil : Hds X [] []
  | bare {x : Str} {c : Value} {t : Addr → Value → Option Addr → TS} {st : Stmt} {sts : List Stmt} {p1 p2 : Pos} {es : List ExceptHandler} {l : List Hd} (nc : Names X x c)
      (su : ∀ (a : Addr) (ob : Obj) (cls : Value) (d : Option Addr) (pn : List (Addr × Obj)), Zc cls d ob → (∃ fs, ob.data = .fields fs) → PSs (X.suite a ((a, ob) :: pn)) (st :: sts) (t a cls d)) (r : Hds X es l) :
      Hds X (.ExceptHandler (some (.Name x p1)) none (st :: sts) p2 :: es) ((c, none, t) :: l)
  | as {x n : Str} {i : Nat} {c : Value} {t : Addr → Value → Option Addr → TS} {st : Stmt} {sts : List Stmt} {p1 p2 : Pos} {es : List ExceptHandler} {l : List Hd} (ni : X.N[i]? = some n) (nl : X.env.kindOf n = some .local) (nc : Names X x c)
      (su : ∀ (a : Addr) (ob : Obj) (cls : Value) (d : Option Addr) (pn : List (Addr × Obj)), Zc cls d ob → (∃ fs, ob.data = .fields fs) → PSs (X.suite a ((a, ob) :: pn)) (st :: sts) (t a cls d)) (r : Hds X es l) :
      Hds X (.ExceptHandler (some (.Name x p1)) (some n) (st :: sts) p2 :: es) ((c, some i, t) :: l)
section
variable {X : Cx} {body : List Stmt} {e0 : ExceptHandler} {es : List ExceptHandler} {l : List Hd} {tp : Pos} {tb : WX → TS} {W0 : WX}
theorem ps_try_hds (st : X.stack = X.env :: X.outer) (fr : X.env.frame = some X.env.locals) (nd : X.N.Nodup) (tk : Takes X W0)
    (pb : ∀ (W : WX) (pn : List (Addr × Obj)) (xe : Value → Shared → Prop), Takes (X.tr pn xe) W → PassesOwn (model X.prog X.w) X.A X.env xe → PSs (X.tr pn xe) body (tb W))
    (ph : Hds X (e0 :: es) l) : PS X (.Try body (e0 :: es) [] [] tp) (fun D ρ G => tb (wHds X.K W0 D l) D ρ G) := by
  refine ⟨fun pins z ρ G D J0 rd => ?_⟩
  have okX := J0.ok
  have frs0 : X.A.frames = some (X.env :: X.outer) := by rw [okX.frames, st]
  refine wpAny_Try_except ?_
  refine wpAny_mono ((pb (wHds X.K W0 D l) (X.pn ++ pins) (fun e z1 => wpAny (model X.prog X.w) X.A (noteFrame e X.env) (fun _ z2 => wpAny (model X.prog X.w) X.A (setFlight e none) (fun _ z3 =>
    wpAny (model X.prog X.w) X.A (handleBy e X.env (e0 :: es)) (SP X pins D) X.xe z3) X.xe z2) X.xe z1) (fun u z1 thrown => ?_) PassesOwn.looking).run [] z ρ G D (J0.toTry _) rd) (fun fl z1 fin => ?_) (fun e z1 he => he)
  · obtain ⟨a, B, zI, pins', ρ1, G1, cls, d, rfl, J1, nb, up, sky, na, os, ag, wish⟩ := thrown
    have JI : Inv X pins ρ1 G1 zI := J1.ofTry okX
    have skyE : Sky B (X.env :: X.outer) a (Zc cls d) X.env.locals z1.heap := by rw [← st]; exact sky
    show wpAny (model X.prog X.w) X.A (noteFrame (.ref a) X.env) _ _ _
    refine Sky.land Zc.steady frs0 fr skyE fun g3 fl3 up3 => ?_
    have J3 : Inv X pins ρ1 G1 { z1 with heap := g3 } := JI.landed nb fl3.1 (up.trans up3) os ag
    obtain ⟨ob3, fs3, at3, zc3, da3⟩ := fl3.there
    have apart : a ∉ frs (X.env :: X.outer) := fun hm => by
      obtain ⟨_, ob', at', nof⟩ := fl3.2.2.1.mem hm
      rw [at3] at at'
      cases at'
      exact nof _ da3
    have aL : a ≠ X.env.locals := fun q => apart (List.mem_filterMap.mpr ⟨X.env, List.mem_cons_self, by rw [fr, q]⟩)
    have aF : a ∉ X.fs := fun hm => by
      obtain ⟨ev, hev, q⟩ := List.mem_filterMap.mp hm
      exact apart (List.mem_filterMap.mpr ⟨ev, List.mem_cons_of_mem _ hev, q⟩)
    have S3 := J3.suite at3 da3 na aL aF
    have looks : PySem.W.Looks (model X.prog X.w) g3 (typeOf (.ref a)) cls := fun A Q E s k q => wpAny_typeOf_ref (k _ _ at3) (by rw [zc3.1]; exact q)
    have named : ∀ {x : Str} {c : Value} {p1 : Pos} {Q : Value → Shared → Prop} {E : Value → Shared → Prop}, Names X x c → Q c { z1 with heap := g3 } → wpAny (model X.prog X.w) (X.A.mark (some (.ref a))) (eval (.Name x p1) X.env) Q E { z1 with heap := g3 } := fun {x c p1 Q E} nc q => by
      obtain ⟨gl, db, m | ⟨m, hv, nn⟩⟩ := nc
      · exact ld_glob (X := X.suite a ((a, ob3) :: (X.pn ++ pins))) S3 gl m q db
      · exact ld_blt (X := X.suite a ((a, ob3) :: (X.pn ++ pins))) S3 gl m hv q nn db
    have each : ∀ {es' : List ExceptHandler} {l' : List Hd}, Hds X es' l' → wHds X.K W0 D l' cls d ρ1 G1 → wpAny (model X.prog X.w) X.A (handleBy (.ref a) X.env es') (SP X pins D) X.xe { z1 with heap := g3 } := by
      intro es' l' hk
      induction hk with
      | nil =>
        intro wish
        refine wpAny_handleBy_nil ?_
        obtain ⟨k1, k2, k3, ob, fs, T, oT, tl, at0, zc0, da0, f1, f2⟩ := id fl3
        unfold PySem.passOn
        refine wpAny_bind (wpAny_field at0 da0 f1 ?_)
        rw [if_neg (show ¬ ((Value.ref T == Value.none) = true) from by simp)]
        have go : wpAny (model X.prog X.w) X.A (setFlight (.ref a) X.env.frame) (fun _ z4 => wpAny (model X.prog X.w) X.A (throw (.ref a) : Sem Flow) (SP X pins D) X.xe z4) X.xe { z1 with heap := g3 } := by
          rw [fr]
          refine HandSPX.setFlight_upZ fl3 fun g4 sk4 up4 => wpAny_throw (tk _ _ ?_)
          exact ⟨a, B, zI, pins, ρ1, G1, cls, d, rfl, JI, nb, (up.trans up3).trans up4, .inr (.inr (by rw [st]; exact sk4)), na, os, ag, wish⟩
        first
          | exact wpAny_bind (wpAny_pure (wpAny_bind go))
          | exact wpAny_bind go
      | @bare x c t st1 sts p1 p2 es2 l2 nc su r ih =>
        rintro ⟨b, m1, yes, no⟩
        refine wpAny_handleBy_cons (codeAny_handlers_test ?_) (by intro q; cases q)
        refine named nc ((PySem.W.exm_one (M := model X.prog X.w) (J3.kIn) looks m1).here ?_)
        cases b with
        | false =>
          show wpAny _ X.A (handleBy (.ref a) X.env es2) _ _ _
          exact ih (no rfl)
        | true =>
          refine codeAny_handlers_suite ?_
          refine HandSPX.lands_againZ fl3 fun g4 fl4 up4 => ?_
          have J4 : Inv X pins ρ1 G1 { z1 with heap := g4 } := JI.landed nb fl4.1 ((up.trans up3).trans up4) os ag
          obtain ⟨ob4, fs4, at4, zc4, da4⟩ := fl4.there
          have S4 := J4.suite at4 da4 na aL aF
          refine wpAny_mono ((su a ob4 cls d (X.pn ++ pins) zc4 ⟨_, da4⟩).run [] _ _ G1 _ S4 (yes rfl a na)) (fun fl z6 fin => ?_) (fun _ _ q => False.elim q)
          cases fl with
          | next => obtain ⟨ρ6, G6, S6, q6⟩ := fin; exact ⟨_, _, S6.unsuite okX, q6⟩
          | brk => obtain ⟨ρ6, G6, S6, q6⟩ := fin; exact ⟨_, _, S6.unsuite okX, q6⟩
          | cont => obtain ⟨ρ6, G6, S6, q6⟩ := fin; exact ⟨_, _, S6.unsuite okX, q6⟩
          | ret u => obtain ⟨v6, ρ6, G6, S6, r6, q6⟩ := fin; exact ⟨_, _, _, S6.unsuite okX, r6, q6⟩
      | @as x n i c t st1 sts p1 p2 es2 l2 ni nl nc su r ih =>
        rintro ⟨b, m1, yes, no⟩
        refine wpAny_handleBy_cons (codeAny_handlers_test ?_) (by intro q; cases q)
        refine named nc ((PySem.W.exm_one (M := model X.prog X.w) (J3.kIn) looks m1).here ?_)
        cases b with
        | false =>
          show wpAny _ X.A (handleBy (.ref a) X.env es2) _ _ _
          exact ih (no rfl)
        | true =>
          refine codeAny_handlers_suite_as ?_
          refine HandSPX.lands_againZ fl3 fun g4 fl4 up4 => ?_
          have J4 : Inv X pins ρ1 G1 { z1 with heap := g4 } := JI.landed nb fl4.1 ((up.trans up3).trans up4) os ag
          obtain ⟨ob4, fs4, at4, zc4, da4⟩ := fl4.there
          have S4 := J4.suite at4 da4 na aL aF
          refine store_ok (X := X.suite a ((a, ob4) :: (X.pn ++ pins))) (v := .ref a) S4 nd ni (.inl nl) rfl (fun z5 S5 => ?_) (.inr nl)
          refine wpAny_mono ((su a ob4 cls d (X.pn ++ pins) zc4 ⟨_, da4⟩).run [] z5 _ G1 _ S5 (yes rfl a na)) (fun fl z6 fin => ?_) (fun _ _ q => False.elim q)
          have shut : ∀ {ρ6 : L2.St} {G6 : Hp} {Q : Shared → Prop}, Inv (X.suite a ((a, ob4) :: (X.pn ++ pins))) [] ρ6 G6 z6 → (∀ z7, Inv X pins (ρ6.set i none) G6 z7 → Q z7) →
              wpAny (model X.prog X.w) X.A (do bindName X.env n .none; unbindBehindTheSuite X.env n p2) (fun _ z7 => Q z7) X.xe z6 := fun {ρ6 G6 Q} S6 hq => gone_ok (S6.unsuite okX) nd ni nl hq
          cases fl with
          | next => obtain ⟨ρ6, G6, S6, q6⟩ := fin; exact shut S6 fun z7 J7 => ⟨_, _, J7, q6⟩
          | brk => obtain ⟨ρ6, G6, S6, q6⟩ := fin; exact shut S6 fun z7 J7 => ⟨_, _, J7, q6⟩
          | cont => obtain ⟨ρ6, G6, S6, q6⟩ := fin; exact shut S6 fun z7 J7 => ⟨_, _, J7, q6⟩
          | ret u => obtain ⟨v6, ρ6, G6, S6, r6, q6⟩ := fin; exact shut S6 fun z7 J7 => ⟨_, _, _, J7, r6, q6⟩
    exact each ph wish
  · cases fl with
    | next => obtain ⟨ρ1, G1, J1, q⟩ := fin; exact wpAny_execs_nil ⟨ρ1, G1, J1.ofTry okX, q⟩
    | brk => obtain ⟨ρ1, G1, J1, q⟩ := fin; exact ⟨ρ1, G1, J1.ofTry okX, q⟩
    | cont => obtain ⟨ρ1, G1, J1, q⟩ := fin; exact ⟨ρ1, G1, J1.ofTry okX, q⟩
    | ret u => obtain ⟨v, ρ1, G1, J1, r, q⟩ := fin; exact ⟨v, ρ1, G1, J1.ofTry okX, r, q⟩
end
end Un

/-! UnTab: the end of a law whose defs make lambdas, and show values. -/
namespace Un
open PySem PySem.Spec PyProof.Rows L2
theorem runTG {P : Program} {w : World} {K : PySem.W.Frag} {mg mb : Str → Option Value} {k : Nat} {fa a : Addr} {cs : List (Addr × Addr)} {fd : FuncData} {x : Str} {sp : Sp} {z : Shared} {vs : List Value} {ns : List Int}
    (KX : K.In z.heap) (hns : z.heap.Ns mainGlobals mg) (hb : z.heap.Ns builtinsNs mb) (hbb : ∀ y : Str, y ≠ "__name__" → mb y = bootBuiltins y) (lim : z.heap.NoLimit) (hg : z.gens = #[])
    (tabs : ∀ p ∈ cs, z.heap.get? p.2 = some { cls := .none, data := .fields #[] }) (nT : ∀ p ∈ cs, K.lookup p.2 = none) (hd : ∀ p ∈ cs, PySem.W.CodeHd z.heap p.1 p.2)
    (bmn : ∃ (bm : Addr) (ob : Obj), mg "__builtins__" = some (.ref bm) ∧ bm ≠ builtinsNs ∧ z.heap.get? bm = some ob ∧ ob.cls = .type "module" ∧ ob.dict = some builtinsNs ∧ ob.data = .plain)
    (ha : z.heap.get? a = some { cls := .type "list", data := .seq vs.toArray }) (hi : IntsAre vs ns) (hl : ns.length ≤ sizeLine) (room : Room k callerA)
    (F : ∀ base : Heap, K.In base → base.Ns mainGlobals mg → (∀ p ∈ cs, LamX.TabB base mg p.1 p.2) → FnG P w K mg base k fa fd [x] sp) (bind1 : ∀ (s : Shared) (u : Value), BindsTo s fd ⟨[u], []⟩ [(x, u)])
    (told : ∀ H : Hp, (∀ p ∈ cs, H p.2 = some (.tbl #[])) → SqL K H a (ns.map V.int) → sp [.ref a] H (fun v _ => v = .bl true) fun _ _ _ => False) :
    codeAny (model P w) callerA (.call (.ref fa) ⟨[.ref a], []⟩) (fun r s' => r = .ok (.ret (.bool true)) ∧ OldK z.heap s'.heap ∧ s'.os = z.os ∧ AllBare s'.gens) z := by
  have relV := vals_ints hi
  have sizes := hi.length
  have tabAt : ∀ b : Addr, b ∈ cs.map (·.2) → z.heap.get? b = some { cls := .none, data := .fields #[] } := fun b m => by
    obtain ⟨p, hp, rfl⟩ := List.mem_map.mp m
    exact tabs p hp
  have apart : a ∉ cs.map (·.2) := fun m => by
    have e := tabAt a m
    rw [ha] at e
    cases congrArg Obj.data (Option.some.inj e)
  have inT : ∀ p ∈ cs, p.2 ∈ cs.map (·.2) := fun p hp => List.mem_map.mpr ⟨p, hp, rfl⟩
  suffices from_ : ∀ H : Hp, (∀ b u, H b = some u → (b = a ∧ K.lookup a = none ∧ u = .frz { cls := .type "list", data := .seq vs.toArray } (.lst (ns.map V.int))) ∨ (b ∈ cs.map (·.2) ∧ u = .tbl #[])) → (∀ p ∈ cs, H p.2 = some (.tbl #[])) → SqL K H a (ns.map V.int) →
      codeAny (model P w) callerA (.call (.ref fa) ⟨[.ref a], []⟩) (fun r s' => r = .ok (.ret (.bool true)) ∧ OldK z.heap s'.heap ∧ s'.os = z.os ∧ AllBare s'.gens) z by
    cases look : K.lookup a with
    | some o =>
      have there := KX a o look
      rw [ha] at there
      obtain rfl := Option.some.inj there
      refine from_ (fun b => if b ∈ cs.map (·.2) then some (.tbl #[]) else none) (fun b u e => ?_) (fun p hp => if_pos (inT p hp)) (.inr ⟨_, vs.toArray, _, look, rfl, rfl, rfl, by rw [List.size_toArray, sizes]; exact hl, by simpa using relV⟩)
      by_cases m : b ∈ cs.map (·.2)
      · rw [if_pos m] at e
        exact .inr ⟨m, (Option.some.inj e).symm⟩
      · rw [if_neg m] at e
        cases e
    | none =>
      refine from_ (fun b => if b = a then some (.frz { cls := .type "list", data := .seq vs.toArray } (.lst (ns.map V.int))) else if b ∈ cs.map (·.2) then some (.tbl #[]) else none) (fun b u e => ?_) (fun p hp => ?_) (.inl (.inr ⟨_, if_pos rfl⟩))
      · by_cases q : b = a
        · rw [if_pos q] at e
          exact .inl ⟨q, look, (Option.some.inj e).symm⟩
        · rw [if_neg q] at e
          by_cases m : b ∈ cs.map (·.2)
          · rw [if_pos m] at e
            exact .inr ⟨m, (Option.some.inj e).symm⟩
          · rw [if_neg m] at e
            cases e
      · have q : ¬ p.2 = a := fun q => apart (by rw [← q]; exact inT p hp)
        exact (if_neg q).trans (if_pos (inT p hp))
  intro H hH hT hS
  have held : HOk P w H z.heap := fun b u e => by
    rcases hH b u e with ⟨rfl, _, rfl⟩ | ⟨m, rfl⟩
    · exact ⟨ha, by rw [List.length_map]; exact hl, vs, _, relV, ha⟩
    · exact tabAt b m
  have unseen : ∀ {b : Addr} {o : Obj}, z.heap.get? b = some o → (∀ us n, o.data ≠ .seq us n) → o.data ≠ .fields #[] → H b = none := fun {b o} e h1 h2 => by
    cases q : H b with
    | none => rfl
    | some u =>
      rcases hH b u q with ⟨rfl, _, _⟩ | ⟨m, _⟩
      · rw [ha] at e
        cases e
        exact (h1 _ _ rfl).elim
      · rw [tabAt b m] at e
        cases e
        exact (h2 rfl).elim
  have hidden : ∀ {b : Addr} {m : Str → Option Value}, z.heap.Ns b m → (hidT z.heap H).Ns b m := by
    rintro b m ⟨o, es, ep, e, d, r⟩
    exact ⟨o, es, ep, hidT_get e (unseen e (fun us n q => by rw [d] at q; cases q) fun q => by rw [d] at q; cases q), d, r⟩
  have kIn : K.In (hidT z.heap H) := fun b o e => hidT_get (KX b o e) (by
    cases q : H b with
    | none => rfl
    | some u =>
      rcases hH b u q with ⟨rfl, n, _⟩ | ⟨m, _⟩
      · rw [n] at e
        cases e
      · obtain ⟨p, hp, rfl⟩ := List.mem_map.mp m
        rw [nT p hp] at e
        cases e)
  have md : Mod K mg (hidT z.heap H) := ⟨kIn, hidden hns, ⟨mb, hidden hb, hbb⟩, match lim with | ⟨mc, h1, h2⟩ => ⟨mc, hidden h1, h2⟩⟩
  have tb : ∀ p ∈ cs, LamX.TabB (hidT z.heap H) mg p.1 p.2 := fun p hp => by
    have at_ := tabs p hp
    obtain ⟨og, es, ep, eg, dg, _⟩ := id hns
    refine ⟨?_, ?_, fun q => ?_⟩
    · obtain ⟨o, us, file, tf, flags, tg, inF, text, tt, e1, r1, r2, r3, rest⟩ := hd p hp
      refine ⟨o, us, file, tf, flags, tg, inF, text, tt, hidT_get e1 (unseen e1 (fun us n q => by rw [r2] at q; cases q) fun q => ?_), r1, r2, r3, rest⟩
      rw [r2] at q
      cases q
      simp at r3
    · obtain ⟨bm, ob, b1, b2, b3, b4, b5, b6⟩ := bmn
      refine ⟨bm, ob, b1, b2, fun q => ?_, fun q => ?_, hidT_get b3 (unseen b3 (fun us n q => by rw [b6] at q; cases q) fun q => by rw [b6] at q; cases q), b4, b5, b6⟩
      · rw [q, eg] at b3
        cases b3
        rw [dg] at b6
        cases b6
      · rw [q, at_] at b3
        cases b3
        cases b6
    · rw [q, at_] at eg
      cases eg
      cases dg
  have none_in : ∀ b : Addr, b ∈ ([] : List Addr) → False := fun b m => by cases m
  have env0 : Env0 P w K mg (hidT z.heap H) callerA [] z H := ⟨rfl, md, fun b o e => of_hidT e, Nat.le_of_eq (hidT_size _ _), trivial, fun b m => (none_in b m).elim, held, .of_eq hg⟩
  refine codeAny_mono ((F _ kIn (hidden hns) tb).run callerA [] z H ⟨[.ref a], []⟩ [.ref a] [.ref a] _ _ rfl room env0 (bind1 z (.ref a)) (.cons rfl .nil) (told H hT hS)) fun r s' h => ?_
  match r, h with
  | .error e, h => exact (show False from h).elim
  | .ok .next, h => exact (show False from h).elim
  | .ok .brk, h => exact (show False from h).elim
  | .ok .cont, h => exact (show False from h).elim
  | .ok (.ret u), h =>
    obtain ⟨v, H', hos, bare, un, held', rv, rfl⟩ := h
    obtain rfl : u = Value.bool true := rv
    have kept : ∀ b o, b ∉ cs.map (·.2) → z.heap.get? b = some o → s'.heap.get? b = some o := fun b o nb e => by
      cases q : H b with
      | none => exact un.keep b o e q (none_in b) (none_in b)
      | some y =>
        rcases hH b y q with ⟨rfl, _, rfl⟩ | ⟨m, _⟩
        · have e1 := (held _ _ q).1
          rw [e] at e1
          rw [Option.some.inj e1]
          exact (held' _ _ (un.frzs _ _ _ q)).1
        · exact (nb m).elim
    have grown : ∀ p ∈ cs, ∃ more : Array Value, s'.heap.get? p.2 = some { cls := .none, data := .fields more } := fun p hp => by
      obtain ⟨more, q⟩ := un.tbls p.2 #[] (hT p hp)
      exact ⟨_, held' p.2 _ q⟩
    refine ⟨rfl, ⟨fun b o e => ?_, fun b o e => ?_⟩, hos, bare⟩
    · by_cases m : b ∈ cs.map (·.2)
      · obtain ⟨p, hp, rfl⟩ := List.mem_map.mp m
        obtain ⟨more, hm⟩ := grown p hp
        rw [tabs p hp] at e
        cases e
        exact .inr (.inl ⟨((hd p hp).tab (tabs p hp)).isCodeTable, rfl, #[], more, rfl, by rw [Array.empty_append]; exact hm⟩)
      · exact .inl (kept b o m e)
    · by_cases m : b ∈ cs.map (·.2)
      · obtain ⟨p, hp, rfl⟩ := List.mem_map.mp m
        obtain ⟨more, hm⟩ := grown p hp
        exact ⟨_, hm⟩
      · exact ⟨o, kept b o m e⟩
/-- what the end asks at the head's heap -/
def LawTG (l : PySem.W.OpenLaw) (w : World) (K : PySem.W.Frag) (k n : Nat) (x : Str) (mg : Str → Option Value) (fa : Addr) (h : Heap) : Prop :=
  ∃ (fd : FuncData) (cs : List (Addr × Addr)) (sp : Sp), (∀ p ∈ cs, h.get? p.2 = some { cls := .none, data := .fields #[] }) ∧ (∀ p ∈ cs, K.lookup p.2 = none) ∧ (∀ p ∈ cs, PySem.W.CodeHd h p.1 p.2) ∧ (∀ (s : Shared) (u : Value), BindsTo s fd ⟨[u], []⟩ [(x, u)]) ∧
    (∀ (H : Hp) (a : Addr) (ns : List Int), ns.length ≤ n → (∀ p ∈ cs, H p.2 = some (.tbl #[])) → SqL K H a (ns.map V.int) → sp [.ref a] H (fun v _ => v = .bl true) fun _ _ _ => False) ∧
    ∀ base : Heap, K.In base → base.Ns mainGlobals mg → (∀ p ∈ cs, LamX.TabB base mg p.1 p.2) → FnG l.prog w K mg base k fa fd [x] sp
theorem walk_ofTG {l : PySem.W.OpenLaw} {n k : Nat} {q : Program} {loose : List Str} {XP : (Str → Option Value) → Heap → Prop} {YP : World → Heap → Prop} {d : DefRec} {K : Params → PySem.W.Frag} {x : Str}
    (hn : l.most = some n) (hn2 : n ≤ sizeLine) (hdf : d.params.defaults = []) (room : Room k callerA) (hY : ∀ (w : World) (h : Heap), YP w h → (K w.params).In h)
    (F : ∀ (w : World) (mg : Str → Option Value) (fa : Addr) (h : Heap), YP w h → (K w.params).In h → h.Ns mainGlobals mg → mg d.name = some (.ref fa) → LawTG l w (K w.params) k n x mg fa h) :
    PySem.W.WalkO q loose XP YP l.row.toRowW d [] (fun f vs => PySem.call f vs) := by
  refine Att.attach_callB hn hdf fun w s₀ z mg mb fa o pm cd doc a vs ns G Y ho hd hcd hmg hobj hints hlen hbits hg => ?_
  have KX := hY w _ Y
  obtain ⟨fd, cs, sp, hT, nT, C, hb, told, hF⟩ := F w mg fa _ Y KX G.T.g hmg
  exact runTG KX G.T.g G.T.b G.T.builtins G.T.nolimit hg hT nT C G.T.bmain hobj hints (Nat.le_trans hlen hn2) room hF hb fun H hH hS => told H a ns hlen hH hS
end Un

/-! UnLam: what raises, called by name; isinstance of a caught error of several kinds; a def that calls what it was handed; defs whose code object is told. -/
namespace Un
open PySem PySem.Spec PyProof.Rows L2
/-! ### isinstance(e, C), isinstance(e, (C, D)): e just caught, of an own class -/
def rIsC (K : PySem.W.Frag) (a : Addr) (cls : Value) (d : Option Addr) : List V → Hp → VK → Prop := fun xs H Q =>
  ∃ (D : Addr) (b : Bool), cls = .ref D ∧ ExcC K D ∧ (∀ dd, d = some dd → ∃ fs, H dd = some (.xd fs)) ∧ Q (.bl b) H ∧
    ((∃ c u, xs = [.ref a, c] ∧ ClsV c u ∧ PySem.W.kitOne K (.ref D) u = some b) ∨ (∃ tp cs us, xs = [.ref a, .ref tp] ∧ H tp = some (.tup cs) ∧ Paired ClsV cs us ∧ PySem.W.kitAny K (.ref D) us = some b))
theorem call_isC {X : Cx} {a : Addr} {oe : Obj} {cls : Value} {d : Option Addr} {pn : List (Addr × Obj)} (hz : Zc cls d oe) (hf : ∃ vs, oe.data = .fields vs) : CallR (X.suite a ((a, oe) :: pn)) (.builtin "isinstance") (rIsC X.K a cls d) := by
  intro pins s σ H xs us Q I r h
  obtain ⟨D, b, rfl, T, hd, q, h⟩ := h
  obtain ⟨ha, _⟩ := I.pin (a, oe) (List.mem_append_left _ List.mem_cons_self)
  obtain ⟨vs, hv⟩ := hf
  have Z : ∃ P : Heap → Prop, PySem.W.KitX X.K (.ref a) (.ref D) P ∧ P s.heap := by
    cases d with
    | none => exact ⟨_, PySem.W.handS_kitx_exc T.hg T.hk T.hs T.hd T.ha T.hn T.ht T.hm, show PySem.W.InstAt s.heap a oe D none from ⟨ha, hz.1, by unfold PySem.W.notCls; rw [hv] <;> rfl, by rw [hz.2]; trivial⟩⟩
    | some dd =>
      obtain ⟨fs, ea⟩ := hd dd rfl
      obtain ⟨mA, hns, hr⟩ := (show ObjOk X.prog X.w H s.heap dd (.xd fs) from I.hok dd _ ea)
      obtain ⟨od, ho, hl⟩ := lookIn_ns hns
      exact ⟨_, PySem.W.kitx_excD T.hg T.hk T.hs T.hd T.ha T.hn T.ht T.hm, show PySem.W.InstAt s.heap a oe D (some od) from ⟨ha, hz.1, by unfold PySem.W.notCls; rw [hv] <;> rfl, by rw [hz.2]; exact ho⟩⟩
  obtain ⟨P, z, p⟩ := Z
  rcases h with ⟨c, u, rfl, k, e⟩ | ⟨tp, cs, ws, rfl, hT, k, e⟩
  · obtain ⟨u1, u2, rfl, r1, r2⟩ := vals2 r
    cases (show u1 = Value.ref a from r1)
    have e2 := k.eq r2
    subst e2
    exact PySem.W.kia_one z I.kIn p e (fun z => nomatch z) fun tk => ⟨.bl b, H, I.tok tk, rfl, q⟩
  · obtain ⟨u1, u2, rfl, r1, r2⟩ := vals2 r
    cases (show u1 = Value.ref a from r1)
    cases (show u2 = Value.ref tp from r2)
    obtain ⟨_, its, rv, o, h1, h2, n, h3⟩ := (show ObjOk X.prog X.w H s.heap tp (.tup cs) from I.hok tp _ hT)
    have e3 := ClsV.all k rv
    subst e3
    obtain ⟨oc, od, dt, sl⟩ := o
    simp only at h2 h3
    subst h2 h3
    exact PySem.W.kia_tup z I.kIn p h1 e (fun z => nomatch z) fun tk => ⟨.bl b, H, I.tok tk, rfl, q⟩
theorem rd_isC1 {K : PySem.W.Frag} {a D C : Addr} {d : Option Addr} {H : Hp} {Q : VK} {b : Bool} (T : ExcC K D) (hd : ∀ dd, d = some dd → ∃ fs, H dd = some (.xd fs)) (k : PySem.W.kitOne K (.ref D) (.ref C) = some b) (q : Q (.bl b) H) : rIsC K a (.ref D) d [.ref a, .ref C] H Q :=
  ⟨D, b, rfl, T, hd, q, .inl ⟨_, _, rfl, .own C, k⟩⟩
theorem rd_isC2 {K : PySem.W.Frag} {a D C1 C2 tp : Addr} {d : Option Addr} {H : Hp} {Q : VK} (T : ExcC K D) (hd : ∀ dd, d = some dd → ∃ fs, H dd = some (.xd fs)) (ht : H tp = some (.tup [.ref C1, .ref C2])) (k1 : PySem.W.kitOne K (.ref D) (.ref C1) = some false) (k2 : PySem.W.kitOne K (.ref D) (.ref C2) = some false)
    (q : Q (.bl false) H) : rIsC K a (.ref D) d [.ref a, .ref tp] H Q :=
  ⟨D, false, rfl, T, hd, q, .inr ⟨tp, _, [.ref C1, .ref C2], rfl, ht, .cons (.own C1) (.cons (.own C2) .nil), kitAny_cons k1 (fun _ => kitAny_cons k2 (fun _ => kitAny_nil) fun h => by cases h) fun h => by cases h⟩⟩
/-! ### what raises, called by name -/
section
variable {X : Cx} {C : Addr} {m x : Str} {ps : List Str} {k j n : Nat} {sp : Sp} {e o : Expr} {es : List Expr} {kws : List Keyword} {ta : TE} {t tk' : TA} {p pos apos : Pos} {dvs : List V} {ks : List Str} {gV : List V → List V → List V} {E : XK}
theorem set_GX (g : MetG X.prog X.w X.K X.mg X.base (L2.CX X.prog X.w) C "__setitem__" ps k sp) (hq : PySem.W.noSeq X.K C = true) (hr : Room j X.A) (hk : k ≤ j) (tk : Takes X fun cls d _ H => E cls d H) : PSet X (rSetO C sp E) := by
  obtain ⟨f, fd, c, M, F, i, b⟩ := g
  exact set_own M hq F (hr.mono hk) b (passes_call tk fun _ _ _ _ h => h)
/-- C(e, ..), where the __init__ may raise -/
def MakX (P : Program) (w : World) (K : PySem.W.Frag) (mg : Str → Option Value) (base : Heap) (x : Str) (C : Addr) (k : Nat) (sp : Sp) (dvs : List V) : Prop :=
  ∃ (f : Addr) (fd : FuncData) (ps : List Str) (ds : List Value), L2.Mk K C f ∧ FnOk P w K mg base (L2.CX P w) k f fd ps sp ∧ mg x = some (.ref C) ∧ Binds K fd ps ds ∧ Vals dvs ds
theorem pe_mkDX (g : MakX X.prog X.w X.K X.mg X.base x C k sp dvs) (hr : Room j X.A) (hk : k + 1 ≤ j) (hg : Gl X x) (tk : Takes X fun cls d _ H => E cls d H) (ha : PA X (e :: es) t)
    (hdb : (x == ("__debug__" : Str)) = false := by decide) (he : starEach (e :: es) X.env = (false, eval e X.env) :: starEach es X.env := by rfl) (hpl : (backTo pos (starEach es X.env)).any (·.1) = false := by rfl) :
    PE X (.Call (.Name x p) (e :: es) [] pos) (tMake C sp dvs E t) := by
  obtain ⟨f, fd, ps, ds, M, F, hm, b, d⟩ := g
  exact pe_make M F (hr.mono hk) hg hm b d (passes_call tk fun _ _ _ _ h => h) ha hdb he hpl
def MetDX (P : Program) (w : World) (K : PySem.W.Frag) (mg : Str → Option Value) (base : Heap) (C : Addr) (m : Str) (k : Nat) (sp : Sp) (dvs : List V) : Prop :=
  ∃ (f : Addr) (fd : FuncData) (ps : List Str) (ds : List Value), Cls K C ∧ Meth K C m f ∧ FnOk P w K mg base (L2.CX P w) k f fd ps sp ∧ Binds K fd ps ds ∧ Vals dvs ds
theorem pe_mtDX {pl : Sem Bool} (g : MetDX X.prog X.w X.K X.mg X.base C m k sp dvs) (hr : Room j X.A) (hk : k ≤ j) (tk : Takes X fun cls d _ H => E cls d H) (he : PE X o ta) (ha : PA X (e :: es) t)
    (hst : starEach (e :: es) X.env = (false, eval e X.env) :: starEach es X.env := by rfl) (hpl : (backTo pos (starEach es X.env)).any (·.1) = false := by rfl)
    (ht : eval (.Call (.Attribute o m apos) (e :: es) [] pos) X.env = (do let ov ← eval o X.env; standAt apos.atName; let (f, first) ← holding [ov] (getMethod ov m pl); callWith pos f first (backTo pos (starEach (e :: es) X.env)) (backToKw pos (keywordEach [] X.env))) := by rfl) :
    PE X (.Call (.Attribute o m apos) (e :: es) [] pos) (tMeth C m sp dvs E ta t) := by
  obtain ⟨f, fd, ps, ds, c, M, F, b, d⟩ := g
  exact pe_meth (pl := pl) he c M F (hr.mono hk) b d (passes_call tk fun _ _ _ _ h => h) ha hst hpl ht
def MetKX (P : Program) (w : World) (K : PySem.W.Frag) (mg : Str → Option Value) (base : Heap) (C : Addr) (m : Str) (n : Nat) (ks : List Str) (k : Nat) (sp : Sp) (gV : List V → List V → List V) : Prop :=
  ∃ (f : Addr) (fd : FuncData) (ps : List Str) (g : List Value → List Value → List Value), Cls K C ∧ Meth K C m f ∧ FnOk P w K mg base (L2.CX P w) k f fd ps sp ∧ KBn K fd ps n ks g gV
theorem methN_GX {pl : Sem Bool} (q : MetKX X.prog X.w X.K X.mg X.base C m n ks k sp gV) (hr : Room j X.A) (hk : k ≤ j) (tk : Takes X fun cls d _ H => E cls d H) (he : PE X o ta) (ha : PA X (e :: es) t) (hkw : PK X kws tk')
    (hall : (backToKw pos (keywordEach kws X.env)).all (·.1.isSome) = true := by rfl) (hks : (backToKw pos (keywordEach kws X.env)).filterMap (·.1) = ks := by rfl)
    (hst : starEach (e :: es) X.env = (false, eval e X.env) :: starEach es X.env := by rfl)
    (hpl : ((backTo pos (starEach (e :: es) X.env)).any (·.1) || (backToKw pos (keywordEach kws X.env)).any (·.1.isNone)) = false := by rfl)
    (ht : eval (.Call (.Attribute o m apos) (e :: es) kws pos) X.env = (do let ov ← eval o X.env; standAt apos.atName; let (f, first) ← holding [ov] (getMethod ov m pl); callWith pos f first (backTo pos (starEach (e :: es) X.env)) (backToKw pos (keywordEach kws X.env))) := by rfl) :
    PE X (.Call (.Attribute o m apos) (e :: es) kws pos) (tMethN C m n ks.length sp gV E ta t tk') := by
  obtain ⟨f, fd, ps, g, c, M, F, hb⟩ := q
  exact pe_methN (pl := pl) he c M F (hr.mono hk) hb (passes_call tk fun _ _ _ _ h => h) ha hkw hall hks hst hpl ht
end
/-! ### defs whose code object is told -/
structure FunC (K : PySem.W.Frag) (x qual : Str) (st : Stmt) (f : Addr) (fd : FuncData) (c : Addr) : Prop where
  ex : ∃ (oc : Value) (od : Option Addr) (kV doc pm : Value) (an : Option Addr) (ct : Value) (osl : Array (Option Value)),
    fd = PySem.W.fnOf x qual (defArgs st) (defBody st) (defScope st) .none kV doc pm an (.ref c) ct ∧ K.lookup f = some ⟨oc, od, .func fd, osl⟩ ∧ PySem.W.codeIn K (.ref c) qual = true
  kp : PySem.W.keepIn K (.ref f) = true
def AtC (K : PySem.W.Frag) (mg : Str → Option Value) (nm : Str) (st : Stmt) (ps : List Str) (c : Addr) : Prop :=
  ∃ (f : Addr) (fd : FuncData), FunC K nm nm st f fd c ∧ mg nm = some (.ref f) ∧ Binds K fd ps []
section
variable {P : Program} {w : World} {K : PySem.W.Frag} {mg : Str → Option Value} {base : Heap}
theorem okGC {nm qual : Str} {st : Stmt} {f c : Addr} {fd : FuncData} {N ps : List Str} {k : Nat} {sp : Sp} (F : FunC K nm qual st f fd c) (S : FnScope N ps (defScope st)) (hlen : ∀ vs H Q E, sp vs H Q E → vs.length = ps.length)
    (hb : ∀ (A : Around) (outer : List Env) (s : Shared) (H : Hp) (vs : List V) (Q : VK) (E : XK), A.guards = some [] → Room k (A.deeper (envOfC qual (defScope st) s.heap.objs.size f (.ref c))) → sp vs H Q E →
      ∃ t, PSs (cxOf CX0 P w K mg base N qual (defScope st) f (.ref c) A outer s H E).nox (defBody st) t ∧ t { nx := fun _ H' => Q .non H', rt := Q } (start N vs) H) : FnG P w K mg base (k + 1) f fd ps sp := by
  obtain ⟨c1, c2, c3, c4, c5, c6, c7, c8, rfl, look, code⟩ := F.ex
  refine ⟨hlen, fun A outer s H args us vs Q E gA room e0 bd rel asked => ?_⟩
  have inHeap : K.In s.heap := e0.mod.kin.keeps fun b o hbo => (e0.bs b o hbo).1
  have free := e0.mod.nolimit.keeps (h' := s.heap) fun b o hbo => (e0.bs b o hbo).1
  have kinds : ∀ y ∈ ps.zip us, (defScope st).names.lookup y.1 = some .local ∨ ((defScope st).names.lookup y.1 = some .cell ∧ ((cellsFrom (s.heap.objs.size + 1) (defScope st).names []).lookup y.1).isSome = true) := by
    rintro ⟨n, v⟩ hy
    exact (S.par n (List.of_mem_zip hy).1).imp id fun hc => ⟨hc, PySem.W.cellsFrom_some _ _ _ (.inl hc)⟩
  refine codeAny_call_function room.depth (inHeap _ _ look) rfl S.co S.gen rfl (PySem.W.codeRec_of inHeap code) (bd _ _ _ _ ?_)
  refine wpAny_newFunctionEnv_cells S.kind kinds fun env henv s1 entry => ?_
  subst henv
  obtain ⟨t, ht, hq⟩ := hb A outer s H vs Q E gA (room.deeper _) asked
  have I0 : Inv (cxOf CX0 P w K mg base N qual (defScope st) f (.ref c) A outer s H E) [] (start N vs) H s1 := inv_start S room.hd e0 (hlen _ _ _ _ asked) rel entry
  refine ⟨free.keeps entry.toInCall.keep, codeAny_func (wpAny_mono (ht.nox.run [] s1 (start N vs) H _ I0 hq) (fun flow s' hs => ?_) fun e s' hs => hs)⟩
  cases flow with
  | ret u => exact match hs with | ⟨v, σ', H', J, rv, q⟩ => ⟨v, H', J.os, J.bare, J.base, J.hok, rv, q⟩
  | next => exact match hs with | ⟨σ', H', J, q⟩ => ⟨V.non, H', J.os, J.bare, J.base, J.hok, rfl, q⟩
  | brk => exact match hs with | ⟨_, _, _, q⟩ => False.elim q
  | cont => exact match hs with | ⟨_, _, _, q⟩ => False.elim q
theorem clGC_of {nm : Str} {st : Stmt} {ps : List Str} {k : Nat} {sp : Sp} {c : Addr} (a : AtC K mg nm st ps c) (h : ∀ f fd, FunC K nm nm st f fd c → FnG P w K mg base k f fd ps sp) : ClG P w K mg base nm ps k sp := by
  obtain ⟨f, fd, F, m, b⟩ := a
  exact ⟨f, fd, m, h f fd F, F.kp, b⟩
end
/-! ### a def that calls what it was handed -/
section
variable {X : Cx}
theorem takes_len {W : WX} (tk : Takes X W) : Takes X (fun cls d σ H => σ.length = X.N.length → W cls d σ H) := fun u s' ⟨a, B, sI, pins, σ, H, cls, d, e, I, nb, up, sky, na, os, ag, w⟩ =>
  tk u s' ⟨a, B, sI, pins, σ, H, cls, d, e, I, nb, up, sky, na, os, ag, w I.len⟩
def tAct (n : Nat) (f c' : Addr) (q : Str) (tl : XK → Hp → VK → Prop) (W : WX) : TE := fun σ H Q => ∃ Ech : XK, (∀ cls d σ' H', σ'.length = n → Ech cls d H' → W cls d σ' H') ∧ σ[0]? = some (some (.ref f)) ∧ H c' = some (LamX.CodeO c' q) ∧ tl Ech H Q
theorem pe_tact {Y : Cx} {f c' : Addr} {q a : Str} {tl : XK → Hp → VK → Prop} {p1 p2 : Pos}
    (act : ∀ (W : WX) (pn : List (Addr × Obj)) (xe : Value → Shared → Prop) (E : XK) (p1 p2 : Pos), Takes (Y.tr pn xe) W → (∀ cls d σ' H', E cls d H' → W cls d σ' H') →
      PE (Y.tr pn xe) (.Call (.Name a p1) [] [] p2) (fun σZ HZ Q => σZ[0]? = some (some (.ref f)) ∧ HZ c' = some (LamX.CodeO c' q) ∧ tl E HZ Q))
    {W : WX} {pn : List (Addr × Obj)} {xe : Value → Shared → Prop} (tk : Takes (Y.tr pn xe) W) : PE (Y.tr pn xe) (.Call (.Name a p1) [] [] p2) (tAct Y.N.length f c' q tl W) := by
  refine ⟨fun pins s σ H Q I h => ?_⟩
  obtain ⟨E, hW, h⟩ := h
  exact (act _ pn xe E p1 p2 (takes_len tk) fun cls d σ' H' e hl => hW cls d σ' H' hl e).run pins s σ H Q I h
/-- x(lambda: body), x a def as it stands -/
theorem pe_lamG {x a : Str} {st : Stmt} {Ng : List Str} {T : List (Addr × Str)} {TT : (XK → Hp → VK → Prop) → Hp → VK → Prop} {t : XK → TE} {c P : Addr} {k : Nat} {params : Arguments} {body : Expr} {scope : Scope} {p lpos pos : Pos}
    (A : At X.K X.mg x st [a]) (hg : Gl X x) (Sg : FnScope Ng [a] (defScope st)) (hNg : Ng[0]? = some a) (hva : Vis (defScope st) a) (hG : ∀ (g : Addr) (cdg : Value), LamX.GivesTo X Ng x (defScope st) g cdg (defBody st) a (X.env.qual ++ "<lambda>") TT)
    (TB : LamX.TabB X.base X.mg c P) (hcode : X.env.code = .ref c) (hmT : (P, X.env.qual ++ "<lambda>") ∈ T) (hu : ∀ p ∈ T, p.1 = P → p.2 = X.env.qual ++ "<lambda>") (hr : Room (k + 2) X.A) (L : LamX.LamS X.env.scope scope) (hdef : defaultsOf params X.env = ([], []))
    (hbind : ∀ (q : Str) (cl : List (Str × Addr)) (pm cv ctv : Value), bindArgs (PySem.W.kla_fn "<lambda>" q params body scope cl pm cv ctv) ⟨[], []⟩ = pure [])
    (hbody : ∀ (A : Around) (outer : List Env) (s : Shared) (H : Hp) (E : XK) (f c' : Addr), Room k (A.deeper (LamX.lamEnv X scope s.heap.objs.size f c')) → PE (LamX.lamCx X A outer s H E scope f c') body (t E))
    (hdb : (x == ("__debug__" : Str)) = false := by decide) (hd : (a == ("__debug__" : Str)) = false := by decide) (hcd : (a == ("__classdict__" : Str)) = false := by decide) :
    PE X (.Call (.Name x p) [.Lambda params body scope lpos] [] pos) (LamX.tLam T TT t) := by
  obtain ⟨f, fd, F, m, b⟩ := A
  obtain ⟨oc, od, kV, doc, pm, an, cdv, ct, osl, rfl, lk, hc⟩ := F.ex
  exact LamX.pe_lamcall (dV := .none) hg m F.kp lk hc b Sg hNg hva (hG f cdv) TB hcode hmT hu hr L hdef hbind hbody hdb hd hcd
end
end Un

/-! UnRev: text[::-1]. -/
namespace Un
open PySem PySem.Spec PyProof.Rows L2
def tRevS (te : TE) : TE := fun σ H Q => te σ H fun x H1 => ∃ l, x = .str (tx l) ∧ l.length ≤ sizeLine ∧ Q (.str (tx l.reverse)) H1
theorem rev_picked (l : List Nat) (t1 : Tok) : ((slicePicked (tx l) none none (some (-1, t1))).filterMap ((tx l).cps[·]?)) = l.reverse := by
  show ((PySem.sliceRange (((tx l).length : Int) - 1) (-1) (-1)).filterMap ((tx l).cps[·]?)) = l.reverse
  rw [PySem.W.krv_sliceRange, PySem.W.krv_range, List.filterMap_reverse]
  have e : (List.range (tx l).length).filterMap ((tx l).cps[·]?) = (tx l).cps.toList := PySem.W.krv_all _
  rw [e, tx_cps]
theorem pe_revS {X : Cx} {e : Expr} {te : TE} {k : Nat} {p1 p2 p3 pos : Pos} (he : PE X e te) : PE X (.Subscript e (.Slice none none (some (.UnaryOp .USub (.Constant (.int 1) k p1) p2)) p3) pos) (tRevS te) := by
  refine ⟨fun pins s σ H Q I h => ?_⟩
  refine Subscript_ (thn (he.run pins s σ H _ I h) fun v s1 ⟨x, H1, I1, r1, q1⟩ => ?_)
  obtain ⟨z, ex, hz, q⟩ := q1
  subst ex
  obtain ⟨t, rfl⟩ := r1
  have hst : PO X (some (.UnaryOp .USub (.Constant (.int 1) k p1) p2)) (tPart (tUn (rU fun i => .int (-i)) (tC (.int 1)))) := po_some (pe_un un_neg pe_int)
  refine wpAny_Slice (thn (po_none.run pins s1 σ H1 (fun o H2 => o = none ∧ H2 = H1) I1 ⟨rfl, rfl⟩) fun vl s2 ⟨l, H2, I2, pl, el, e2⟩ => ?_)
  subst el e2
  refine thn (po_none.run pins s2 σ H2 (fun o H3 => o = none ∧ H3 = H2) I2 ⟨rfl, rfl⟩) fun vu s3 ⟨u, H3, I3, pu, eu, e3⟩ => ?_
  subst eu e3
  refine thn (hst.run pins s3 σ H3 (fun o H4 => o = some (-1) ∧ H4 = H3) I3 ⟨1, rfl, -1, rfl, rfl, rfl⟩) fun vs s4 ⟨o, H4, I4, ps, eo, e4⟩ => ?_
  subst eo e4
  have I5 : Inv X pins σ H4 { s4 with heap := s4.heap.push { cls := .type "slice", data := .fields #[vl, vu, vs] } } := I4.kept (t' := s4.toks) fun b ob q => Heap.get?_push_of_some _ q
  obtain ⟨a1, rfl, f1⟩ := IsPart.raw pl
  obtain ⟨a2, rfl, f2⟩ := IsPart.raw pu
  obtain ⟨a3, rfl, f3⟩ := IsPart.raw ps
  cases a1 with
  | some _ => cases f1
  | none =>
  cases a2 with
  | some _ => cases f2
  | none =>
  cases a3 with
  | none => cases f3
  | some c =>
  obtain ⟨ci, ct⟩ := c
  have hci : ci = -1 := Option.some.inj f3
  subst hci
  show wpAny (model X.prog X.w) X.A (subscriptTail e (.Slice none none (some (.UnaryOp .USub (.Constant (.int 1) k p1) p2)) p3) (.str (tx z) t) (.ref s4.heap.objs.size)) (EP X pins σ Q) X.xe _
  refine tail_any (ops := [.str (tx z) t, .ref s4.heap.objs.size]) (typeIs_str _ _ _) (PySem.F.slot_str_getitem.lookup) ?_ (by with_unfolding_all rfl)
  refine wpAny_getItem_str_slice (l := none) (u := none) (st := some (-1, ct)) ⟨_, Heap.get?_push_size _ rfl, rfl, rfl⟩ rfl ?_
  unfold sliceMade
  have hneg : ¬ (((Option.map (fun x : Int × Tok => x.1) (some ((-1 : Int), ct))).getD 1 == 1 && (slicePicked (tx z) none none (some (-1, ct))).length == (tx z).length) = true) := by
    show ¬ (((-1 : Int) == 1 && _) = true)
    simp
  rw [if_neg hneg, rev_picked]
  exact ⟨by show (tx z.reverse).length ≤ sizeLine; rw [tx_len, List.length_reverse]; exact hz, .str _, H4, I5.tok _, ⟨_, rfl⟩, q⟩
theorem rd_revS {te : TE} {σ : L2.St} {H : Hp} {Q : VK} (h : te σ H fun x H1 => ∃ l, x = .str (tx l) ∧ l.length ≤ sizeLine ∧ Q (.str (tx l.reverse)) H1) : tRevS te σ H Q := h
end Un

/-! UnTy: what stays where nothing but tables of code objects changes. -/
namespace Un
open PySem PySem.Spec PyProof.Rows L2
abbrev ExtN := LamX.ExtN
theorem Same.ext {H H' : Hp} (s : Same H H') : ExtN H H' := fun b o h _ => s b o h
theorem tyX_ext {K : PySem.W.Frag} {H H' : Hp} {x : V} {t : Value} (s : ExtN H H') (h : TyX K H x t) : TyX K H' x t := by
  cases h with
  | base h =>
    cases h with
    | non => exact .base .non
    | bl x => exact .base (.bl x)
    | int i => exact .base (.int i)
    | str x => exact .base (.str x)
    | flt x => exact .base (.flt x)
    | lst e => exact .base (.lst (s _ _ e fun _ z => by cases z))
    | frz e => exact .base (.frz (s _ _ e fun _ z => by cases z))
    | tup e => exact .base (.tup (s _ _ e fun _ z => by cases z))
    | dK e => exact .base (.dK (s _ _ e fun _ z => by cases z))
    | dT e => exact .base (.dT (s _ _ e fun _ z => by cases z))
    | ins e cl ha hn htk hm => exact .base (.ins (s _ _ e fun _ z => by cases z) cl ha hn htk hm)
  | byt b => exact .byt b
  | set e => exact .set (s _ _ e fun _ z => by cases z)
  | kList e c => exact .kList e c
  | kTuple e c => exact .kTuple e c
  | kDict e c => exact .kDict e c
  | fTuple e => exact .fTuple (s _ _ e fun _ z => by cases z)
  | fDict e => exact .fDict (s _ _ e fun _ z => by cases z)
theorem sqL_ext {K : PySem.W.Frag} {H H' : Hp} {a : Addr} {ys : List V} (h : SqL K H a ys) (s : ExtN H H') : SqL K H' a ys := by
  rcases h with (h | ⟨o, h⟩) | h
  · exact .inl (.inl (s _ _ h fun _ z => by cases z))
  · exact .inl (.inr ⟨o, s _ _ h fun _ z => by cases z⟩)
  · exact .inr h
theorem sqT_ext {K : PySem.W.Frag} {H H' : Hp} {a : Addr} {ys : List V} (h : SqT K H a ys) (s : ExtN H H') : SqT K H' a ys := by
  rcases h with (h | ⟨o, h⟩) | h
  · exact .inl (.inl (s _ _ h fun _ z => by cases z))
  · exact .inl (.inr ⟨o, s _ _ h fun _ z => by cases z⟩)
  · exact .inr h
mutual
theorem Dp.ext {K : PySem.W.Frag} {H H' : Hp} (s : ExtN H H') : ∀ {v : V} {d : PyData}, Dp K H v d → Dp K H' v d
  | _, _, .non => .non
  | _, _, .bl b => .bl b
  | _, _, .int i => .int i
  | _, _, .str x => .str x
  | _, _, .lst h t => .lst (sqL_ext h s) (DpAll.ext s t)
  | _, _, .tup h t => .tup (sqT_ext h s) (DpAll.ext s t)
theorem DpAll.ext {K : PySem.W.Frag} {H H' : Hp} (s : ExtN H H') : ∀ {vs : List V} {ds : List PyData}, DpAll K H vs ds → DpAll K H' vs ds
  | _, _, .nil => .nil
  | _, _, .cons h t => .cons (Dp.ext s h) (DpAll.ext s t)
end
theorem all_good {z w : Nat} : ∀ {ds : List PyData}, (∀ d ∈ ds, GoodZ z w d) → PyData.showableAll ds = true ∧ PyData.hasDictAll ds = false ∧ PyData.depthAll ds ≤ z ∧ PyData.leavesShortAll 62 ds = true ∧ PyData.weightAll ds ≤ (w + 1) * ds.length
  | [], _ => ⟨rfl, rfl, Nat.zero_le _, rfl, Nat.zero_le _⟩
  | d :: r, h => by
    obtain ⟨h1, h2, h3, h4, h5⟩ := all_good (ds := r) fun e he => h e (List.mem_cons_of_mem _ he)
    have g := h d List.mem_cons_self
    have gz := g.z
    have gw := g.w
    refine ⟨?_, ?_, ?_, ?_, ?_⟩
    · simp only [PyData.showableAll, g.s, h1, Bool.and_true]
    · simp only [PyData.hasDictAll, g.n, h2, Bool.or_false]
    · simp only [PyData.depthAll]
      omega
    · simp only [PyData.leavesShortAll, g.l, h4, Bool.and_true]
    · simp only [PyData.weightAll, List.length_cons]
      have e : (w + 1) * (r.length + 1) = (w + 1) * r.length + (w + 1) := by rw [Nat.mul_add, Nat.mul_one]
      omega
theorem list_good {z w : Nat} {ds : List PyData} (h : ∀ d ∈ ds, GoodZ z w d) : GoodZ (z + 1) ((w + 1) * ds.length + 1) (.list ds) := by
  obtain ⟨h1, h2, h3, h4, h5⟩ := all_good h
  refine ⟨?_, ?_, ?_, ?_, ?_⟩
  · simp only [PyData.showable, h1]
  · simp only [PyData.hasDict, h2]
  · simp only [PyData.depth]
    omega
  · simp only [PyData.leavesShort, h4]
  · simp only [PyData.weight]
    omega
theorem tup_good {z w : Nat} {ds : List PyData} (h : ∀ d ∈ ds, GoodZ z w d) : GoodZ (z + 1) ((w + 1) * ds.length + 1) (.tuple ds) := by
  obtain ⟨h1, h2, h3, h4, h5⟩ := all_good h
  refine ⟨?_, ?_, ?_, ?_, ?_⟩
  · simp only [PyData.showable, h1]
  · simp only [PyData.hasDict, h2]
  · simp only [PyData.depth]
    omega
  · simp only [PyData.leavesShort, h4]
  · simp only [PyData.weight]
    omega
theorem non_good : GoodZ 0 0 .none := ⟨rfl, rfl, by decide +kernel, rfl, by decide +kernel⟩
theorem one_mem {α : Type} {P : α → Prop} {a : α} (h : P a) : ∀ x ∈ [a], P x := fun x hx => by rw [List.mem_singleton.mp hx]; exact h
theorem two_mem {α : Type} {P : α → Prop} {a b : α} (h : P a) (k : P b) : ∀ x ∈ [a, b], P x := fun x hx => by
  rcases List.mem_cons.mp hx with e | hx
  · rw [e]
    exact h
  · rw [List.mem_singleton.mp hx]
    exact k
theorem lay_all : ∀ {ds : List PyData}, (∀ d ∈ ds, d.canLay0 = true) → PyData.canLayAll0 ds = true
  | [], _ => by simp only [PyData.canLayAll0]
  | d :: r, h => by
    simp only [PyData.canLayAll0, h d List.mem_cons_self, lay_all (ds := r) fun e he => h e (List.mem_cons_of_mem _ he), Bool.and_true]
theorem lay_list {ds : List PyData} (h : ∀ d ∈ ds, d.canLay0 = true) : (PyData.list ds).canLay0 = true := by simp only [PyData.canLay0, lay_all h]
theorem lay_tup {ds : List PyData} (h : ∀ d ∈ ds, d.canLay0 = true) : (PyData.tuple ds).canLay0 = true := by simp only [PyData.canLay0, lay_all h]
theorem lay_str {l : List Nat} (h : ∀ c ∈ l, c < 1000) : (PyData.str (tx l)).canLay0 = true := by
  simp only [PyData.canLay0, PyData.strOk]
  rw [← Array.all_toList, tx_cps, List.all_eq_true]
  exact fun c hc => decide_eq_true (by have := h c hc; omega)
theorem shaped_good {z w : Nat} {d : PyData} (g : GoodZ z w d) (hz : z ≤ 64) (h : d.canLay0 = true) : SeqAt.shaped d = true := by
  unfold SeqAt.shaped
  rw [h, Bool.true_and]
  exact decide_eq_true (Nat.le_trans g.z hz)
theorem dpAll_app {K : PySem.W.Frag} {H : Hp} : ∀ {vs ws : List V} {ds es : List PyData}, DpAll K H vs ds → DpAll K H ws es → DpAll K H (vs ++ ws) (ds ++ es)
  | _, _, _, _, .nil, b => b
  | _, _, _, _, .cons h t, b => .cons h (dpAll_app t b)
theorem dpAll_take {K : PySem.W.Frag} {H : Hp} : ∀ {vs : List V} {ds : List PyData} (n : Nat), DpAll K H vs ds → DpAll K H (vs.take n) (ds.take n)
  | _, _, 0, _ => .nil
  | _, _, n + 1, .nil => .nil
  | _, _, n + 1, .cons h t => .cons h (dpAll_take n t)
theorem dpAll_drop {K : PySem.W.Frag} {H : Hp} : ∀ {vs : List V} {ds : List PyData} (n : Nat), DpAll K H vs ds → DpAll K H (vs.drop n) (ds.drop n)
  | _, _, 0, h => h
  | _, _, n + 1, .nil => .nil
  | _, _, n + 1, .cons h t => dpAll_drop n t
end Un

set_option maxHeartbeats 2000000
/-! UnCm: classmethods in bundles; cls(..) within one; bool(o) by an own method. -/
namespace Un
open PySem PySem.Spec PyProof.Rows L2
/-- a classmethod of the class at C, as it stands, its defaults' values told -/
def AtCm (K : PySem.W.Frag) (C : Addr) (m qual : Str) (st : Stmt) (dvs : List V) : Prop :=
  ∃ (p g : Addr) (fd : FuncData), FunD K m qual (defArgs st) (defBody st) (defScope st) dvs [] g fd ∧ ClX.CRead K C (.type "type") ∧ ClX.CMet K C (.type "type") m p g
/-- an __init__ without defaults -/
def AtI0 (K : PySem.W.Frag) (C : Addr) (m qual : Str) (st : Stmt) (ps : List Str) : Prop := ∃ (f : Addr) (fd : FuncData), Fun K m qual st f fd ∧ L2.Mk K C f ∧ Binds K fd ps []
/-- the same as a promise of what stands behind the class -/
def CmG (P : Program) (w : World) (K : PySem.W.Frag) (mg : Str → Option Value) (base : Heap) (CX : CXT) (C : Addr) (m : Str) (k : Nat) (sp : Sp) : Prop :=
  ∃ p g : Addr, ClX.CRead K C (.type "type") ∧ ClX.CMet K C (.type "type") m p g ∧ FnR P w K mg base CX k g sp
def cmB (K : PySem.W.Frag) (C : Addr) (m : Str) (p g : Addr) : Bool :=
  (match PySem.W.findCls K (.ref C) (.type "type") m with
    | some (.get (.builtin i) (.ref q) .none (.ref D)) => decide (i = "classmethod.__get__") && (decide (q = p) && decide (D = C))
    | _ => false) && ((match PySem.W.recIn K p "classmethod" with
    | some (.ref d :: _) => decide (d = g)
    | _ => false) && PySem.W.fnIn K g)
theorem cmB_ok {K : PySem.W.Frag} {C : Addr} {m : Str} {p g : Addr} (b : cmB K C m p g = true) : ClX.CMet K C (.type "type") m p g := by
  obtain ⟨b1, b⟩ := Bool.and_eq_true_iff.mp b
  obtain ⟨b2, b3⟩ := Bool.and_eq_true_iff.mp b
  refine ⟨?_, ?_, b3⟩
  · clear b b2
    split at b1
    · rename_i i q D e
      obtain ⟨c1, c⟩ := Bool.and_eq_true_iff.mp b1
      obtain ⟨c2, c3⟩ := Bool.and_eq_true_iff.mp c
      rw [e, of_decide_eq_true c1, of_decide_eq_true c2, of_decide_eq_true c3]
    · cases b1
  · split at b2
    · rename_i d r e
      exact ⟨r, by rw [e, of_decide_eq_true b2]⟩
    · cases b2
def crB (K : PySem.W.Frag) (C : Addr) : Bool := PySem.W.readsIn K C (.type "type") && (match PySem.W.specialIn K (.ref C) "__getattribute__" with
  | some (some (.builtin i)) => decide (i = "type.__getattribute__")
  | _ => false)
theorem crB_ok {K : PySem.W.Frag} {C : Addr} (b : crB K C = true) : ClX.CRead K C (.type "type") := by
  obtain ⟨b1, b2⟩ := Bool.and_eq_true_iff.mp b
  refine ⟨b1, ?_⟩
  split at b2
  · rename_i i e
    rw [e, of_decide_eq_true b2]
  · cases b2
section
variable {P : Program} {w : World} {K : PySem.W.Frag} {mg : Str → Option Value} {base : Heap} {C : Addr} {m qual : Str} {st : Stmt} {ps : List Str} {k : Nat} {sp : Sp} {CX : CXT}
/-- every parameter written -/
theorem cmG_of (a : AtCm K C m qual st []) (hb : ∀ (kV doc pm : Value) (an : Option Addr) (cdv ct : Value) (us : List Value), us.length = ps.length → bindArgs (PySem.W.fnOf m qual (defArgs st) (defBody st) (defScope st) .none kV doc pm an cdv ct) ⟨us, []⟩ = pure (ps.zip us))
    (h : ∀ f fd, FunD K m qual (defArgs st) (defBody st) (defScope st) [] [] f fd → FnOk P w K mg base CX k f fd ps sp) : CmG P w K mg base CX C m k sp := by
  obtain ⟨p, g, fd, F, r, c⟩ := a
  exact ⟨p, g, r, c, ((h g fd F).raw (F.bindsN hb) .nil).imp fun vs H Q E q => by rw [List.append_nil]; exact q⟩
/-- one default; n values are written -/
theorem cmG_ofD {d : V} (a : AtCm K C m qual st [d]) (n j : Nat) (hn : n + (1 - j) = ps.length)
    (hb : ∀ (T : Addr) (kV doc pm : Value) (an : Option Addr) (cdv ct : Value) (us its : List Value), us.length = n → its.length = 1 →
      ∃ kk, bindArgs (PySem.W.fnOf m qual (defArgs st) (defBody st) (defScope st) (.ref T) kV doc pm an cdv ct) ⟨us, []⟩ = seqItems? (.ref T) >>= kk ∧ kk (some its.toArray) = pure (ps.zip (us ++ its.drop j)))
    (h : ∀ f fd, FunD K m qual (defArgs st) (defBody st) (defScope st) [d] [] f fd → FnOk P w K mg base CX k f fd ps sp) : CmG P w K mg base CX C m k fun vs H Q E => sp (vs ++ [d].drop j) H Q E := by
  obtain ⟨p, g, fd, F, r, c⟩ := a
  obtain ⟨ds, v, b⟩ := F.binds1 (ps := ps) n j (by simp) hn hb
  exact ⟨p, g, r, c, (h g fd F).raw b v⟩
end
/-! ### C.m(e, ..), within try too -/
def tCmS (C : Addr) (sp : Sp) (E : L2.St → XK) (ta : TE) (t : TA) : TE := fun σ H Q => ta σ H fun x H1 => x = .ref C ∧ t σ H1 fun vs H2 => sp (.ref C :: vs) H2 Q (E σ)
section
variable {X : Cx} {CX : CXT} {k j : Nat} {C p g : Addr} {sp : Sp} {E : L2.St → XK} {o e : Expr} {es : List Expr} {m : Str} {pos apos : Pos} {ta : TE} {t : TA} {pl : Sem Bool}
theorem run_cmS {pins : List (Addr × Obj)} {σ : L2.St} {H : Hp} {s : Shared} {q : Addr} {Q : VK} {us : List Value} {vs : List V} (F : FnR X.prog X.w X.K X.mg X.base CX k g sp) (hr : Room k X.A) (hx : PassesAt CX X σ (E σ)) (I : Inv X ((q, PySem.W.methodObj (.ref g) (.ref C)) :: pins) σ H s)
    (r : Vals vs us) (h : sp (.ref C :: vs) H Q (E σ)) : wpAny (model X.prog X.w) X.A (call (.ref q) us) (EP X pins σ Q) X.xe s := by
  have r2 : Vals (V.ref C :: vs) (Value.ref C :: us) := .cons rfl r
  have body : codeAny (model X.prog X.w) X.A (.call (.ref g) ⟨.ref C :: us, []⟩) (fun a s' => match a with | .ok (.ret v) => EP X pins σ Q v s' | .ok _ => False | .error e => X.xe e s') s := by
    refine codeAny_mono (F X.A X.stack s H _ _ Q (E σ) hr I.env0 r2 h) fun a s' ha => ?_
    match a, ha with
    | .error e, ha => exact hx _ H s e s' I ha
    | .ok (.ret u), ha => exact ClX.unpinE (I.after ha)
    | .ok .next, ha => exact ha.elim
    | .ok .brk, ha => exact ha.elim
    | .ok .cont, ha => exact ha.elim
  exact wpAny_call (PySem.W.method_call (ClX.pin_at I) body)
theorem pe_cmS (c : CmG X.prog X.w X.K X.mg X.base CX C m k sp) (hr : Room j X.A) (hk : k ≤ j) (hx : ∀ σ, PassesAt CX X σ (E σ)) (he : PE X o ta) (ha : PA X (e :: es) t)
    (hst : starEach (e :: es) X.env = (false, eval e X.env) :: starEach es X.env := by rfl) (hpl : (backTo pos (starEach es X.env)).any (·.1) = false := by rfl)
    (ht : eval (.Call (.Attribute o m apos) (e :: es) [] pos) X.env = (do let ov ← eval o X.env; standAt apos.atName; let (f, first) ← holding [ov] (getMethod ov m pl); callWith pos f first (backTo pos (starEach (e :: es) X.env)) (backToKw pos (keywordEach [] X.env))) := by rfl) :
    PE X (.Call (.Attribute o m apos) (e :: es) [] pos) (tCmS C sp E ta t) := by
  obtain ⟨p, g, r, c, F⟩ := c
  refine ⟨fun pins s σ H Q I h => ?_⟩
  refine PySem.W.methodCall_KW (pl := pl) (thn (he.run pins s σ H _ I h) fun u s1 w1 => ?_) ht
  obtain ⟨x, H1, I1, rx, rfl, q⟩ := w1
  cases (show u = Value.ref C from rx)
  refine ClX.getmethcm_ok I1 r c fun s2 I2 => ?_
  refine ClX.callwith_cm I2 (ClX.base_none I1 (Nat.le_refl _)) c.fi (thn (ha.run pos _ s2 σ H1 _ I2 q) fun us s3 w2 => ?_) hst hpl
  obtain ⟨vs, H2, I3, rv, q2⟩ := w2
  exact ⟨⟨ClX.pin_at I3, I3.kIn⟩, run_cmS F (hr.mono hk) (hx σ) I3 rv q2⟩
end
/-! ### cls(e, ..), the class in a slot -/
def tMakeL (i : Nat) (C : Addr) (sp : Sp) (dvs : List V) (E : XK) (t : TA) : TE := fun σ H Q => σ[i]? = some (some (.ref C)) ∧ tMake C sp dvs E t σ H Q
section
variable {X : Cx} {k j i : Nat} {C : Addr} {sp : Sp} {dvs : List V} {x nm : Str} {p pos : Pos} {e : Expr} {es : List Expr} {t : TA}
theorem pe_mkL (g : MakD X.prog X.w X.K X.mg X.base nm C k sp dvs) (hr : Room j X.A) (hk : k + 1 ≤ j) (hN : X.N[i]? = some x) (hv : Vis X.env.scope x) (ha : PA X (e :: es) t)
    (hdb : (x == ("__debug__" : Str)) = false := by decide) (hcd : (x == ("__classdict__" : Str)) = false := by decide)
    (he : starEach (e :: es) X.env = (false, eval e X.env) :: starEach es X.env := by rfl) (hpl : (backTo pos (starEach es X.env)).any (·.1) = false := by rfl) : PE X (.Call (.Name x p) (e :: es) [] pos) (tMakeL i C sp dvs E0 t) := by
  obtain ⟨f, fd, ps, ds, M, F, hm, b, d⟩ := g
  refine ⟨fun pins s σ H Q I h => ?_⟩
  obtain ⟨hs, h⟩ := h
  refine wpAny_Call_Name_kw (thn ((pe_var (pos := p) hN hv hdb hcd).run pins s σ H (fun v H1 => v = .ref C ∧ H1 = H) I ⟨.ref C, hs, rfl, rfl⟩) fun u s1 w1 => ?_)
  obtain ⟨v, H1, I1, r1, rfl, rfl⟩ := w1
  cases r1
  refine PySem.W.callWith_K (h₀ := X.base) I.ok.mod.kin M.kp (thn (ha.run pos pins s1 σ _ _ I1 h) fun us s2 w2 => ?_) he hpl
  obtain ⟨vs, H2, I2, r, q⟩ := w2
  exact ⟨I2.kIn, run_make M F (hr.mono hk) b d pass0 I2 r q⟩
theorem rd_makeL {σ : L2.St} {H : Hp} {Q : VK} {E : XK} (hs : σ[i]? = some (some (.ref C))) (h : tMake C sp dvs E t σ H Q) : tMakeL i C sp dvs E t σ H Q := ⟨hs, h⟩
end
theorem rd_cmS {C : Addr} {sp : Sp} {E : L2.St → XK} {ta : TE} {t : TA} {σ : L2.St} {H : Hp} {Q : VK} (h : ta σ H fun x H1 => x = .ref C ∧ t σ H1 fun vs H2 => sp (.ref C :: vs) H2 Q (E σ)) : tCmS C sp E ta t σ H Q := h
theorem rd_refl {v : V} {R : Prop} (q : R) : v = v ∧ R := ⟨rfl, q⟩
/-! ### bool(o) by the own __bool__ -/
theorem bool_new_own {prog : Program} {w : World} (a : Addr) : MeetsIn prog w (Builtin.«bool.__new__» ⟨[.type "bool", .ref a], []⟩) (fun A R s => wpAny (model prog w) A.in1 (truthy (.ref a)) (fun b s' => R (.ok (.ret (.bool b))) s') (fun e s' => R (.error e) s') s) :=
  .of_wp fun A R s hs => by
    obtain ⟨hp, g, d, tk, os⟩ := s
    have f1 := F.conv_sub_bool
    repeat (any_goals (first | assumption | (refine wpAny_bind (m := truthy (.ref a)) (wpAny_mono hs (fun b s' hb => ?_) fun _ _ e => e)) | wp_step))
    all_goals first | exact ⟨_, rfl, by assumption⟩ | skip
section
variable {X : Cx} {CX : CXT} {k : Nat} {C f : Addr} {fd : FuncData} {ps : List Str} {sp : Sp} {E : XK}
theorem run_in2 {pins : List (Addr × Obj)} {σ : L2.St} {H : Hp} {s : Shared} {Q : VK} {us : List Value} {vs : List V} (F : FnOk X.prog X.w X.K X.mg X.base CX k f fd ps sp) (hr : Room (k + 2) X.A) (hb : Binds X.K fd ps []) (hx : Passes CX X E)
    (I : Inv X pins σ H s) (r : Vals vs us) (h : sp vs H Q E) : wpAny (model X.prog X.w) X.A.in1.in1 (call (.ref f) us) (EP X pins σ Q) X.xe s := by
  have hl : us.length = ps.length := by
    rw [← r.length]
    exact F.len _ _ _ _ h
  have bd := hb s us I.kIn (by simpa using hl)
  rw [List.append_nil] at bd
  refine wpAny_call (codeAny_mono (F.run X.A.in1.in1 X.stack s H ⟨us, []⟩ us vs Q E hr.in1.in1 I.env0.in1.in1 bd r h) fun q s' hq => ?_)
  match q, hq with
  | .error e, hq => exact hx pins σ H s e s' I hq
  | .ok (.ret u), hq => exact I.after hq
  | .ok .next, hq => exact hq.elim
  | .ok .brk, hq => exact hq.elim
  | .ok .cont, hq => exact hq.elim
/-- bool(o), bool(a truth value) -/
def rBoolO (C : Addr) (sp : Sp) (E : XK) : List V → Hp → VK → Prop := fun xs H Q => ∃ a dx fs, xs = [.ref a] ∧ H a = some (.ins C dx fs) ∧ sp [.ref a] H (fun r H' => ∃ b, r = .bl b ∧ Q (.bl b) H') E
def rBoolB : List V → Hp → VK → Prop := fun xs H Q => ∃ b, xs = [.bl b] ∧ Q (.bl b) H
theorem call_boolB : CallR X (.type "bool") rBoolB := fun pins s σ H xs us Q I r h => call_bool1 pins s σ H xs us Q I r (.inr h)
theorem call_boolO (hm : Meth X.K C "__bool__" f) (F : FnOk X.prog X.w X.K X.mg X.base CX k f fd ps sp) (hr : Room (k + 2) X.A) (hb : Binds X.K fd ps []) (hx : Passes CX X E) : CallR X (.type "bool") (rBoolO C sp E) := by
  intro pins s σ H xs us Q I r h
  obtain ⟨a, dx, fs, rfl, ha, h⟩ := h
  obtain ⟨u, rfl, ru⟩ := vals1 r
  cases (show u = Value.ref a from ru)
  obtain ⟨mA, O, _⟩ := ins_get I.hok ha
  obtain ⟨od, J, _⟩ := O.look
  obtain ⟨m, hF⟩ := I.fr
  refine callType_newIn PySem.F.called_bool PySem.F.newNe_bool (PySem.F.typeCall_bool_1 _) (PySem.F.newCall_bool_1 _) (fun obj => PySem.F.args_object_init_2 obj _) PySem.F.entry_bool_new (bool_new_own a) ?_
  refine PySem.W.truthy_K hF I.ok.mod.kin J hm.at_ hm.fn (wpAny_mono (run_in2 F hr hb hx I (show Vals [V.ref a] [Value.ref a] from .cons rfl .nil) h) (fun v s' hs => ?_) fun _ _ e => e)
  obtain ⟨z, H', I', rz, b, rfl, q⟩ := hs
  cases (show v = Value.bool b from rz)
  exact ⟨rfl, .bl b, H', I', rfl, q⟩
end
section
variable {X : Cx} {k j : Nat} {C : Addr} {ps : List Str} {sp : Sp}
theorem bool_G (g : MetG X.prog X.w X.K X.mg X.base CX0 C "__bool__" ps k sp) (hr : Room j X.A) (hk : k + 2 ≤ j) : CallR X (.type "bool") (rBoolO C sp E0) := by
  obtain ⟨f, fd, c, M, F, i, b⟩ := g
  exact call_boolO M F (hr.mono hk) b pass0
end
/-- x.endswith(y) -/
theorem ends_tx (a b : List Nat) : Txt.endswith (tx a) (tx b) = decide (b.length ≤ a.length ∧ a.drop (a.length - b.length) = b) := by
  unfold Txt.endswith Builtin.Str.subAt
  rw [tx_len, tx_len, Nat.zero_add, Bool.eq_iff_iff, Bool.and_eq_true, decide_eq_true_eq, beq_iff_eq, decide_eq_true_eq]
  refine and_congr_right fun h => ?_
  rw [← Array.toList_inj]
  have e : a.length - b.length + b.length = a.length := Nat.sub_add_cancel h
  simp [tx, List.extract_eq_take_drop, h]
  rw [List.take_of_length_le (by rw [List.length_drop]; exact Nat.le_refl _)]
def rEndX : V → List V → Hp → VK → Prop := fun x xs H Q => ∃ a b : List Nat, x = .str (tx a) ∧ xs = [.str (tx b)] ∧ Q (.bl (decide (b.length ≤ a.length ∧ a.drop (a.length - b.length) = b))) H
theorem mt_endX {X : Cx} : MtR X "str.endswith" rEndX := by
  intro pins s σ H x xs v us Q I rx rs h
  obtain ⟨a, b, rfl, rfl, q⟩ := h
  exact mt_endswith pins s σ H _ _ v us Q I rx rs ⟨_, _, rfl, rfl, by rw [ends_tx]; exact q⟩
theorem rd_endX {H : Hp} {Q : VK} {a b : List Nat} (q : Q (.bl (decide (b.length ≤ a.length ∧ a.drop (a.length - b.length) = b))) H) : rEndX (.str (tx a)) [.str (tx b)] H Q := ⟨a, b, rfl, rfl, q⟩
theorem rd_boolB {H : Hp} {Q : VK} {b : Bool} (q : Q (.bl b) H) : rBoolB [.bl b] H Q := ⟨b, rfl, q⟩
end Un

/-! UnDb: dicts whose keys are truth values. -/
namespace Un
open PySem PySem.Spec PyProof.Rows L2
/-- the dict at a with these truth values for keys -/
def DB (P : Program) (w : World) (a : Addr) (kvs : List (Bool × V)) : HO :=
  .ext fun h => kvs.length ≤ sizeLine ∧ (a == sysModules) = false ∧ ∃ vs : List (Bool × Value), KV kvs vs ∧ h.DictOf (PpSet.boolK P w) a vs
theorem db_ok {P : Program} {w : World} {H : Hp} {h : Heap} {a : Addr} {kvs : List (Bool × V)} {vs : List (Bool × Value)} (z : kvs.length ≤ sizeLine) (hd : (a == sysModules) = false) (r : KV kvs vs) (dd : h.DictOf (PpSet.boolK P w) a vs) : ObjOk P w H h a (DB P w a kvs) := by
  refine ⟨⟨z, hd, vs, r, dd⟩, ?_, fun h1 h2 ⟨q1, q2, us, q3, q4⟩ k => ⟨q1, q2, us, q3, ?_⟩⟩
  · obtain ⟨o, _, _, e, _⟩ := dd
    exact ⟨o, e⟩
  · obtain ⟨o, es, ep, e, rest⟩ := q4
    exact ⟨o, es, ep, k o e, rest⟩
section
variable {X : Cx} {pins : List (Addr × Obj)} {σ : L2.St} {H : Hp} {s : Shared} {a : Addr} {kvs : List (Bool × V)} {b : Bool} {v : V} {r : Value} {A : Around} {E : Value → Shared → Prop}
theorem db_of (I : Inv X pins σ H s) (e : H a = some (DB X.prog X.w a kvs)) : kvs.length ≤ sizeLine ∧ (a == sysModules) = false ∧ ∃ vs : List (Bool × Value), KV kvs vs ∧ s.heap.DictOf (PpSet.boolK X.prog X.w) a vs :=
  (show ObjOk X.prog X.w H s.heap a (DB X.prog X.w a kvs) from I.hok a _ e).1
theorem db_get {Q : Value → Shared → Prop} (I : Inv X pins σ H s) (e : H a = some (DB X.prog X.w a kvs)) (hv : valV kvs b = some v) (h : ∀ u s', Inv X pins σ H s' → RelV v u → Q u s') :
    wpAny (model X.prog X.w) A (getItem (.ref a) (.bool b)) Q E s := by
  obtain ⟨_, _, vs, rel, dd⟩ := db_of I e
  obtain ⟨u, hu, ru⟩ := RelO.some_of (v := v) (o := valueAt vs b) (by rw [← hv]; exact rel.val b)
  exact wpAny_getItem_of (PpSet.boolK_is X.prog X.w b) dd.mapOf hu (h u _ (I.tok _) ru)
theorem db_notIn {Q : Value → Shared → Prop} (I : Inv X pins σ H s) (e : H a = some (DB X.prog X.w a kvs)) (h : ∀ s', Inv X pins σ H s' → Q (.bool (!(valV kvs b).isSome)) s') :
    wpAny (model X.prog X.w) A (compareOp .NotIn (.bool b) (.ref a)) Q E s := by
  obtain ⟨_, hd, vs, rel, dd⟩ := db_of I e
  refine wpAny_notIn_of (PpSet.boolK_is X.prog X.w b) hd dd.mapOf ?_
  rw [← (rel.val b).isSome_eq]
  exact h _ (I.tok _)
theorem db_put {Q : Unit → Shared → Prop} (I : Inv X pins σ H s) (e : H a = some (DB X.prog X.w a kvs)) (hl : kvs.length < sizeLine) (rv : RelV v r) (h : ∀ s', Inv X pins σ (upd H a (DB X.prog X.w a (putK kvs b v))) s' → Q () s') :
    wpAny (model X.prog X.w) A (setItem (.ref a) (.bool b) r) Q E s := by
  obtain ⟨z, hd, vs, rel, dd⟩ := db_of I e
  have hz : vs.length ≤ sizeLine := by
    rw [← rel.length]
    exact z
  have hl2 : (putK kvs b v).length ≤ sizeLine := by
    have := length_putK kvs b v
    omega
  refine wpAny_setItem_pairs (hsz := hz) (PpSet.boolK_is X.prog X.w b) dd fun h' dd' hs => h _ ?_
  obtain ⟨q, es, ep, hq, rest⟩ := id dd'
  exact d_write I (by rw [e]; trivial) hs ⟨q, hq⟩ (db_ok hl2 hd (rel.put b rv) dd')
theorem db_len {Q : Value → Shared → Prop} (I : Inv X pins σ H s) (e : H a = some (DB X.prog X.w a kvs)) (h : ∀ t s', Inv X pins σ H s' → Q (.int (kvs.length : Nat) t) s') :
    wpAny (model X.prog X.w) A (call (.builtin "len") [.ref a]) Q E s := by
  obtain ⟨z, hd, vs, rel, dd⟩ := db_of I e
  rw [sizeLine_eq] at z
  refine call_len_dict hd dd (by rw [← rel.length]; omega) ?_
  rw [← rel.length]
  exact h _ _ (I.tok _)
end
/-! ### the words -/
def tNewB (P : Program) (w : World) : TE := fun _ H Q => ∀ p, H p = none → Q (.ref p) (upd H p (DB P w p []))
def tGetB (P : Program) (w : World) (td ty : TE) : TE := fun σ H Q => td σ H fun x H1 => ty σ H1 fun y H2 => ∃ a b kvs v, x = .ref a ∧ y = .bl b ∧ H2 a = some (DB P w a kvs) ∧ valV kvs b = some v ∧ Q v H2
def rNotInB (P : Program) (w : World) : R2 := fun y x H Q => ∃ a b kvs, x = .ref a ∧ y = .bl b ∧ H a = some (DB P w a kvs) ∧ Q (.bl (!(valV kvs b).isSome)) H
def tSetB (P : Program) (w : World) : TSet := fun x y v H Q => ∃ a b kvs, x = .ref a ∧ y = .bl b ∧ H a = some (DB P w a kvs) ∧ kvs.length < sizeLine ∧ Q (upd H a (DB P w a (putK kvs b v)))
def rLenB (P : Program) (w : World) : List V → Hp → VK → Prop := fun xs H Q => ∃ a kvs, xs = [.ref a] ∧ H a = some (DB P w a kvs) ∧ Q (.int (kvs.length : Nat)) H
section
variable {X : Cx} {o i : Expr} {pos : Pos} {td ty : TE}
theorem op_notInB : OpR X (compareOp .NotIn) (rNotInB X.prog X.w) := fun pins s σ H x y u r Q I ru rr h => by
  obtain ⟨a, b, kvs, rfl, rfl, e, q⟩ := h
  cases (show u = Value.bool b from ru)
  cases (show r = Value.ref a from rr)
  exact db_notIn I e fun s' I' => ⟨.bl (!(valV kvs b).isSome), H, I', rfl, q⟩
theorem set_B : PSet X (tSetB X.prog X.w) := fun pins s σ H x y v ux uy uv Q I rx ry rv h => by
  obtain ⟨a, b, kvs, rfl, rfl, e, hl, q⟩ := h
  cases (show ux = Value.ref a from rx)
  cases (show uy = Value.bool b from ry)
  exact db_put I e hl rv fun s' I' => ⟨_, I', q⟩
theorem call_lenB : CallR X (.builtin "len") (rLenB X.prog X.w) := fun pins s σ H xs us Q I r h => by
  obtain ⟨a, kvs, rfl, e, q⟩ := h
  cases r with
  | cons r rr =>
    cases rr
    cases (show _ = Value.ref a from r)
    exact db_len I e fun t s' I' => ⟨.int (kvs.length : Nat), H, I', ⟨t, rfl⟩, q⟩
theorem pe_getB {P : Program} {w : World} (hP : X.prog = P) (hw : X.w = w) (ho : PE X o td) (hi : PE X i ty) (hs : NoSl i) : PE X (.Subscript o i pos) (tGetB P w td ty) := by
  subst hP hw
  refine ⟨fun pins s σ H Q I h => ?_⟩
  refine subD_of PySem.F.slot_dict_getitem.lookup hs (thn (ho.run pins s σ H _ I h) fun u s1 ⟨x, H1, I1, rx, q1⟩ => thn (hi.run pins s1 σ H1 _ I1 q1) fun iv s2 ⟨y, H2, I2, ry, a, b, kvs, v, ex, ey, e, hv, q2⟩ => ?_)
  subst ex ey
  cases (show u = Value.ref a from rx)
  cases (show iv = Value.bool b from ry)
  obtain ⟨_, _, vs, _, dd⟩ := db_of I2 e
  exact ⟨dd.typeIs, db_get I2 e hv fun w' s3 I3 rw' => ⟨v, H2, I3, rw', q2⟩⟩
theorem pe_newB : PE X (.Dict [] [] pos) (tNewB X.prog X.w) := ⟨fun pins s σ H Q I h => by
  refine wpAny_Dict_empty ⟨.ref s.heap.objs.size, upd H s.heap.objs.size (DB X.prog X.w s.heap.objs.size []), ?_, rfl, h _ (I.hok.fresh (Nat.le_refl _))⟩
  exact I.laid (t' := s.toks) (fun _ _ q => Heap.get?_push_of_some _ q) (Nat.le_refl _) (db_ok (Nat.zero_le _) (beq_eq_false_iff_ne.mpr (Ne.symm (Nat.ne_of_lt I.big))) .nil (Heap.DictOf.new s.heap))⟩
end
section
variable {P : Program} {w : World} {σ : L2.St} {H : Hp} {Q : VK} {a : Addr} {b : Bool} {kvs : List (Bool × V)} {v : V}
theorem rd_newB (q : ∀ p, H p = none → Q (.ref p) (upd H p (DB P w p []))) : tNewB P w σ H Q := q
theorem rd_getB {td ty : TE} (h : td σ H fun x H1 => ty σ H1 fun y H2 => ∃ a b kvs v, x = .ref a ∧ y = .bl b ∧ H2 a = some (DB P w a kvs) ∧ valV kvs b = some v ∧ Q v H2) : tGetB P w td ty σ H Q := h
theorem rd_notInB (e : H a = some (DB P w a kvs)) (q : Q (.bl (!(valV kvs b).isSome)) H) : rNotInB P w (.bl b) (.ref a) H Q := ⟨a, b, kvs, rfl, rfl, e, q⟩
theorem rd_setB {Q : Hp → Prop} (e : H a = some (DB P w a kvs)) (hl : kvs.length < sizeLine) (q : Q (upd H a (DB P w a (putK kvs b v)))) : tSetB P w (.ref a) (.bl b) v H Q := ⟨a, b, kvs, rfl, rfl, e, hl, q⟩
theorem rd_disp1 {tk tv : TE} (h : ∀ p, H p = none → tk σ (upd H p (.dK [])) fun x H1 => tv σ H1 fun y H2 => H2 p = some (.dK []) ∧ ∃ kvs : List (Key × V), [(x, y)] = kvs.map (fun kv => (kV kv.1, kv.2)) ∧ kvs.length ≤ 15 ∧ Q (.ref p) (upd H2 p (.dK (mergeK [] kvs)))) : tDisp [(tk, tv)] σ H Q := h
theorem rd_dnewT (h : ∀ p, H p = none → Q (.ref p) (upd H p (.dT []))) : tDNewT σ H Q := h
theorem rd_lenB (e : H a = some (DB P w a kvs)) (q : Q (.int (kvs.length : Nat)) H) : rLenB P w [.ref a] H Q := ⟨a, kvs, rfl, e, q⟩
end
end Un

/-! UnHotI: the ends of iterators while an exception is handled. -/
namespace UnH
open PySem PySem.Spec PyProof.Rows L2 HotX
section
variable {prog : Program} {w : World} {A : Around} {s : Shared} {x1 : Addr}
/-- a new StopIteration goes up, whose context is the handled exception -/
theorem stop_up {α : Type} {Q : α → Shared → Prop} {E : Value → Shared → Prop} (hot : HotAt A x1 s.heap)
    (up : ∀ (e : Addr) (h' : Heap), (∀ b o, s.heap.get? b = some o → h'.get? b = some o) → (∃ o, h'.get? e = some o ∧ o.cls = .type "StopIteration") → E (.ref e) { s with heap := h' }) :
    wpAny (model prog w) A (do raiseNew (← newExc (.type "StopIteration") []) : Sem α) Q E s := by
  obtain ⟨hh, o1, vs1, g1, d1, c1⟩ := hot
  refine wpAny_bind ?_; simp only [newExc, newTuple]
  refine wpAny_bind (wpAny_newObj_type (wpAny_bind (m := firstArgMember _ _) (wpAny_of_eq (a := Value.none) (by first | rfl | (simp only [firstArgMember]; rfl)) (wpAny_newObj_type ?_ (by size_fits)))) (by size_fits))
  have g2 := Heap.get?_push_of_some { cls := .type "tuple", data := .seq ([] : List Value).toArray } g1
  refine raiseNew_hot ⟨hh, o1, vs1, Heap.get?_push_of_some _ g2, d1, c1⟩ (Nat.ne_of_lt (Heap.lt_size g2)) (Heap.get?_push_size _ rfl) rfl (by first | (simp; done) | (simp; omega) | (simp only [Array.size_append]; simp; omega)) (up _ _ (fun b o e => ?_) ⟨_, Heap.get?_update_self _ (Heap.get?_push_size _ rfl) rfl, rfl⟩)
  have e2 := Heap.get?_push_of_some { cls := .type "tuple", data := .seq ([] : List Value).toArray } e
  exact (Heap.get?_update_other _ _ (Nat.ne_of_gt (Heap.lt_size e2))).trans (Heap.get?_push_of_some _ e2)
/-- what stays when an iterator ends -/
structure Ends (prog : Program) (w : World) (A : Around) (s : Shared) (it : Addr) : Prop where
  go : ∀ {Q : Option Value → Shared → Prop} {E : Value → Shared → Prop}, (∀ (e : Addr) (h' : Heap), Heap.ExtBut it s.heap h' → (∃ o, h'.get? e = some o ∧ o.cls = .type "StopIteration") → E (.ref e) { s with heap := h' }) →
    wpAny (model prog w) A (callSpecial? (.ref it) (Str.ofString "__next__")) Q E s
theorem Ends.next {it : Addr} (T : Ends prog w A s it) {Q : Option Value → Shared → Prop} {E : Value → Shared → Prop} (q : ∀ h', Heap.ExtBut it s.heap h' → Q none { s with heap := h' }) : wpAny (model prog w) A (pyNext (.ref it)) Q E s := by
  unfold pyNext
  refine wpAny_bind (wpAny_attempt (T.go fun e h' x ⟨o, ho, hc⟩ => ?_))
  exact wpAny_bind (wpAny_isInstance (T := "StopIteration") (b := true) ⟨o, ho, hc⟩ isSubtype_stop (wpAny_pure (q h' x)))
theorem Ends.of {it : Addr} (T : Ends prog w A s it) {Q : Value → Shared → Prop} {E : Value → Shared → Prop} (q : ∀ h' e, Heap.ExtBut it s.heap h' → (∃ o, h'.get? e = some o ∧ o.cls = .type "StopIteration") → E (.ref e) { s with heap := h' }) :
    wpAny (model prog w) A (Builtin.SmallTypes.nextOf (.ref it)) Q E s := by
  unfold Builtin.SmallTypes.nextOf
  exact wpAny_bind (T.go fun e h' x o => q h' e x o)
theorem hot_but {it : Addr} {g : Obj → Obj} (hot : HotAt A x1 s.heap) (ne : x1 ≠ it) : HotAt A.in1 x1 (s.heap.update it g) := by
  obtain ⟨hh, o1, vs1, g1, d1, c1⟩ := hot
  exact ⟨hh, o1, vs1, (Heap.get?_update_other _ _ ne.symm).trans g1, d1, c1⟩
theorem ext_upd {it : Addr} {g : Obj → Obj} {h' : Heap} (k : ∀ b o, (s.heap.update it g).get? b = some o → h'.get? b = some o) : Heap.ExtBut it s.heap h' := fun b o hb e => k b o ((Heap.get?_update_other _ _ (Ne.symm hb)).trans e)
theorem list_ends {it l : Addr} {i : Nat} {xs : Array Value} (hot : HotAt A x1 s.heap) (ne : x1 ≠ it) (hit : s.heap.IsListIter it l i) (hl : s.heap.IsList l xs) (hx : xs[i]? = none) : Ends prog w A s it := by
  refine ⟨fun {Q E} up => ?_⟩
  obtain ⟨o, ho, hc, hd⟩ := id hit
  obtain ⟨ol, hol, _, nl, hdl⟩ := hl
  refine wpAny_callSpecial?_slot hit.typeIs slot_listiter_next (wpAny_call_entry slot_listiter_next hit.typeIs entry_listiter_next ?_ (args_listiter_next _))
  show wpAny _ _ (field (.ref it) 0 >>= _) _ _ s; refine wpAny_bind (wpAny_field ho hd (x := .ref l) rfl ?_)
  show wpAny _ _ (if (Value.ref l == Value.none) = true then _ else _) _ _ s; rw [if_neg (fun z => nomatch z)]
  show wpAny _ _ (field (.ref it) 1 >>= _) _ _ s; refine wpAny_bind (wpAny_field ho hd (x := .int i 0) rfl ?_)
  show wpAny _ _ (seqItems? (.ref l) >>= _) _ _ s; refine wpAny_bind (wpAny_seqItems hol hdl ?_)
  simp only [Int.toNat_natCast, hx]
  refine wpAny_bind (wpAny_rule (wpAny_bind (wpAny_setField ho hd (by simp) (stop_up (hot_but hot ne) fun e h' k c => up e h' (ext_upd k) c))))
theorem sign_ends {it : Addr} {x : Str} {t : Tok} {i : Nat} {ty : String} (ht : ty = "str_ascii_iterator" ∨ ty = "str_iterator") (hot : HotAt A x1 s.heap) (ne : x1 ≠ it) (hit : s.heap.IsStrIter it ty x t i) (hx : x.cps[i]? = none) : Ends prog w A s it := by
  refine ⟨fun {Q E} up => ?_⟩
  obtain ⟨o, ho, hc, hd⟩ := id hit
  have rest : wpAny (model prog w) A.in1 (do setField (.ref it) 0 .none; letGo [Value.str x t]; (do raiseNew (← newExc (.type "StopIteration") []) : Sem Fin)) (fun fin s' => ∃ v, fin = .done (.ret v) ∧ Q (some v) s') E s :=
    wpAny_bind (wpAny_setField ho hd (by simp) (wpAny_bind (wpAny_letGo (stop_up (hot_but hot ne) fun e h' k c => up e h' (ext_upd k) c))))
  rcases ht with e | e
  · subst e
    refine wpAny_callSpecial?_slot hit.typeIs F.slot_str_ascii_iterator_next (wpAny_call_entry F.slot_str_ascii_iterator_next hit.typeIs F.entry_str_ascii_iterator_next ?_ (F.args_str_ascii_iterator_next_1 _))
    show wpAny _ _ (field (.ref it) 0 >>= _) _ _ s; refine wpAny_bind (wpAny_field ho hd (x := .str x t) rfl ?_)
    show wpAny _ _ (field (.ref it) 1 >>= _) _ _ s; refine wpAny_bind (wpAny_field ho hd (x := .int i 0) rfl ?_)
    simp only [Int.toNat_natCast, hx]
    exact wpAny_bind (wpAny_rule rest)
  · subst e
    refine wpAny_callSpecial?_slot hit.typeIs F.slot_str_iterator_next (wpAny_call_entry F.slot_str_iterator_next hit.typeIs F.entry_str_iterator_next ?_ (F.args_str_iterator_next_1 _))
    show wpAny _ _ (field (.ref it) 0 >>= _) _ _ s; refine wpAny_bind (wpAny_field ho hd (x := .str x t) rfl ?_)
    show wpAny _ _ (field (.ref it) 1 >>= _) _ _ s; refine wpAny_bind (wpAny_field ho hd (x := .int i 0) rfl ?_)
    simp only [Int.toNat_natCast, hx]
    exact wpAny_bind (wpAny_rule rest)
theorem key_ends {it d : Addr} {i n ep : Nat} {od : Obj} {es : Array DictEntry} (hot : HotAt A x1 s.heap) (ne : x1 ≠ it) (hit : s.heap.IsKeyIter it d i n ep) (hod : s.heap.get? d = some od) (hdd : od.data = .dict es ep) (hsz : es.size = n) (hge : n ≤ i) : Ends prog w A s it := by
  refine ⟨fun {Q E} up => ?_⟩
  obtain ⟨o, ho, hc, hd⟩ := id hit
  refine wpAny_callSpecial?_slot hit.typeIs F.slot_dict_keyiterator_next (wpAny_call_entry F.slot_dict_keyiterator_next hit.typeIs F.entry_dict_keyiterator_next ?_ (F.args_dict_keyiterator_next_1 _))
  have nm : ∀ {R : String → Shared → Prop} {B : Around}, R "dict_keyiterator" s → wpAny (model prog w) B (typeNameOfWhole (.ref it)) R E s := fun {R B} r => wpAny_typeNameOfWhole_keyiter hit.typeIs r
  refine wpAny_bind (wpAny_pure (wpAny_bind (wpAny_bind (wpAny_bind (nm (wpAny_pure (wpAny_bind (wpAny_fieldsOf ho hd ?_))))))))
  have own : Builtin.Dict_items.ownsTuple "dict_keyiterator" = false := by decide
  simp only [own, Bool.false_eq_true, if_false]
  show wpAny _ _ (if (Value.ref d == Value.none) = true then _ else _) _ _ s; rw [if_neg (fun z => nomatch z)]
  refine wpAny_bind (wpAny_pure (wpAny_bind (wpAny_dictEntries hod hdd ?_)))
  rw [if_neg (by rw [hsz]; simp)]
  refine wpAny_bind (wpAny_pure (wpAny_bind (wpAny_dictEpoch hod hdd ?_)))
  rw [if_neg (by simp)]
  refine wpAny_pure ?_
  have past : es.size ≤ i := by omega
  simp only [show ¬ ((i : Int) < 0) from by omega, if_false, Int.toNat_natCast, Array.getElem?_eq_none past]
  refine wpAny_bind (wpAny_bind (nm (wpAny_pure ?_)))
  show wpAny _ _ (setField (.ref it) 0 .none >>= _) _ _ s
  exact wpAny_bind (wpAny_setField ho hd (by simp) (stop_up (hot_but hot ne) fun e h' k c => up e h' (ext_upd k) c))
end
end UnH

/-! UnHotT: turns of walks while an exception is handled. -/
namespace UnH
open PySem PySem.Spec PyProof.Rows L2 HotX
/-- a walk's turns; its end may come while an exception is handled -/
structure TurnK (P : Program) (w : World) (K : PySem.W.Frag) (tg : Expr) (J : It) (fp : List Addr) (it : Addr) (tn : Nat → Heap → Prop) : Prop where
  mem : it ∈ fp
  obj : ∀ i h, tn i h → ∀ b ∈ fp, ∃ o, h.get? b = some o ∧ ∀ v, o.data ≠ .cell v
  keep : ∀ i h h', tn i h → (∀ b ∈ fp, ∀ o, h.get? b = some o → h'.get? b = some o) → tn i h'
  item : ∀ {X : Cx} {i : Nat} {pins : List (Addr × Obj)} {s : Shared} {σ : L2.St} {H : Hp} {E : Value → Shared → Prop} {x1 : Addr}, X.prog = P → X.w = w → X.K = K → HotAt X.A x1 s.heap → x1 ∉ fp → Inv X pins σ H s → (∀ b ∈ fp, FpOk X pins H b) → tn i s.heap → J.go i H →
    wpAny (model P w) X.A (pyNext (.ref it)) (fun r s1 => ∃ u, r = some u ∧
      wpAny (model P w) X.A (letOwnedTupleGo tg (.ref it) u) (fun _ s2 => ∃ x H', Inv X pins σ H' s2 ∧ RelV x u ∧ J.yld i H x H' ∧ tn (i + 1) s2.heap ∧ ∀ b ∈ fp, H' b = none) E s1) E s
  done : ∀ {X : Cx} {i : Nat} {pins : List (Addr × Obj)} {s : Shared} {σ : L2.St} {H : Hp} {E : Value → Shared → Prop} {x1 : Addr}, X.prog = P → X.w = w → X.K = K → HotAt X.A x1 s.heap → x1 ∉ fp → Inv X pins σ H s → (∀ b ∈ fp, FpOk X pins H b) → tn i s.heap → J.stop i H →
    wpAny (model P w) X.A (pyNext (.ref it)) (fun r s1 => r = none ∧ Inv X pins σ H s1) E s
  self : ∀ (A : Around) (i : Nat) (s : Shared) (Q : Value → Shared → Prop) (E : Value → Shared → Prop), tn i s.heap → Q (.ref it) s → wpAny (model P w) A (pyIter (.ref it)) Q E s
section
variable {P : Program} {w : World} {K : PySem.W.Frag} {tg : Expr}
theorem TurnK.turnH {J : It} {fp : List Addr} {it : Addr} {tn : Nat → Heap → Prop} (T : TurnK P w K tg J fp it tn) : L2H.TurnH P w K tg J fp it tn := by
  have at_ : ∀ {X : Cx} {pins : List (Addr × Obj)} {σ : L2.St} {H : Hp} {s : Shared}, L2H.HotC X → Inv X pins σ H s → (∀ b ∈ fp, FpOk X pins H b) → ∃ x1, HotAt X.A x1 s.heap ∧ x1 ∉ fp := fun {X pins σ H s} c I hf => by
    obtain ⟨p, ⟨hh, v1, e1, c1⟩, hp⟩ := c
    exact ⟨p.1, ⟨hh, p.2, v1, (I.pin p (List.mem_append_left _ hp)).1, e1, c1⟩, fun m => (hf p.1 m).2.2.2.2.2 p (List.mem_append_left _ hp) rfl⟩
  refine ⟨T.mem, T.obj, T.keep, fun X hP hw hK hc i pins s σ H E I hf st hg => ?_, fun X hP hw hK hc i pins s σ H E I hf st hg => ?_, T.self⟩
  · obtain ⟨x1, h1, h2⟩ := at_ hc I hf
    exact T.item hP hw hK h1 h2 I hf st hg
  · obtain ⟨x1, h1, h2⟩ := at_ hc I hf
    exact T.done hP hw hK h1 h2 I hf st hg
theorem turnK_list (a it : Addr) : TurnK P w K tg (Itl K a) [it] it (fun i h => h.IsListIter it a i) := by
  have T := turn_list (P := P) (w := w) (K := K) (tg := tg) a it
  refine ⟨T.mem, T.obj, T.keep, ?_, ?_, T.self⟩
  · intro X i pins s σ H E x1 hP hw hK hot ne I hf st hg; subst hP hw hK
    obtain ⟨xs, x, hq, hx⟩ := hg; obtain ⟨its, rv, pl, hz⟩ := I.list hq; obtain ⟨u, hu, ru⟩ := rv.get hx
    have F := hf it List.mem_cons_self
    refine wpAny_pyNext_list_item st pl.isList (x := u) (by simpa using hu) fun h' st' sb => ⟨u, rfl, ?_⟩
    obtain ⟨o, e, c, d⟩ := id st'
    refine go_of (s := { s with heap := h' }) e c d (by decide) ⟨x, H, ?_, ru, ⟨rfl, fun ys hy => (I.list_inj hy hq) ▸ hx⟩, st', fun b hb => (hf b hb).1⟩
    exact I.turned (t' := s.toks) (fun b o hb q => (sb.2 b hb).trans q) F.1 F.2.1 F.2.2.2.1 F.2.2.2.2.1 F.2.2.2.2.2
  · intro X i pins s σ H E x1 hP hw hK hot ne I hf st hg; subst hP hw hK
    obtain ⟨xs, hq, hx⟩ := hg; obtain ⟨its, rv, pl, hz⟩ := I.list hq
    have F := hf it List.mem_cons_self; have hl := rv.length
    refine (list_ends hot (fun z => ne (by rw [z]; exact List.mem_cons_self)) st pl.isList (by simp; omega)).next fun h' eb => ⟨rfl, ?_⟩
    exact I.turned (t' := s.toks) (fun b o hb q => eb b o hb q) F.1 F.2.1 F.2.2.2.1 F.2.2.2.2.1 F.2.2.2.2.2
theorem turnK_str (it : Addr) (x : Str) (t : Tok) (ty : String) (hty : ty = "str_ascii_iterator" ∨ ty = "str_iterator") : TurnK P w K tg (Its x) [it] it (fun i h => h.IsStrIter it ty x t i) := by
  have T := turn_str (P := P) (w := w) (K := K) (tg := tg) it x t ty hty
  refine ⟨T.mem, T.obj, T.keep, ?_, ?_, T.self⟩
  · intro X i pins s σ H E x1 hP hw hK hot ne I hf st hg; subst hP hw hK
    have F := hf it List.mem_cons_self
    obtain ⟨c, hc⟩ : ∃ c, x.cps[i]? = some c := ⟨x.cps[i], Array.getElem?_eq_getElem hg⟩
    have no : ["enumerate", "zip", "dict_itemiterator", "dict_reverseitemiterator", "odict_iterator", "itertools.zip_longest", "itertools.pairwise"].contains ty = false := by rcases hty with e | e <;> (rw [e]; decide)
    have fin : ∀ h', h'.IsStrIter it ty x t (i + 1) → Heap.SameBut it s.heap h' → ∃ u, some (Value.str ⟨#[c]⟩ s.toks) = some u ∧ wpAny (model X.prog X.w) X.A (letOwnedTupleGo tg (.ref it) u) (fun _ s2 => ∃ x' H', Inv X pins σ H' s2 ∧ RelV x' u ∧ (Its x).yld i H x' H' ∧ s2.heap.IsStrIter it ty x t (i + 1) ∧ ∀ b ∈ [it], H' b = none) E { s with heap := h', toks := s.toks + 1 } := fun h' st' sb => by
      obtain ⟨oi, e, cc, dd⟩ := id st'
      refine ⟨_, rfl, go_of (s := { s with heap := h', toks := s.toks + 1 }) e cc dd no ⟨.str ⟨#[c]⟩, H, ?_, ⟨s.toks, rfl⟩, ⟨rfl, c, hc, rfl⟩, st', fun b hb => (hf b hb).1⟩⟩
      exact I.turned (t' := s.toks + 1) (fun b o hb q => (sb.2 b hb).trans q) F.1 F.2.1 F.2.2.2.1 F.2.2.2.2.1 F.2.2.2.2.2
    rcases hty with e | e
    · subst e
      exact wpAny_pyNext_ascii_item st hc fun h' st' sb => fin h' st' sb
    · subst e
      exact wpAny_pyNext_wide_item st hc fun h' st' sb => fin h' st' sb
  · intro X i pins s σ H E x1 hP hw hK hot ne I hf st hg; subst hP hw hK
    have F := hf it List.mem_cons_self
    refine (sign_ends hty hot (fun z => ne (by rw [z]; exact List.mem_cons_self)) st (Array.getElem?_eq_none hg)).next fun h' eb => ⟨rfl, ?_⟩
    exact I.turned (t' := s.toks) (fun b o hb q => eb b o hb q) F.1 F.2.1 F.2.2.2.1 F.2.2.2.2.1 F.2.2.2.2.2
theorem turnK_keys {d : Addr} {o : Obj} {es : Array DictEntry} {ep : Nat} {kvs : List (Key × V)} (it : Addr) (hod : o.data = .dict es ep) : TurnK P w K tg (Itk d o kvs) [it] it (fun i h => h.IsKeyIter it d i kvs.length ep) := by
  have T := turn_keys (P := P) (w := w) (K := K) (tg := tg) (d := d) (kvs := kvs) it hod
  refine ⟨T.mem, T.obj, T.keep, ?_, ?_, T.self⟩
  · intro X i pins s σ H E x1 hP hw hK hot ne I hf st hg; subst hP hw hK
    obtain ⟨hd, hi⟩ := hg
    have F := hf it List.mem_cons_self
    obtain ⟨_, _, _, es', ep', vs, hdt, _, kv, hm⟩ := I.frzK hd
    obtain ⟨rfl, rfl⟩ := dict_ep hod hdt
    obtain ⟨⟨k, v⟩, hkv⟩ : ∃ p, kvs[i]? = some p := ⟨kvs[i], List.getElem?_eq_getElem hi⟩
    obtain ⟨u, hu, _⟩ := kv_get kv hkv
    have hl : kvs.length = vs.length := Paired.length kv
    rw [hl] at st ⊢
    refine wpAny_pyNext_dict_item st hm hu fun key h' hkey st' sb => ⟨key, rfl, ?_⟩
    obtain ⟨oi, e, c, dd⟩ := id st'
    refine go_of (s := { s with heap := h' }) e c dd (by decide) ⟨kV k, H, ?_, relV_key (show keyIs k key = true from hkey), ⟨rfl, k, v, hkv, rfl⟩, st', fun b hb => (hf b hb).1⟩
    exact I.turned (t' := s.toks) (fun b ob hb q => (sb.2 b hb).trans q) F.1 F.2.1 F.2.2.2.1 F.2.2.2.2.1 F.2.2.2.2.2
  · intro X i pins s σ H E x1 hP hw hK hot ne I hf st hg; subst hP hw hK
    obtain ⟨hd, hi⟩ := hg
    have F := hf it List.mem_cons_self
    obtain ⟨_, hgd, _, es', ep', vs, hdt, hsz, kv, hm⟩ := I.frzK hd
    obtain ⟨rfl, rfl⟩ := dict_ep hod hdt
    refine (key_ends hot (fun z => ne (by rw [z]; exact List.mem_cons_self)) st hgd hdt hsz hi).next fun h' eb => ⟨rfl, ?_⟩
    exact I.turned (t' := s.toks) (fun b ob hb q => eb b ob hb q) F.1 F.2.1 F.2.2.2.1 F.2.2.2.2.1 F.2.2.2.2.2
end
end UnH

set_option maxHeartbeats 4000000
/-! UnHotL: a list comprehension, a for, all(..), while an exception is handled. -/
namespace UnH
open PySem PySem.Spec PyProof.Rows L2 HotX
/-- what is walked, while an exception is handled -/
structure PIK (X : Cx) (tg iter : Expr) (wi : TI) : Prop where
  run : ∀ (pins : List (Addr × Obj)) (s : Shared) (σ : L2.St) (H : Hp) (R : It → Hp → Prop), Inv X pins σ H s → wi σ H R →
    wpAny (model X.prog X.w) X.A (eval iter X.env) (fun v s1 => wpAny (model X.prog X.w) X.A (pyIter v) (fun itv s2 =>
      ∃ (it : Addr) (fp : List Addr) (tn : Nat → Heap → Prop) (J : It) (H' : Hp), itv = .ref it ∧ Inv X pins σ H' s2 ∧ TurnK X.prog X.w X.K tg J fp it tn ∧ tn 0 s2.heap ∧ (∀ b ∈ fp, FpOk X pins H' b) ∧ R J H') X.xe s1) X.xe s
section
variable {X : Cx} {tg iter elt : Expr} {wi : TI}
theorem PIK.pih (p : PIK X tg iter wi) : L2H.PIH X tg iter wi := ⟨fun pins s σ H R I h => thn (p.run pins s σ H R I h) fun v s1 a => thn a fun u s2 ⟨it, fp, tn, J, H', e, b, T, r⟩ => ⟨it, fp, tn, J, H', e, b, T.turnH, r⟩⟩
/-- the handled exception's object stands as it stood at the block's entry -/
theorem blk_hot {pins pins' : List (Addr × Obj)} {σ σ' : L2.St} {H H' : Hp} {s s' : Shared} {scope : Scope} {ce : Env} {fp : List Addr} (hot : L2H.HotC X) (I : Inv X pins σ H s) (hf : ∀ b ∈ fp, FpOk X pins H b) (J : Inv (X.blk s H scope ce fp) pins' σ' H' s') : ∃ x1, HotAt X.A x1 s'.heap ∧ x1 ∉ fp := by
  obtain ⟨p, ⟨hh, v1, e1, c1⟩, hp⟩ := hot
  obtain ⟨g, n, nl, nf, _⟩ := I.pin p (List.mem_append_left _ hp)
  have out : p.1 ∉ fp := fun m => (hf p.1 m).2.2.2.2.2 p (List.mem_append_left _ hp) rfl
  refine ⟨p.1, ⟨hh, p.2, v1, J.base.keep _ _ g n (fun m => ?_) out, e1, c1⟩, out⟩
  exact (List.mem_cons.mp (I.stkSub _ m)).elim nl nf
/-- wherever a state is X's, the handled exception stands there -/
def HotB (X : Cx) : Prop := ∀ (pins : List (Addr × Obj)) (σ : L2.St) (H : Hp) (s : Shared), Inv X pins σ H s → ∃ x1, HotAt X.A x1 s.heap
theorem hotB_of (hot : L2H.HotC X) : HotB X := fun pins σ H s I => hot.at I
/-- [elt for target in iter if ..], as a value -/
theorem pe_lcH {ifs : List Expr} {scope : Scope} {own : List (Str × Nat)} {pos : Pos} {g : TG} {tt : TT} {te : TE} (hot : L2H.HotC X) (hN : X.N.Nodup) (hi : PIK X tg iter wi) (ok : BlkOk X.N X.env.scope scope own)
    (hg : ∀ (s : Shared) (H : Hp) (C : Addr) (cl : List (Str × Addr)) (fp : List Addr), HotB (X.blk s H scope (compEnvC scope cl C X.env) fp) → PG (X.blk s H scope (compEnvC scope cl C X.env) fp) tg g)
    (ht : ∀ (s : Shared) (H : Hp) (C : Addr) (cl : List (Str × Addr)) (fp : List Addr), HotB (X.blk s H scope (compEnvC scope cl C X.env) fp) → PTs (X.blk s H scope (compEnvC scope cl C X.env) fp) ifs tt)
    (he : ∀ (s : Shared) (H : Hp) (C : Addr) (cl : List (Str × Addr)) (fp : List Addr), HotB (X.blk s H scope (compEnvC scope cl C X.env) fp) → PE (X.blk s H scope (compEnvC scope cl C X.env) fp) elt te) (hs : ∀ x, foldedSetIterable iter X.env x = pure x := by intro _; rfl) :
    PE X (.ListComp elt [⟨tg, iter, ifs, 0⟩] scope pos) (tLc wi g tt te (own.map (·.2))) := by
  refine ⟨fun pins s σ H Q I h => ?_⟩
  rw [eval_ListComp]
  have cap : ∀ y ∈ scope.names, y.2 = .free → ∃ c, X.env.cells.lookup y.1 = some c := fun y hy e => (ok.free y hy e).elim (fun k => I.ok.has _ (.inl k)) fun k => I.ok.has _ (.inr k)
  refine wpAny_comprehension_free (use := none) rfl hs (closure_ok cap) ok.kind (fun y hy e => by rw [ok.uniq y hy, e]) (thn (hi.run pins s σ H _ I h) fun _ _ a => thn a fun _ s2 b => ?_)
  obtain ⟨it, fp, tn, J, H2, rfl, I2, T, st2, f2, q⟩ := b
  refine wpAny_newObj_type (newEnv_comp ?_) (by show 0 ≤ sizeLine; decide)
  obtain ⟨W, ⟨m0, w0⟩, turn⟩ := q s2.heap.objs.size (I2.hok.fresh (Nat.le_refl _))
  -- the new list
  have I3 : Inv X pins σ (upd H2 s2.heap.objs.size (.lst [])) { s2 with heap := s2.heap.push { cls := .type "list", data := .seq ([] : List Value).toArray } } :=
    I2.laid (t' := s2.toks) (fun b o e => Heap.get?_push_of_some _ e) (Nat.le_refl _) ⟨Nat.zero_le _, [], 0, .nil, Heap.get?_push_size _ rfl⟩
  have young : ∀ b ∈ fp, b < s2.heap.objs.size := fun b m => let ⟨o, e, _⟩ := T.obj _ _ st2 b m; Heap.lt_size e
  have f3 : ∀ b ∈ fp, FpOk X pins (upd H2 s2.heap.objs.size (.lst [])) b ∧ b < (s2.heap.push { cls := .type "list", data := .seq ([] : List Value).toArray }).objs.size := fun b m =>
    ⟨⟨by rw [upd_ne (Nat.ne_of_lt (young b m))]; exact (f2 b m).1, (f2 b m).2⟩, by rw [Heap.size_push]; exact Nat.lt_succ_of_lt (young b m)⟩
  have st3 : tn 0 (s2.heap.push { cls := .type "list", data := .seq ([] : List Value).toArray }) := T.keep _ _ _ st2 fun b _ o e => Heap.get?_push_of_some _ e
  generalize s2.heap.objs.size = D at *
  generalize upd H2 D (.lst []) = H3 at *
  generalize e3 : ({ s2 with heap := s2.heap.push { cls := .type "list", data := .seq ([] : List Value).toArray } } : Shared) = s3 at I3
  have h3 : s2.heap.push { cls := .type "list", data := .seq ([] : List Value).toArray } = s3.heap := by rw [← e3]
  rw [h3] at f3 st3
  have I4 := block_start I3 ok hN f3
  have hb0 : HotB (X.blk s3 H3 scope (compEnvC scope (cellsFrom (s3.heap.objs.size + 1) scope.names (cloFrom X.env.cells scope.names [])) s3.heap.objs.size X.env) fp) := fun pins' σ' H' s' J => (blk_hot hot I3 (fun b m => (f3 b m).1) J).imp fun _ h => h.1
  have pg := hg s3 H3 s3.heap.objs.size (cellsFrom (s3.heap.objs.size + 1) scope.names (cloFrom X.env.cells scope.names [])) fp hb0
  have pt := ht s3 H3 s3.heap.objs.size (cellsFrom (s3.heap.objs.size + 1) scope.names (cloFrom X.env.cells scope.names [])) fp hb0
  have pe := he s3 H3 s3.heap.objs.size (cellsFrom (s3.heap.objs.size + 1) scope.names (cloFrom X.env.cells scope.names [])) fp hb0
  have st4 : tn 0 (pushCells (s3.heap.push { cls := .type "dict", data := .dict #[] }) scope.names) := T.keep _ _ _ st3 fun b _ o e => pushCells_keeps _ _ _ _ (Heap.get?_push_of_some _ e)
  change codeAny _ _ (.compStart (.ListComp elt [⟨tg, iter, ifs, 0⟩] scope pos) 0 (.ref it) (.ref D) (compEnvC scope (cellsFrom (s3.heap.objs.size + 1) scope.names (cloFrom X.env.cells scope.names [])) s3.heap.objs.size X.env)) (compPost (model X.prog X.w) X.A X.xe none (EP X pins σ Q) (.ref D) s3.heap.objs.size) _
  generalize ece : compEnvC scope (cellsFrom (s3.heap.objs.size + 1) scope.names (cloFrom X.env.cells scope.names [])) s3.heap.objs.size X.env = ce at I4 pg pt pe ⊢
  have cl : ce.locals = s3.heap.objs.size := by rw [← ece]; rfl
  generalize e4 : ({ s3 with heap := pushCells (s3.heap.push { cls := .type "dict", data := .dict #[] }) scope.names } : Shared) = s4 at I4 ⊢
  replace st4 : tn 0 s4.heap := by rw [← e4]; exact st4
  have still : ∀ {σ' : L2.St} {H' : Hp} {s' : Shared}, Inv (X.blk s3 H3 scope ce fp) [] σ' H' s' → (∀ b ∈ fp, H' b = none) → ∀ b ∈ fp, FpOk (X.blk s3 H3 scope ce fp) [] H' b := fun {σ' H' s'} J n b m =>
    ⟨n b m, (J.ok.exf b m).1, J.ok.exfs b m, .inl m, fun x c e => (J.ok.exf b m).2 x c e, fun p z => by cases z⟩
  have loop : codeAny (model X.prog X.w) X.A (.compLoop (.ListComp elt [⟨tg, iter, ifs, 0⟩] scope pos) 0 (.ref it) (.ref D) ce) (compPost (model X.prog X.w) X.A X.xe none (EP X pins σ Q) (.ref D) s3.heap.objs.size) s4 := by
    refine compLoop_any (fun n s' => ∃ i H', (Inv (X.blk s3 H3 scope ce fp) [] (wipe σ (own.map (·.2))) H' s' ∧ tn i s'.heap) ∧ (∀ b ∈ fp, H' b = none) ∧ W i n H') ?_ m0 ⟨0, H3, ⟨I4, st4⟩, fun b m => (f3 b m).1.1, w0⟩
    rintro n s5 ⟨i, H5, ⟨I5, st5⟩, n5, w5⟩
    obtain ⟨x1, hot5, out⟩ := blk_hot hot I3 (fun b m => (f3 b m).1) I5
    rcases turn i n H5 w5 with ⟨stop, qq⟩ | ⟨go, Nx, hNx, step⟩
    · refine thnF (T.done (X := X.blk s3 H3 scope ce fp) (E := fun _ _ => False) rfl rfl rfl hot5 out I5 (still I5 n5) st5 stop) fun r s6 ⟨hr, I6⟩ => ?_
      subst hr
      have I7 : Inv X pins σ H5 s6 := I3.call' (ch := fp) I6.os I6.base I6.hok I6.bare fun b m => ⟨(f3 b m).1.2.2.2.1, (f3 b m).1.2.1, (f3 b m).1.2.2.2.2.1, (f3 b m).1.2.2.2.2.2⟩
      have nC : H5 s3.heap.objs.size = none := cl ▸ (show H5 ce.locals = none from I6.free)
      obtain ⟨m, hn, _⟩ := I6.loc
      have hn : s6.heap.Ns ce.locals m := hn
      obtain ⟨g0, g1, g2, g3, g4, g5⟩ := I3.fpOk (Nat.le_refl _) nC
      exact ⟨m, cl ▸ hn, fun h'' sb => ⟨.ref D, H5, I7.turned (t' := s6.toks) (fun b o hb e => (sb.2 b hb).trans e) g0 g1 g3 g4 g5, rfl, qq⟩⟩
    · refine thnF (T.item (X := X.blk s3 H3 scope ce fp) (E := fun _ _ => False) rfl rfl rfl hot5 out I5 (still I5 n5) st5 go) fun r s6 ⟨u, hr, h6⟩ => ?_
      subst hr
      refine thnF h6 fun _ s7 ⟨x, H7, I7, r7, y7, st7, n7⟩ => ?_
      have J7 := I7.pinned (still I7 n7) (T.obj _ _ st7)
      refine thnF (pg.run _ s7 _ H7 x u _ J7 r7 (step x H7 y7)) fun _ s8 ⟨σ8, H8, I8, hw8, q8⟩ => thnF (pt.run _ s8 σ8 H8 _ I8 q8) fun b s9 ⟨H9, I9, q9⟩ => ?_
      have turnEnd : ∀ {s' : Shared} {H' : Hp}, Inv (X.blk s3 H3 scope ce fp) ([] ++ pinsAt fp s7.heap) σ8 H' s' → Nx H' → ∃ m, m < n ∧ ∃ i H', (Inv (X.blk s3 H3 scope ce fp) [] (wipe σ (own.map (·.2))) H' s' ∧ tn i s'.heap) ∧ (∀ b ∈ fp, H' b = none) ∧ W i m H' := fun {s' H'} J nx => by
        obtain ⟨m', lt, w'⟩ := hNx H' nx
        have there : ∀ b ∈ fp, ∀ o, s7.heap.get? b = some o → s'.heap.get? b = some o ∧ H' b = none := fun b m o e =>
          let z := J.pin (b, o) (List.mem_append_right _ (List.mem_append_right _ (mem_pinsAt m e)))
          ⟨z.1, z.2.1⟩
        refine ⟨m', lt, i + 1, H', ⟨(J.unpinned (pins := [])).weak (by rw [← hw8, wipe_length]) fun j v e => (wipe_some (hw8 ▸ e)).1, T.keep _ _ _ st7 fun b m o e => (there b m o e).1⟩, fun b m => ?_, w'⟩
        obtain ⟨o, e, _⟩ := T.obj _ _ st7 b m
        exact (there b m o e).2
      cases b with
      | false =>
        simp only [Bool.false_eq_true, if_false] at q9 ⊢
        exact turnEnd I9 q9
      | true =>
        simp only [if_true] at q9 ⊢
        refine thnF (pe.run _ s9 σ8 H9 _ I9 q9) fun z s10 ⟨yv, H10, I10, r10, acc, hD, hz, nx⟩ => ?_
        exact app_ok (X := X.blk s3 H3 scope ce fp) I10 hD hz r10 fun s11 I11 => turnEnd I11 nx
  exact codeAny_compStart_list loop (T.self X.A 0 _ _ _ st4 loop)
/-- the iterator is a new object -/
theorem pik_new {pins : List (Addr × Obj)} {σ : L2.St} {H : Hp} {s : Shared} {J : It} {tn : Nat → Heap → Prop} {R : It → Hp → Prop} {tk : Nat} (o : Obj) (I : Inv X pins σ H s) (T : TurnK X.prog X.w X.K tg J [s.heap.objs.size] s.heap.objs.size tn) (st : tn 0 (s.heap.push o)) (q : R J H) :
    ∃ (it : Addr) (fp : List Addr) (tn : Nat → Heap → Prop) (J : It) (H' : Hp), Value.ref s.heap.objs.size = .ref it ∧ Inv X pins σ H' { s with heap := s.heap.push o, toks := tk } ∧ TurnK X.prog X.w X.K tg J fp it tn ∧ tn 0 (s.heap.push o) ∧ (∀ b ∈ fp, FpOk X pins H' b) ∧ R J H' :=
  ⟨_, _, tn, J, H, rfl, I.kept fun b u e => Heap.get?_push_of_some _ e, T, st, fun b m => by rw [List.mem_singleton.mp m]; exact I.fpOk (Nat.le_refl _) (I.hok.fresh (Nat.le_refl _)), q⟩
theorem pik_list {l : Expr} {tl : TE} (hl : PE X l tl) : PIK X tg l (iList X.K tl) := by
  refine ⟨fun pins s σ H R I h => thn (hl.run pins s σ H _ I h) fun v s1 ⟨x, H1, I1, r1, q1⟩ => ?_⟩
  obtain ⟨a, rfl, ⟨xs, hq⟩, q⟩ := q1
  cases r1
  obtain ⟨its, rv, pl, hz⟩ := I1.list hq
  exact wpAny_pyIter_list pl.isList (pik_new (tk := s1.toks) _ I1 (turnK_list a _) ⟨_, Heap.get?_push_size _ rfl, rfl, rfl⟩ q)
theorem pik_str {e : Expr} {te : TE} (he : PE X e te) : PIK X tg e (iStr te) := by
  refine ⟨fun pins s σ H R I h => thn (he.run pins s σ H _ I h) fun v s1 ⟨y, H1, I1, r1, x, ex, q⟩ => ?_⟩
  subst ex
  obtain ⟨t, rfl⟩ := r1
  cases ha : x.cps.all (· < 128)
  · exact wpAny_pyIter_wide ha (pik_new (tk := s1.toks) _ I1 (turnK_str _ x t "str_iterator" (.inr rfl)) ⟨_, Heap.get?_push_size _ rfl, rfl, rfl⟩ q)
  · exact wpAny_pyIter_ascii ha (pik_new (tk := s1.toks) _ I1 (turnK_str _ x t "str_ascii_iterator" (.inl rfl)) ⟨_, Heap.get?_push_size _ rfl, rfl, rfl⟩ q)
theorem pik_keys {e : Expr} {td : TE} (he : PE X e td) : PIK X tg e (iKeysM td) := by
  refine ⟨fun pins s σ H R I h => thn (he.run pins s σ H _ I h) fun u s1 ⟨x, H1, I1, rx, d, o, kvs, ex, hd, q⟩ => ?_⟩
  subst ex
  obtain rfl : u = Value.ref d := rx
  obtain ⟨hs, hgd, hx, es, ep, vs, hdt, hsz, kv, hm⟩ := I1.frzK hd
  exact iter_keys hs hgd hx hdt (pik_new (tk := s1.toks) _ I1 (turnK_keys _ hdt) ⟨_, Heap.get?_push_size _ rfl, rfl, by rw [hsz] <;> rfl⟩ q)
/-- all(xs), a list of truth values -/
theorem cr_allH (hot : L2H.HotC X) : CallR X (.builtin "all") (rAll X.K) := by
  intro pins s σ H vs us Q I r h
  obtain ⟨a, bs, rfl, hs, q⟩ := h
  obtain ⟨its, rv, hl, _⟩ := I.list hs
  rw [Vals.ref1 r]
  have hb := rv.bls
  obtain ⟨x1, h1⟩ := hot.at I
  have W : ∀ It : Addr, a ≠ It → x1 ≠ It → Walks X.prog X.w X.A.in1 It [It, a, x1] [It] its.toArray.size (fun i v => its.toArray[i]? = some v) (fun i h => (h.IsListIter It a i ∧ h.IsList a its.toArray) ∧ HotAt X.A.in1 x1 h) := fun It na nx => by
    refine ⟨fun b m => by rw [List.mem_singleton.mp m]; exact List.mem_cons_self, fun i h h' st k => ⟨⟨st.1.1.at fun o e => k It (by simp) o e, st.1.2.at fun o e => k a (by simp) o e⟩, ?_⟩, fun i s Q E hi st q => ?_, fun s Q E st q => ?_, fun i s Q E st q => wpAny_pyIter_listiter st.1.1 q⟩
    · obtain ⟨hh, o1, v1, e1, d1, c1⟩ := st.2
      exact ⟨hh, o1, v1, k x1 (by simp) o1 e1, d1, c1⟩
    · refine wpAny_pyNext_list_item st.1.1 st.1.2 (x := its.toArray[i]) (by simp [hi]) fun h' hit' sb => q _ h' s.toks (by simp [hi]) ⟨⟨hit', st.1.2.extBut sb.extBut na⟩, ?_⟩ fun b o m e => sb.extBut b o (fun z => m (by simp [z])) e
      obtain ⟨hh, o1, v1, e1, d1, c1⟩ := st.2
      exact ⟨hh, o1, v1, sb.extBut x1 o1 nx e1, d1, c1⟩
    · exact (list_ends st.2 nx st.1.1 st.1.2 (by simp)).next fun h' eb => q h' s.toks fun b o m e => eb b o (fun z => m (by simp [z])) e
  refine call_all_walk (iter_any hl.isList fun s₂ e2 st hne => ?_)
  subst e2
  obtain ⟨hh, o1, v1, e1, d1, c1⟩ := h1
  refine ⟨_, _, _, _, _, _, _, rfl, W _ hne (Nat.ne_of_lt (Heap.lt_size e1)), ⟨st, hh, o1, v1, Heap.get?_push_of_some _ e1, d1, c1⟩, truth_bools hb, fun h' tk hk => ?_⟩
  refine ⟨.bl _, H, I.kept fun b o eo => hk b o (fun m => absurd (Heap.lt_size eo) (by rw [List.mem_singleton.mp m]; exact Nat.lt_irrefl _)) (Heap.get?_push_of_some _ eo), ?_, q⟩
  show Value.bool _ = Value.bool _
  rw [← L2.all_range, hb, List.size_toArray, List.length_map]
end
end UnH

set_option maxHeartbeats 4000000
/-! UnWith: with o as name: return e, o of an own class whose __exit__ returns None; e may raise. -/
namespace UnH
open PySem PySem.Calls PySem.W PySem.Spec PyProof.Rows
section
variable {prog : Program} {w : World} {A : Around} {E : Value → Shared → Prop} {s : Shared} {env : Env} {K : PySem.W.Frag} {x C fe fx : Addr} {ox : Obj} {od : Option Obj} {pos : Pos}
/-- what a with does behind its suite -/
def Behind (prog : Program) (w : World) (A : Around) (E : Value → Shared → Prop) (env : Env) (x fx : Addr) (Q : Flow → Shared → Prop) : Except Value Flow → Shared → Prop
  | .ok f, s => wpAny (model prog w) A (call (.ref fx) [.ref x, .none, .none, .none]) (fun _ s' => Q f s') E s
  | .error e, s => wpAny (model prog w) A (noteFrame e env) (fun _ s1 => wpAny (model prog w) A (setFlight e none) (fun _ s2 => wpAny (model prog w) A (typeOf e) (fun c s3 => wpAny (model prog w) A (tracebackOf e) (fun t s4 =>
      some e ≠ some byPass ∧ codeAny (model prog w) (A.mark (some e)) (.call (.ref fx) ⟨[.ref x, c, e, t], []⟩) (fun r s5 => match r with
        | .ok (.ret v) => v = .none ∧ wpAny (model prog w) A (passOn "with" e env : Sem Flow) Q E s5
        | _ => False) s4) E s3) E s2) E s1) E s
theorem with_own {b : Value → Sem Unit} {bdy : Sem Flow} {Q : Flow → Shared → Prop} (X : K.In s.heap) (I : InstAt s.heap x ox C od) (he : findIn K (.ref C) "__enter__" = some (some (.ref fe))) (hfe : isFn K (.ref fe) = true) (hx : findIn K (.ref C) "__exit__" = some (some (.ref fx))) (hfx : isFn K (.ref fx) = true)
    (h : wpAny (model prog w) A (call (.ref fe) [.ref x]) (fun v s₂ => wpAny (model prog w) A (b v) (fun _ s₃ => wpAny (model prog w) A bdy (fun f s₄ => Behind prog w A E env x fx Q (.ok f) s₄) (fun e s₄ => Behind prog w A E env x fx Q (.error e) s₄) s₃) (fun e s₃ => Behind prog w A E env x fx Q (.error e) s₃) s₂) E s) :
    wpAny (model prog w) A (withItem false pos env (pure (.ref x)) (some b) bdy) Q E s := by
  obtain ⟨cd, hcd, ae⟩ := kw_along he
  obtain ⟨cd', hcd', ax⟩ := kw_along hx
  cases hcd.symm.trans hcd'
  obtain ⟨hh, g, d, tt, os⟩ := s
  have L1 : Looks (model prog w) hh (specialOnItsLine (.ref x) "__enter__") (some (.ref fe), cd.mro) := kw_special X I hcd ae
  have L2 : Looks (model prog w) hh (specialOnItsLine (.ref x) "__exit__") (some (.ref fx), cd.mro) := kw_special X I hcd ax
  have L3 : Looks (model prog w) hh (bindSpecial (.ref fe) (.ref x)) (.ref fe, [.ref x]) := bind_fn X _ (beq_iff_eq.mp hfe)
  have L4 : Looks (model prog w) hh (bindSpecial (.ref fx) (.ref x)) (.ref fx, [.ref x]) := bind_fn X _ (beq_iff_eq.mp hfx)
  have L5 : Looks (model prog w) hh (aMethodOfAnotherBuiltinTypeStops (.ref fe) cd.mro) () := Looks.of_pure rfl
  have L6 : Looks (model prog w) hh (aMethodOfAnotherBuiltinTypeStops (.ref fx) cd.mro) () := Looks.of_pure rfl
  have err : ∀ (e : Value) (s₄ : Shared), Behind prog w A E env x fx Q (.error e) s₄ → wpAny (model prog w) A (do
      noteFrame e env
      setFlight e none
      standAt pos
      holding [e] do
          let c ← typeOf e
          let t ← tracebackOf e
          let r ← withItem.marked e (Code.call (Value.ref fx) { pos := [Value.ref x] ++ [c, e, t] })
          let r ← pure r
          match r with
            | Value.none => do
              let swallow ← pure false
              if swallow = true then do
                  rule "with.exit-swallows"
                  setFlight e none
                  pure Flow.next
                else PySem.passOn "with" e env
            | Value.bool b => do
              let swallow ← pure b
              if swallow = true then do
                  rule "with.exit-swallows"
                  setFlight e none
                  pure Flow.next
                else PySem.passOn "with" e env
            | x => do
              let q ← withItem.marked e (Code.call (Value.type "bool") { pos := [r] })
              let swallow ← pure (q == Value.bool true)
              if swallow = true then do
                  rule "with.exit-swallows"
                  setFlight e none
                  pure Flow.next
                else PySem.passOn "with" e env) Q E s₄ := fun e s₄ h₄ => by
    refine wpAny_bind (wpAny_mono h₄ (fun _ s1 h1 => wpAny_bind (wpAny_mono h1 (fun _ s2 h2 => wpAny_bind (wpAny_standAt (wpAny_holding (wpAny_bind (wpAny_mono h2 (fun c s3 h3 => wpAny_bind (wpAny_mono h3 (fun t s4 h4 => ?_) fun _ _ z => z)) fun _ _ z => z))))) fun _ _ z => z)) fun _ _ z => z)
    obtain ⟨nb, hc⟩ := h4
    unfold withItem.marked
    refine wpAny_bind (wpAny_bind (wpAny_run (codeAny_mono hc fun r s5 h5 => ?_) nb))
    match r, h5 with
    | .error e', h5 => exact h5.elim
    | .ok .next, h5 => exact h5.elim
    | .ok .brk, h5 => exact h5.elim
    | .ok .cont, h5 => exact h5.elim
    | .ok (.ret v), h5 =>
      obtain ⟨rfl, h6⟩ := h5
      exact wpAny_pure (wpAny_bind (wpAny_pure (wpAny_bind (wpAny_pure h6))))
  unfold withItem
  refine wpAny_bind (wpAny_pure (wpAny_bind (wpAny_standAt ?_)))
  simp only [Bool.false_eq_true, if_false]
  kw_lk
  refine wpAny_mono h (fun v s₂ h₂ => ?_) fun _ _ z => z
  kw_lk
  refine wpAny_attempt (kw_held ?_)
  show wpAny _ _ (b v >>= fun _ => bdy) _ _ _
  refine wpAny_bind (wpAny_mono h₂ (fun _ s₃ h₃ => wpAny_mono h₃ (fun f s₄ h₄ => ?_) fun e s₄ h₄ => ?_) fun e s₄ h₄ => ?_)
  · kw_lk
    refine wpAny_mono h₄ (fun _ s₅ h₅ => ?_) fun _ _ z => z
    kw_lk
    exact h₅
  · exact err e s₄ h₄
  · exact err e s₄ h₄
end
end UnH

set_option maxHeartbeats 4000000
/-! UnWithL: with ctx as name: return e, where e may raise an error whose context is None; the manager's __exit__ returns None. -/
namespace UnH
open PySem PySem.Spec PyProof.Rows L2
/-- what is wished of the suite's error: the manager's __exit__ takes it, then it goes on -/
def wWith (spX : Sp) (x : Addr) (Wout : WX) : WX := fun cls d σ H => (∃ vc, RelV vc cls) ∧ ∀ vs : List V, vs.length = 3 → spX (.ref x :: vs) H (fun r H2 => r = .non ∧ Wout cls d σ H2) (fun _ _ _ => False)
section
variable {X : Cx} {pins : List (Addr × Obj)} {D : L2.Ends} {Wout : WX} {spX : Sp} {x fx : Addr} {k : Nat} {fd : FuncData} {ps : List Str}
/-- the error goes on behind the exit: a and its trace T stand as they stood -/
theorem goes_on {B : Heap} {sI s6 : Shared} {pins' : List (Addr × Obj)} {σ σ6 : L2.St} {H H6 : Hp} {a T : Addr} {oe oT : Obj} {vs ts : Array Value} {cls : Value} {d : Option Addr} (hs : X.stack = X.env :: X.outer) (hf : X.env.frame = some X.env.locals) (hex : X.ex = []) (ok : X.Ok) (tk : L2N.Takes X Wout)
    (J : Inv X pins σ H sI) (nb : ∀ b o, sI.heap.get? b = some o → b ∉ frs X.stack → B.get? b = some o) (k2 : B.get? a = none) (hnT : B.get? T = none) (fa : a ∉ frs (X.env :: X.outer)) (fT : T ∉ frs (X.env :: X.outer)) (hz : L2N.Zn cls d oe) (hd : oe.data = .fields vs) (hv1 : vs[1]? = some (.ref T)) (hTe : T ≠ a) (hdT : oT.data = .fields ts) (ht3 : ts[3]? = some .none)
    (S6 : Inv (X.suite a ((a, oe) :: (T, oT) :: (X.pn ++ pins))) pins' σ6 H6 s6) (w : Wout cls d σ6 H6) : wpAny (model X.prog X.w) X.A (PySem.passOn "with" (.ref a) X.env : Sem Flow) (SP X pins D) X.xe s6 := by
  have Jx : Inv X pins σ6 H6 s6 := ⟨ok, S6.os, S6.bare, S6.base, S6.loc, S6.cell, S6.free, S6.freeC, fun p hp => S6.pin p (List.mem_append_left _ (List.mem_cons_of_mem _ (List.mem_cons_of_mem _ hp))), S6.hok, S6.len⟩
  obtain ⟨ga, na6, _⟩ := S6.pin (a, oe) (List.mem_append_left _ List.mem_cons_self)
  obtain ⟨gT, nT6, _⟩ := S6.pin (T, oT) (List.mem_append_left _ (List.mem_cons_of_mem _ List.mem_cons_self))
  replace ga : s6.heap.get? a = some oe := ga
  replace gT : s6.heap.get? T = some oT := gT
  have away : ∀ b o, sI.heap.get? b = some o → b ≠ a ∧ b ≠ T := fun b o e => by
    by_cases m : b ∈ frs X.stack
    · rw [hs] at m
      exact ⟨fun z => fa (z ▸ m), fun z => fT (z ▸ m)⟩
    · have q := nb b o e m
      refine ⟨fun z => ?_, fun z => ?_⟩
      · rw [z, k2] at q; cases q
      · rw [z, hnT] at q; cases q
  have away0 : ∀ b o, X.s_0.heap.get? b = some o → b ≠ a ∧ b ≠ T := fun b o e => (J.base.there b o e (by rw [hex]; simp)).elim fun o' q => away b o' q
  obtain ⟨G, g1, g2⟩ := restrict s6.heap fun b => !(decide (b = a) || decide (b = T))
  have inG : ∀ b o, G.get? b = some o → s6.heap.get? b = some o ∧ b ≠ a ∧ b ≠ T := fun b o e => by
    by_cases z : (!(decide (b = a) || decide (b = T))) = true
    · rw [g1 b z] at e
      have z' : b ≠ a ∧ b ≠ T := by simpa using z
      exact ⟨e, z'⟩
    · rw [g2 b (by simpa using z)] at e; cases e
  have ofG : ∀ b o, b ≠ a → b ≠ T → s6.heap.get? b = some o → G.get? b = some o := fun b o h1 h2 e => (g1 b (by simp [h1, h2])).trans e
  have Ix : Inv X pins σ6 H6 { s6 with heap := G } := Jx.less (fun b o e => (inG b o e).1) ofG ⟨oe, vs, ga, hd⟩ ⟨oT, ts, gT, hdT⟩ na6 nT6 away0 fun p hp => away p.1 p.2 (J.pin p hp).1
  have none_ : ∀ b, (b = a ∨ b = T) → (PySem.W.hideAll G (frs X.stack)).get? b = none := fun b hb => by
    cases q : (PySem.W.hideAll G (frs X.stack)).get? b with
    | none => rfl
    | some o => exact absurd hb (fun z => z.elim (inG b o (PySem.W.of_hideAll _ q)).2.1 (inG b o (PySem.W.of_hideAll _ q)).2.2)
  have fl6 : HandSPX.FlyingZ (PySem.W.hideAll G (frs X.stack)) (X.env :: X.outer) a (L2N.Zn cls d) s6.heap :=
    ⟨fun b o e => (inG b o (PySem.W.of_hideAll _ e)).1, none_ a (.inl rfl), hs ▸ funFrames_none Jx.stack fun b hb => PySem.W.hideAll_none _ hb, oe, vs, T, oT, ts, ga, hz, hd, hv1, none_ T (.inr rfl), hTe, gT, hdT, ht3⟩
  have goOn : wpAny (model X.prog X.w) X.A (setFlight (.ref a) X.env.frame) (fun _ s7 => wpAny (model X.prog X.w) X.A (throw (.ref a) : Sem Flow) (SP X pins D) X.xe s7) X.xe s6 := by
    rw [hf]; exact HandSPX.setFlight_upZ fl6 fun h7 hh7 up7 => wpAny_throw (tk _ _ ⟨a, PySem.W.hideAll G (frs X.stack), { s6 with heap := G }, pins, σ6, H6, cls, d, rfl, Ix, fun b o e hb => PySem.W.hideAll_get _ e hb, Heap.UpToSlots.trans (Heap.UpToSlots.of_keeps fun b o e => (inG b o e).1) up7, .inr (.inr (by rw [← hs] at hh7; exact hh7)), na6, rfl, Jx.bare, w⟩)
  unfold PySem.passOn; refine wpAny_bind (wpAny_field ga hd hv1 ?_)
  rw [if_neg (show ¬((Value.ref T == Value.none) = true) by simp)]
  first | exact wpAny_bind (wpAny_pure (wpAny_bind goOn)) | exact wpAny_bind goOn
/-- the suite's error: noted, the exit called with it, on it goes -/
theorem behind_exc {u : Value} {s' : Shared} (hs : X.stack = X.env :: X.outer) (hf : X.env.frame = some X.env.locals) (hex : X.ex = []) (ok : X.Ok) (tk : L2N.Takes X Wout) (hr : L2H.RoomH k X.A) (FX : L2H.FnH X.prog X.w X.K X.mg X.base CX0 k fx fd ps spX) (hb : Binds X.K fd ps [])
    {xe : Value → Shared → Prop} (xx : L2N.XE (X.tr (X.pn ++ pins) xe) (wWith spX x Wout) u s') : Behind X.prog X.w X.A X.xe X.env x fx (SP X pins D) (.error u) s' := by
  have hfr : X.A.frames = some (X.env :: X.outer) := by rw [ok.frames, hs]
  obtain ⟨a, B, sI, pins', σ', H', cls, d, rfl, J', nb, up, sky, na, os, ag, ⟨vc, rc⟩, hw⟩ := xx
  have J : Inv X pins σ' H' sI := J'.ofTry ok
  have sky' : L2.Sky B (X.env :: X.outer) a (L2N.Zn cls d) X.env.locals s'.heap := by rw [← hs]; exact sky
  refine L2N.Sky.land L2N.Zn.steady hfr hf sky' fun h3 fl3 up3 => ?_
  have J3 : Inv X pins σ' H' { s' with heap := h3 } := J.landed nb fl3.1 (up.trans up3) os ag
  obtain ⟨k1, k2, k3, oe, vs, T, oT, ts, he3, hz, hd, hv1, hnT, hTe, hT, hdT, ht3⟩ := id fl3
  have nT : H' T = none := (J.inGround nb).gone hnT
  have notFr : ∀ (b : Addr) (o : Obj) (fv : Array Value), h3.get? b = some o → o.data = .fields fv → b ∉ frs (X.env :: X.outer) := fun b o fv e dd hm => by
    obtain ⟨_, o', e', hnf⟩ := k3.mem hm; exact hnf _ ((Option.some.inj (e.symm.trans e')) ▸ dd)
  have locF : X.env.locals ∈ frs (X.env :: X.outer) := List.mem_filterMap.mpr ⟨X.env, by simp, hf⟩
  have fsF : ∀ b, b ∈ X.fs → b ∈ frs (X.env :: X.outer) := fun b hm => (List.mem_filterMap.mp hm).elim fun e ⟨he, q⟩ => List.mem_filterMap.mpr ⟨e, by simp [he], q⟩
  have fa := notFr a oe vs he3 hd
  have fT := notFr T oT ts hT hdT
  have noCell : ∀ (o : Obj) (fv : Array Value), o.data = .fields fv → ∀ v, o.data ≠ .cell v := fun o fv e v z => by rw [e] at z; cases z
  have S3 : Inv (X.suite a ((a, oe) :: (T, oT) :: (X.pn ++ pins))) [] σ' H' { s' with heap := h3 } := by
    refine ⟨J3.ok.suite _ _, J3.os, J3.bare, J3.base, J3.loc, J3.cell, J3.free, J3.freeC, fun p hp => ?_, J3.hok, J3.len⟩
    rw [List.append_nil] at hp
    rcases List.mem_cons.mp hp with rfl | hp
    · exact ⟨he3, na, fun z => fa (show a ∈ _ by rw [show a = X.env.locals from z]; exact locF), fun z => fa (fsF a z), noCell oe vs hd⟩
    rcases List.mem_cons.mp hp with rfl | hp
    · exact ⟨hT, nT, fun z => fT (show T ∈ _ by rw [show T = X.env.locals from z]; exact locF), fun z => fT (fsF T z), noCell oT ts hdT⟩
    · exact J3.pin p hp
  -- the class, the trace
  obtain ⟨t1, ht1⟩ : ∃ t1, ts[1]? = some t1 := ⟨_, Array.getElem?_eq_getElem (Nat.lt_trans (by decide) (Array.getElem?_eq_some_iff.mp ht3).1)⟩
  refine wpAny_typeOf_ref he3 ?_
  have tail : ∀ (tv : V) (t : Value), RelV tv t → some (Value.ref a) ≠ some byPass ∧ codeAny (model X.prog X.w) (X.A.mark (some (.ref a))) (.call (.ref fx) ⟨[.ref x, oe.cls, .ref a, t], []⟩) (fun r s5 => match r with
        | .ok (.ret v) => v = .none ∧ wpAny (model X.prog X.w) X.A (PySem.passOn "with" (.ref a) X.env : Sem Flow) (SP X pins D) X.xe s5
        | _ => False) { s' with heap := h3 } := fun tv t rt => by
    refine ⟨fun z => ref_ne_byPass a (Option.some.inj z), ?_⟩
    have rv : Vals [V.ref x, vc, V.ref a, tv] [Value.ref x, oe.cls, Value.ref a, t] := .cons rfl (.cons (by rw [hz.1]; exact rc) (.cons rfl (.cons rt .nil)))
    have hq := hw [vc, .ref a, tv] rfl
    have hl : ([Value.ref x, oe.cls, Value.ref a, t] : List Value).length = ps.length := by rw [← rv.length]; exact FX.len _ _ _ _ hq
    have bd := hb _ [Value.ref x, oe.cls, Value.ref a, t] S3.kIn (by rw [List.append_nil]; exact hl)
    rw [List.append_nil] at bd
    obtain ⟨c1, c2, c3, c4, c5⟩ := S3.pin (a, oe) (List.mem_append_left _ List.mem_cons_self)
    refine codeAny_mono (FX.run (X.A.mark (some (.ref a))) X.stack { s' with heap := h3 } H' ⟨[.ref x, oe.cls, .ref a, t], []⟩ _ _ _ _ (a, oe) ⟨hr.dp, hr.un⟩ ⟨rfl, vs, hd, hz.2.2 vs hd⟩ ⟨c1, c2, fun z => (List.mem_cons.mp (S3.stkSub _ z)).elim c3 c4, c5⟩ S3.env0 bd rv hq) fun r s6 h6 => ?_
    match r, h6 with
    | .error e, h6 => exact h6.elim
    | .ok .next, h6 => exact h6.elim
    | .ok .brk, h6 => exact h6.elim
    | .ok .cont, h6 => exact h6.elim
    | .ok (.ret v), h6 =>
      obtain ⟨v6, H6, S6, r6, rfl, w6⟩ := S3.after h6
      exact ⟨r6, goes_on hs hf hex ok tk J nb k2 hnT fa fT hz hd hv1 hTe hdT ht3 S6 w6⟩
  unfold tracebackOf
  refine wpAny_bind (wpAny_field he3 hd hv1 ?_)
  dsimp only
  refine wpAny_bind (wpAny_field hT hdT ht1 ?_)
  by_cases z : (t1 == Value.none) = true
  · rw [if_pos z]; exact wpAny_pure (tail .non .none rfl)
  · rw [if_neg z]; exact wpAny_pure (tail (.ref T) (.ref T) rfl)
end
def tWithRet (K : PySem.W.Frag) (C : Addr) (i : Nat) (spE spX : Sp) (tc : TE) (tb : WX → TE) (Wout : WX) : TS := fun D σ H => tc σ H fun xv H1 => ∃ x dx fs, xv = .ref x ∧ H1 x = some (.ins C dx fs) ∧
  spE [.ref x] H1 (fun v H2 => tb (wWith spX x Wout) (σ.set i (some v)) H2 fun r H3 => spX [.ref x, .non, .non, .non] H3 (fun _ H4 => D.rt r H4) (fun _ _ _ => False)) (fun _ _ _ => False)
/-- with ctx as n: return b -/
theorem ps_withRet {X : Cx} {Wout : WX} {spE spX : Sp} {C fe fx : Addr} {k j : Nat} {fdE fdX : FuncData} {psE psX : List Str} {c b : Expr} {n : Str} {i : Nat} {tc : TE} {tb : WX → TE} {np rp pos : Pos}
    (hs : X.stack = X.env :: X.outer) (hf : X.env.frame = some X.env.locals) (hex : X.ex = []) (hN : X.N.Nodup) (hi : X.N[i]? = some n) (hln : X.env.kindOf n = some .local) (tk : L2N.Takes X Wout) (hr : Room j X.A) (hk : k ≤ j)
    (mE : Meth X.K C "__enter__" fe) (FE : FnOk X.prog X.w X.K X.mg X.base CX0 k fe fdE psE spE) (bE : Binds X.K fdE psE [])
    (mX : Meth X.K C "__exit__" fx) (FX : FnOk X.prog X.w X.K X.mg X.base CX0 k fx fdX psX spX) (FH : L2H.FnH X.prog X.w X.K X.mg X.base CX0 k fx fdX psX spX) (bX : Binds X.K fdX psX [])
    (hc : PE X c tc) (hb : ∀ (W : WX) (pn : List (Addr × Obj)) (xe : Value → Shared → Prop), L2N.Takes (X.tr pn xe) W → PassesOwn (model X.prog X.w) X.A X.env xe → PE (X.tr pn xe) b (tb W)) :
    PS X (.With [⟨c, some (.Name n np)⟩] [.Return (some b) rp] pos) (tWithRet X.K C i spE spX tc tb Wout) := by
  refine ⟨fun pins s σ H D I h => PySem.W.kw_execN (thn (hc.run pins s σ H _ I h) fun u s1 ⟨xv, H1, I1, r1, x, dx, fs, ex, hx, q1⟩ => ?_)⟩
  subst ex
  cases (show u = Value.ref x from r1)
  have ok := I.ok
  obtain ⟨mA, O, _⟩ := ins_get I1.hok hx
  obtain ⟨od, J, _⟩ := O.look
  refine with_own (b := assign (.Name n np) X.env) I1.kIn J mE.at_ mE.fn mX.at_ mX.fn ?_
  refine thn (run_fn (ds := []) (us := [.ref x]) (vs := [.ref x]) FE (hr.mono hk) bE .nil pass0 I1 (.cons rfl .nil) q1) fun v s2 ⟨v2, H2, I2, r2, q2⟩ => ?_
  refine wpAny_assign_Name (store_ok I2 hN hi (.inl hln) r2 (fun s3 I3 => ?_) (.inr hln))
  refine wpAny_execs_cons (wpAny_Return_some ?_)
  refine wpAny_mono ((hb (wWith spX x Wout) (X.pn ++ pins) (fun e s4 => Behind X.prog X.w X.A X.xe X.env x fx (SP X pins D) (.error e) s4) (fun u s' xx => behind_exc hs hf hex ok tk (L2H.roomH_of (hr.mono hk)) FH bX xx) PassesOwn.looking).run [] s3 _ H2 _ (I3.toTry _) q2) (fun u4 s4 z => ?_) (fun e4 s4 he => he)
  obtain ⟨v4, H4, I4, r4, q4⟩ := z
  have I5 : Inv X pins (σ.set i (some v2)) H4 s4 := I4.ofTry ok
  exact thn (run_fn (ds := []) (us := [.ref x, .none, .none, .none]) (vs := [.ref x, .non, .non, .non]) FX (hr.mono hk) bX .nil pass0 I5 (.cons rfl (.cons rfl (.cons rfl (.cons rfl .nil)))) q4) fun v5 s5 ⟨w5, H5, I6, r5, q5⟩ => ⟨v4, _, H5, I6, r4, q5⟩
end UnH

set_option maxHeartbeats 4000000
/-! UnLamT: lambdas are made: tables of code objects whose own tables are told too. -/
namespace UnP
open PySem PySem.Spec PyProof.Rows L2
/-- the object at c is a code object of the name q with its table at P -/
def CodeH (c : Addr) (q : Str) (P : Addr) : HO := .ext fun h => (∃ (oc : Obj) (vs : Array Value) (t : Tok), h.get? c = some oc ∧ oc.data = .fields vs ∧ vs[1]? = some (.str q t)) ∧ PySem.W.CodeHd h c P
theorem codeH_ok {P : Program} {w : World} {H : Hp} {h : Heap} {c T : Addr} {q : Str} (r : h.CodeRec (.ref c) q) (k : PySem.W.CodeHd h c T) : ObjOk P w H h c (CodeH c q T) := by
  obtain ⟨c2, oc, vs, t, e, h1, h2, h3⟩ := r
  cases e
  refine ⟨⟨⟨oc, vs, t, h1, h2, h3⟩, k⟩, ⟨oc, h1⟩, fun h1 h2 ⟨⟨oc, vs, t, a, b⟩, ⟨o, vs2, f1, f2, f3, f4, f5, f6, f7, e, r⟩⟩ st => ⟨⟨oc, vs, t, st _ a, b⟩, ⟨o, vs2, f1, f2, f3, f4, f5, f6, f7, st _ e, r⟩⟩⟩
theorem codeH_at {P : Program} {w : World} {H : Hp} {h : Heap} {c T : Addr} {q : Str} (hok : HOk P w H h) (e : H c = some (CodeH c q T)) : h.CodeRec (.ref c) q ∧ PySem.W.CodeHd h c T := by
  obtain ⟨⟨⟨oc, vs, t, h1, h2, h3⟩, k⟩, _, _⟩ := hok c _ e
  exact ⟨⟨c, oc, vs, t, rfl, h1, h2, h3⟩, k⟩
/-- the table at P: each code object that it tells bears the name q, and its own table is as R says -/
def TabW (R : Hp → Addr → Prop) (H : Hp) (P : Addr) (q : Str) : Prop := ∃ ps : Array Value, H P = some (.tbl ps) ∧ TriplesOk ps.toList ∧ ∀ (pos : Pos) (cv : Value), codeAmong pos ps.toList = some cv → ∃ c P', cv = .ref c ∧ H c = some (CodeH c q P') ∧ R H P'
/-- behind a lambda that was made: the table at P has grown, all else is as it was -/
structure Grow (H : Hp) (P : Addr) (H1 : Hp) : Prop where
  old : ∀ b o, b ≠ P → H b = some o → H1 b = some o
  non : ∀ b, H1 b = none → H b = none
  tbl : ∀ ps, H P = some (.tbl ps) → ∃ more, H1 P = some (.tbl (ps ++ more))
theorem codeH_ne {c T : Addr} {q : Str} (ps : Array Value) : CodeH c q T ≠ .tbl ps := fun z => by unfold CodeH at z; cases z
section
variable {M : Model} {A : Around} {E : Value → Shared → Prop} {s : Shared} {name qual : Str} {params : Arguments} {body : Expr} {scope : Scope} {env : Env} {c P : Addr} {ps : Array Value} {pos : Pos} {firstLine : Nat} {mg : Str → Option Value} {clos : List (Str × Addr)} {Q : Value → Shared → Prop}
/-- a lambda is made, its code is new -/
theorem make_new (hcl : closureFor scope env = pure clos) (hge : env.globals = mainGlobals) (hg : s.heap.Ns mainGlobals mg) (hcode : env.code = .ref c) (C : PySem.W.CodeHd s.heap c P) (hP : s.heap.get? P = some (PySem.W.tabObj ps)) (ht : TriplesOk ps.toList) (hn : codeAmong pos ps.toList = none) (hgP : mainGlobals ≠ P) (hb : s.heap.BuiltinsAt mg P)
    (h : ∀ (c' P' : Addr) (ctv : Value) (h' : Heap) (tk : Tok), Heap.ExtBut P s.heap h' → s.heap.objs.size ≤ c' → c' < h'.objs.size → s.heap.objs.size ≤ P' → P' < h'.objs.size → c' ≠ P' → h'.CodeRec (.ref c') qual → PySem.W.CodeHd h' c' P' → h'.get? P' = some (PySem.W.tabObj #[]) →
      h'.get? P = some (PySem.W.tabObj (ps ++ #[rawInt pos.line, rawInt pos.col, .ref c'])) → Q (.ref h'.objs.size) { s with heap := h'.push (PySem.W.kla_obj name qual params body scope clos ((mg "__name__").getD .none) c' ctv), toks := tk }) :
    wpAny M A (makeFunction name qual params (.expr body) scope env [] [] [] pos firstLine) Q E s := by
  obtain ⟨bm, ob, hbm, b1, b2, b3, b4, b5, b6, b7⟩ := hb
  rw [makeFunction_eq]; simp only [List.zip_nil_right, List.filterMap_nil, List.isEmpty_nil, if_true, pure_bind]
  unfold makeTail; rw [hcl, hge]; refine wpAny_bind (wpAny_pure ?_)
  have own : ∀ {h' : Heap} {c' : Addr}, (∃ P', s.heap.objs.size ≤ P' ∧ h'.IsCode c' P' #[] ∧ h'.TableAt c' P' #[]) → ∃ P', s.heap.objs.size ≤ P' ∧ P' < h'.objs.size ∧ c' ≠ P' ∧ PySem.W.CodeHd h' c' P' ∧ h'.get? P' = some (PySem.W.tabObj #[]) := fun {h' c'} ⟨P', l, i, t⟩ => by
    have k := PySem.W.CodeHd.of i t
    refine ⟨P', l, i.lt.2, ?_, k, t.2⟩
    obtain ⟨_, _, _, _, _, _, _, _, _, _, _, _, _, _, _, _, _, _, z⟩ := k
    exact z
  cases clos with
  | nil =>
    simp only [List.isEmpty_nil, if_true]; refine wpAny_bind (wpAny_pure (wpAny_bind ?_))
    refine wpAny_functionCodeX hcode (C.code hP ht) (C.tab hP) hn fun c' h' tk hx l1 l2 _ r t n => ?_
    obtain ⟨P', m1, m2, m3, m4, m5⟩ := own n
    have g' := hg.extBut hx hgP
    exact wpAny_bind (wpAny_builtinsFor g' hbm b1 (hx _ _ b3 b4) b5 b6 b7 (wpAny_bind (wpAny_nsGet g' (wpAny_bind (wpAny_pure (wpAny_newObj_type (h c' P' .none h' tk hx l1 l2 m1 m2 m3 r m4 m5 t.2) (by size_fits)))))))
  | cons q r =>
    simp only [List.isEmpty_cons, Bool.false_eq_true, if_false]; refine wpAny_bind (wpAny_newTextTuple (wpAny_bind ?_))
    have up : ∀ {oT : Obj}, ∀ b o, s.heap.get? b = some o → (s.heap.push oT).get? b = some o := fun {oT} b o e => Heap.get?_push_of_some _ e
    refine wpAny_functionCodeX hcode ((C.keeps up).code (up _ _ hP) ht) ((C.keeps up).tab (up _ _ hP)) hn fun c' h' tk hx l1 l2 _ r t n => ?_
    have sz : ∀ {oT : Obj} {n : Nat}, (s.heap.push oT).objs.size ≤ n → s.heap.objs.size ≤ n := fun {oT n} l => by rw [Heap.size_push] at l; omega
    obtain ⟨P', m1, m2, m3, m4, m5⟩ := own (h' := h') (c' := c') (n.elim fun P' n => ⟨P', sz n.1, n.2⟩)
    have g' := (hg.push _).extBut hx hgP
    have hx' : Heap.ExtBut P s.heap h' := fun b o hb e => hx b o hb (up b o e)
    exact wpAny_bind (wpAny_builtinsFor g' hbm b1 (hx' _ _ b3 b4) b5 b6 b7 (wpAny_bind (wpAny_nsGet g' (wpAny_bind (wpAny_pure (wpAny_newObj_type (h c' P' _ h' tk hx' (sz l1) l2 m1 m2 m3 r m4 m5 t.2) (by size_fits)))))))
end
section
variable {X : Cx} {pins : List (Addr × Obj)} {σ : L2.St} {H : Hp} {s : Shared}
/-- the table's object is written; the code object at c and its table at T are new and known from now on -/
theorem inv_grown {P c T : Addr} {q : Str} {ps more : Array Value} {h' : Heap} {t' : Nat} (I : Inv X pins σ H s) (hP : H P = some (.tbl ps)) (k : ∀ b o, b ≠ P → s.heap.get? b = some o → h'.get? b = some o) (hm : h'.get? P = some { cls := .none, data := .fields (ps ++ more) })
    (hc : s.heap.objs.size ≤ c) (hT : s.heap.objs.size ≤ T) (ne : c ≠ T) (r : h'.CodeRec (.ref c) q) (kd : PySem.W.CodeHd h' c T) (gT : h'.get? T = some (PySem.W.tabObj #[])) :
    Inv X pins σ (upd (upd (upd H P (.tbl (ps ++ more))) c (CodeH c q T)) T (.tbl #[])) { s with heap := h', toks := t' } ∧ Grow H P (upd (upd (upd H P (.tbl (ps ++ more))) c (CodeH c q T)) T (.tbl #[])) := by
  have nC : H c = none := I.hok.fresh hc
  have nT : H T = none := I.hok.fresh hT
  have lt : ∀ b o, s.heap.get? b = some o → b ≠ c ∧ b ≠ T := fun b o e => ⟨Nat.ne_of_lt (Nat.lt_of_lt_of_le (Heap.lt_size e) hc), Nat.ne_of_lt (Nat.lt_of_lt_of_le (Heap.lt_size e) hT)⟩
  have nP : ∀ b u, H b = some u → (∀ z, u ≠ .tbl z) → b ≠ P := fun b u e z y => z ps (Option.some.inj (e.symm.trans (y ▸ hP)))
  have nN : ∀ b, H b = none → b ≠ P := fun b e y => by rw [y, hP] at e; cases e
  have at_ : ∀ b, b ≠ P → b ≠ c → b ≠ T → upd (upd (upd H P (.tbl (ps ++ more))) c (CodeH c q T)) T (.tbl #[]) b = H b := fun b h1 h2 h3 => by rw [upd_ne h3, upd_ne h2, upd_ne h1]
  have old : ∀ b u, b ≠ P → H b = some u → upd (upd (upd H P (.tbl (ps ++ more))) c (CodeH c q T)) T (.tbl #[]) b = some u := fun b u h1 e => (at_ b h1 (ne_of_none e nC) (ne_of_none e nT)).trans e
  have atP : upd (upd (upd H P (.tbl (ps ++ more))) c (CodeH c q T)) T (.tbl #[]) P = some (.tbl (ps ++ more)) := by rw [upd_ne (ne_of_none hP nT), upd_ne (ne_of_none hP nC), upd_same]
  refine ⟨I.step (g' := s.gens) (d' := s.drawn) (ch := []) (fun b hb => absurd hb (by simp)) (fun b o _ _ _ e n => k b o (nN b n) e) (fun b o _ _ _ e n => ⟨o.slots, k b o (nN b n) e⟩) (fun b o _ e n => (at_ b (nN b n) (lt b o e).1 (lt b o e).2).trans n) (fun b o _ e => ?_)
    (fun b xs e => old b _ (nP b _ e fun z y => by cases y) e) (fun b o u e => old b _ (nP b _ e fun z y => by cases y) e) (fun b qs e => ?_) (fun m hn => ?_) (fun b u e => ?_) I.bare, fun b o h1 e => old b o h1 e, fun b e => ?_, fun qs e => ⟨more, ?_⟩⟩
  · by_cases hb : b = P
    · exact ⟨_, hb ▸ hm⟩
    · exact ⟨o, k b o hb e⟩
  · by_cases hb : b = P
    · rw [hb, hP] at e; cases e
      exact ⟨more, hb ▸ atP⟩
    · exact ⟨#[], by rw [old b _ hb e]; simp⟩
  · obtain ⟨ob, es, ep, ho, r⟩ := hn; exact ⟨ob, es, ep, k _ ob (nN _ I.free) ho, r⟩
  · by_cases h1 : b = T
    · rw [h1, upd_same] at e; cases e; rw [h1]; exact gT
    by_cases h2 : b = c
    · rw [h2, upd_ne ne, upd_same] at e; cases e; rw [h2]; exact codeH_ok r kd
    by_cases h3 : b = P
    · rw [h3, atP] at e; cases e; rw [h3]; exact hm
    rw [at_ b h3 h2 h1] at e
    refine (I.hok b u e).stay (fun d v hd q => k d v ?_ q) (fun d q => old d _ (nP d _ q fun z y => by cases y) q) fun d xs q => old d _ (nP d _ q fun z y => by cases y) q
    rcases hd with rfl | z
    · exact h3
    · exact nP d _ z fun z y => by cases y
  · by_cases h1 : b = T
    · rw [h1]; exact nT
    by_cases h2 : b = c
    · rw [h2]; exact nC
    by_cases h3 : b = P
    · rw [h3, atP] at e; cases e
    · exact (at_ b h3 h2 h1).symm.trans e
  · cases hP.symm.trans e; exact atP
/-- a lambda is made by the code at c with its table at P -/
theorem lam_make {R : Hp → Addr → Prop} {c P : Addr} {params : Arguments} {body : Expr} {scope : Scope} {pos : Pos} {E : Value → Shared → Prop} {Q : Value → Shared → Prop} (I : Inv X pins σ H s) (C : PySem.W.CodeHd s.heap c P) (hb : s.heap.BuiltinsAt X.mg P) (hgP : mainGlobals ≠ P) (hcode : X.env.code = .ref c)
    (hT : TabW R H P (X.env.qual ++ "<lambda>")) (hR : ∀ H1 T, Grow H P H1 → R H T → R H1 T) (hE : ∀ H1 T, Grow H P H1 → H T = none → H1 T = some (.tbl #[]) → R H1 T) (hdef : defaultsOf params X.env = ([], [])) (hfree : ∀ y ∈ scope.names, y.2 = .free → ∃ c, X.env.cells.lookup y.1 = some c)
    (h : ∀ (f c' P' : Addr) (pm ctv : Value) (H1 : Hp) (s' : Shared), Inv X pins σ H1 s' → Grow H P H1 → TabW R H1 P (X.env.qual ++ "<lambda>") → R H1 P' →
      s'.heap.get? f = some (PySem.W.kla_obj "<lambda>" (X.env.qual ++ "<lambda>") params body scope (cloFrom X.env.cells scope.names []) pm c' ctv) → H1 f = none → f ∉ frs X.stack → H1 c' = some (CodeH c' (X.env.qual ++ "<lambda>") P') → Q (.ref f) s') :
    wpAny (model X.prog X.w) X.A (eval (.Lambda params body scope pos) X.env) Q E s := by
  obtain ⟨ps, hP, ht, ha⟩ := hT
  refine PySem.W.kla_eval hdef ?_
  have hP' : s.heap.get? P = some { cls := .none, data := .fields ps } := I.hok P _ hP
  have nofr : ∀ f, s.heap.objs.size ≤ f → f ∉ frs X.stack := fun f hf z => by
    rcases List.mem_cons.mp (I.stkSub _ z) with e | e
    · have h1 := I.lt; rw [← e] at h1; exact Nat.lt_irrefl _ (Nat.lt_of_lt_of_le h1 hf)
    · exact I.nofs hf e
  cases hc : codeAmong pos ps.toList with
  | none =>
    refine make_new (mg := X.mg) (c := c) (P := P) (ps := ps) (closure_ok hfree) I.ok.glob (I.mod.glob.keeps I.bk) hcode C hP' ht hc hgP hb fun c' P' ctv h' tk hx l1 l2 m1 m2 ne r k gT gP => ?_
    obtain ⟨I1, g⟩ := inv_grown (t' := tk) (more := #[rawInt pos.line, rawInt pos.col, .ref c']) (h' := h'.push (PySem.W.kla_obj "<lambda>" (X.env.qual ++ "<lambda>") params body scope (cloFrom X.env.cells scope.names []) ((X.mg "__name__").getD .none) c' ctv)) (q := X.env.qual ++ "<lambda>") (c := c') (T := P') I hP (fun b o hb e => Heap.get?_push_of_some _ (hx b o hb e)) (Heap.get?_push_of_some _ gP) l1 m1 ne
      (r.elim fun c2 ⟨oc, vs, t, e, z, r⟩ => ⟨c2, oc, vs, t, e, Heap.get?_push_of_some _ z, r⟩) (k.keeps fun b o e => Heap.get?_push_of_some _ e) (Heap.get?_push_of_some _ gT)
    have nC : H c' = none := I.hok.fresh l1
    have nT : H P' = none := I.hok.fresh m1
    have hsz : s.heap.objs.size ≤ h'.objs.size := Nat.le_trans l1 (Nat.le_of_lt l2)
    have eL : (ps ++ #[rawInt pos.line, rawInt pos.col, .ref c']).toList = ps.toList ++ [rawInt pos.line, rawInt pos.col, .ref c'] := by simp
    have code : upd (upd (upd H P (.tbl (ps ++ #[rawInt pos.line, rawInt pos.col, .ref c']))) c' (CodeH c' (X.env.qual ++ "<lambda>") P')) P' (.tbl #[]) c' = some (CodeH c' (X.env.qual ++ "<lambda>") P') := by rw [upd_ne ne, upd_same]
    have rP := hE _ P' g nT upd_same
    refine h h'.objs.size c' P' ((X.mg "__name__").getD .none) ctv _ _ I1 g ⟨_, by rw [upd_ne (ne_of_none hP nT), upd_ne (ne_of_none hP nC), upd_same], by rw [eL]; exact PySem.TriplesOk_snoc _ _ _ _ ht, fun p' cv hcv => ?_⟩ rP (Heap.get?_push_size _ rfl) ?_ (nofr _ hsz) code
    · rw [eL] at hcv
      rcases LamX.among_app _ ht hcv with z | z
      · obtain ⟨c0, P0, e1, e2, e3⟩ := ha p' cv z
        exact ⟨c0, P0, e1, g.old _ _ (fun y => codeH_ne ps (Option.some.inj (e2.symm.trans (y ▸ hP)))) e2, hR _ _ g e3⟩
      · exact ⟨c', P', z, code, rP⟩
    · rw [upd_ne (Nat.ne_of_gt m2), upd_ne (Nat.ne_of_gt l2), upd_ne (Nat.ne_of_gt (Nat.lt_of_lt_of_le (Heap.lt_size hP') hsz))]; exact I.hok.fresh hsz
  | some cv =>
    obtain ⟨c', P', e, hco, rP⟩ := ha pos cv hc
    subst e
    refine PySem.W.kla_makeFunctionHit (mg := X.mg) (c := c) (P := P) (ps := ps) (closure_ok hfree) I.ok.glob (I.mod.glob.keeps I.bk) hcode C hP' ht hc hb fun ctv h' tk hx hsz => ?_
    have I1 : Inv X pins σ H { s with heap := h'.push (PySem.W.kla_obj "<lambda>" (X.env.qual ++ "<lambda>") params body scope (cloFrom X.env.cells scope.names []) ((X.mg "__name__").getD .none) c' ctv), toks := tk } := I.kept fun b o e => Heap.get?_push_of_some _ (hx b o e)
    exact h h'.objs.size c' P' ((X.mg "__name__").getD .none) ctv H _ I1 ⟨fun _ _ _ e => e, fun _ e => e, fun ps' e => ⟨#[], by rw [e]; simp⟩⟩ ⟨ps, hP, ht, ha⟩ rP (Heap.get?_push_size _ rfl) (I.hok.fresh hsz) (nofr _ hsz) hco
end
end UnP

set_option maxHeartbeats 4000000
/-! UnLamP: a lambda with one parameter, called by the def that got it; its parameter may be a cell, what it raises has no context. -/
namespace UnP
open PySem PySem.Spec PyProof.Rows L2
/-- the cells of a lambda's frame at L; b: its parameter p is one -/
def cellsP (b : Bool) (p : Str) (n : Nat) (cl : List (Str × Addr)) : List (Str × Addr) := if b = true then (p, n) :: cl else cl
/-- its names: the parameter p, captured ones -/
structure LamP (sc scope : Scope) (b : Bool) (p : Str) : Prop where
  kind : scope.kind = .function
  co : scope.isCoroutine = false
  gen : scope.isGenerator = false
  par : scope.names.lookup p = some (if b = true then .cell else .local)
  own : ∀ y ∈ scope.names, y.2 = .local ∨ y.2 = .cell → y.1 = p
  free : ∀ y ∈ scope.names, y.2 = .free → sc.names.lookup y.1 = some .cell ∨ sc.names.lookup y.1 = some .free
  cells : ∀ n cl, cellsFrom n scope.names cl = cellsP b p n cl
  push : ∀ h, pushCells h scope.names = if b = true then h.push { cls := .type "cell", data := .cell none } else h
def lamPB (sc scope : Scope) (b : Bool) (p : Str) : Bool :=
  decide (scope.kind = .function) && !scope.isCoroutine && !scope.isGenerator && decide (scope.names.lookup p = some (if b = true then .cell else .local)) && scope.names.all fun y => (!(decide (y.2 = .local) || decide (y.2 = .cell)) || decide (y.1 = p)) && (!decide (y.2 = .free) || decide (sc.names.lookup y.1 = some .cell) || decide (sc.names.lookup y.1 = some .free))
theorem lamP_by {sc scope : Scope} {b : Bool} {p : Str} (h : lamPB sc scope b p = true) (h1 : ∀ n cl, cellsFrom n scope.names cl = cellsP b p n cl) (h2 : ∀ h, pushCells h scope.names = if b = true then h.push { cls := .type "cell", data := .cell none } else h) : LamP sc scope b p := by
  unfold lamPB at h
  simp only [Bool.and_eq_true, Bool.not_eq_true', decide_eq_true_eq, List.all_eq_true] at h
  obtain ⟨⟨⟨⟨a1, a2⟩, a3⟩, a4⟩, a5⟩ := h
  refine ⟨a1, a2, a3, a4, fun y hy e => ?_, fun y hy e => ?_, h1, h2⟩
  · have z := (a5 y hy).1
    rcases e with e | e <;> simpa [e] using z
  · have z := (a5 y hy).2
    simpa [e] using z
/-- a frame with one argument -/
theorem lam_env {M : Model} {A : Around} {E : Value → Shared → Prop} {s : Shared} {sc scope : Scope} {b : Bool} {p : Str} {globals : Addr} {cl : List (Str × Addr)} {v : Value} {qual : Str} {func : Option Addr} {code : Value} {builtins : Addr} {Q : Env → Shared → Prop} (L : LamP sc scope b p)
    (h : ∀ (h₁ : Heap) (tk : Nat), h₁.Ns s.heap.objs.size (fun y => if b = false ∧ y = p then some v else none) → (b = true → h₁.IsCell (s.heap.objs.size + 1) (some v)) → (∀ a o, s.heap.get? a = some o → h₁.get? a = some o) →
      Q (newEnv scope s.heap.objs.size globals (cellsP b p (s.heap.objs.size + 1) cl) qual func code none builtins) { s with heap := h₁, toks := tk }) :
    wpAny M A (newFunctionEnv scope globals cl [(p, v)] qual func code none builtins) Q E s := by
  simp only [newFunctionEnv, Option.isSome_none, Bool.false_eq_true, if_false]
  refine wpAny_bind (wpAny_alloc (wpAny_bind (wpAny_layCells _ (fun n k c => rfl) scope.names cl _ _ ?_)))
  rw [show ({ s with heap := s.heap.push { cls := .type "frame", data := .dict #[] } } : Shared).heap.objs.size = s.heap.objs.size + 1 from Heap.size_push .., L.cells, L.push]
  have up : ∀ a o, s.heap.get? a = some o → (s.heap.push { cls := .type "frame", data := .dict #[] }).get? a = some o := fun a o e => Heap.get?_push_of_some _ e
  simp only [List.forIn_cons, List.forIn_nil]
  cases b with
  | false =>
    simp only [Bool.false_eq_true, if_false]
    refine wpAny_bind (wpAny_bind (wpAny_bind (wpAny_storeName_local (m := fun _ => none) ?_ ?_ (fun h₁ hn hs => wpAny_pure (wpAny_pure (wpAny_pure (h h₁ _ ?_ (fun z => by cases z) fun a o e => ?_)))) ?_)))
    · exact L.par
    · exact Heap.Ns.new s.heap (.type "frame")
    · refine (cast (congrArg _ ?_) hn); funext y; simp
    · exact hs.extBut a o (Nat.ne_of_lt (Heap.lt_size e)) (up a o e)
    · show (scope.kind == .class || (scope.kind == .module && _)) = false
      rw [L.kind]; rfl
  | true =>
    simp only [if_true]
    refine wpAny_bind (wpAny_bind (wpAny_bind (wpAny_storeName_cell (c := s.heap.objs.size + 1) (v₀ := none) L.kind L.par (by simp [cellsP, List.lookup]) ⟨{ cls := .type "cell", data := .cell none }, ?_, rfl⟩ (fun h₁ hn hs => wpAny_pure (wpAny_pure (wpAny_pure (h h₁ _ ?_ (fun _ => hn) fun a o e => ?_)))))))
    · have z : (s.heap.push { cls := .type "frame", data := .dict #[] }).objs.size = s.heap.objs.size + 1 := Heap.size_push ..
      rw [← z]; exact Heap.get?_push_size _ rfl
    · have z := (((Heap.Ns.new s.heap (.type "frame")).keeps (fun a o e => Heap.get?_push_of_some ({ cls := .type "cell", data := .cell none } : Obj) e)).sameBut hs (Nat.ne_of_lt (Nat.lt_succ_self _)))
      refine (cast (congrArg _ ?_) z); funext y; simp
    · exact hs.extBut a o (Nat.ne_of_lt (Nat.lt_succ_of_lt (Heap.lt_size e))) (Heap.get?_push_of_some _ (up a o e))
abbrev envP (X : Cx) (scope : Scope) (b : Bool) (p : Str) (L f c' : Addr) : Env := PySem.W.envX (X.env.qual ++ "<lambda>") scope L f (.ref c') (cellsP b p (L + 1) (cloFrom X.env.cells scope.names []))
/-- the context of its body, entered at s from the frames outer -/
def lcx (X : Cx) (A : Around) (outer : List Env) (s : Shared) (H : Hp) (E : XK) (scope : Scope) (b : Bool) (p : Str) (f c' : Addr) : Cx :=
  { prog := X.prog, w := X.w, K := X.K, mg := X.mg, base := X.base, A := A.deeper (envP X scope b p s.heap.objs.size f c'), N := p :: X.N, s_0 := s, H_0 := H, env := envP X scope b p s.heap.objs.size f c', outer := outer, stack := envP X scope b p s.heap.objs.size f c' :: outer, ex := [], fn := fun _ => false, calm := true, pn := [],
    xe := fun e s' => wpAny (model X.prog X.w) (A.deeper (envP X scope b p s.heap.objs.size f c')) (leaving (envP X scope b p s.heap.objs.size f c') e) (fun _ s'' => L2N.CX X.prog X.w outer H s E e s'') (fun e' s'' => L2N.CX X.prog X.w outer H s E e' s'') s' }
section
variable {X : Cx} {pins : List (Addr × Obj)} {σ : L2.St} {H HZ : Hp} {s s1 : Shared}
theorem lam_start {A : Around} {outer : List Env} {E : XK} {scope : Scope} {b : Bool} {p : Str} {f c' : Addr} {h₁ : Heap} {tk : Nat} {v : V} {u : Value} (I : Inv X pins σ H s) (L : LamP X.env.scope scope b p) (hp : p ∉ X.N) (e0 : Env0 X.prog X.w X.K X.mg X.base A outer s1 HZ) (hd : A.handled = none)
    (un : Un (frs X.stack) [] H HZ s.heap s1.heap) (r : RelV v u) (hns : h₁.Ns s1.heap.objs.size fun y => if b = false ∧ y = p then some u else none) (hcl : b = true → h₁.IsCell (s1.heap.objs.size + 1) (some u)) (kp : ∀ a o, s1.heap.get? a = some o → h₁.get? a = some o) :
    Inv (lcx X A outer s1 HZ E scope b p f c') [] (some v :: σ) HZ { s1 with heap := h₁, toks := tk } := by
  have cm : ∀ {y c}, (cloFrom X.env.cells scope.names []).lookup y = some c → X.env.cells.lookup y = some c := fun {y c} e => by
    rcases cloFrom_mem (PySem.mem_of_lookup e) with hm | ⟨h1, h2⟩
    · cases hm
    · obtain ⟨c1, hc⟩ : ∃ c, X.env.cells.lookup y = some c := (L.free _ h1 rfl).elim (fun k => I.ok.has _ (.inl k)) fun k => I.ok.has _ (.inr k)
      rw [hc] at h2 ⊢; rw [h2]; rfl
  -- its cells
  have cs : ∀ {y c}, (cellsP b p (s1.heap.objs.size + 1) (cloFrom X.env.cells scope.names [])).lookup y = some c → (b = true ∧ y = p ∧ c = s1.heap.objs.size + 1) ∨ ((b = true → y ≠ p) ∧ X.env.cells.lookup y = some c) := fun {y c} e => by
    cases b with
    | false => exact .inr ⟨(fun z => nomatch z), cm e⟩
    | true =>
      have e : ((p, s1.heap.objs.size + 1) :: cloFrom X.env.cells scope.names []).lookup y = some c := e
      rw [List.lookup_cons] at e
      by_cases z : (y == p) = true
      · rw [z] at e; cases e; exact .inl ⟨rfl, beq_iff_eq.mp z, rfl⟩
      · rw [show (y == p) = false by simpa using z] at e; exact .inr ⟨fun _ q => z (beq_iff_eq.mpr q), cm e⟩
  have clook : ∀ {y}, scope.names.lookup y = some .free → ∃ c, (cellsP b p (s1.heap.objs.size + 1) (cloFrom X.env.cells scope.names [])).lookup y = some c ∧ X.env.cells.lookup y = some c := fun {y} hl => by
    obtain ⟨c, hc⟩ := mem_lookup (cloFrom_has (cells := X.env.cells) (acc := []) (show (y, NameKind.free) ∈ scope.names from PySem.mem_of_lookup hl))
    refine ⟨c, ?_, cm hc⟩
    cases b with
    | false => exact hc
    | true =>
      show ((p, s1.heap.objs.size + 1) :: cloFrom X.env.cells scope.names []).lookup y = some c
      rw [List.lookup_cons]
      have ne : (y == p) = false := beq_eq_false_iff_ne.mpr fun z => by rw [z, L.par] at hl; cases hl
      rw [ne]; exact hc
  have cellK : ∀ {c : Addr} {v : Option Value}, H c = none → s.heap.IsCell c v → h₁.IsCell c v := fun {c v} n ⟨o, ho, hd⟩ => by
    obtain ⟨sl, q⟩ := un.any ho n (by simp); exact ⟨_, kp _ _ q, hd⟩
  have cellLt : ∀ {c : Addr} {y : Str}, X.env.cells.lookup y = some c → c < s1.heap.objs.size := fun {c y} e => by
    obtain ⟨v, o, ho, hd⟩ := I.cell y c e; obtain ⟨sl, q⟩ := un.any ho (I.freeC y c e) (by simp); exact Heap.lt_size q
  have noA : ∀ a : Addr, a ∉ (lcx X A outer s1 HZ E scope b p f c').ex := fun a z => absurd (show a ∈ ([] : List Addr) from z) (by simp)
  refine ⟨⟨e0.mod, L.kind, rfl, rfl, Nat.le_refl _, fun y z c e1 e2 => ?_, fun y hy => ?_, fun y c z _ => (nomatch (show false = true from z)), fun _ => hd, Around.frames_deeper e0.frames, .inr ⟨rfl, rfl⟩, fun a z => absurd z (noA a), e0.bs, e0.bsz, fun a _ _ => noA a, fun a z => absurd z (noA a), e0.funs, e0.frf⟩,
    rfl, e0.bare, Un.kept kp, ⟨_, hns, fun i y w e1 e2 e3 => ?_⟩, fun y c e => ?_, e0.hok.fresh (Nat.le_refl _), fun y c e => ?_, fun q hq => absurd (show q ∈ ([] : List (Addr × Obj)) ++ [] from hq) (by simp), e0.hok.kept kp, by show σ.length + 1 = X.N.length + 1; rw [I.len]⟩
  · rcases cs e1 with ⟨_, a1, a2⟩ | ⟨_, a2⟩ <;> rcases cs e2 with ⟨_, b1, b2⟩ | ⟨_, b2⟩
    · rw [a1, b1]
    · exact absurd (cellLt b2) (Nat.not_lt.mpr (a2 ▸ Nat.le_succ _))
    · exact absurd (cellLt a2) (Nat.not_lt.mpr (b2 ▸ Nat.le_succ _))
    · exact I.ok.inj y z c a2 b2
  · have hy : scope.names.lookup y = some .cell ∨ scope.names.lookup y = some .free := hy
    rcases hy with k | k
    · have z := L.own _ (PySem.mem_of_lookup k) (.inr rfl)
      have z : y = p := z
      have bt : b = true := by
        rw [z, L.par] at k; cases b with
        | true => rfl
        | false => cases k
      subst bt z
      exact ⟨_, by show ((y, s1.heap.objs.size + 1) :: _).lookup y = _; rw [List.lookup_cons, beq_self_eq_true]⟩
    · obtain ⟨c, hc, _⟩ := clook k; exact ⟨c, hc⟩
  · have e1 : (p :: X.N)[i]? = some y := e1
    have e2 : (some v :: σ)[i]? = some (some w) := e2
    have e3 : Vis scope y := e3
    cases i with
    | zero =>
      cases e1; cases e2
      refine ⟨u, r, ?_⟩
      cases b with
      | false => exact .inl ⟨L.par, by simp⟩
      | true => exact .inr ⟨.inl L.par, _, by show ((p, s1.heap.objs.size + 1) :: _).lookup p = _; rw [List.lookup_cons, beq_self_eq_true], hcl rfl⟩
    | succ i =>
      have e1 : X.N[i]? = some y := by simpa using e1
      have e2 : σ[i]? = some (some w) := by simpa using e2
      have ny : y ≠ p := fun z => hp (z ▸ List.mem_of_getElem? e1)
      have k : scope.names.lookup y = some .free := by
        rcases e3 with k | k | k
        · exact absurd (L.own _ (PySem.mem_of_lookup k) (.inl rfl)) ny
        · exact absurd (L.own _ (PySem.mem_of_lookup k) (.inr rfl)) ny
        · exact k
      obtain ⟨m, hn, hl⟩ := I.loc
      obtain ⟨w', r', q⟩ := hl i y w e1 e2 ((L.free _ (PySem.mem_of_lookup k) rfl).elim (fun k => .inr (.inl k)) fun k => .inr (.inr k))
      obtain ⟨c2, h2, c1⟩ := clook k
      refine ⟨w', r', .inr ⟨.inr k, c2, h2, ?_⟩⟩
      rcases q with ⟨k', _⟩ | ⟨_, c3, e', z⟩
      · have k' : X.env.scope.names.lookup y = some .local := k'
        rcases L.free _ (PySem.mem_of_lookup k) rfl with k2 | k2 <;> rw [show X.env.scope.names.lookup y = _ from k2] at k' <;> cases k'
      · rw [c1] at e'; cases e'; exact cellK (I.freeC y _ c1) z
  · rcases cs e with ⟨bt, _, a2⟩ | ⟨_, a2⟩
    · exact ⟨_, a2 ▸ hcl bt⟩
    · obtain ⟨w', z⟩ := I.cell y c a2; exact ⟨w', cellK (I.freeC y c a2) z⟩
  · rcases cs e with ⟨bt, _, a2⟩ | ⟨_, a2⟩
    · exact e0.hok.fresh (by rw [a2]; omega)
    · obtain ⟨v, o, ho, hd⟩ := I.cell y c a2; exact un.free c o ho (I.freeC y c a2) (by simp)
end
section
variable {X : Cx} {pins : List (Addr × Obj)} {σ : L2.St} {H : Hp} {s : Shared}
/-- x(e), in the def that got the lambda: that def was entered at s -/
theorem pe_act1 {CXg : CXT} {Eg : XK} {Ng : List Str} {qg : Str} {sg : Scope} {g f c' P' : Addr} {cdg pm ctv : Value} {params : Arguments} {body : Expr} {scope : Scope} {b : Bool} {p : Str} {k i : Nat} {a : Str} {pn : List (Addr × Obj)} {xe : Value → Shared → Prop} {W : WX} {E : XK} {tb te : TE} {p1 p2 : Pos} {e : Expr}
    (I : Inv X pins σ H s) (L : LamP X.env.scope scope b p) (hp : p ∉ X.N) (hf : s.heap.get? f = some (PySem.W.kla_obj "<lambda>" (X.env.qual ++ "<lambda>") params body scope (cloFrom X.env.cells scope.names []) pm c' ctv)) (hfn : H f = none) (hfr : f ∉ frs X.stack)
    (hbind : ∀ u, bindArgs (PySem.W.kla_fn "<lambda>" (X.env.qual ++ "<lambda>") params body scope (cloFrom X.env.cells scope.names []) pm (.ref c') ctv) ⟨[u], []⟩ = pure [(p, u)])
    (tk : L2N.Takes ((cxOf CXg X.prog X.w X.K X.mg X.base Ng qg sg g cdg X.A X.stack s H Eg).tr pn xe) W) (hW : ∀ cls d σ' H', E cls d H' → W cls d σ' H') (hr : Room (k + 1) (X.A.deeper (envOfC qg sg s.heap.objs.size g cdg)))
    (hbody : ∀ (A : Around) (outer : List Env) (s : Shared) (H : Hp), A.guards = X.A.guards → Room k (A.deeper (envP X scope b p s.heap.objs.size f c')) → PE (lcx X A outer s H E scope b p f c') body tb)
    (hN : Ng[i]? = some a) (hv : Vis sg a) (he : PE ((cxOf CXg X.prog X.w X.K X.mg X.base Ng qg sg g cdg X.A X.stack s H Eg).tr pn xe) e te) (hd : (a == ("__debug__" : Str)) = false := by decide) (hcd : (a == ("__classdict__" : Str)) = false := by decide) (hst : ∀ env, starEach [e] env = [(false, eval e env)] := by intro _; rfl) :
    PE ((cxOf CXg X.prog X.w X.K X.mg X.base Ng qg sg g cdg X.A X.stack s H Eg).tr pn xe) (.Call (.Name a p1) [e] [] p2)
      (fun σZ HZ Q => σZ[i]? = some (some (.ref f)) ∧ te σZ HZ fun v H1 => H1 c' = some (CodeH c' (X.env.qual ++ "<lambda>") P') ∧ tb (some v :: σ) H1 Q) := by
  refine ⟨fun pinsZ sZ σZ HZ Q IZ ⟨hs, ht⟩ => ?_⟩
  refine wpAny_Call_Name_kw (thn ((pe_var (pos := p1) (i := i) hN hv hd hcd).run pinsZ sZ σZ HZ (fun v H1 => v = .ref f ∧ H1 = HZ) IZ ⟨.ref f, hs, rfl, rfl⟩) fun u s1 ⟨v, H1, I1, r1, ev, eH⟩ => ?_)
  subst ev
  rw [eH] at I1
  cases (show u = Value.ref f from r1)
  have at_ : ∀ {σ2 : L2.St} {H2 : Hp} {s2 : Shared} {pins2 : List (Addr × Obj)}, Inv ((cxOf CXg X.prog X.w X.K X.mg X.base Ng qg sg g cdg X.A X.stack s H Eg).tr pn xe) pins2 σ2 H2 s2 → s2.heap.get? f = some (PySem.W.kla_obj "<lambda>" (X.env.qual ++ "<lambda>") params body scope (cloFrom X.env.cells scope.names []) pm c' ctv) := fun J => J.base.keep f _ hf hfn hfr (fun z => nomatch (show f ∈ ([] : List Addr) from z))
  have pa : PA ((cxOf CXg X.prog X.w X.K X.mg X.base Ng qg sg g cdg X.A X.stack s H Eg).tr pn xe) [e] (tCons te tNil) := pa_cons he pa_nil (hst _)
  refine PySem.W.callWith_F (first := []) ⟨_, _, _, _, at_ I1⟩ (thn (pa.run p2 pinsZ s1 σZ HZ (fun vs H2 => match vs with | [v] => H2 c' = some (CodeH c' (X.env.qual ++ "<lambda>") P') ∧ tb (some v :: σ) H2 Q | _ => False) I1 ht) fun us s2 ⟨vs, H2, I2, r2, q2⟩ => ⟨⟨_, _, _, _, at_ I2⟩, ?_⟩) (hst _) (by rfl)
  obtain ⟨v, rfl⟩ : ∃ v, vs = [v] := by
    rcases vs with _ | ⟨v, _ | ⟨v2, vs⟩⟩
    · exact q2.elim
    · exact ⟨v, rfl⟩
    · exact q2.elim
  replace q2 : H2 c' = some (CodeH c' (X.env.qual ++ "<lambda>") P') ∧ tb (some v :: σ) H2 Q := q2
  obtain ⟨u, rfl, ru⟩ := vals1 r2
  have un : Un (frs X.stack) [] H H2 s.heap s2.heap := I2.base
  have rc : codeAny (model X.prog X.w) (X.A.deeper (envOfC qg sg s.heap.objs.size g cdg)) (.call (.ref f) ⟨[u], []⟩) (CR (L2N.CX X.prog X.w) (envOfC qg sg s.heap.objs.size g cdg :: X.stack) X.prog X.w H2 s2 Q E) s2 := by
    refine PySem.W.kla_callFunE hr.depth (at_ I2) rfl L.co L.gen rfl (codeH_at I2.hok q2.1).1 ?_
    rw [hbind]
    refine wpAny_pure (lam_env L fun h₁ tk' hns hcl kp => ⟨I2.nolimit.keeps kp, ?_⟩)
    show codeAny _ _ (.expr body (envP X scope b p s2.heap.objs.size f c')) _ _
    refine PySem.W.kla_codeExpr (wpAny_mono ((hbody (X.A.deeper (envOfC qg sg s.heap.objs.size g cdg)) _ s2 H2 rfl (hr.deeper _)).run [] _ _ H2 Q (lam_start I L hp I2.env0 hr.hd un ru hns hcl kp) q2.2) (fun v' s' ⟨w', H', J', rv, q⟩ => ?_) fun e s' hq => hq)
    exact ⟨w', H', J'.os, J'.bare, J'.base, J'.hok, rv, q⟩
  refine wpAny_call (codeAny_mono rc fun r s' hq => ?_)
  match r, hq with
  | .error e, hq => exact L2N.passes_call tk hW pinsZ σZ H2 s2 e s' I2 hq
  | .ok (.ret u), hq => exact I2.after hq
  | .ok .next, hq => exact hq.elim
  | .ok .brk, hq => exact hq.elim
  | .ok .cont, hq => exact hq.elim
end
/-- what the method does with the lambda that it got; TT: what it makes of the lambda's reading -/
def GivesM (X : Cx) (k : Nat) (Ng : List Str) (qg : Str) (sg : Scope) (g : Addr) (cdg : Value) (bg : List Stmt) (wk y : Str) (q : Str) (TT : (XK → V → Hp → VK → Prop) → Addr → Hp → VK → XK → Prop) : Prop :=
  ∀ (a f c' P' : Addr) (s : Shared) (H : Hp) (Q : VK) (E : XK) (tl : XK → V → Hp → VK → Prop),
    (∀ (W : WX) (pn : List (Addr × Obj)) (xe : Value → Shared → Prop) (E' : XK) (te : TE) (p1 p2 p3 : Pos), L2N.Takes ((cxOf (L2N.CX X.prog X.w) X.prog X.w X.K X.mg X.base Ng qg sg g cdg X.A X.stack s H E).tr pn xe) W → (∀ cls d σ' H', E' cls d H' → W cls d σ' H') →
      PE ((cxOf (L2N.CX X.prog X.w) X.prog X.w X.K X.mg X.base Ng qg sg g cdg X.A X.stack s H E).tr pn xe) (.Name y p3) te →
      PE ((cxOf (L2N.CX X.prog X.w) X.prog X.w X.K X.mg X.base Ng qg sg g cdg X.A X.stack s H E).tr pn xe) (.Call (.Name wk p1) [.Name y p3] [] p2) (fun σZ HZ Q => σZ[1]? = some (some (.ref f)) ∧ te σZ HZ fun v H1 => H1 c' = some (CodeH c' q P') ∧ tl E' v H1 Q)) →
    H c' = some (CodeH c' q P') → Room k (X.A.deeper (envOfC qg sg s.heap.objs.size g cdg)) → TT tl a H Q E →
    ∃ t, PSs (cxOf (L2N.CX X.prog X.w) X.prog X.w X.K X.mg X.base Ng qg sg g cdg X.A X.stack s H E) bg t ∧ t { nx := fun _ H' => Q .non H', rt := Q } (start Ng [.ref a, .ref f]) H
/-- the reading of o.m(lambda p: body) -/
def tMLam (C : Addr) (m : Str) (P : Addr) (q : Str) (R : Hp → Addr → Prop) (Pre : Hp → Prop) (TT : (XK → V → Hp → VK → Prop) → Addr → Hp → VK → XK → Prop) (ta : TE) (t : Addr → Addr → XK → TE) (W : WX) : TE := fun σ H Q => ta σ H fun x H1 => ∃ a dx fs, x = .ref a ∧ H1 a = some (.ins C dx fs) ∧ fs.lookup m = none ∧ Pre H1 ∧
  TabW R H1 P q ∧ (∀ H2 T, Grow H1 P H2 → R H1 T → R H2 T) ∧ (∀ H2 T, Grow H1 P H2 → H1 T = none → H2 T = some (.tbl #[]) → R H2 T) ∧
  ∀ (c' P' : Addr) (H2 : Hp), Grow H1 P H2 → TabW R H2 P q → R H2 P' → H2 c' = some (CodeH c' q P') → TT (fun E' v H' Q' => t c' P' E' (some v :: σ) H' Q') a H2 Q (fun cls d H' => W cls d σ H')
/-- o.m(lambda p: body), m a method with one parameter more -/
theorem pe_mlam {X : Cx} {pl : Sem Bool} {C : Addr} {m q : Str} {o : Expr} {g c P : Addr} {pg : Arguments} {bg : List Stmt} {sg : Scope} {qg nm : Str} {dV kV doc pm cdv ct oc : Value} {an od : Option Addr} {osl : Array (Option Value)} {Ng : List Str} {wk y sf : Str} {R : Hp → Addr → Prop} {Pre : Hp → Prop} {TT : (XK → V → Hp → VK → Prop) → Addr → Hp → VK → XK → Prop}
    {params : Arguments} {body : Expr} {scope : Scope} {b : Bool} {p : Str} {ta : TE} {t : Addr → Addr → XK → TE} {W : WX} {k : Nat} {lpos apos pos : Pos}
    (he : PE X o ta) (cl : Cls X.K C) (hm : Meth X.K C m g) (lk : X.K.lookup g = some ⟨oc, od, .func (PySem.W.fnOf nm qg pg bg sg dV kV doc pm an cdv ct), osl⟩) (hcg : PySem.W.codeIn X.K cdv qg = true) (hb : L2.Binds X.K (PySem.W.fnOf nm qg pg bg sg dV kV doc pm an cdv ct) [sf, wk] []) (Sg : FnScope Ng [sf, wk] sg) (hNg : Ng[1]? = some wk) (hva : Vis sg wk)
    (hG : GivesM X (k + 1) Ng qg sg g cdv bg wk y q TT) (hq : q = X.env.qual ++ "<lambda>") (hC : ∀ {pins : List (Addr × Obj)} {s : Shared} {σ : L2.St} {H : Hp}, Inv X pins σ H s → Pre H → PySem.W.CodeHd s.heap c P ∧ s.heap.BuiltinsAt X.mg P ∧ mainGlobals ≠ P) (hcode : X.env.code = .ref c)
    (tk : L2N.Takes X W) (hr : Room (k + 2) X.A) (L : LamP X.env.scope scope b p) (hp : p ∉ X.N) (hdef : defaultsOf params X.env = ([], []))
    (hbind : ∀ (u : Value) (q : Str) (cl : List (Str × Addr)) (pm cv ctv : Value), bindArgs (PySem.W.kla_fn "<lambda>" q params body scope cl pm cv ctv) ⟨[u], []⟩ = pure [(p, u)])
    (hbody : ∀ (A : Around) (outer : List Env) (s : Shared) (H : Hp) (E : XK) (f c' P' : Addr), A.guards = X.A.guards → Room k (A.deeper (envP X scope b p s.heap.objs.size f c')) → PE (lcx X A outer s H E scope b p f c') body (t c' P' E))
    (ht : eval (.Call (.Attribute o m apos) [.Lambda params body scope lpos] [] pos) X.env = (do let ov ← eval o X.env; standAt apos.atName; let (f, first) ← holding [ov] (getMethod ov m pl); callWith pos f first (backTo pos (starEach [.Lambda params body scope lpos] X.env)) (backToKw pos (keywordEach [] X.env))) := by rfl)
    (hd : (wk == ("__debug__" : Str)) = false := by decide) (hcd : (wk == ("__classdict__" : Str)) = false := by decide) :
    PE X (.Call (.Attribute o m apos) [.Lambda params body scope lpos] [] pos) (tMLam C m P q R Pre TT ta t W) := by
  subst hq
  refine ⟨fun pins s σ H Q I h => PySem.W.methodCall_KW (pl := pl) (thn (he.run pins s σ H _ I h) fun u s1 ⟨x, H1, I1, rx, a, dx, fs, ex, ea, l, hpre, hT, hR, hE, h⟩ => ?_) ht⟩
  subst ex
  cases (show u = Value.ref a from rx)
  refine getmeth_ok I1 ea cl hm l ?_
  refine PySem.W.callWith_K (first := [.ref a]) (h₀ := X.base) I.ok.mod.kin hm.kp ?_ (by rfl) (by rfl)
  show wpAny _ _ (spliced ((false, eval (.Lambda params body scope lpos) X.env) :: backTo pos (starEach [] X.env))) _ _ s1
  obtain ⟨k1, k2, k3⟩ := hC I1 hpre
  refine Calls.spliced_cons (lam_make I1 k1 k2 k3 hcode hT hR hE hdef (fun y hy e => (L.free y hy e).elim (fun z => I1.ok.has _ (.inl z)) fun z => I1.ok.has _ (.inr z)) fun f c' P' pm' ctv H2 s' I2 gr T2 R2 hf hfn hfr hco => Calls.spliced_nil ⟨I2.kIn, ?_⟩)
  have rc : codeAny (model X.prog X.w) X.A (.call (.ref g) ⟨[.ref a, .ref f], []⟩) (CR (L2N.CX X.prog X.w) X.stack X.prog X.w H2 s' Q (fun cls d H' => W cls d σ H')) s' := by
    refine LamX.run_ofS (N := Ng) (ps := [sf, wk]) (us := [.ref a, .ref f]) (vs := [.ref a, .ref f]) lk hcg Sg hr I2.env0 (hb s' [.ref a, .ref f] I2.kIn rfl) (.cons rfl (.cons rfl .nil)) rfl fun hr' => ?_
    exact hG a f c' P' s' H2 Q _ (fun E' v H' Q' => t c' P' E' (some v :: σ) H' Q') (fun W' pn xe E' te p1 p2 p3 tk' hW hn => pe_act1 (i := 1) I2 L hp hf hfn hfr (fun u => hbind u _ _ _ _ _) tk' hW hr' (fun A outer s H gu hr2 => hbody A outer s H E' f c' P' gu hr2) hNg hva hn hd hcd) hco hr' (h c' P' H2 gr T2 R2 hco)
  refine wpAny_call (codeAny_mono rc fun r s2 hq => ?_)
  match r, hq with
  | .error e, hq => exact L2N.passAt tk σ pins H2 s' e s2 I2 hq
  | .ok (.ret u), hq => exact I2.after hq
  | .ok .next, hq => exact hq.elim
  | .ok .brk, hq => exact hq.elim
  | .ok .cont, hq => exact hq.elim
end UnP

set_option maxHeartbeats 4000000
/-! UnRaiseN: the raising rules once more, for errors whose context is None (names as in Un, read first within Zk48). -/
namespace Zk48
open PySem PySem.Spec PyProof.Rows L2 Un
abbrev Takes := L2N.Takes
theorem takes0 {X : Cx} : Takes X (fun _ _ _ _ => False) := fun _ _ x => by
  obtain ⟨_, _, _, _, _, _, _, _, _, _, _, _, _, _, _, _, z⟩ := x; exact z.elim
theorem takes_of {X : Cx} {E : XK} (hs : X.stack = X.env :: X.outer) (hf : X.env.frame = some X.env.locals) (hex : X.ex = []) {E₁ : Value → Shared → Prop}
    (hx : X.xe = fun e s' => wpAny (model X.prog X.w) X.A (leaving X.env e) (fun _ s'' => L2N.CX X.prog X.w X.outer X.H_0 X.s_0 E e s'') E₁ s') : Takes X (fun cls d _ H => E cls d H) := L2N.takes_of hs hf hex hx
theorem passN {X : Cx} : Passes (L2N.CX X.prog X.w) X E0 := fun _ _ _ _ _ _ _ h => by
  obtain ⟨_, _, _, _, _, _, _, _, _, _, _, _, z⟩ := h; exact z.elim
/-! ### defs -/
section
variable {P : Program} {w : World} {K : PySem.W.Frag} {mg : Str → Option Value} {base : Heap}
theorem okNX {x qual : Str} {st : Stmt} {f : Addr} {fd : FuncData} {N ps : List Str} {k : Nat} {sp : Sp} (F : Fun K x qual st f fd) (S : FnScope N ps (defScope st)) (hl : ∀ vs H Q E, sp vs H Q E → vs.length = ps.length)
    (hb : ∀ (cdv : Value) (A : Around) (outer : List Env) (s : Shared) (H : Hp) (vs : List V) (Q : VK) (E : XK), Room k (A.deeper (envOfC qual (defScope st) s.heap.objs.size f cdv)) → sp vs H Q E →
      ∃ t, PSs (cxOf (L2N.CX P w) P w K mg base N qual (defScope st) f cdv A outer s H E) (defBody st) t ∧ t { nx := fun _ H' => Q .non H', rt := Q } (start N vs) H) : FnOk P w K mg base (L2N.CX P w) (k + 1) f fd ps sp := by
  obtain ⟨_, _, _, _, _, _, cdv, _, _, rfl, lk, hcd⟩ := F.ex
  exact fn_of lk hcd S hl fun A outer s H vs Q E hr hsp => hb cdv A outer s H vs Q E hr hsp
/-- a def called while an exception is handled -/
theorem okH {x qual : Str} {st : Stmt} {f : Addr} {fd : FuncData} {N ps : List Str} {k : Nat} {sp : Sp} (F : Fun K x qual st f fd) (S : FnScope N ps (defScope st)) (hl : ∀ vs H Q E, sp vs H Q E → vs.length = ps.length)
    (hb : ∀ (cdv : Value) (A : Around) (outer : List Env) (s : Shared) (H : Hp) (vs : List V) (Q : VK) (E : XK) (p : Addr × Obj), L2H.RoomH k (A.deeper (envOfC qual (defScope st) s.heap.objs.size f cdv)) → L2H.HotC (L2H.cxH CX0 P w K mg base N qual (defScope st) f cdv A outer s H E p) → sp vs H Q E →
      ∃ t, PSs (L2H.cxH CX0 P w K mg base N qual (defScope st) f cdv A outer s H E p).nox (defBody st) t ∧ t { nx := fun _ H' => Q .non H', rt := Q } (start N vs) H) : L2H.FnH P w K mg base CX0 (k + 1) f fd ps sp := by
  obtain ⟨_, _, _, _, _, _, cdv, _, _, rfl, lk, hcd⟩ := F.ex
  refine L2H.fn_ofH lk hcd S hl fun A outer s H vs Q E p hot hr hsp => ?_
  obtain ⟨t, h, q⟩ := hb cdv A outer s H vs Q E p hr ⟨p, hot, List.mem_cons_self⟩ hsp
  exact ⟨t, h.nox, q⟩
theorem okHD {x qual : Str} {params : Arguments} {body : List Stmt} {scope : Scope} {dvs : List V} {kws : List (Str × V)} {f : Addr} {fd : FuncData} {N ps : List Str} {k : Nat} {sp : Sp} (F : FunD K x qual params body scope dvs kws f fd) (S : FnScope N ps scope) (hl : ∀ vs H Q E, sp vs H Q E → vs.length = ps.length)
    (hb : ∀ (cdv : Value) (A : Around) (outer : List Env) (s : Shared) (H : Hp) (vs : List V) (Q : VK) (E : XK) (p : Addr × Obj), L2H.RoomH k (A.deeper (envOfC qual scope s.heap.objs.size f cdv)) → L2H.HotC (L2H.cxH CX0 P w K mg base N qual scope f cdv A outer s H E p) → sp vs H Q E →
      ∃ t, PSs (L2H.cxH CX0 P w K mg base N qual scope f cdv A outer s H E p).nox body t ∧ t { nx := fun _ H' => Q .non H', rt := Q } (start N vs) H) : L2H.FnH P w K mg base CX0 (k + 1) f fd ps sp := by
  obtain ⟨_, _, _, _, _, _, _, cdv, _, _, rfl, lk, hcd, _, _⟩ := F.ex
  refine L2H.fn_ofH lk hcd S hl fun A outer s H vs Q E p hot hr hsp => ?_
  obtain ⟨t, h, q⟩ := hb cdv A outer s H vs Q E p hr ⟨p, hot, List.mem_cons_self⟩ hsp
  exact ⟨t, h.nox, q⟩
/-- a def that may raise, under its name -/
def ClX (P : Program) (w : World) (K : PySem.W.Frag) (mg : Str → Option Value) (base : Heap) (nm : Str) (ps : List Str) (k : Nat) (sp : Sp) : Prop :=
  ∃ (f : Addr) (fd : FuncData), mg nm = some (.ref f) ∧ FnOk P w K mg base (L2N.CX P w) k f fd ps sp ∧ PySem.W.keepIn K (.ref f) = true ∧ Binds K fd ps []
theorem clX_of {nm : Str} {st : Stmt} {ps : List Str} {k : Nat} {sp : Sp} (a : At K mg nm st ps) (h : ∀ f fd, Fun K nm nm st f fd → FnOk P w K mg base (L2N.CX P w) k f fd ps sp) : ClX P w K mg base nm ps k sp := by
  obtain ⟨f, fd, F, m, b⟩ := a; exact ⟨f, fd, m, h f fd F, F.kp, b⟩
/-- a def that is called while an exception is handled, under its name -/
def ClH (P : Program) (w : World) (K : PySem.W.Frag) (mg : Str → Option Value) (base : Heap) (nm : Str) (ps : List Str) (k : Nat) (sp : Sp) : Prop :=
  ∃ (f : Addr) (fd : FuncData), mg nm = some (.ref f) ∧ L2H.FnH P w K mg base CX0 k f fd ps sp ∧ PySem.W.keepIn K (.ref f) = true ∧ Binds K fd ps []
theorem clH_of {nm : Str} {st : Stmt} {ps : List Str} {k : Nat} {sp : Sp} (a : At K mg nm st ps) (h : ∀ f fd, Fun K nm nm st f fd → L2H.FnH P w K mg base CX0 k f fd ps sp) : ClH P w K mg base nm ps k sp := by
  obtain ⟨f, fd, F, m, b⟩ := a; exact ⟨f, fd, m, h f fd F, F.kp, b⟩
end
section
variable {X : Cx} {C : Addr} {m x : Str} {ps : List Str} {k j n : Nat} {sp : Sp} {e o : Expr} {es : List Expr} {kws : List Keyword} {ta : TE} {t tk' : TA} {p pos apos : Pos} {dvs : List V} {ks : List Str} {gV : List V → List V → List V} {E : XK} {W : WX}
theorem pe_clX {nm : Str} (c : ClX X.prog X.w X.K X.mg X.base nm ps k sp) (hr : Room k X.A) (hg : Gl X nm) (tk : Takes X W) (ha : PA X (e :: es) t)
    (hdb : (nm == ("__debug__" : Str)) = false := by decide) (he : starEach (e :: es) X.env = (false, eval e X.env) :: starEach es X.env := by rfl) (hpl : (backTo pos (starEach es X.env)).any (·.1) = false := by rfl) : PE X (.Call (.Name nm p) (e :: es) [] pos) (tCallS sp (WE W) t) := by
  obtain ⟨f, fd, m, F, kp, b⟩ := c; exact pe_callS F hr hg m kp b (fun σ => L2N.passAt tk σ) ha hdb he hpl
theorem pe_clH {nm : Str} (c : ClH X.prog X.w X.K X.mg X.base nm ps k sp) (hr : L2H.RoomH j X.A) (hk : k ≤ j) (hc : L2H.HotC X) (hg : Gl X nm) (ha : PA X (e :: es) t)
    (hdb : (nm == ("__debug__" : Str)) = false := by decide) (he : starEach (e :: es) X.env = (false, eval e X.env) :: starEach es X.env := by rfl) (hpl : (backTo pos (starEach es X.env)).any (·.1) = false := by rfl) : PE X (.Call (.Name nm p) (e :: es) [] pos) (tCallS sp (fun _ => E0) t) := by
  obtain ⟨f, fd, m, F, kp, b⟩ := c; exact L2H.pe_callH F (hr.mono hk) hc hg m kp b (fun σ _ _ _ _ _ _ h => h.elim) ha hdb he hpl
theorem set_GX (g : MetG X.prog X.w X.K X.mg X.base (L2N.CX X.prog X.w) C "__setitem__" ps k sp) (hq : PySem.W.noSeq X.K C = true) (hr : Room j X.A) (hk : k ≤ j) (tk : Takes X fun cls d _ H => E cls d H) : PSet X (rSetO C sp E) := by
  obtain ⟨f, fd, c, M, F, i, b⟩ := g; exact set_own M hq F (hr.mono hk) b (L2N.passes_call tk fun _ _ _ _ h => h)
def MetDX (P : Program) (w : World) (K : PySem.W.Frag) (mg : Str → Option Value) (base : Heap) (C : Addr) (m : Str) (k : Nat) (sp : Sp) (dvs : List V) : Prop :=
  ∃ (f : Addr) (fd : FuncData) (ps : List Str) (ds : List Value), Cls K C ∧ Meth K C m f ∧ FnOk P w K mg base (L2N.CX P w) k f fd ps sp ∧ Binds K fd ps ds ∧ Vals dvs ds
theorem pe_mtDX {pl : Sem Bool} (g : MetDX X.prog X.w X.K X.mg X.base C m k sp dvs) (hr : Room j X.A) (hk : k ≤ j) (tk : Takes X fun cls d _ H => E cls d H) (he : PE X o ta) (ha : PA X (e :: es) t)
    (hst : starEach (e :: es) X.env = (false, eval e X.env) :: starEach es X.env := by rfl) (hpl : (backTo pos (starEach es X.env)).any (·.1) = false := by rfl)
    (ht : eval (.Call (.Attribute o m apos) (e :: es) [] pos) X.env = (do let ov ← eval o X.env; standAt apos.atName; let (f, first) ← holding [ov] (getMethod ov m pl); callWith pos f first (backTo pos (starEach (e :: es) X.env)) (backToKw pos (keywordEach [] X.env))) := by rfl) :
    PE X (.Call (.Attribute o m apos) (e :: es) [] pos) (tMeth C m sp dvs E ta t) := by
  obtain ⟨f, fd, ps, ds, c, M, F, b, d⟩ := g; exact pe_meth (pl := pl) he c M F (hr.mono hk) b d (L2N.passes_call tk fun _ _ _ _ h => h) ha hst hpl ht
/-! ### raise -/
theorem ps_raise {st : L2.St → Hp → XK → Prop} (hc : X.calm = true) (tk : Takes X W) (he : L2N.PMk X e st) : PS X (.Raise (some e) none pos) (fun _ σ H => st σ H fun cls d H' => W cls d σ H') := L2N.ps_raise hc tk he
theorem pmk_X {f : Str} {te : TE} {fI : Addr} {fd : FuncData} {CX : CXT} (T : OxC X.K C) (iC : PySem.W.findIn X.K (.ref C) "__init__" = some (some (.ref fI))) (tI : PySem.W.typeIn X.K (.ref fI) = some (.type "function")) (hno : PySem.W.findIn X.K (.ref C) f = some none)
    (F1 : FnOk X.prog X.w X.K X.mg X.base CX k fI fd ps (SpXI X.K f)) (hr : Room (k + 1) X.A) (hb : Binds X.K fd ps []) (hx : Passes CX X (fun _ _ _ => False)) (hg : Gl X x) (hm : X.mg x = some (.ref C)) (ha : PE X e te)
    (hdb : (x == ("__debug__" : Str)) = false := by decide) (he : starEach (e :: []) X.env = (false, eval e X.env) :: starEach [] X.env := by rfl) (hpl : (backTo pos (starEach [] X.env)).any (·.1) = false := by rfl) :
    L2N.PMk X (.Call (.Name x p) [e] [] pos) (tMkR C f te) := by
  intro pins s σ H Q I h
  obtain ⟨nm, q, N, bs, bm, sn, sub, ab, col, dd, k0, k1, k2, k3, k5, B, newId, initId, bmB, hC, FB, BB, hps⟩ := T.cls
  refine wpAny_Call_Name_kw (ld_glob I hg hm ?_ hdb)
  have hA : PA X [e] (tCons te tNil) := pa_cons ha pa_nil he
  refine PySem.W.callWith_K (h₀ := X.base) I.ok.mod.kin T.kC (thn (hA.run pos pins s σ H (fun vs H1 => match vs with | [v] => (∀ d, H1 d = none → Q (.ref C) (some d) (upd H1 d (.xd [(f, v)]))) | _ => False) I h) fun us s1 ⟨vs, H1, I1, r1, q1⟩ => ⟨I1.kIn, ?_⟩) he hpl
  show wpAny _ _ (call (.ref C) us) _ _ _
  obtain ⟨v, rfl⟩ : ∃ v, vs = [v] := by
    rcases vs with _ | ⟨v, _ | ⟨v2, vs⟩⟩
    · exact q1.elim
    · exact ⟨v, rfl⟩
    · exact q1.elim
  replace q1 : ∀ d, H1 d = none → Q (.ref C) (some d) (upd H1 d (.xd [(f, v)])) := q1
  obtain ⟨hp, g, dr, tk, os⟩ := s1
  have hsz : hp.objs.size ≤ hp.objs.size + 1 := Nat.le_succ _
  have hn : H1 (hp.objs.size + 1) = none := I1.hok.fresh hsz
  have hq : SpXI X.K f [.ref (hp.objs.size + 1), v] (upd H1 (hp.objs.size + 1) (exo (hp.objs.size + 1) C none))
      (fun r H2 => r = .non ∧ ∃ d, H1 d = none ∧ d ≠ hp.objs.size + 1 ∧ H2 = upd (upd (upd H1 (hp.objs.size + 1) (exo (hp.objs.size + 1) C none)) d (exd d [(f, v)])) (hp.objs.size + 1) (exo (hp.objs.size + 1) C (some d))) (fun _ _ _ => False) :=
    ⟨_, v, C, rfl, T, hno, upd_same, fun dx hd hda => ⟨rfl, dx, by rw [upd_ne hda] at hd; exact hd, hda, rfl⟩⟩
  have kk : ∀ b o, hp.get? b = some o → ((hp.push (PySem.W.kdv_tup us)).push (PySem.HandSPX.excO C hp.objs.size)).get? b = some o := fun b o z => Heap.get?_push_of_some _ (Heap.get?_push_of_some _ z)
  have hget : ((hp.push (PySem.W.kdv_tup us)).push (PySem.HandSPX.excO C hp.objs.size)).get? (hp.objs.size + 1) = some (PySem.HandSPX.excO C hp.objs.size) := by heap_get
  have I2 : Inv X pins σ (upd H1 (hp.objs.size + 1) (exo (hp.objs.size + 1) C none)) ⟨(hp.push (PySem.W.kdv_tup us)).push (PySem.HandSPX.excO C hp.objs.size), g, dr, tk, os⟩ :=
    I1.laid (t' := tk) (a := hp.objs.size + 1) (o := exo (hp.objs.size + 1) C none) (h' := (hp.push (PySem.W.kdv_tup us)).push (PySem.HandSPX.excO C hp.objs.size)) kk hsz (exo_ok hget)
  have r2 : Vals (V.ref (hp.objs.size + 1) :: ([v] ++ [])) (Value.ref (hp.objs.size + 1) :: (us ++ [])) := .cons rfl (r1.append .nil)
  have hl : (Value.ref (hp.objs.size + 1) :: us ++ []).length = ps.length := by
    have e1 := r2.length
    have e3 := F1.len _ _ _ _ hq
    simp only [List.length_cons, List.length_append, List.length_nil] at e1 e3 ⊢
    omega
  have hus : us.length ≤ sizeLine := by
    rw [← Paired.length r1, sizeLine_eq]
    simp
  refine wpAny_call (PySem.OXX.call_x FB BB (I1.kIn _ _ hC) (PySem.W.looks_findIn I1.kIn iC) (fun self => PySem.W.bind_fn I1.kIn self tI) hus
    (codeAny_mono (F1.run _ X.stack _ _ ⟨Value.ref (hp.objs.size + 1) :: us, []⟩ (Value.ref (hp.objs.size + 1) :: us ++ []) _ _ (fun _ _ _ => False) (hr.make C us []) (I2.env0.make C us []) (hb _ (Value.ref (hp.objs.size + 1) :: us) I2.kIn hl) r2 hq) fun r s' hq' => ?_))
  match r, hq' with
  | .error er, hq' => exact hx pins σ _ _ er s' I2 hq'
  | .ok .next, hq' => exact hq'.elim
  | .ok .brk, hq' => exact hq'.elim
  | .ok .cont, hq' => exact hq'.elim
  | .ok (.ret u), hq' =>
    obtain ⟨w', H2, os2, bare2, un2, hok2, rv, ev, d, hd1, hda, eH⟩ := hq'
    subst ev
    obtain ⟨h2, g2, d2, t2, os'⟩ := s'
    obtain ⟨t0, G, J, kG, ge, hoe, na⟩ := mk_end0 (d2 := d2) (t2 := t2) (fs := [(f, v)]) I1 hsz kk un2 hok2 os2 bare2 (show H2 _ = some (exo _ C (some d)) by rw [eH, upd_same]) (by rw [eH, upd_ne hda, upd_same]) hd1
    have e4 : upd (del H2 (hp.objs.size + 1)) d (.xd [(f, v)]) = upd H1 d (.xd [(f, v)]) := by
      funext b
      by_cases hb1 : b = d
      · rw [hb1, upd_same, upd_same]
      · rw [upd_ne hb1, upd_ne hb1]
        by_cases hb2 : b = hp.objs.size + 1
        · rw [hb2, del_same, hn]
        · rw [del_ne hb2, eH, upd_ne hb2, upd_ne hb1, upd_ne hb2]
    refine ⟨rv, ⟨hp.objs.size + 1, _, _, ⟨G, g2, d2, t2, os'⟩, _, .ref C, some d, rfl, J, kG, ge, hoe, ⟨rfl, rfl, fun vs hv => by cases hv; rfl⟩, rfl, rfl, na, rfl, bare2, raises_own T.xf.exC T.ty, ?_⟩⟩
    rw [e4]; exact q1 d hd1
theorem pmk_G {f : Str} {te : TE} (g : Un.Mk X.prog X.w X.K X.mg X.base x f C) (hr : Room j X.A) (hk : 2 ≤ j) (hg : Gl X x) (ha : PE X e te)
    (hdb : (x == ("__debug__" : Str)) = false := by decide) (he : starEach (e :: []) X.env = (false, eval e X.env) :: starEach [] X.env := by rfl) (hpl : (backTo pos (starEach [] X.env)).any (·.1) = false := by rfl) : L2N.PMk X (.Call (.Name x p) [e] [] pos) (tMkR C f te) := by
  obtain ⟨m, o, n, fI, fd, i, t, F, b⟩ := g; exact pmk_X o i t n F (hr.mono hk) b pass0 hg m ha hdb he hpl
end
end Zk48

/-! UnHdsN: try with several except clauses, errors whose context is None; the suites may call what is proved for them. -/
namespace Zk48
open PySem PySem.Spec PyProof.Rows L2 Un
inductive Hds (X : Cx) : List ExceptHandler → List Hd → Prop
  | nil : Hds X [] []
  | bare {x : Str} {c : Value} {t : Addr → Value → Option Addr → TS} {st : Stmt} {sts : List Stmt} {p1 p2 : Pos} {es : List ExceptHandler} {l : List Hd} (nc : Names X x c)
      (su : ∀ (a : Addr) (ob : Obj) (cls : Value) (d : Option Addr) (pn : List (Addr × Obj)), L2N.Zn cls d ob → (∃ fs, ob.data = .fields fs) → L2H.HotC (X.suite a ((a, ob) :: pn)) → PSs (X.suite a ((a, ob) :: pn)) (st :: sts) (t a cls d)) (r : Hds X es l) :
      Hds X (.ExceptHandler (some (.Name x p1)) none (st :: sts) p2 :: es) ((c, none, t) :: l)
  | as {x n : Str} {i : Nat} {c : Value} {t : Addr → Value → Option Addr → TS} {st : Stmt} {sts : List Stmt} {p1 p2 : Pos} {es : List ExceptHandler} {l : List Hd} (ni : X.N[i]? = some n) (nl : X.env.kindOf n = some .local) (nc : Names X x c)
      (su : ∀ (a : Addr) (ob : Obj) (cls : Value) (d : Option Addr) (pn : List (Addr × Obj)), L2N.Zn cls d ob → (∃ fs, ob.data = .fields fs) → L2H.HotC (X.suite a ((a, ob) :: pn)) → PSs (X.suite a ((a, ob) :: pn)) (st :: sts) (t a cls d)) (r : Hds X es l) :
      Hds X (.ExceptHandler (some (.Name x p1)) (some n) (st :: sts) p2 :: es) ((c, some i, t) :: l)
section
variable {X : Cx} {body : List Stmt} {e0 : ExceptHandler} {es : List ExceptHandler} {l : List Hd} {tp : Pos} {tb : WX → TS} {W0 : WX}
theorem ps_try_hds (st : X.stack = X.env :: X.outer) (fr : X.env.frame = some X.env.locals) (nd : X.N.Nodup) (tk : Takes X W0)
    (pb : ∀ (W : WX) (pn : List (Addr × Obj)) (xe : Value → Shared → Prop), Takes (X.tr pn xe) W → PassesOwn (model X.prog X.w) X.A X.env xe → PSs (X.tr pn xe) body (tb W))
    (ph : Hds X (e0 :: es) l) : PS X (.Try body (e0 :: es) [] [] tp) (fun D ρ G => tb (wHds X.K W0 D l) D ρ G) := by
  refine ⟨fun pins z ρ G D J0 rd => ?_⟩
  have okX := J0.ok
  have frs0 : X.A.frames = some (X.env :: X.outer) := by rw [okX.frames, st]
  refine wpAny_Try_except ?_
  refine wpAny_mono ((pb (wHds X.K W0 D l) (X.pn ++ pins) (fun e z1 => wpAny (model X.prog X.w) X.A (noteFrame e X.env) (fun _ z2 => wpAny (model X.prog X.w) X.A (setFlight e none) (fun _ z3 =>
    wpAny (model X.prog X.w) X.A (handleBy e X.env (e0 :: es)) (SP X pins D) X.xe z3) X.xe z2) X.xe z1) (fun u z1 thrown => ?_) PassesOwn.looking).run [] z ρ G D (J0.toTry _) rd) (fun fl z1 fin => ?_) (fun e z1 he => he)
  · obtain ⟨a, B, zI, pins', ρ1, G1, cls, d, rfl, J1, nb, up, sky, na, os, ag, wish⟩ := thrown
    have JI : Inv X pins ρ1 G1 zI := J1.ofTry okX
    have skyE : L2.Sky B (X.env :: X.outer) a (L2N.Zn cls d) X.env.locals z1.heap := by rw [← st]; exact sky
    show wpAny (model X.prog X.w) X.A (noteFrame (.ref a) X.env) _ _ _
    refine L2N.Sky.land L2N.Zn.steady frs0 fr skyE fun g3 fl3 up3 => ?_
    have J3 : Inv X pins ρ1 G1 { z1 with heap := g3 } := JI.landed nb fl3.1 (up.trans up3) os ag
    obtain ⟨ob3, fs3, at3, zc3, da3⟩ := fl3.there
    have apart : a ∉ frs (X.env :: X.outer) := fun hm => by
      obtain ⟨_, ob', at', nof⟩ := fl3.2.2.1.mem hm
      rw [at3] at at'
      cases at'
      exact nof _ da3
    have aL : a ≠ X.env.locals := fun q => apart (List.mem_filterMap.mpr ⟨X.env, List.mem_cons_self, by rw [fr, q]⟩)
    have aF : a ∉ X.fs := fun hm => by
      obtain ⟨ev, hev, q⟩ := List.mem_filterMap.mp hm
      exact apart (List.mem_filterMap.mpr ⟨ev, List.mem_cons_of_mem _ hev, q⟩)
    have S3 := J3.suite at3 da3 na aL aF
    have looks : PySem.W.Looks (model X.prog X.w) g3 (typeOf (.ref a)) cls := fun A Q E s k q => wpAny_typeOf_ref (k _ _ at3) (by rw [zc3.1]; exact q)
    have named : ∀ {x : Str} {c : Value} {p1 : Pos} {Q : Value → Shared → Prop} {E : Value → Shared → Prop}, Names X x c → Q c { z1 with heap := g3 } → wpAny (model X.prog X.w) (X.A.mark (some (.ref a))) (eval (.Name x p1) X.env) Q E { z1 with heap := g3 } := fun {x c p1 Q E} nc q => by
      obtain ⟨gl, db, m | ⟨m, hv, nn⟩⟩ := nc
      · exact ld_glob (X := X.suite a ((a, ob3) :: (X.pn ++ pins))) S3 gl m q db
      · exact ld_blt (X := X.suite a ((a, ob3) :: (X.pn ++ pins))) S3 gl m hv q nn db
    have each : ∀ {es' : List ExceptHandler} {l' : List Hd}, Hds X es' l' → wHds X.K W0 D l' cls d ρ1 G1 → wpAny (model X.prog X.w) X.A (handleBy (.ref a) X.env es') (SP X pins D) X.xe { z1 with heap := g3 } := by
      intro es' l' hk
      induction hk with
      | nil =>
        intro wish
        refine wpAny_handleBy_nil ?_
        obtain ⟨k1, k2, k3, ob, fs, T, oT, tl, at0, zc0, da0, f1, f2⟩ := id fl3
        unfold PySem.passOn
        refine wpAny_bind (wpAny_field at0 da0 f1 ?_)
        rw [if_neg (show ¬ ((Value.ref T == Value.none) = true) from by simp)]
        have go : wpAny (model X.prog X.w) X.A (setFlight (.ref a) X.env.frame) (fun _ z4 => wpAny (model X.prog X.w) X.A (throw (.ref a) : Sem Flow) (SP X pins D) X.xe z4) X.xe { z1 with heap := g3 } := by
          rw [fr]
          refine HandSPX.setFlight_upZ fl3 fun g4 sk4 up4 => wpAny_throw (tk _ _ ?_)
          exact ⟨a, B, zI, pins, ρ1, G1, cls, d, rfl, JI, nb, (up.trans up3).trans up4, .inr (.inr (by rw [st]; exact sk4)), na, os, ag, wish⟩
        first
          | exact wpAny_bind (wpAny_pure (wpAny_bind go))
          | exact wpAny_bind go
      | @bare x c t st1 sts p1 p2 es2 l2 nc su r ih =>
        rintro ⟨b, m1, yes, no⟩
        refine wpAny_handleBy_cons (codeAny_handlers_test ?_) (by intro q; cases q)
        refine named nc ((PySem.W.exm_one (M := model X.prog X.w) (J3.kIn) looks m1).here ?_)
        cases b with
        | false =>
          show wpAny _ X.A (handleBy (.ref a) X.env es2) _ _ _
          exact ih (no rfl)
        | true =>
          refine codeAny_handlers_suite ?_
          refine HandSPX.lands_againZ fl3 fun g4 fl4 up4 => ?_
          have J4 : Inv X pins ρ1 G1 { z1 with heap := g4 } := JI.landed nb fl4.1 ((up.trans up3).trans up4) os ag
          obtain ⟨ob4, fs4, at4, zc4, da4⟩ := fl4.there
          have S4 := J4.suite at4 da4 na aL aF
          refine wpAny_mono ((su a ob4 cls d (X.pn ++ pins) zc4 ⟨_, da4⟩ ⟨(a, ob4), ⟨rfl, fs4, da4, zc4.2.2 fs4 da4⟩, List.mem_cons_self⟩).run [] _ _ G1 _ S4 (yes rfl a na)) (fun fl z6 fin => ?_) (fun _ _ q => False.elim q)
          cases fl with
          | next => obtain ⟨ρ6, G6, S6, q6⟩ := fin; exact ⟨_, _, S6.unsuite okX, q6⟩
          | brk => obtain ⟨ρ6, G6, S6, q6⟩ := fin; exact ⟨_, _, S6.unsuite okX, q6⟩
          | cont => obtain ⟨ρ6, G6, S6, q6⟩ := fin; exact ⟨_, _, S6.unsuite okX, q6⟩
          | ret u => obtain ⟨v6, ρ6, G6, S6, r6, q6⟩ := fin; exact ⟨_, _, _, S6.unsuite okX, r6, q6⟩
      | @as x n i c t st1 sts p1 p2 es2 l2 ni nl nc su r ih =>
        rintro ⟨b, m1, yes, no⟩
        refine wpAny_handleBy_cons (codeAny_handlers_test ?_) (by intro q; cases q)
        refine named nc ((PySem.W.exm_one (M := model X.prog X.w) (J3.kIn) looks m1).here ?_)
        cases b with
        | false =>
          show wpAny _ X.A (handleBy (.ref a) X.env es2) _ _ _
          exact ih (no rfl)
        | true =>
          refine codeAny_handlers_suite_as ?_
          refine HandSPX.lands_againZ fl3 fun g4 fl4 up4 => ?_
          have J4 : Inv X pins ρ1 G1 { z1 with heap := g4 } := JI.landed nb fl4.1 ((up.trans up3).trans up4) os ag
          obtain ⟨ob4, fs4, at4, zc4, da4⟩ := fl4.there
          have S4 := J4.suite at4 da4 na aL aF
          refine store_ok (X := X.suite a ((a, ob4) :: (X.pn ++ pins))) (v := .ref a) S4 nd ni (.inl nl) rfl (fun z5 S5 => ?_) (.inr nl)
          refine wpAny_mono ((su a ob4 cls d (X.pn ++ pins) zc4 ⟨_, da4⟩ ⟨(a, ob4), ⟨rfl, fs4, da4, zc4.2.2 fs4 da4⟩, List.mem_cons_self⟩).run [] z5 _ G1 _ S5 (yes rfl a na)) (fun fl z6 fin => ?_) (fun _ _ q => False.elim q)
          have shut : ∀ {ρ6 : L2.St} {G6 : Hp} {Q : Shared → Prop}, Inv (X.suite a ((a, ob4) :: (X.pn ++ pins))) [] ρ6 G6 z6 → (∀ z7, Inv X pins (ρ6.set i none) G6 z7 → Q z7) →
              wpAny (model X.prog X.w) X.A (do bindName X.env n .none; unbindBehindTheSuite X.env n p2) (fun _ z7 => Q z7) X.xe z6 := fun {ρ6 G6 Q} S6 hq => gone_ok (S6.unsuite okX) nd ni nl hq
          cases fl with
          | next => obtain ⟨ρ6, G6, S6, q6⟩ := fin; exact shut S6 fun z7 J7 => ⟨_, _, J7, q6⟩
          | brk => obtain ⟨ρ6, G6, S6, q6⟩ := fin; exact shut S6 fun z7 J7 => ⟨_, _, J7, q6⟩
          | cont => obtain ⟨ρ6, G6, S6, q6⟩ := fin; exact shut S6 fun z7 J7 => ⟨_, _, J7, q6⟩
          | ret u => obtain ⟨v6, ρ6, G6, S6, r6, q6⟩ := fin; exact shut S6 fun z7 J7 => ⟨_, _, _, J7, r6, q6⟩
    exact each ph wish
  · cases fl with
    | next => obtain ⟨ρ1, G1, J1, q⟩ := fin; exact wpAny_execs_nil ⟨ρ1, G1, J1.ofTry okX, q⟩
    | brk => obtain ⟨ρ1, G1, J1, q⟩ := fin; exact ⟨ρ1, G1, J1.ofTry okX, q⟩
    | cont => obtain ⟨ρ1, G1, J1, q⟩ := fin; exact ⟨ρ1, G1, J1.ofTry okX, q⟩
    | ret u => obtain ⟨v, ρ1, G1, J1, r, q⟩ := fin; exact ⟨v, ρ1, G1, J1.ofTry okX, r, q⟩
end
end Zk48

set_option maxHeartbeats 2000000
/-! UnHotZ: zip of two texts while an exception is handled. -/
namespace UnH
open PySem PySem.Spec PyProof.Rows L2 HotX Un
theorem hot_keep {A : Around} {x1 : Addr} {h h' : Heap} (hot : HotAt A x1 h) (k : ∀ o, h.get? x1 = some o → h'.get? x1 = some o) : HotAt A x1 h' := by
  obtain ⟨hh, o1, v1, e1, d1, c1⟩ := hot
  exact ⟨hh, o1, v1, k o1 e1, d1, c1⟩
theorem draws_text {prog : Program} {w : World} {A : Around} {x1 : Addr} (it : Addr) (ne : x1 ≠ it) (x : Str) (t : Tok) : Draws prog w A it [it, x1] x.cps.size (fun i v => ∃ c u, x.cps[i]? = some c ∧ v = .str ⟨#[c]⟩ u) (fun i h => h.IsStrIter it (strIterType x) x t i ∧ HotAt A x1 h) where
  live := fun _ _ st => let ⟨o, ho, _⟩ := st.1; ⟨o, ho⟩
  frame := fun _ _ _ st k => ⟨let ⟨o, ho, r⟩ := st.1; ⟨o, k it (by simp) o ho, r⟩, hot_keep st.2 fun o e => k x1 (by simp) o e⟩
  item := fun i s Q E hi st q => by
    obtain ⟨st, hot⟩ := st
    have go : ∀ h', h'.IsStrIter it (strIterType x) x t (i + 1) → Heap.SameBut it s.heap h' → Q (.str ⟨#[x.cps[i]]⟩ s.toks) { s with heap := h', toks := s.toks + 1 } := fun h' st' sb => q _ h' (s.toks + 1) ⟨_, _, by simp [hi], rfl⟩ ⟨st', hot_keep hot fun o e => sb.extBut x1 o ne e⟩ sb
    revert st go
    unfold strIterType
    cases ha : x.cps.all (· < 128)
    · simp only [Bool.false_eq_true, if_false]
      exact fun st go => wpAny_nextOf_wide_item st (c := x.cps[i]) (by simp [hi]) go
    · simp only [if_true]
      exact fun st go => wpAny_nextOf_ascii_item st (c := x.cps[i]) (by simp [hi]) go
  done := fun s Q E st q => by
    refine (sign_ends (ty := strIterType x) ?_ st.2 ne st.1 (by simp)).of q
    unfold strIterType
    cases x.cps.all (· < 128) <;> simp
theorem sep_hot {z TI TO i1 i2 x1 : Addr} (D : ZipSep2 z TI TO i1 i2 [i1] [i2]) (h : x1 ∉ [z, TI, TO, i1, i2]) : ZipSep2 z TI TO i1 i2 [i1, x1] [i2, x1] := by
  simp only [List.mem_cons, List.not_mem_nil, or_false, not_or] at h
  obtain ⟨h1, h2, h3, h4, h5⟩ := h
  have d1 := D.zf1; have d2 := D.Tf1; have d3 := D.zf2; have d4 := D.Tf2; have d5 := D.sep1_2; have d6 := D.sep2_1
  simp only [List.mem_cons, List.not_mem_nil, or_false] at d1 d2 d3 d4 d5 d6
  exact ⟨D.TIz, D.TOz, D.TITO, D.TIi1, by simp, by simp [d1, Ne.symm h1], by simp [d2, Ne.symm h3], D.TIi2, by simp, by simp [d3, Ne.symm h1], by simp [d4, Ne.symm h3], by simp [d5, Ne.symm h4], by simp [d6, Ne.symm h5]⟩
theorem turnK_zipS {P : Program} {w : World} {K : PySem.W.Frag} {elts : List Expr} {kk : Nat} {tpos : Pos} {z TI TO i1 i2 : Addr} {x y : Str} {t u : Tok} (D : ZipSep2 z TI TO i1 i2 [i1] [i2]) :
    TurnK P w K (.Tuple elts kk tpos) (ItzS x y) [z, TI, TO, i1, i2] z (fun i h => IsZip h z TI TO .none ∧ IsTupOf2 h TI (.ref i1) (.ref i2) ∧ (∃ a b, IsTupOf2 h TO a b) ∧ h.IsStrIter i1 (strIterType x) x t i ∧ h.IsStrIter i2 (strIterType y) y u i) := by
  have T := turn_zipS (P := P) (w := w) (K := K) (elts := elts) (kk := kk) (tpos := tpos) (x := x) (y := y) (t := t) (u := u) D
  have kept : ∀ {s : Shared} {h' : Heap}, (∀ c o, c ≠ z → c ≠ TO → c ≠ i1 → c ≠ i2 → s.heap.get? c = some o → h'.get? c = some o) → ∀ c o, c ∉ [z, TI, TO, i1, i2] → s.heap.get? c = some o → h'.get? c = some o := fun k c o m e => by
    simp only [List.mem_cons, List.not_mem_nil, or_false, not_or] at m
    exact k c o m.1 m.2.2.1 m.2.2.2.1 m.2.2.2.2 e
  refine ⟨T.mem, T.obj, T.keep, ?_, ?_, T.self⟩
  · intro X i pins s σ H E x1 hP hw hK hot out I hf st hg; subst hP hw hK
    obtain ⟨hz, hTI, ⟨a, b, hTO⟩, h1, h2⟩ := st
    have D' := sep_hot D out
    have ne : x1 ≠ z ∧ x1 ≠ TI ∧ x1 ≠ TO ∧ x1 ≠ i1 ∧ x1 ≠ i2 := by simpa using out
    have hzl : z < s.heap.objs.size := Heap.lt_size hz
    have hot1 : HotAt X.A.in1 x1 s.heap := hot
    refine wpAny_pyNext_zipD2_item D' (draws_text i1 ne.2.2.2.1 x t) (draws_text i2 ne.2.2.2.2 y u) hz hTI hTO ⟨h1, hot1⟩ ⟨h2, hot1⟩ hg.1 hg.2 fun v1 v2 h' tk p1 p2 z' TO' g1 g2 hT hsz hk => ?_
    obtain ⟨c, tc, hcx, rfl⟩ := p1
    obtain ⟨d, td, hdy, rfl⟩ := p2
    refine ⟨_, rfl, wpAny_letOwnedTupleGo_zip (s := { s with heap := h', toks := tk }) z' fun h'' z'' sb => ?_⟩
    have pair : h''.get? s.heap.objs.size = some { cls := .type "tuple", data := .seq #[.str ⟨#[c]⟩ tc, .str ⟨#[d]⟩ td] } := (sb.2 _ (Nat.ne_of_gt hzl)).trans hT
    have J : Inv X pins σ (upd H s.heap.objs.size (.tup [.str ⟨#[c]⟩, .str ⟨#[d]⟩])) { s with heap := h'', toks := tk } :=
      I.turnedNew (t' := tk) (ch := [z, TI, TO, i1, i2]) (fun c o m e => (sb.2 c (fun q => m (by simp [q]))).trans (kept hk c o m e)) hf (Nat.le_refl _) ⟨by show 2 ≤ sizeLine; decide, _, .cons ⟨tc, rfl⟩ (.cons ⟨td, rfl⟩ .nil), ⟨_, pair, rfl, _, rfl⟩⟩
    refine ⟨.ref s.heap.objs.size, _, J, rfl, ⟨_, c, d, rfl, I.hok.fresh (Nat.le_refl _), rfl, hcx, hdy⟩, ⟨z'', (sb.2 _ D.TIz).trans (hk _ _ D.TIz D.TITO D.TIi1 D.TIi2 hTI), ⟨_, _, (sb.2 _ D.TOz).trans TO'⟩, ?_, ?_⟩, fun c m => ?_⟩
    · obtain ⟨o, e, r⟩ := g1.1
      exact ⟨o, (sb.2 _ D.zi1.symm).trans e, r⟩
    · obtain ⟨o, e, r⟩ := g2.1
      exact ⟨o, (sb.2 _ D.zi2.symm).trans e, r⟩
    · obtain ⟨o, e, _⟩ := T.obj i s.heap ⟨hz, hTI, ⟨a, b, hTO⟩, h1, h2⟩ c m
      rw [upd_ne (Nat.ne_of_lt (Heap.lt_size e))]
      exact (hf c m).1
  · intro X i pins s σ H E x1 hP hw hK hot out I hf st hg; subst hP hw hK
    obtain ⟨hz, hTI, ⟨a, b, hTO⟩, h1, h2⟩ := st
    have ne : x1 ≠ z ∧ x1 ≠ TI ∧ x1 ≠ TO ∧ x1 ≠ i1 ∧ x1 ≠ i2 := by simpa using out
    have hot1 : HotAt X.A.in1 x1 s.heap := hot
    exact wpAny_pyNext_zipD2_end (sep_hot D out) (draws_text i1 ne.2.2.2.1 x t) (draws_text i2 ne.2.2.2.2 y u) hz hTI hTO ⟨h1, hot1⟩ ⟨h2, hot1⟩ hg.1 hg.2.1 hg.2.2 fun h' tk hk => ⟨rfl, I.turnedL (t' := tk) (ch := [z, TI, TO, i1, i2]) (kept hk) hf⟩
theorem pik_zipS {X : Cx} {e e2 : Expr} {ta : TA} {p pos tpos : Pos} {elts : List Expr} {kk : Nat} (hg : Gl X "zip") (hm : X.mg "zip" = none) (ha : PA X [e, e2] ta)
    (hs : starEach [e, e2] X.env = (false, eval e X.env) :: starEach [e2] X.env := by rfl) (hpl : (backTo pos (starEach [e2] X.env)).any (·.1) = false := by rfl) :
    PIK X (.Tuple elts kk tpos) (.Call (.Name "zip" p) [e, e2] [] pos) (iZipS ta) := by
  refine ⟨fun pins s σ H R I h => ?_⟩
  refine Call_ (ld_blt I hg hm PyProof.Rows.boot_zip (PyProof.Rows.callWith_type1 (thn (ha.run pos pins s σ H _ I h) fun us s1 ⟨vs, H1, I1, r1, x, y, ex, q⟩ => ?_) hs hpl))
  subst ex
  obtain ⟨v1, v2, rfl, ⟨t, rfl⟩, ⟨u, rfl⟩⟩ := vals2 r1
  have young : ∀ c, c ∈ [s1.heap.objs.size + 4, s1.heap.objs.size + 2, s1.heap.objs.size + 3, s1.heap.objs.size, s1.heap.objs.size + 1] → FpOk X pins H1 c := fun c m => by
    have le : s1.heap.objs.size ≤ c := by
      simp only [List.mem_cons, List.not_mem_nil, or_false] at m
      omega
    exact I1.fpOk le (I1.hok.fresh le)
  refine zip_begins2 (begins_text x t) (begins_text y u) trivial trivial fun h' hz hTI hTO h1 h2 hsz hk => wpAny_pyIter_zip hz ?_
  exact ⟨_, [s1.heap.objs.size + 4, s1.heap.objs.size + 2, s1.heap.objs.size + 3, s1.heap.objs.size, s1.heap.objs.size + 1], _, _, H1, rfl, I1.kept (t' := s1.toks) hk, turnK_zipS (sep5 _), ⟨hz, hTI, ⟨_, _, hTO⟩, ⟨_, h1, rfl, rfl⟩, ⟨_, h2, rfl, rfl⟩⟩, young, q⟩
end UnH

set_option maxHeartbeats 2000000
/-! UnHotD: list(d.items()) while an exception is handled. -/
namespace UnH
open PySem PySem.Calls PySem.W PySem.Spec PyProof.Rows L2 HotX
abbrev lstO (acc : Array Value) (c : Nat) : Obj := { cls := .type "list", dict := none, data := .seq acc c, slots := #[] }
section
variable {prog : Program} {w : World} {A : Around} {E : Value → Shared → Prop} {s : Shared} {R : Result → Shared → Prop}
/-- a list takes all that an iterator gives -/
theorem takes_all {S I : Addr} {res : Value} {n : Nat} (St : Nat → Shared → Array Value → Prop) (hn : n ≤ sizeLine) (sz : ∀ i s acc, St i s acc → acc.size = i)
    (more : ∀ i s acc, i < n → St i s acc → wpAny (model prog w) A.in1 (pyNext (.ref I)) (fun r s' => ∃ v c, r = some v ∧ s'.heap.get? S = some (lstO acc c) ∧ St (i + 1) { s' with heap := s'.heap.update S (Obj.mapSeq (·.push v)) } (acc.push v)) (fun e s' => R (.error e) s') s)
    (last : ∀ s acc, St n s acc → wpAny (model prog w) A.in1 (pyNext (.ref I)) (fun r s' => r = none ∧ R (.ok (.ret res)) s') (fun e s' => R (.error e) s') s) :
    ∀ (k i : Nat) (s : Shared) (acc : Array Value), i + k = n → St i s acc → codeAny (model prog w) A (.builtin "list.extend.loop" ⟨[.ref S, .ref I, res], []⟩) R s := by
  intro k
  induction k with
  | zero =>
    intro i s acc e st
    have e : i = n := e
    subst e
    refine codeAny_builtin PySem.F.entry_extend_loop ?_
    rw [Around.under_plainId PySem.F.plain_extend_loop _]
    refine wpAny_bind (wpAny_mono (last s acc st) (fun r s' z => ?_) fun _ _ z => z)
    obtain ⟨rfl, z⟩ := z
    exact wpAny_pure z
  | succ k ih =>
    intro i s acc e st
    have lt : i < n := by omega
    refine codeAny_builtin PySem.F.entry_extend_loop ?_
    rw [Around.under_plainId PySem.F.plain_extend_loop _]
    refine wpAny_bind (wpAny_mono (more i s acc lt st) (fun r s' z => ?_) fun _ _ z => z)
    obtain ⟨v, c, rfl, at_, st'⟩ := z
    have s1 := sz _ _ _ st
    show wpAny _ A.in1 (updateSeq S (·.push v) >>= _) _ _ _; refine wpAny_bind ?_
    exact wpAny_updateSeq at_ rfl (wpAny_pure ⟨plainId_quiet PySem.F.plain_extend_loop _, ih (i + 1) _ (acc.push v) (by omega) st'⟩) (by rw [s1]; omega) (by show (acc.push v).size ≤ sizeLine + 1; rw [Array.size_push, s1]; omega)
variable {K : Type} [DecidableEq K] {knd : PySem.KeyKind prog w K} {kvs : List (K × Value)} {ep : Nat} {x1 : Addr}
/-- the end of a dict's pairs -/
theorem item_ends {it d S : Addr} {i : Nat} (hot : HotAt A x1 s.heap) (ne : x1 ≠ it) (st : KdxSt s.heap it d S i kvs.length ep) (hm : s.heap.DictAt knd d kvs ep) (past : kvs.length ≤ i) : Ends prog w A s it := by
  obtain ⟨od, es, hod, hcd, hdd, hk, hpr, hn⟩ := id hm
  have len : es.size = kvs.length := by rw [← hpr.length]; simp
  obtain ⟨o, ho, hc, f0, f1, ok, ov, hd⟩ : ∃ o, s.heap.get? it = some o ∧ o.cls = .type "dict_itemiterator" ∧ ∃ f0 f1 ok ov, o.data = .fields #[f0, f1, .ref d, .int i 0, .int kvs.length 0, .int ep 0, ok, ov] := by
    rcases st with ⟨rfl, ok, ov, z⟩ | ⟨ok, ov, a, f, oa, z, _⟩
    · exact ⟨_, z, rfl, _, _, _, _, rfl⟩
    · exact ⟨_, z, rfl, _, _, _, _, rfl⟩
  have ty : s.TypeIs (.ref it) "dict_itemiterator" := ⟨o, ho, hc⟩
  refine ⟨fun {Q E} up => ?_⟩
  refine wpAny_callSpecial?_slot ty PySem.F.slot_dict_itemiterator_next (wpAny_call_entry PySem.F.slot_dict_itemiterator_next ty PySem.F.entry_dict_itemiterator_next ?_ (PySem.F.args_dict_itemiterator_next_1 _))
  have nm : ∀ {R : String → Shared → Prop} {B : Around}, R "dict_itemiterator" s → wpAny (model prog w) B (typeNameOfWhole (.ref it)) R E s := fun {R B} r => wpAny_typeNameOfWhole_itemiter ty r
  refine wpAny_bind (wpAny_pure (wpAny_bind (wpAny_bind (wpAny_bind (nm (wpAny_pure (wpAny_bind (wpAny_fieldsOf ho hd ?_))))))))
  have own : Builtin.Dict_items.ownsTuple "dict_itemiterator" = true := by decide
  simp only [own, if_true]
  show wpAny _ _ (if (Value.ref d == Value.none) = true then _ else _) _ _ s; rw [if_neg (fun z => nomatch z)]
  refine wpAny_bind (wpAny_pure (wpAny_bind (wpAny_dictEntries hod hdd ?_)))
  rw [if_neg (by rw [len]; simp)]
  refine wpAny_bind (wpAny_pure (wpAny_bind (wpAny_dictEpoch hod hdd ?_)))
  rw [if_neg (by simp)]
  refine wpAny_pure ?_
  have gone : es.size ≤ i := by omega
  simp only [show ¬ ((i : Int) < 0) from by omega, if_false, Int.toNat_natCast, Array.getElem?_eq_none gone]
  refine wpAny_bind (wpAny_bind (nm (wpAny_pure ?_)))
  show wpAny _ _ (setField (.ref it) 2 .none >>= _) _ _ s
  exact wpAny_bind (wpAny_setField ho hd (by simp) (stop_up (hot_but hot ne) fun e h' k c => up e h' (ext_upd k) c))
/-- how far a list has taken a dict's pairs -/
structure Took (knd : PySem.KeyKind prog w K) (kvs : List (K × Value)) (ep : Nat) (A : Around) (x1 S I d : Addr) (h0 : Heap) (i : Nat) (h : Heap) (acc : Array Value) : Prop where
  st : KdxSt h I d S i kvs.length ep
  dict : h.DictAt knd d kvs ep
  old : ∀ b o, b ≠ S → b ≠ I → h0.get? b = some o → h.get? b = some o
  lst : ∃ c, h.get? S = some (lstO acc c)
  as : ∃ as : List Addr, acc.toList = as.map Value.ref ∧ as.length = i ∧ KdxG knd kvs I h as
  big : I < h.objs.size
  hot : HotAt A x1 h
theorem takes_items {S I d : Addr} {h0 : Heap} (hSI : S < I) (hSd : d ≠ S) (hId : d ≠ I) (nS : x1 ≠ S) (nI : x1 ≠ I) (hn : kvs.length ≤ sizeLine) (res : Value) (g0 : ∃ o, h0.get? x1 = some o)
    (hR : ∀ h' tk acc c as, (∀ b o, b ≠ S → b ≠ I → h0.get? b = some o → h'.get? b = some o) → h'.get? S = some (lstO acc c) → as.length = kvs.length → KdxG knd kvs I h' as → acc.toList = as.map Value.ref → R (.ok (.ret res)) { s with heap := h', toks := tk })
    (T : Took knd kvs ep A x1 S I d h0 0 s.heap #[]) : codeAny (model prog w) A (.builtin "list.extend.loop" ⟨[.ref S, .ref I, res], []⟩) R s := by
  have apart : S ≠ I := Nat.ne_of_lt hSI
  refine takes_all (n := kvs.length) (fun i s' acc => (∃ tk, s' = { s with heap := s'.heap, toks := tk }) ∧ Took knd kvs ep A x1 S I d h0 i s'.heap acc) hn (fun i s' acc st => ?_) (fun i s' acc lt st => ?_) (fun s' acc st => ?_) kvs.length 0 s #[] (Nat.zero_add _) ⟨⟨s.toks, rfl⟩, T⟩
  · obtain ⟨_, ⟨as, e1, e2, _⟩⟩ := And.intro trivial st.2.as
    rw [← Array.length_toList, e1, List.length_map, e2]
  · obtain ⟨⟨tk, e⟩, T⟩ := st
    obtain ⟨⟨kk, x⟩, hx⟩ : ∃ p, kvs[i]? = some p := ⟨kvs[i], List.getElem?_eq_getElem lt⟩
    obtain ⟨c, hS⟩ := T.lst
    obtain ⟨as, e1, e2, G⟩ := T.as
    refine kdx_item T.st (Heap.lt_size hS) T.dict hx fun key h' hkey st' new size keep => ⟨_, c, rfl, keep S _ apart hS, ⟨tk, by rw [e]⟩, ?_⟩
    have side : ∀ b o, b ≠ S → h'.get? b = some o → (h'.update S (Obj.mapSeq (·.push (Value.ref s'.heap.objs.size)))).get? b = some o := fun b o m q => (Heap.get?_update_other _ _ (Ne.symm m)).trans q
    have young : s'.heap.objs.size ≠ S := Nat.ne_of_gt (Heap.lt_size hS)
    have tup := side _ _ young new
    refine ⟨st'.keep side apart.symm, T.dict.at' fun o q => side d o hSd (keep d o hId q), fun b o m1 m2 q => side b o m1 (keep b o m2 (T.old b o m1 m2 q)), ⟨_, Heap.get?_update_self _ (keep S _ apart hS) rfl⟩, ⟨as ++ [s'.heap.objs.size], ?_, by rw [List.length_append, e2]; rfl, ?_⟩, Nat.lt_trans T.big (Heap.lt_size tup), ?_⟩
    · rw [Array.toList_push, e1, List.map_append]; rfl
    · refine ⟨List.pairwise_append.mpr ⟨G.rise, List.pairwise_singleton _ _, fun a ha b hb => by rw [List.mem_singleton.mp hb]; exact G.there ha⟩, fun a ha => (List.mem_append.mp ha).elim (G.above a) fun z => by rw [List.mem_singleton.mp z]; exact T.big, fun j b hj => ?_⟩
      by_cases lo : j < as.length
      · rw [List.getElem?_append_left lo] at hj
        obtain ⟨key', k', x', a1, a2, a3⟩ := G.pairs j b hj
        have up := G.above b (List.mem_of_getElem? hj)
        exact ⟨key', k', x', a1, a2, side b _ (Nat.ne_of_gt (Nat.lt_trans hSI up)) (keep b _ (Nat.ne_of_gt up) a3)⟩
      · rw [List.getElem?_append_right (by omega)] at hj
        have z : j - as.length = 0 := Nat.lt_one_iff.mp (List.getElem?_eq_some_iff.mp hj).1
        rw [z] at hj
        have eb : s'.heap.objs.size = b := Option.some.inj hj
        subst eb
        exact ⟨key, kk, x, by rw [show j = i by omega]; exact hx, hkey, tup⟩
    · obtain ⟨hh, o1, v1, q1, d1, c1⟩ := T.hot
      exact ⟨hh, o1, v1, side x1 o1 nS (keep x1 o1 nI q1), d1, c1⟩
  · obtain ⟨⟨tk, e⟩, T⟩ := st
    obtain ⟨c, hS⟩ := T.lst
    obtain ⟨as, e1, e2, G⟩ := T.as
    have hot1 : HotAt A.in1 x1 s'.heap := T.hot
    refine (item_ends hot1 nI T.st T.dict (Nat.le_refl _)).next fun h' eb => ⟨rfl, ?_⟩
    have := hR h' tk acc c as (fun b o m1 m2 q => eb b o m2 (T.old b o m1 m2 q)) (eb S _ apart hS) e2 ⟨G.rise, G.above, fun j a hj => ?_⟩ e1
    · rw [e]; exact this
    · obtain ⟨key, kk, x, a1, a2, a3⟩ := G.pairs j a hj
      exact ⟨key, kk, x, a1, a2, eb a _ (Nat.ne_of_gt (G.above a (List.mem_of_getElem? hj))) a3⟩
theorem stand {g : Obj → Obj} {S : Addr} {h : Heap} : ∀ b o, b ≠ S → h.get? b = some o → (h.update S g).get? b = some o := fun b o m q => (Heap.get?_update_other _ _ (Ne.symm m)).trans q
/-- list(v), v the pairs of a dict -/
theorem list_of_items {Q : Value → Shared → Prop} {r d : Addr} (hot : HotAt A x1 s.heap) (hv : s.heap.IsItemsView r d) (hm : s.heap.DictAt knd d kvs ep) (hn : kvs.length ≤ sizeLine)
    (hQ : ∀ h' tk acc c as, (∀ b o, s.heap.get? b = some o → h'.get? b = some o) → h'.get? s.heap.objs.size = some (lstO acc c) → as.length = kvs.length → KdxG knd kvs s.heap.objs.size h' as → acc.toList = as.map Value.ref → Q (.ref s.heap.objs.size) { s with heap := h', toks := tk }) :
    wpAny (model prog w) A (call (.type "list") [.ref r]) Q E s := by
  refine callType_codes (Q₁ := fun obj s₁ => obj = .ref s.heap.objs.size ∧ s₁ = { s with heap := s.heap.push { cls := .type "list", data := .seq #[] } }) PySem.F.called_list (PySem.F.typeCall_list_1 _) PySem.F.entry_list_init (code_list_new _ ⟨rfl, rfl⟩) fun obj s₁ ⟨e1, e2⟩ => ?_
  subst e1 e2
  have hS : (s.heap.push { cls := .type "list", data := .seq #[] }).get? s.heap.objs.size = some (lstO #[] 0) := Heap.get?_push_size _ rfl
  obtain ⟨hh, o1, v1, q1, d1, c1⟩ := hot
  have x1S : x1 ≠ s.heap.objs.size := Nat.ne_of_lt (Heap.lt_size q1)
  have rS : r < s.heap.objs.size := let ⟨_, ho, _⟩ := hv; Heap.lt_size ho
  have dS : d < s.heap.objs.size := hm.lt_size
  refine ⟨⟨_, hS, rfl⟩, PySem.F.args_list_init_2 _ _, ?_⟩
  show wpAny _ _ (do let old ← Builtin.List.listItems (.ref s.heap.objs.size); Builtin.List.listUpdate (.ref s.heap.objs.size) (fun _ => #[]); letGo old.toList.reverse; Builtin.List.listExtendWith (.ref s.heap.objs.size) (.ref r) .none) _ _ _
  refine wpAny_bind ?_; unfold Builtin.List.listItems
  refine wpAny_bind (wpAny_seqItems hS rfl (wpAny_pure ?_))
  show wpAny _ _ (updateSeq s.heap.objs.size (fun _ => #[]) >>= fun _ => letGo (#[] : Array Value).toList.reverse >>= fun _ => Builtin.List.listExtendWith (.ref s.heap.objs.size) (.ref r) .none) _ _ _
  refine wpAny_bind (wpAny_updateSeq hS rfl (wpAny_bind (wpAny_letGo ?_)))
  have hS2 := Heap.get?_update_self (Obj.mapSeq (fun _ => (#[] : Array Value))) hS rfl
  have old2 : ∀ b o, s.heap.get? b = some o → ((s.heap.push { cls := .type "list", data := .seq #[] }).update s.heap.objs.size (Obj.mapSeq (fun _ => (#[] : Array Value)))).get? b = some o := fun b o e => stand b o (Nat.ne_of_lt (Heap.lt_size e)) (Heap.get?_push_of_some _ e)
  generalize (s.heap.push { cls := .type "list", data := .seq #[] }).update s.heap.objs.size (Obj.mapSeq (fun _ => (#[] : Array Value))) = h2 at hS2 old2 ⊢
  have lt2 : s.heap.objs.size < h2.objs.size := Heap.lt_size hS2
  have hv2 : h2.IsItemsView r d := let ⟨o, ho, x⟩ := hv; ⟨o, old2 r o ho, x⟩
  have hm2 : h2.DictAt knd d kvs ep := hm.at' fun o e => old2 d o e
  have ltS : ∀ b o, s.heap.get? b = some o → b ≠ s.heap.objs.size := fun b o e => Nat.ne_of_lt (Heap.lt_size e)
  generalize s.heap.objs.size = S at *
  unfold Builtin.List.listExtendWith
  refine wpAny_bind (wpAny_typeOf (T := "dict_items") hv2.typeIs ?_)
  rw [show Builtin.List.listSameRef (.ref S) (.ref r) = false by simp [Builtin.List.listSameRef, Nat.ne_of_gt rS], show (Value.type "dict_items" == Value.type "list") = false by decide, show (Value.type "dict_items" == Value.type "tuple") = false by decide]
  simp only [Bool.or_false, Bool.false_eq_true, if_false]
  refine wpAny_bind (wpAny_pyIter_items hv2 hm2 ?_)
  have run : ∀ (h3 : Heap) (c3 : Nat), (∀ b o, b ≠ S → (h2.push { cls := .type "dict_itemiterator", data := .fields #[.none, .bool false, .ref d, .int 0 0, .int kvs.length 0, .int ep 0, .none, .none] }).get? b = some o → h3.get? b = some o) → h3.get? S = some (lstO #[] c3) →
      codeAny (model prog w) A.in1 (.builtin "list.extend.loop" ⟨[.ref S, .ref h2.objs.size, .none], []⟩) (wants (fun r s₂ => r = .none ∧ Q (.ref S) s₂) E) { s with heap := h3 } := by
    intro h3 c3 up3 at3
    have it3 := up3 h2.objs.size _ (Nat.ne_of_gt lt2) (Heap.get?_push_size _ rfl)
    have all3 : ∀ b o, b ≠ S → h2.get? b = some o → h3.get? b = some o := fun b o m e => up3 b o m (Heap.get?_push_of_some _ e)
    refine takes_items (A := A.in1) (s := { s with heap := h3 }) (knd := knd) (kvs := kvs) (ep := ep) (x1 := x1) (h0 := s.heap) lt2 (Nat.ne_of_lt dS) (Nat.ne_of_lt (Nat.lt_trans dS lt2)) x1S (Nat.ne_of_lt (Heap.lt_size (old2 x1 o1 q1))) hn .none ⟨o1, q1⟩ (fun h' tk acc c as k1 k2 k3 k4 k5 => ?_) ⟨.inl ⟨rfl, .none, .none, it3⟩, hm2.at' fun o e => all3 d o (Nat.ne_of_lt dS) e, fun b o m1 m2 e => all3 b o m1 (old2 b o e), ⟨c3, at3⟩, ⟨[], rfl, rfl, List.Pairwise.nil, (fun _ z => nomatch z), fun j a hj => by simp at hj⟩, Heap.lt_size it3, hh, o1, v1, all3 x1 o1 x1S (old2 x1 o1 q1), d1, c1⟩
    exact ⟨rfl, hQ h' tk acc c as (fun b o e => k1 b o (ltS b o e) (Nat.ne_of_lt (Heap.lt_size (old2 b o e))) e) k2 k3 (k4.low (Nat.le_of_lt lt2)) k5⟩
  have hS3 := Heap.get?_push_of_some { cls := .type "dict_itemiterator", data := .fields #[.none, .bool false, .ref d, .int 0 0, .int kvs.length 0, .int ep 0, .none, .none] } hS2
  have ty3 : Shared.TypeIs { s with heap := h2.push { cls := .type "dict_itemiterator", data := .fields #[.none, .bool false, .ref d, .int 0 0, .int kvs.length 0, .int ep 0, .none, .none] } } (.ref r) "dict_items" := let ⟨o, ho, hc, _⟩ := hv2; ⟨o, Heap.get?_push_of_some _ ho, hc⟩
  refine wpAny_bind (wpAny_holding (kdx_hint ty3 ?_))
  refine wpAny_ite_split (fun _ => ?_) fun _ => wpAny_pure ⟨plainId_quiet PySem.F.plain_extend_loop _, ?_⟩
  · refine wpAny_bind (wpAny_rule (wpAny_bind ?_))
    show wpAny _ _ (updateSeq S (·.push .none) >>= fun _ => updateSeq S (·.pop)) _ _ _; refine wpAny_bind (wpAny_updateSeq hS3 rfl ?_)
    have p1 := Heap.get?_update_self (Obj.mapSeq (·.push Value.none)) hS3 rfl
    refine wpAny_updateSeq (hz := by seq_fits) p1 rfl ?_
    exact wpAny_pure ⟨plainId_quiet PySem.F.plain_extend_loop _, run _ _ (fun b o m e => stand b o m (stand b o m e)) (Heap.get?_update_self (Obj.mapSeq (·.pop)) p1 rfl)⟩
  · exact run _ _ (fun b o _ e => e) hS3
end
section
variable {X : Cx} {e : Expr} {te : TE} {p apos cpos pos : Pos}
/-- list(e.items()) -/
theorem pe_listItemsH (hot : L2H.HotC X) (he : PE X e te) (hg : Gl X "list") (hm : X.mg "list" = none) (hv : bootBuiltins "list" = some (.type "list")) (hbase : attributeBase e "items" X.env (eval e X.env) = eval e X.env := by rfl) (hline : (apos.endLine == cpos.line) = true := by rfl)
    (hs : starEach [.Call (.Attribute e "items" apos) [] [] cpos] X.env = (false, eval (.Call (.Attribute e "items" apos) [] [] cpos) X.env) :: starEach [] X.env := by rfl) :
    PE X (.Call (.Name "list" p) [.Call (.Attribute e "items" apos) [] [] cpos] [] pos) (LiI.tListItems te) := by
  refine ⟨fun pins s σ H Q I hq => wpAny_Call_Name_kw (ld_blt I hg hm hv (PyProof.Rows.callWith_type1 ?_ hs rfl))⟩
  rw [hs]
  show wpAny _ _ (spliced ((false, eval (.Call (.Attribute e "items" apos) [] [] cpos) X.env) :: backTo pos (starEach [] X.env))) _ _ s; refine Calls.spliced_cons ?_
  refine wpAny_Call_method (T := "dict") (id := "dict.items") hbase rfl hline PySem.F.plainAttrs_dict PySem.F.slot_dict_items PySem.F.type_dict_items (thn (he.run pins s σ H _ I hq) fun u s1 ⟨x, H1, I1, rx, d, kvs, ex, hd, q⟩ => ?_)
  subst ex
  obtain rfl : u = Value.ref d := rx
  obtain ⟨hz, hs0, vs, kv, hdo⟩ := I1.hok d _ hd
  obtain ⟨ep, at_⟩ := hdo.dictAt
  have lk : kvs.length = vs.length := Paired.length kv
  have up : ∀ b ob, s1.heap.get? b = some ob → (s1.heap.push { cls := .type "dict_items", data := .fields #[.ref d] }).get? b = some ob := fun b ob q => Heap.get?_push_of_some _ q
  have I2 : Inv X pins σ H1 { s1 with heap := s1.heap.push { cls := .type "dict_items", data := .fields #[.ref d] } } := I1.kept (t' := s1.toks) up
  obtain ⟨x1, h1⟩ := hot.at I2
  refine ⟨hdo.typeIs, hdo.mapOf.noDict, ?_⟩
  show wpAny _ _ (callWith cpos (.builtin "dict.items") [.ref d] [] []) _ X.xe s1
  refine method_meetsIn PySem.F.slot_dict_items PySem.F.entry_dict_items rfl (PySem.evalArgs_none ⟨rfl, hdo.typeIs, PySem.F.args_dict_items_1 _, _, meets_dict_items (mixKind X.prog X.w) d hs0, ⟨vs, hdo⟩, Calls.spliced_nil ?_⟩)
  refine list_of_items (knd := mixKind X.prog X.w) (kvs := vs) (ep := ep) h1 ⟨_, Heap.get?_push_size _ rfl, rfl, rfl⟩ (at_.push _) (by omega) fun h' tk acc c as hk hS hl hG hacc => ?_
  obtain ⟨H', k1, k2, k3, k4, k5, k6, J⟩ := LiI.items_laid (tk := tk) I2 hz kv hk hS hl hG hacc
  exact ⟨.ref _, H', J, rfl, q H' _ as k1 k2 k3 k4 k5 k6⟩
end
end UnH

set_option maxHeartbeats 4000000
/-! UnHotG: a tuple unpacked while an exception is handled. -/
namespace UnH
open PySem PySem.Spec PyProof.Rows L2 HotX
section
variable {prog : Program} {w : World} {A : Around} {E : Value → Shared → Prop} {s : Shared} {x1 : Addr}
theorem tup_ends {it t : Addr} {i : Nat} {items : Array Value} (hot : HotAt A x1 s.heap) (ne : x1 ≠ it) (hit : IsTupIter s.heap it t i) (ht : IsTup s.heap t items) (hx : items[i]? = none) : Ends prog w A s it := by
  refine ⟨fun {Q E} up => ?_⟩
  obtain ⟨o, ho, hc, hd⟩ := id hit; obtain ⟨ol, hol, _, nl, hdl⟩ := ht
  refine wpAny_callSpecial?_slot hit.typeIs slot_tupleiter_next (wpAny_call_entry slot_tupleiter_next hit.typeIs entry_tupleiter_next ?_ (args_tupleiter_next _))
  show wpAny _ _ (field (.ref it) 0 >>= _) _ _ s; refine wpAny_bind (wpAny_field ho hd (x := .ref t) rfl ?_)
  show wpAny _ _ (if (Value.ref t == Value.none) = true then _ else _) _ _ s; rw [if_neg (fun z => nomatch z)]
  show wpAny _ _ (field (.ref it) 1 >>= _) _ _ s; refine wpAny_bind (wpAny_field ho hd (x := .int i 0) rfl ?_)
  show wpAny _ _ (seqItems? (.ref t) >>= _) _ _ s; refine wpAny_bind (wpAny_seqItems hol hdl ?_)
  simp only [Int.toNat_natCast, hx]
  refine wpAny_bind (wpAny_rule (wpAny_bind (wpAny_setField ho hd (by simp) (stop_up (hot_but hot ne) fun e h' k c => up e h' (ext_upd k) c))))
theorem unpack_hot {t : Addr} {items : Array Value} {targets : List (Bool × (Value → Sem Unit))} {Q : Unit → Shared → Prop} (hot : HotAt A x1 s.heap) (ht : IsTup s.heap t items) (hn : targets.length = items.size) (hstar : targets.findIdx? (·.1) = none)
    (h : ∀ h', Heap.ExtBut s.heap.objs.size s.heap h' → wpAny (model prog w) A (assignInOrder (targets.map (·.2)) items.toList) Q E { s with heap := h' }) : wpAny (model prog w) A (unpack (.ref t) targets) Q E s := by
  have hlt : t ≠ s.heap.objs.size := by obtain ⟨o, ho, _⟩ := ht; exact Nat.ne_of_lt (Heap.lt_size ho)
  obtain ⟨hh, o1, v1, g1, d1, c1⟩ := hot
  have xlt : x1 ≠ s.heap.objs.size := Nat.ne_of_lt (Heap.lt_size g1)
  unfold unpack; rw [hn, hstar]
  refine wpAny_bind (wpAny_holding ?_)
  unfold unpackItems
  refine wpAny_bind ?_
  unfold notIterableAtAll
  refine wpAny_bind (wpAny_specialOf ht.typeIs slot_tuple_iter.lookup (wpAny_pure ?_))
  simp only [Bool.false_eq_true, if_false]
  refine wpAny_bind (wpAny_holding (iter_tuple ht (wpAny_bind (wpAny_holding (draw_tuple hlt items.size 0 _ _ ⟨_, Heap.get?_push_size _ rfl, rfl, rfl⟩ (ht.push _) (by omega) fun h₁ hit₁ hs₁ => ?_)))))
  have hall : List.take items.size (List.drop 0 items.toList) = items.toList := by rw [List.drop_zero]; exact List.take_of_length_le (by simp)
  rw [hall, if_neg (by simp)]
  have ht₁ : IsTup h₁ t items := (ht.push _).extBut hs₁.extBut hlt
  have hot₁ : HotAt A x1 h₁ := ⟨hh, o1, v1, hs₁.extBut _ _ xlt (Heap.get?_push_of_some _ g1), d1, c1⟩
  refine wpAny_bind (wpAny_holding ((tup_ends (s := { s with heap := h₁ }) hot₁ xlt hit₁ ht₁ (by simp)).next fun h₂ he₂ => ?_))
  simp only [Option.isSome_none, Bool.false_eq_true, if_false]
  exact wpAny_pure (h h₂ fun b o hb e => he₂ b o hb (hs₁.extBut b o hb (Heap.get?_push_of_some _ e)))
end
/-- (a, b, ..) = a tuple of that length -/
theorem pg_tupH {X : Cx} {es : List Expr} {k : Nat} {t : TGs} {n : Nat} {pos : Pos} (hot : HotB X) (h : PGs X es t) (hn : (assignEach es X.env).length = n := by rfl) (hst : (assignEach es X.env).findIdx? (·.1) = none := by rfl) : PG X (.Tuple es k pos) (gTup X.K n t) := by
  refine ⟨fun pins s σ H v u Q I r ⟨a, xs, e1, hq, hl, hw⟩ => ?_⟩
  subst e1; cases r
  obtain ⟨its, rv, ht, hz⟩ := I.tuple hq
  obtain ⟨x1, hx1⟩ := hot pins σ H s I
  rw [assign_Tuple]
  refine wpAny_bind (wpAny_standAt (unpack_hot hx1 ht (by simp [hn, ← hl, rv.length]) hst fun h' hx => ?_))
  have I1 : Inv X pins σ H { s with heap := h' } := I.kept (t' := s.toks) fun b o e => hx b o (Nat.ne_of_lt (Heap.lt_size e)) e
  exact h.run pins _ σ H xs _ Q I1 (by simpa using rv) hw
end UnH

set_option maxHeartbeats 4000000
/-! UnHotC: own classes made, methods called, o[i] = v while an exception is handled; 1 // 0. -/
namespace Zk48
open PySem PySem.Spec PyProof.Rows L2 Un
theorem huH {k : Nat} {A : Around} (hr : L2H.RoomH k A) : A.units + 1 < cLine := by have := hr.un; omega
section
variable {X : Cx} {pins : List (Addr × Obj)} {σ : L2.St} {H : Hp} {s : Shared} {Q : VK} {us : List Value} {vs : List V} {C f : Addr} {k j : Nat} {fd : FuncData} {ps : List Str} {sp : Sp} {e o : Expr} {es : List Expr} {ta : TE} {t : TA} {x m : Str} {p pos apos : Pos}
theorem run_hot (F : L2H.FnH X.prog X.w X.K X.mg X.base CX0 k f fd ps sp) (hr : L2H.RoomH k X.A) (hc : L2H.HotC X) (hb : Binds X.K fd ps []) (I : Inv X pins σ H s) (r : Vals vs us) (h : sp vs H Q E0) : wpAny (model X.prog X.w) X.A (call (.ref f) us) (EP X pins σ Q) X.xe s :=
  L2H.run_fnH (E := fun _ => E0) F hr hc hb (fun _ _ _ _ _ _ z => z.elim) I r h
def MetH (P : Program) (w : World) (K : PySem.W.Frag) (mg : Str → Option Value) (base : Heap) (C : Addr) (m : Str) (k : Nat) (sp : Sp) : Prop :=
  ∃ (f : Addr) (fd : FuncData) (ps : List Str), Cls K C ∧ Meth K C m f ∧ L2H.FnH P w K mg base CX0 k f fd ps sp ∧ Binds K fd ps []
theorem metH_of {P : Program} {w : World} {K : PySem.W.Frag} {mg : Str → Option Value} {base : Heap} {C : Addr} {m qual : Str} {st : Stmt} {ps : List Str} {k : Nat} {sp : Sp} (c : Cls K C) (a : AtM K C m qual st ps) (h : ∀ f fd, Fun K m qual st f fd → L2H.FnH P w K mg base CX0 k f fd ps sp) : MetH P w K mg base C m k sp := by
  obtain ⟨f, fd, F, M, i, b⟩ := a; exact ⟨f, fd, ps, c, M, h f fd F, b⟩
theorem pe_mtH0 {pl : Sem Bool} (g : MetH X.prog X.w X.K X.mg X.base C m k sp) (hr : L2H.RoomH j X.A) (hk : k ≤ j) (hc : L2H.HotC X) (he : PE X o ta)
    (ht : eval (.Call (.Attribute o m apos) [] [] pos) X.env = (do let ov ← eval o X.env; standAt apos.atName; let (f, first) ← holding [ov] (getMethod ov m pl); callWith pos f first (backTo pos (starEach [] X.env)) (backToKw pos (keywordEach [] X.env))) := by rfl) :
    PE X (.Call (.Attribute o m apos) [] [] pos) (tMeth C m sp [] E0 ta tNil) := by
  obtain ⟨f, fd, ps, c, hm, F, b⟩ := g
  refine ⟨fun pins s σ H Q I h => PySem.W.methodCall_KW (pl := pl) (thn (he.run pins s σ H _ I h) fun u s1 ⟨x, H1, I1, rx, a, dx, fs, ex, ea, l, q⟩ => ?_) ht⟩
  subst ex
  cases (show u = Value.ref a from rx)
  refine getmeth_ok I1 ea c hm l (PySem.W.callWith_K0 (first := [.ref a]) I1.kIn hm.kp (run_hot (us := [.ref a]) (vs := [.ref a]) F (hr.mono hk) hc b I1 (.cons rfl .nil) q))
theorem set_H (g : MetH X.prog X.w X.K X.mg X.base C "__setitem__" k sp) (hq : PySem.W.noSeq X.K C = true) (hr : L2H.RoomH j X.A) (hk : k ≤ j) (hc : L2H.HotC X) : PSet X (rSetO C sp E0) := by
  obtain ⟨f, fd, ps, c, hm, F, b⟩ := g
  intro pins s σ H o i v ov iv u Q I ro ri rv h
  obtain ⟨a, dx, fs, rfl, ha, h⟩ := h
  cases (show ov = Value.ref a from ro)
  obtain ⟨mA, O, _⟩ := ins_get I.hok ha
  obtain ⟨od, J, _⟩ := O.look
  obtain ⟨m, hF⟩ := I.fr
  refine PySem.W.ksp_setItem hF I.ok.mod.kin J hq hm.at_ hm.fn (wpAny_mono (run_hot F (hr.mono hk) hc b I (show Vals [V.ref a, i, v] [Value.ref a, iv, u] from .cons rfl (.cons ri (.cons rv .nil))) h) (fun r s' ⟨z, H', I', rz, q⟩ => ⟨H', I', q⟩) fun _ _ e => e)
def MakH (P : Program) (w : World) (K : PySem.W.Frag) (mg : Str → Option Value) (base : Heap) (x : Str) (C : Addr) (k : Nat) (sp : Sp) : Prop :=
  ∃ (f : Addr) (fd : FuncData) (ps : List Str), L2.Mk K C f ∧ L2H.FnH P w K mg base CX0 k f fd ps sp ∧ mg x = some (.ref C) ∧ Binds K fd ps []
theorem pe_mkH (g : MakH X.prog X.w X.K X.mg X.base x C k sp) (hr : L2H.RoomH j X.A) (hk : k + 1 ≤ j) (hc : L2H.HotC X) (hg : Gl X x) (ha : PA X (e :: es) t)
    (hdb : (x == ("__debug__" : Str)) = false := by decide) (he : starEach (e :: es) X.env = (false, eval e X.env) :: starEach es X.env := by rfl) (hpl : (backTo pos (starEach es X.env)).any (·.1) = false := by rfl) :
    PE X (.Call (.Name x p) (e :: es) [] pos) (tMake C sp [] E0 t) := by
  obtain ⟨f, fd, ps, M, F, hm, hb⟩ := g
  obtain ⟨pn, hot, hpn⟩ := hc
  refine ⟨fun pins s σ H Q I h => wpAny_Call_Name_kw (ld_glob I hg hm ?_ hdb)⟩
  refine PySem.W.callWith_K (h₀ := X.base) I.ok.mod.kin M.kp (thn (ha.run pos pins s σ H _ I h) fun us s1 ⟨vs, H1, I1, r, q⟩ => ⟨I1.kIn, ?_⟩) he hpl
  have hq := q (s1.heap.objs.size + 1) s1.heap.objs.size (I1.hok.fresh (Nat.le_succ _)) (I1.hok.fresh (Nat.le_refl _)) (Nat.ne_of_lt (Nat.lt_succ_self _))
  rw [List.append_nil] at hq
  have I2 := Inv.made (C := C) I1
  have r2 : Vals (V.ref (s1.heap.objs.size + 1) :: vs) (Value.ref (s1.heap.objs.size + 1) :: us) := .cons rfl r
  have hl : (Value.ref (s1.heap.objs.size + 1) :: us).length = ps.length := by rw [← r2.length]; exact F.len _ _ _ _ hq
  have b2 := hb _ (Value.ref (s1.heap.objs.size + 1) :: us) I2.kIn (by rw [List.append_nil]; exact hl)
  rw [List.append_nil] at b2
  obtain ⟨c1, c2, c3, c4, c5⟩ := I2.pin pn (List.mem_append_left _ hpn)
  refine wpAny_call (make_map (f := f) I1.kIn M.makes M.init (beq_iff_eq.mp M.fn) (codeAny_mono (F.run _ X.stack _ _ ⟨Value.ref (s1.heap.objs.size + 1) :: us, []⟩ _ _ _ E0 pn ((hr.mono hk).make C us []) ⟨hot.1, hot.2⟩ ⟨c1, c2, fun z => (List.mem_cons.mp (I2.stkSub _ z)).elim c3 c4, c5⟩ (I2.env0.make C us []) b2 r2 hq) fun r s' hq' => ?_))
  match r, hq' with
  | .error e, hq' => exact hq'.elim
  | .ok .next, hq' => exact hq'.elim
  | .ok .brk, hq' => exact hq'.elim
  | .ok .cont, hq' => exact hq'.elim
  | .ok (.ret u), hq' =>
    obtain ⟨v, H', I3, rv, ev, q3⟩ := I2.after hq'
    subst ev
    exact ⟨rv, V.ref (s1.heap.objs.size + 1), H', I3, rfl, q3⟩
/-- a // 0 -/
def tZero (ta tb : TE) (W : WX) : TE := fun σ H _ => ta σ H fun x H1 => tb σ H1 fun y H2 => (∃ i : Int, x = .int i) ∧ y = .int 0 ∧ ∀ d, W (.type "ZeroDivisionError") d σ H2
theorem pe_zero {a b : Expr} {tb : TE} {W : WX} (hc : X.calm = true) (tk : L2N.Takes X W) (ha : PE X a ta) (hb : PE X b tb) : PE X (.BinOp a .FloorDiv b pos) (tZero ta tb W) := by
  refine ⟨fun pins s σ H Q I h => ?_⟩
  refine wpAny_BinOp (binT ha hb I (R := fun x y H2 => (∃ i : Int, x = .int i) ∧ y = .int 0 ∧ ∀ d, W (.type "ZeroDivisionError") d σ H2) h fun v u s2 x y H2 I2 rx ry ⟨⟨i, ex⟩, ey, w⟩ => ?_)
  subst ex ey
  obtain ⟨t1, rfl⟩ := (show ∃ t, v = Value.int i t from rx)
  obtain ⟨t2, rfl⟩ := (show ∃ t, u = Value.int 0 t from ry)
  exact floordiv_int_or (I2.ok.hd hc) (fun _ h' tk' e hx => L2N.takes_newN (t' := tk') tk I2 hx w) (fun z => (z rfl).elim) (fun z => (z rfl).elim)
end
end Zk48

set_option maxHeartbeats 4000000
/-! UnGN: defs that repr data and may raise errors without context; o.m(lambda p: ..) with the method under its name. -/
namespace Zk48
open PySem PySem.Spec PyProof.Rows L2 Un
structure FnGN (P : Program) (w : World) (K : PySem.W.Frag) (mg : Str → Option Value) (base : Heap) (k : Nat) (f : Addr) (fd : FuncData) (ps : List Str) (sp : Sp) : Prop where
  len : ∀ vs H Q E, sp vs H Q E → vs.length = ps.length
  run : ∀ (A : Around) (outer : List Env) (s : Shared) (H : Hp) (args : Args) (us : List Value) (vs : List V) (Q : VK) (E : XK), A.guards = some [] → Room k A → Env0 P w K mg base A outer s H → BindsTo s fd args (ps.zip us) → Vals vs us → sp vs H Q E → codeAny (model P w) A (.call (.ref f) args) (CR (L2N.CX P w) outer P w H s Q E) s
section
variable {P : Program} {w : World} {K : PySem.W.Frag} {mg : Str → Option Value} {base : Heap}
theorem okGN {nm qual : Str} {st : Stmt} {f : Addr} {fd : FuncData} {N ps : List Str} {k : Nat} {sp : Sp} (F : Fun K nm qual st f fd) (S : FnScope N ps (defScope st)) (hl : ∀ vs H Q E, sp vs H Q E → vs.length = ps.length)
    (hb : ∀ (cdv : Value) (A : Around) (outer : List Env) (s : Shared) (H : Hp) (vs : List V) (Q : VK) (E : XK), A.guards = some [] → Room k (A.deeper (envOfC qual (defScope st) s.heap.objs.size f cdv)) → sp vs H Q E →
      ∃ t, PSs (cxOf (L2N.CX P w) P w K mg base N qual (defScope st) f cdv A outer s H E) (defBody st) t ∧ t { nx := fun _ H' => Q .non H', rt := Q } (start N vs) H) : FnGN P w K mg base (k + 1) f fd ps sp := by
  obtain ⟨_, _, _, _, _, _, cdv, _, _, rfl, lk, hcd⟩ := F.ex
  exact ⟨hl, fun A outer s H args us vs Q E gA hr e0 bd r hsp => LamX.run_ofS lk hcd S hr e0 bd r (hl _ _ _ _ hsp) fun hr' => hb cdv A outer s H vs Q E gA hr' hsp⟩
def ClGN (P : Program) (w : World) (K : PySem.W.Frag) (mg : Str → Option Value) (base : Heap) (nm : Str) (ps : List Str) (k : Nat) (sp : Sp) : Prop :=
  ∃ (f : Addr) (fd : FuncData), mg nm = some (.ref f) ∧ FnGN P w K mg base k f fd ps sp ∧ PySem.W.keepIn K (.ref f) = true ∧ Binds K fd ps []
theorem clGN_of {nm : Str} {st : Stmt} {ps : List Str} {k : Nat} {sp : Sp} (a : At K mg nm st ps) (h : ∀ f fd, Fun K nm nm st f fd → FnGN P w K mg base k f fd ps sp) : ClGN P w K mg base nm ps k sp := by
  obtain ⟨f, fd, F, m, b⟩ := a; exact ⟨f, fd, m, h f fd F, F.kp, b⟩
end
section
variable {X : Cx} {nm : Str} {ps : List Str} {k j : Nat} {sp : Sp} {e : Expr} {es : List Expr} {t : TA} {p pos : Pos} {W : WX}
theorem pe_clGX (c : ClGN X.prog X.w X.K X.mg X.base nm ps k sp) (hgd : X.A.guards = some []) (hr : Room j X.A) (hk : k ≤ j) (hg : Gl X nm) (tk : Takes X W) (ha : PA X (e :: es) t)
    (hdb : (nm == ("__debug__" : Str)) = false := by decide) (he : starEach (e :: es) X.env = (false, eval e X.env) :: starEach es X.env := by rfl) (hpl : (backTo pos (starEach es X.env)).any (·.1) = false := by rfl) :
    PE X (.Call (.Name nm p) (e :: es) [] pos) (tCallS sp (WE W) t) := by
  obtain ⟨f, fd, m, F, kp, b⟩ := c
  refine ⟨fun pins s σ H Q I h => wpAny_Call_Name_kw (ld_glob I hg m (PySem.W.callWith_K (h₀ := X.base) I.ok.mod.kin kp (thn (ha.run pos pins s σ H _ I h) fun us s1 ⟨vs, H1, I1, r, q⟩ => ⟨I1.kIn, ?_⟩) he hpl) hdb)⟩
  have n1 : us.length = ps.length := by rw [← r.length]; exact F.len _ _ _ _ q
  have bd := b s1 us I1.kIn (by rw [List.append_nil]; exact n1)
  rw [List.append_nil] at bd
  refine wpAny_call (codeAny_mono (F.run X.A X.stack s1 H1 ⟨us, []⟩ us vs Q (WE W σ) hgd (hr.mono hk) I1.env0 bd r q) fun res s' hres => ?_)
  match res, hres with
  | .error e, hres => exact L2N.passAt tk σ pins H1 s1 e s' I1 hres
  | .ok (.ret u), hres => exact I1.after hres
  | .ok .next, hres => exact hres.elim
  | .ok .brk, hres => exact hres.elim
  | .ok .cont, hres => exact hres.elim
end
open UnP in
theorem pe_mlamG {X : Cx} {pl : Sem Bool} {C : Addr} {m q qual : Str} {st : Stmt} {o : Expr} {c P : Addr} {Ng : List Str} {wk y sf : Str} {R : Hp → Addr → Prop} {Pre : Hp → Prop} {TT : (XK → V → Hp → VK → Prop) → Addr → Hp → VK → XK → Prop} {params : Arguments} {body : Expr} {scope : Scope} {b : Bool} {p : Str} {ta : TE} {t : Addr → Addr → XK → TE} {W : WX} {k : Nat} {lpos apos pos : Pos}
    (cl : Cls X.K C) (am : AtM X.K C m qual st [sf, wk]) (Sg : FnScope Ng [sf, wk] (defScope st)) (hNg : Ng[1]? = some wk) (hva : Vis (defScope st) wk)
    (hG : ∀ g cdv, GivesM X (k + 1) Ng qual (defScope st) g cdv (defBody st) wk y q TT) (hq : q = X.env.qual ++ "<lambda>") (hC : ∀ {pins : List (Addr × Obj)} {s : Shared} {σ : L2.St} {H : Hp}, Inv X pins σ H s → Pre H → PySem.W.CodeHd s.heap c P ∧ s.heap.BuiltinsAt X.mg P ∧ mainGlobals ≠ P) (hcode : X.env.code = .ref c)
    (tk : Takes X W) (hr : Room (k + 2) X.A) (L : LamP X.env.scope scope b p) (hp : p ∉ X.N) (hdef : defaultsOf params X.env = ([], []))
    (hbind : ∀ (u : Value) (q : Str) (cl : List (Str × Addr)) (pm cv ctv : Value), bindArgs (PySem.W.kla_fn "<lambda>" q params body scope cl pm cv ctv) ⟨[u], []⟩ = pure [(p, u)])
    (hbody : ∀ (A : Around) (outer : List Env) (s : Shared) (H : Hp) (E : XK) (f c' P' : Addr), A.guards = X.A.guards → Room k (A.deeper (envP X scope b p s.heap.objs.size f c')) → PE (lcx X A outer s H E scope b p f c') body (t c' P' E))
    (he : PE X o ta)
    (ht : eval (.Call (.Attribute o m apos) [.Lambda params body scope lpos] [] pos) X.env = (do let ov ← eval o X.env; standAt apos.atName; let (f, first) ← holding [ov] (getMethod ov m pl); callWith pos f first (backTo pos (starEach [.Lambda params body scope lpos] X.env)) (backToKw pos (keywordEach [] X.env))) := by rfl)
    (hd : (wk == ("__debug__" : Str)) = false := by decide) (hcd : (wk == ("__classdict__" : Str)) = false := by decide) :
    PE X (.Call (.Attribute o m apos) [.Lambda params body scope lpos] [] pos) (tMLam C m P q R Pre TT ta t W) := by
  obtain ⟨g, fd, F, M, i, bd⟩ := am
  obtain ⟨_, _, _, _, _, _, cdv, _, _, rfl, lk, hco⟩ := F.ex
  exact pe_mlam he cl M lk hco bd Sg hNg hva (hG g cdv) hq hC hcode tk hr L hp hdef hbind hbody ht hd hcd
/-- the code of a def of the text has its table in the base -/
theorem code_static {X : Cx} {c P : Addr} (TB : LamX.TabB X.base X.mg c P) {pins : List (Addr × Obj)} {s : Shared} {σ : L2.St} {H : Hp} (I : Inv X pins σ H s) (_ : True) : PySem.W.CodeHd s.heap c P ∧ s.heap.BuiltinsAt X.mg P ∧ mainGlobals ≠ P := ⟨TB.code.keeps I.bk, TB.bm.keeps I.bk, TB.gP⟩
/-- the code of a lambda has its table among what is tracked -/
theorem code_dyn {X : Cx} {c0 P0 c P : Addr} {q : Str} (TB : LamX.TabB X.base X.mg c0 P0) {pins : List (Addr × Obj)} {s : Shared} {σ : L2.St} {H : Hp} (I : Inv X pins σ H s) (h : H c = some (UnP.CodeH c q P) ∧ ∃ ps, H P = some (.tbl ps)) : PySem.W.CodeHd s.heap c P ∧ s.heap.BuiltinsAt X.mg P ∧ mainGlobals ≠ P := by
  obtain ⟨hc, ps, hP⟩ := h
  obtain ⟨bm, ob, h1, h2, h3, h4, h5, h6⟩ := TB.bm
  have ne : ∀ b o, X.base.get? b = some o → b ≠ P := fun b o e z => by
    have y := (I.bs b o e).2; rw [z, hP] at y; cases y
  obtain ⟨og, es, ep, eg, _⟩ := I.ok.mod.glob
  exact ⟨(UnP.codeH_at I.hok hc).2, ⟨bm, ob, h1, h2, h3, ne _ _ h5, (I.bs _ _ h5).1, h6⟩, ne _ _ eg⟩
end Zk48

local macro_rules | `(tactic| walk_at "rd") => `(tactic| first
  | with_reducible refine' Un.rd_seq ?_
  | with_reducible refine' Un.rd_asg ?_
  | with_reducible refine' Un.rd_gname ?_
  | ((with_reducible refine' Un.rd_var ?k1 ?_); (case k1 => rfl))
  | with_reducible refine' Un.rd_c ?_
  | with_reducible refine' Un.rd_op ?_
  | with_reducible refine' Un.rd_I0 ?_
  | with_reducible refine' Un.rd_test ?_
  | with_reducible refine' Un.rd_bl ?_
  | with_reducible refine' Un.rd_ifS ?_
  | with_reducible refine' Un.rd_call ?_
  | with_reducible refine' Un.rd_cons ?_
  | with_reducible refine' Un.rd_nil ?_
  | with_reducible refine' Un.rd_ret ?_
  | with_reducible refine' Un.rd_retN ?_
  | with_reducible refine' Un.rd_drop ?_
  | with_reducible refine' Un.rd_next ?_
  | with_reducible refine' Un.rd_break ?_
  | with_reducible refine' Un.rd_cont ?_
  | with_reducible refine' Un.rd_cb ?_
  | with_reducible refine' Un.rd_bm ?_
  | with_reducible refine' Un.rd_bm0 ?_
  | with_reducible refine' Un.rd_tyS ?_
  | with_reducible refine' Un.rd_lst ?_
  | with_reducible refine' Un.rd_tup ?_
  | with_reducible refine' Un.rd_sl ?_
  | with_reducible refine' Un.rd_part ?_
  | with_reducible refine' Un.rd_some ?_
  | with_reducible refine' Un.rd_nopart ?_
  | with_reducible refine' Un.rd_un ?_
  | with_reducible refine' Un.rd_U ?_
  | with_reducible refine' Un.rd_B ?_
  | with_reducible refine' Un.rd_and ?_
  | with_reducible refine' Un.rd_or ?_
  | with_reducible refine' Un.rd_not ?_
  | with_reducible refine' Un.rd_andV ?_
  | with_reducible refine' Un.rd_orV ?_
  | with_reducible refine' Un.rd_notV ?_
  | with_reducible refine' Un.rd_if ?_
  | with_reducible refine' Un.rd_gsub ?_
  | with_reducible refine' Un.rd_gnil ?_
  | with_reducible refine' Un.rd_gcons ?_
  | with_reducible refine' Un.rd_two ?_
  | with_reducible refine' Un.rd_ltX ?_
  | with_reducible refine' Un.rd_inX ?_
  | ((with_reducible refine' Un.rd_eq ?k1 ?_); (case k1 => rfl))
  | ((with_reducible refine' Un.rd_ne ?k1 ?_); (case k1 => rfl))
  | with_reducible refine' Un.rd_intI ?_
  | with_reducible refine' Un.rd_intB ?_
  | with_reducible refine' Un.rd_strS ?_
  | with_reducible refine' Un.rd_strE ?_
  | with_reducible refine' Un.rd_one ?_
  | with_reducible refine' Un.rd_par ?_
  | with_reducible refine' Un.rd_revL ?_
  | with_reducible refine' Un.rd_lc ?_
  | with_reducible refine' Un.rd_iList ?_
  | with_reducible refine' Un.rd_iStr ?_
  | with_reducible refine' Un.rd_iTup ?_
  | with_reducible refine' Un.rd_for ?_
  | with_reducible refine' Un.rd_rng1 ?_
  | with_reducible refine' Un.rd_rng2 ?_
  | with_reducible refine' Un.rd_yes ?_
  | with_reducible refine' Un.rd_startX ?_
  | with_reducible refine' Un.rd_leX ?_
  | with_reducible refine' Un.rd_isN1 ?_
  | with_reducible refine' Un.rd_notN1 ?_
  | with_reducible refine' Un.rd_maxX ?_
  | with_reducible refine' Un.rd_iEnumX (l := []) ?_)
local macro_rules | `(tactic| walk_at "rds") => `(tactic| repeat walk_at "rd")

local macro_rules | `(tactic| walk_at "rd") => `(tactic| first
  | with_reducible refine' Un.rd_fld ?_
  | with_reducible refine' Un.rd_sfld ?_
  | with_reducible refine' Un.rd_dput ?_
  | with_reducible refine' Un.rd_dget ?_
  | with_reducible refine' Un.rd_din ?_
  | with_reducible refine' Un.rd_dnotin ?_
  | with_reducible refine' Un.rd_ddel ?_
  | with_reducible refine' Un.rd_dnew ?_
  | with_reducible refine' Un.rd_make ?_
  | with_reducible refine' Un.rd_meth ?_
  | with_reducible refine' Un.rd_methN ?_
  | with_reducible refine' Un.rd_iKeys ?_
  | with_reducible refine' Un.rd_items ?_
  | with_reducible refine' Un.rd_mkR ?_
  | with_reducible refine' Un.rd_pop1 ?_
  | with_reducible refine' Un.rd_get2 ?_
  | with_reducible refine' Un.rd_gtX ?_)

local macro_rules | `(tactic| walk_at "rd") => `(tactic| first
  | with_reducible refine' Un.rd_mkX ?_
  | with_reducible refine' Un.rd_xfl ?_
  | with_reducible refine' Un.rd_clX ?_
  | with_reducible refine' Un.rd_iZipS ?_
  | with_reducible refine' Un.rd_chain ?_
  | with_reducible refine' Un.rd_zipS2 ?_
  | with_reducible refine' Un.rd_mkN0 ?_
  | with_reducible refine' Un.rd_iEnum ?_
  | with_reducible refine' Un.rd_par3 ?_
  | with_reducible refine' Un.rd_three ?_)
namespace Zk48
open PySem PySem.Spec PyProof.Rows L2 Un
--T
--N
--U UnderError
--U NoText
--U NoValue
--H x_TT : PySem.W.exmOne K (.ref @NoText) (.ref @NoText) = some true
--H x_VT : PySem.W.exmOne K (.ref @NoValue) (.ref @NoText) = some false
--H x_VV : PySem.W.exmOne K (.ref @NoValue) (.ref @NoValue) = some true
--H x_ZT : PySem.W.exmOne K (.type "ZeroDivisionError") (.ref @NoText) = some false
--H x_ZV : PySem.W.exmOne K (.type "ZeroDivisionError") (.ref @NoValue) = some false
--H x_ZZ : PySem.W.exmOne K (.type "ZeroDivisionError") (.type "ZeroDivisionError") = some true
--S _wall
--F Store letters
--F Store table
--F Trial store
--F Trial table
--M Store.__init__
--M Store.__setitem__
--M Store.__getitem__
--M Store.__contains__
--M Store.__len__
--M Store.pairs
--M Store.take
--M Store.fill
--M Store.copied
--M Store.trial
--M Store.within
--M Trial.__init__
--M Trial.__enter__
--M Trial.__exit__
--D check_letters
--D Store.__getitem__
--X check_value
--X Store.__setitem__
--X _law_work
--X _law_entered
--G _law_work
--G _law_entered
--G _law_tried
--G _law_is_it
--G _law_both_right
--G law
--L _law_work
--L _law_entered
--L _law_tried
def topS (i : Nat) : Stmt := PySem.Challenge.pw_undername_k48_whole_trials_of_stores.main.body.getD i (.Pass ⟨0, 0, 0, 0⟩)
abbrev s__wall : Stmt := topS 0
abbrev n__wall : List Str := ["k"]
theorem sc__wall : FnScope n__wall ["k"] (defScope s__wall) := ⟨rfl, rfl, rfl, by decide +kernel, rfl, by decide +kernel, by decide +kernel⟩
abbrev s_check_letters : Stmt := topS 11
abbrev n_check_letters : List Str := ["letters"]
theorem sc_check_letters : FnScope n_check_letters ["letters"] (defScope s_check_letters) := ⟨rfl, rfl, rfl, by decide +kernel, rfl, by decide +kernel, by decide +kernel⟩
abbrev s__are_letters : Stmt := topS 12
abbrev n__are_letters : List Str := ["value"]
theorem sc__are_letters : FnScope n__are_letters ["value"] (defScope s__are_letters) := ⟨rfl, rfl, rfl, by decide +kernel, rfl, by decide +kernel, by decide +kernel⟩
abbrev s__consists_of : Stmt := topS 13
abbrev n__consists_of : List Str := ["characters", "text", "character"]
theorem sc__consists_of : FnScope n__consists_of ["characters", "text"] (defScope s__consists_of) := ⟨rfl, rfl, rfl, by decide +kernel, rfl, by decide +kernel, by decide +kernel⟩
abbrev s__ascends : Stmt := topS 14
abbrev n__ascends : List Str := ["text", "one", "other"]
theorem sc__ascends : FnScope n__ascends ["text"] (defScope s__ascends) := ⟨rfl, rfl, rfl, by decide +kernel, rfl, by decide +kernel, by decide +kernel⟩
abbrev s_is_text : Stmt := topS 15
abbrev n_is_text : List Str := ["letters", "value"]
theorem sc_is_text : FnScope n_is_text ["letters", "value"] (defScope s_is_text) := ⟨rfl, rfl, rfl, by decide +kernel, rfl, by decide +kernel, by decide +kernel⟩
abbrev s_is_number : Stmt := topS 16
abbrev n_is_number : List Str := ["value"]
theorem sc_is_number : FnScope n_is_number ["value"] (defScope s_is_number) := ⟨rfl, rfl, rfl, by decide +kernel, rfl, by decide +kernel, by decide +kernel⟩
abbrev s_Store___init__ : Stmt := inClass (topS 18) 0
abbrev n_Store___init__ : List Str := ["self", "letters", "pairs", "key", "value"]
theorem sc_Store___init__ : FnScope n_Store___init__ ["self", "letters", "pairs"] (defScope s_Store___init__) := ⟨rfl, rfl, rfl, by decide +kernel, rfl, by decide +kernel, by decide +kernel⟩
abbrev s_Store___setitem__ : Stmt := inClass (topS 18) 1
abbrev n_Store___setitem__ : List Str := ["self", "at", "worth"]
theorem sc_Store___setitem__ : FnScope n_Store___setitem__ ["self", "at", "worth"] (defScope s_Store___setitem__) := ⟨rfl, rfl, rfl, by decide +kernel, rfl, by decide +kernel, by decide +kernel⟩
abbrev s_Store___getitem__ : Stmt := inClass (topS 18) 2
abbrev n_Store___getitem__ : List Str := ["self", "at"]
theorem sc_Store___getitem__ : FnScope n_Store___getitem__ ["self", "at"] (defScope s_Store___getitem__) := ⟨rfl, rfl, rfl, by decide +kernel, rfl, by decide +kernel, by decide +kernel⟩
abbrev s_Store___iter__ : Stmt := inClass (topS 18) 3
abbrev n_Store___iter__ : List Str := ["self"]
theorem sc_Store___iter__ : FnScope n_Store___iter__ ["self"] (defScope s_Store___iter__) := ⟨rfl, rfl, rfl, by decide +kernel, rfl, by decide +kernel, by decide +kernel⟩
abbrev s_Store___contains__ : Stmt := inClass (topS 18) 4
abbrev n_Store___contains__ : List Str := ["self", "x"]
theorem sc_Store___contains__ : FnScope n_Store___contains__ ["self", "x"] (defScope s_Store___contains__) := ⟨rfl, rfl, rfl, by decide +kernel, rfl, by decide +kernel, by decide +kernel⟩
abbrev s_Store___len__ : Stmt := inClass (topS 18) 5
abbrev n_Store___len__ : List Str := ["self"]
theorem sc_Store___len__ : FnScope n_Store___len__ ["self"] (defScope s_Store___len__) := ⟨rfl, rfl, rfl, by decide +kernel, rfl, by decide +kernel, by decide +kernel⟩
abbrev s_Store___eq__ : Stmt := inClass (topS 18) 6
abbrev n_Store___eq__ : List Str := ["self", "other"]
theorem sc_Store___eq__ : FnScope n_Store___eq__ ["self", "other"] (defScope s_Store___eq__) := ⟨rfl, rfl, rfl, by decide +kernel, rfl, by decide +kernel, by decide +kernel⟩
abbrev s_Store_pairs : Stmt := inClass (topS 18) 7
abbrev n_Store_pairs : List Str := ["self", "low", "high", "after", "key"]
theorem sc_Store_pairs : FnScope n_Store_pairs ["self", "low", "high", "after"] (defScope s_Store_pairs) := ⟨rfl, rfl, rfl, by decide +kernel, rfl, by decide +kernel, by decide +kernel⟩
abbrev s_Store_page : Stmt := inClass (topS 18) 8
abbrev n_Store_page : List Str := ["self", "count", "low", "high", "after"]
theorem sc_Store_page : FnScope n_Store_page ["self", "count", "low", "high", "after"] (defScope s_Store_page) := ⟨rfl, rfl, rfl, by decide +kernel, rfl, by decide +kernel, by decide +kernel⟩
abbrev s_Store_take : Stmt := inClass (topS 18) 9
abbrev n_Store_take : List Str := ["self", "low", "high", "after", "taken", "key"]
theorem sc_Store_take : FnScope n_Store_take ["self", "low", "high", "after"] (defScope s_Store_take) := ⟨rfl, rfl, rfl, by decide +kernel, rfl, by decide +kernel, by decide +kernel⟩
abbrev s_Store_fill : Stmt := inClass (topS 18) 10
abbrev n_Store_fill : List Str := ["self", "value", "low", "high", "after", "filled", "key"]
theorem sc_Store_fill : FnScope n_Store_fill ["self", "value", "low", "high", "after"] (defScope s_Store_fill) := ⟨rfl, rfl, rfl, by decide +kernel, rfl, by decide +kernel, by decide +kernel⟩
abbrev s_Store_copied : Stmt := inClass (topS 18) 11
abbrev n_Store_copied : List Str := ["self"]
theorem sc_Store_copied : FnScope n_Store_copied ["self"] (defScope s_Store_copied) := ⟨rfl, rfl, rfl, by decide +kernel, rfl, by decide +kernel, by decide +kernel⟩
abbrev s_Store_trial : Stmt := inClass (topS 18) 12
abbrev n_Store_trial : List Str := ["self"]
theorem sc_Store_trial : FnScope n_Store_trial ["self"] (defScope s_Store_trial) := ⟨rfl, rfl, rfl, by decide +kernel, rfl, by decide +kernel, by decide +kernel⟩
abbrev s_Store_within : Stmt := inClass (topS 18) 13
abbrev n_Store_within : List Str := ["self", "work", "store"]
theorem sc_Store_within : FnScope n_Store_within ["self", "work"] (defScope s_Store_within) := ⟨rfl, rfl, rfl, by decide +kernel, rfl, by decide +kernel, by decide +kernel⟩
abbrev s_Trial___init__ : Stmt := inClass (topS 19) 0
abbrev n_Trial___init__ : List Str := ["self", "store"]
theorem sc_Trial___init__ : FnScope n_Trial___init__ ["self", "store"] (defScope s_Trial___init__) := ⟨rfl, rfl, rfl, by decide +kernel, rfl, by decide +kernel, by decide +kernel⟩
abbrev s_Trial___enter__ : Stmt := inClass (topS 19) 1
abbrev n_Trial___enter__ : List Str := ["self"]
theorem sc_Trial___enter__ : FnScope n_Trial___enter__ ["self"] (defScope s_Trial___enter__) := ⟨rfl, rfl, rfl, by decide +kernel, rfl, by decide +kernel, by decide +kernel⟩
abbrev s_Trial___exit__ : Stmt := inClass (topS 19) 2
abbrev n_Trial___exit__ : List Str := ["self", "kind", "value", "trace"]
theorem sc_Trial___exit__ : FnScope n_Trial___exit__ ["self", "kind", "value", "trace"] (defScope s_Trial___exit__) := ⟨rfl, rfl, rfl, by decide +kernel, rfl, by decide +kernel, by decide +kernel⟩
abbrev s_check_value : Stmt := topS 20
abbrev n_check_value : List Str := ["value"]
theorem sc_check_value : FnScope n_check_value ["value"] (defScope s_check_value) := ⟨rfl, rfl, rfl, by decide +kernel, rfl, by decide +kernel, by decide +kernel⟩
abbrev s__keys : Stmt := topS 21
abbrev n__keys : List Str := ["store", "low", "high", "after", "key"]
theorem sc__keys : FnScope n__keys ["store", "low", "high", "after"] (defScope s__keys) := ⟨rfl, rfl, rfl, by decide +kernel, rfl, by decide +kernel, by decide +kernel⟩
abbrev s__law_deal : Stmt := topS 23
abbrev n__law_deal : List Str := ["_law_script", "_law_base", "_law_cell", "_law_cells", "_law_mixed"]
theorem sc__law_deal : FnScope n__law_deal ["_law_script", "_law_base"] (defScope s__law_deal) := ⟨rfl, rfl, rfl, by decide +kernel, rfl, by decide +kernel, by decide +kernel⟩
abbrev s__law_draw : Stmt := topS 24
abbrev n__law_draw : List Str := ["_law_deal_here", "_law_many", "_law_left"]
theorem sc__law_draw : FnScope n__law_draw ["_law_deal_here", "_law_many"] (defScope s__law_draw) := ⟨rfl, rfl, rfl, by decide +kernel, rfl, by decide +kernel, by decide +kernel⟩
abbrev s__law_pick : Stmt := topS 25
abbrev n__law_pick : List Str := ["_law_deal_here", "_law_some"]
theorem sc__law_pick : FnScope n__law_pick ["_law_deal_here", "_law_some"] (defScope s__law_pick) := ⟨rfl, rfl, rfl, by decide +kernel, rfl, by decide +kernel, by decide +kernel⟩
abbrev s__law_letters : Stmt := topS 26
abbrev n__law_letters : List Str := ["_law_deal_here", "_law_most", "_law_left", "_law_found", "_law_k", "_law_sign"]
theorem sc__law_letters : FnScope n__law_letters ["_law_deal_here", "_law_most"] (defScope s__law_letters) := ⟨rfl, rfl, rfl, by decide +kernel, rfl, by decide +kernel, by decide +kernel⟩
abbrev s__law_text : Stmt := topS 27
abbrev n__law_text : List Str := ["_law_deal_here", "_law_letters_here", "_law_most", "_law_size", "_law_form", "_law_many", "_law_word", "_law_k"]
theorem sc__law_text : FnScope n__law_text ["_law_deal_here", "_law_letters_here", "_law_most"] (defScope s__law_text) := ⟨rfl, rfl, rfl, by decide +kernel, rfl, by decide +kernel, by decide +kernel⟩
abbrev s__law_value : Stmt := topS 28
abbrev n__law_value : List Str := ["_law_deal_here", "_law_form"]
theorem sc__law_value : FnScope n__law_value ["_law_deal_here"] (defScope s__law_value) := ⟨rfl, rfl, rfl, by decide +kernel, rfl, by decide +kernel, by decide +kernel⟩
abbrev s__law_deeds : Stmt := topS 29
abbrev n__law_deeds : List Str := ["_law_deal_here", "_law_letters_here", "_law_store", "_law_table", "_law_turn", "_law_form", "_law_key", "_law_value_here", "_law_one", "_law_other"]
theorem sc__law_deeds : FnScope n__law_deeds ["_law_deal_here", "_law_letters_here", "_law_store", "_law_table"] (defScope s__law_deeds) := ⟨rfl, rfl, rfl, by decide +kernel, rfl, by decide +kernel, by decide +kernel⟩
abbrev s__law_shown : Stmt := topS 30
abbrev n__law_shown : List Str := ["_law_table", "_law_key", "_law_one"]
theorem sc__law_shown : FnScope n__law_shown ["_law_table"] (defScope s__law_shown) := ⟨rfl, rfl, rfl, by decide +kernel, rfl, by decide +kernel, by decide +kernel⟩
abbrev s__law_work : Stmt := topS 31
abbrev n__law_work : List Str := ["_law_deal_here", "_law_letters_here", "_law_store", "_law_table", "_law_deep", "_law_own", "_law_inner", "_law_form", "_law_right"]
theorem sc__law_work : FnScope n__law_work ["_law_deal_here", "_law_letters_here", "_law_store", "_law_table", "_law_deep"] (defScope s__law_work) := ⟨rfl, rfl, rfl, by decide +kernel, rfl, by decide +kernel, by decide +kernel⟩
abbrev s__law_entered : Stmt := topS 32
abbrev n__law_entered : List Str := ["_law_handed", "_law_deal_here", "_law_letters_here", "_law_store", "_law_world"]
theorem sc__law_entered : FnScope n__law_entered ["_law_handed", "_law_deal_here", "_law_letters_here", "_law_store", "_law_world"] (defScope s__law_entered) := ⟨rfl, rfl, rfl, by decide +kernel, rfl, by decide +kernel, by decide +kernel⟩
abbrev s__law_tried : Stmt := topS 33
abbrev n__law_tried : List Str := ["_law_deal_here", "_law_letters_here", "_law_store", "_law_table", "_law_deep", "_law_found", "e", "_law_handed"]
theorem sc__law_tried : FnScope n__law_tried ["_law_deal_here", "_law_letters_here", "_law_store", "_law_table", "_law_deep"] (defScope s__law_tried) := ⟨rfl, rfl, rfl, by decide +kernel, rfl, by decide +kernel, by decide +kernel⟩
abbrev s__law_is_it : Stmt := topS 34
abbrev n__law_is_it : List Str := ["_law_store", "_law_other", "_law_table", "_law_key", "_law_old", "_law_is_so"]
theorem sc__law_is_it : FnScope n__law_is_it ["_law_store", "_law_other", "_law_table"] (defScope s__law_is_it) := ⟨rfl, rfl, rfl, by decide +kernel, rfl, by decide +kernel, by decide +kernel⟩
abbrev s__law_both_right : Stmt := topS 35
abbrev n__law_both_right : List Str := ["_law_deal_here", "_law_letters_here", "_law_store", "_law_other", "_law_table", "_law_found", "_law_due", "_law_first", "_law_second"]
theorem sc__law_both_right : FnScope n__law_both_right ["_law_deal_here", "_law_letters_here", "_law_store", "_law_other", "_law_table"] (defScope s__law_both_right) := ⟨rfl, rfl, rfl, by decide +kernel, rfl, by decide +kernel, by decide +kernel⟩
abbrev s_law : Stmt := topS 36
abbrev n_law : List Str := ["_law_script", "_law_k", "_law_deal_here", "_law_letters_here", "_law_table", "_law_store", "_law_turn", "_law_other", "_law_own"]
theorem sc_law : FnScope n_law ["_law_script"] (defScope s_law) := ⟨rfl, rfl, rfl, by decide +kernel, rfl, by decide +kernel, by decide +kernel⟩
abbrev s_NoText : Stmt := inClass (topS 4) 0
theorem sc_NoText : FnScope ["self", "value"] ["self", "value"] (defScope s_NoText) := ⟨rfl, rfl, rfl, by decide +kernel, rfl, by decide +kernel, by decide +kernel⟩
abbrev s_NoValue : Stmt := inClass (topS 5) 0
theorem sc_NoValue : FnScope ["self", "value"] ["self", "value"] (defScope s_NoValue) := ⟨rfl, rfl, rfl, by decide +kernel, rfl, by decide +kernel, by decide +kernel⟩
abbrev s_NoKey : Stmt := inClass (topS 6) 0
theorem sc_NoKey : FnScope ["self", "key"] ["self", "key"] (defScope s_NoKey) := ⟨rfl, rfl, rfl, by decide +kernel, rfl, by decide +kernel, by decide +kernel⟩
/-- what the module's names hold -/
structure Txt (K : PySem.W.Frag) (mg : Str → Option Value) : Prop where
  a_check_letters : At K mg "check_letters" s_check_letters ["letters"]
  a__are_letters : At K mg "_are_letters" s__are_letters ["value"]
  a__consists_of : At K mg "_consists_of" s__consists_of ["characters", "text"]
  a__ascends : At K mg "_ascends" s__ascends ["text"]
  a_is_text : At K mg "is_text" s_is_text ["letters", "value"]
  a_is_number : At K mg "is_number" s_is_number ["value"]
  a_check_value : At K mg "check_value" s_check_value ["value"]
  a__keys : At K mg "_keys" s__keys ["store", "low", "high", "after"]
  a__law_deal : At K mg "_law_deal" s__law_deal ["_law_script", "_law_base"]
  a__law_draw : At K mg "_law_draw" s__law_draw ["_law_deal_here", "_law_many"]
  a__law_pick : At K mg "_law_pick" s__law_pick ["_law_deal_here", "_law_some"]
  a__law_letters : At K mg "_law_letters" s__law_letters ["_law_deal_here", "_law_most"]
  a__law_text : At K mg "_law_text" s__law_text ["_law_deal_here", "_law_letters_here", "_law_most"]
  a__law_value : At K mg "_law_value" s__law_value ["_law_deal_here"]
  a__law_deeds : At K mg "_law_deeds" s__law_deeds ["_law_deal_here", "_law_letters_here", "_law_store", "_law_table"]
  a__law_shown : At K mg "_law_shown" s__law_shown ["_law_table"]
  a__law_work : At K mg "_law_work" s__law_work ["_law_deal_here", "_law_letters_here", "_law_store", "_law_table", "_law_deep"]
  a__law_entered : At K mg "_law_entered" s__law_entered ["_law_handed", "_law_deal_here", "_law_letters_here", "_law_store", "_law_world"]
  a__law_is_it : At K mg "_law_is_it" s__law_is_it ["_law_store", "_law_other", "_law_table"]
  a_law : At K mg "law" s_law ["_law_script"]
  g_Store : mg "Store" = some (.ref (ca mg "Store"))
  k_Store : Cls K (ca mg "Store")
  q_Store : PySem.W.noSeq K (ca mg "Store") = true
  i_Store : InsK K (ca mg "Store")
  ne_Store : NeK K (ca mg "Store")
  n_Store_letters : NoAttr K (ca mg "Store") "letters"
  n_Store_table : NoAttr K (ca mg "Store") "table"
  d_Store___init__ : AtI K (ca mg "Store") "__init__" "Store.__init__" s_Store___init__
  a_Store___setitem__ : AtM K (ca mg "Store") "__setitem__" "Store.__setitem__" s_Store___setitem__ ["self", "at", "worth"]
  a_Store___getitem__ : AtM K (ca mg "Store") "__getitem__" "Store.__getitem__" s_Store___getitem__ ["self", "at"]
  a_Store___contains__ : AtM K (ca mg "Store") "__contains__" "Store.__contains__" s_Store___contains__ ["self", "x"]
  a_Store___len__ : AtM K (ca mg "Store") "__len__" "Store.__len__" s_Store___len__ ["self"]
  d_Store_pairs : AtD K (ca mg "Store") "pairs" "Store.pairs" s_Store_pairs [V.str (tx []), V.non] [("after", V.non)]
  d_Store_take : AtD K (ca mg "Store") "take" "Store.take" s_Store_take [] [("after", V.non)]
  d_Store_fill : AtD K (ca mg "Store") "fill" "Store.fill" s_Store_fill [] [("after", V.non)]
  a_Store_copied : AtM K (ca mg "Store") "copied" "Store.copied" s_Store_copied ["self"]
  a_Store_trial : AtM K (ca mg "Store") "trial" "Store.trial" s_Store_trial ["self"]
  a_Store_within : AtM K (ca mg "Store") "within" "Store.within" s_Store_within ["self", "work"]
  g_Trial : mg "Trial" = some (.ref (ca mg "Trial"))
  k_Trial : Cls K (ca mg "Trial")
  q_Trial : PySem.W.noSeq K (ca mg "Trial") = true
  i_Trial : InsK K (ca mg "Trial")
  ne_Trial : NeK K (ca mg "Trial")
  n_Trial_store : NoAttr K (ca mg "Trial") "store"
  n_Trial_table : NoAttr K (ca mg "Trial") "table"
  a_Trial___init__ : AtI0 K (ca mg "Trial") "__init__" "Trial.__init__" s_Trial___init__ ["self", "store"]
  a_Trial___enter__ : AtM K (ca mg "Trial") "__enter__" "Trial.__enter__" s_Trial___enter__ ["self"]
  a_Trial___exit__ : AtM K (ca mg "Trial") "__exit__" "Trial.__exit__" s_Trial___exit__ ["self", "kind", "value", "trace"]
  e_UnderError : Err0 K mg "UnderError" (ca mg "UnderError")
  e_NoText : ErrI K mg "NoText" "NoText.__init__" "value" s_NoText (ca mg "NoText")
  e_NoValue : ErrI K mg "NoValue" "NoValue.__init__" "value" s_NoValue (ca mg "NoValue")
  m_KeyError : mg "KeyError" = none
  m_TypeError : mg "TypeError" = none
  m_ValueError : mg "ValueError" = none
  m_ZeroDivisionError : mg "ZeroDivisionError" = none
  m_abs : mg "abs" = none
  m_all : mg "all" = none
  m_bool : mg "bool" = none
  m_dict : mg "dict" = none
  m_int : mg "int" = none
  m_isinstance : mg "isinstance" = none
  m_len : mg "len" = none
  m_list : mg "list" = none
  m_max : mg "max" = none
  m_min : mg "min" = none
  m_range : mg "range" = none
  m_repr : mg "repr" = none
  m_sorted : mg "sorted" = none
  m_str : mg "str" = none
  m_zip : mg "zip" = none
  c_CHARACTERS : ∃ t, mg "CHARACTERS" = some (.str "-./0123456789_abcdefghijklmnopqrstuvwxyz" t)
  c_FEWEST_LETTERS : ∃ t, mg "FEWEST_LETTERS" = some (.int 2 t)
  c_MOST_LETTERS : ∃ t, mg "MOST_LETTERS" = some (.int 5 t)
structure Xt (K : PySem.W.Frag) (mg : Str → Option Value) : Prop where
  x_TT : PySem.W.exmOne K (.ref (ca mg "NoText")) (.ref (ca mg "NoText")) = some true
  x_VT : PySem.W.exmOne K (.ref (ca mg "NoValue")) (.ref (ca mg "NoText")) = some false
  x_VV : PySem.W.exmOne K (.ref (ca mg "NoValue")) (.ref (ca mg "NoValue")) = some true
  x_ZT : PySem.W.exmOne K (.type "ZeroDivisionError") (.ref (ca mg "NoText")) = some false
  x_ZV : PySem.W.exmOne K (.type "ZeroDivisionError") (.ref (ca mg "NoValue")) = some false
  x_ZZ : PySem.W.exmOne K (.type "ZeroDivisionError") (.type "ZeroDivisionError") = some true

def alphabet : List Nat := [45, 46, 47, 48, 49, 50, 51, 52, 53, 54, 55, 56, 57, 95, 97, 98, 99, 100, 101, 102, 103, 104, 105, 106, 107, 108, 109, 110, 111, 112, 113, 114, 115, 116, 117, 118, 119, 120, 121, 122]
section
variable {P : Program} {w : World} {K : PySem.W.Frag} {mg : Str → Option Value} {base : Heap}
theorem sz_of' {n : Nat} (h : n ≤ 1000) : n ≤ sizeLine := Nat.le_of_lt (small1000 h)
def consB (cs u : List Nat) : Bool := u.all fun c => decide (c ∈ cs)
def spCons : Sp := fun vs H Q _ => ∃ cs u : List Nat, vs = [.str (tx cs), .str (tx u)] ∧ u.length ≤ 1000 ∧ ∀ H', Same H H' → Q (.bl (consB cs u)) H'
theorem cl_cons (T : Txt K mg) : Cl P w K mg base "_consists_of" ["characters", "text"] 1 spCons := cl_of T.a__consists_of fun f fd F => by
  refine F.ok sc__consists_of (fun vs H Q E h => ?_) (fun cdv A outer s H vs Q E hr h => ?_)
  · obtain ⟨cs, u, rfl, _⟩ := h
    rfl
  · obtain ⟨cs, u, rfl, hl, q⟩ := h
    refine ⟨_, (pss_one (ps_ret (pe_callB (cr_all rfl) (by rfl) T.m_all (by decide +kernel) (pa_cons (pe_lc (own := [("character", 2)]) (g := gName 2) (tt := tYes) (by rfl) sc__consists_of.nd (pi_str (pv 1)) (blkOk_by (own := [("character", 2)]) (N := n__consists_of) (sc := defScope s__consists_of) (by decide +kernel)) (fun _ _ _ _ _ => (pg_name (i := 2) sc__consists_of.nd rfl (Or.inl rfl))) (fun _ _ _ _ _ => pts_nil) (fun _ _ _ _ _ => (pe_cmpR op_inX (pv 2) (pv 0) (by rfl)))) pa_nil)))), ?_⟩
    walk_at "rds"
    refine fun e ne => lc_text (l := u) (fun i H' => Same H H' ∧ H' e = some (.lst (((u.take i).map fun c => decide (c ∈ cs)).map V.bl))) ⟨same_upd ne, upd_same⟩ ?_ ?_
    · rintro i c H' hc ⟨sH, he⟩
      have hi : i < u.length := (List.getElem?_eq_some_iff.mp hc).1
      walk_at "rds"
      refine ⟨rfl, ?_⟩
      walk_at "rds"
      refine rd_ite (fun _ => ?_) (fun h => by cases h)
      walk_at "rds"
      refine ⟨_, he, by rw [List.length_map, List.length_map, List.length_take]; exact small1000 (by omega), same_mut sH ne, ?_⟩
      rw [upd_same, take_snoc _ hc, List.map_append]
      rfl
    · rintro H' ⟨sH, he⟩
      rw [List.take_length] at he
      walk_at "rds"
      refine rd_all (SqL.of he) ?_
      have e1 : (u.map fun c => decide (c ∈ cs)).all id = consB cs u := by unfold consB; rw [List.all_map]; rfl
      rw [e1]
      exact q _ sH
def ascB (u : List Nat) : Bool := (u.zip (u.drop 1)).all fun p => decide ([p.1] < [p.2])
def spAsc : Sp := fun vs H Q _ => ∃ u : List Nat, vs = [.str (tx u)] ∧ u.length ≤ 1000 ∧ ∀ H', Same H H' → Q (.bl (ascB u)) H'
theorem cl_asc (T : Txt K mg) : Cl P w K mg base "_ascends" ["text"] 1 spAsc := cl_of T.a__ascends fun f fd F => by
  refine F.ok sc__ascends (fun vs H Q E h => ?_) (fun cdv A outer s H vs Q E hr h => ?_)
  · obtain ⟨u, rfl, _⟩ := h
    rfl
  · obtain ⟨u, rfl, hl, q⟩ := h
    refine ⟨_, (pss_one (ps_ret (pe_callB (cr_all rfl) (by rfl) T.m_all (by decide +kernel) (pa_cons (pe_lc (own := [("one", 1), ("other", 2)]) (g := (gTup K 2 (gCons (gName 1) (gCons (gName 2) gNil)))) (tt := tYes) (by rfl) sc__ascends.nd (pi_zipS (by rfl) T.m_zip (pa_cons (pv 0) (pa_cons (pe_slice sl_strX (pv 0) (po_some pe_int) po_none) pa_nil))) (blkOk_by (own := [("one", 1), ("other", 2)]) (N := n__ascends) (sc := defScope s__ascends) (by decide +kernel)) (fun _ _ _ _ _ => by exact (pg_tup rfl (pgs_cons (pg_name (i := 1) sc__ascends.nd rfl (Or.inl rfl)) (pgs_cons (pg_name (i := 2) sc__ascends.nd rfl (Or.inl rfl)) pgs_nil)))) (fun _ _ _ _ _ => pts_nil) (fun _ _ _ _ _ => (pe_cmpR op_ltX (pv 1) (pv 2) (nomark _)))) pa_nil)))), ?_⟩
    walk_at "rds"
    refine rd_slX (sz_of' hl) ?_
    have e0 : cutL u (some 1) none = u.drop 1 := by
      show cutL u (some ((1 : Nat) : Int)) none = _
      unfold cutL
      rw [HT.sIx_none, HT.sIx_nat]
      rcases u with _ | ⟨c, u⟩
      · rfl
      · have e3 : min 1 (c :: u).length = 1 := by simp
        rw [e3]
        simp
    rw [e0]
    walk_at "rds"
    refine fun e ne => lc_zip (l := u) (m := u.drop 1) (fun i H' => Same H H' ∧ H' e = some (.lst ((((u.zip (u.drop 1)).take i).map fun p => decide ([p.1] < [p.2])).map V.bl))) ⟨same_upd ne, upd_same⟩ ?_ ?_
    · rintro i c d T' H' hc hd ⟨sH, he⟩ hT
      have hi : i < u.length := (List.getElem?_eq_some_iff.mp hc).1
      have hz : (u.zip (u.drop 1))[i]? = some (c, d) := List.getElem?_zip_eq_some.mpr ⟨hc, hd⟩
      have hne : T' ≠ e := fun z => by rw [z, he] at hT; cases hT
      refine rd_gtup (SqT.of upd_same) rfl ?_
      walk_at "rds"
      refine ⟨rfl, ?_⟩
      walk_at "rds"
      refine rd_ite (fun _ => ?_) (fun h => by cases h)
      walk_at "rds"
      refine ⟨_, by rw [upd_ne hne.symm]; exact he, ?_, ?_, ?_⟩
      · rw [List.length_map, List.length_map, List.length_take, List.length_zip]
        exact small1000 (by omega)
      · exact same_mut (fun b o hb => same_upd hT b o (sH b o hb)) ne
      · rw [upd_same, take_snoc _ hz, List.map_append]
        first | rfl | (rw [List.map_append]; rfl)
    · rintro H' ⟨sH, he⟩
      have hlen : (u.zip (u.drop 1)).length = min u.length (u.drop 1).length := List.length_zip
      rw [← hlen, List.take_length] at he
      walk_at "rds"
      refine rd_all (SqL.of he) ?_
      have e1 : ((u.zip (u.drop 1)).map fun p => decide ([p.1] < [p.2])).all id = ascB u := by unfold ascB; rw [List.all_map]; rfl
      rw [e1]
      exact q _ sH
/-- no text -/
def NotStr (K : PySem.W.Frag) (H : Hp) (x : V) : Prop := (∃ t, TyX K H x t ∧ PySem.W.kitOne K t (.type "str") = some false) ∧ ∀ z, x ≠ .str z
def TxtOr (K : PySem.W.Frag) (H : Hp) (x : V) : Prop := (∃ u, x = .str (tx u) ∧ u.length ≤ 1000) ∨ NotStr K H x
def areB (u : List Nat) : Bool := decide (2 ≤ u.length) && (decide (u.length ≤ 5) && (consB alphabet u && ascB u))
def areV : V → Bool
  | .str z => areB z.cps.toList
  | _ => false
theorem areV_tx (u : List Nat) : areV (.str (tx u)) = areB u := rfl
theorem areV_not {x : V} (h : ∀ z, x ≠ .str z) : areV x = false := by
  cases x with
  | str z => exact (h z rfl).elim
  | _ => rfl
def spAre (K : PySem.W.Frag) : Sp := fun vs H Q _ => ∃ x, vs = [x] ∧ TxtOr K H x ∧ ∀ H', Same H H' → Q (.bl (areV x)) H'
theorem same_refl (H : Hp) : Same H H := fun _ _ h => h
theorem same_trans {H H1 H2 : Hp} (a : Same H H1) (b : Same H1 H2) : Same H H2 := fun c o h => b c o (a c o h)
theorem cl_are (T : Txt K mg) : Cl P w K mg base "_are_letters" ["value"] 2 (spAre K) := cl_of T.a__are_letters fun f fd F => by
  have C__consists_of := cl_cons (P := P) (w := w) (base := base) T
  have C__ascends := cl_asc (P := P) (w := w) (base := base) T
  refine F.ok sc__are_letters (fun vs H Q E h => ?_) (fun cdv A outer s H vs Q E hr h => ?_)
  · obtain ⟨x, rfl, _⟩ := h
    rfl
  · obtain ⟨x, rfl, hx, q⟩ := h
    refine ⟨_, (pss_cons (ps_if (pt_not (pt_val (pe_callB call_isi (by rfl) T.m_isinstance (by decide +kernel) (pa_cons (pv 0) (pa_cons (pe_bltn (v := .ty "str") (by rfl) T.m_str (by decide +kernel) rfl) pa_nil)))))
      (pss_one (ps_ret pe_bl))
      pss_nil)
      (pss_cons (ps_if (pt_not (pt_chain op_le op_le (pe_gint T.c_FEWEST_LETTERS (by rfl)) (pe_callB call_lenX (by rfl) T.m_len (by decide +kernel) (pa_cons (pv 0) pa_nil)) (pe_gint T.c_MOST_LETTERS (by rfl))))
      (pss_one (ps_ret pe_bl))
      pss_nil)
      (pss_one (ps_ret (pe_and (pe_cl C__consists_of (hr.mono (by decide)) (by rfl) (pa_cons (pe_gstr T.c_CHARACTERS [45, 46, 47, 48, 49, 50, 51, 52, 53, 54, 55, 56, 57, 95, 97, 98, 99, 100, 101, 102, 103, 104, 105, 106, 107, 108, 109, 110, 111, 112, 113, 114, 115, 116, 117, 118, 119, 120, 121, 122] (by decide +kernel) (by rfl)) (pa_cons (pv 0) pa_nil))) (pe_one (pe_cl C__ascends (hr.mono (by decide)) (by rfl) (pa_cons (pv 0) pa_nil)))))))), ?_⟩
    walk_at "rds"
    rcases hx with ⟨u, rfl, hl⟩ | ⟨⟨t, ty, k⟩, hn⟩
    · rw [areV_tx] at q
      unfold areB at q
      refine rd_isi (b := true) (.base (.str _)) (kit_ty (by decide +kernel)) ?_
      walk_at "rds"
      refine rd_ite (fun h => by cases h) (fun _ => ?_)
      walk_at "rds"
      refine rd_lenX (sz_of' hl) ?_
      have e2 : decide (2 ≤ (u.length : Int)) = decide (2 ≤ u.length) := by
        rw [decide_eq_decide]
        omega
      have e5 : decide ((u.length : Int) ≤ 5) = decide (u.length ≤ 5) := by
        rw [decide_eq_decide]
        omega
      walk_at "rds"
      rw [e2]
      refine rd_ite (fun h2 => ?_) (fun h2 => ?_)
      · rw [h2, Bool.true_and] at q
        walk_at "rds"
        rw [e5]
        refine rd_ite (fun h5 => ?_) (fun h5 => ?_)
        · have h5' : decide (u.length ≤ 5) = false := by simpa using h5
          rw [h5', Bool.false_and] at q
          walk_at "rds"
          exact q _ (same_refl _)
        · have h5' : decide (u.length ≤ 5) = true := by simpa using h5
          rw [h5', Bool.true_and] at q
          walk_at "rds"
          refine ⟨alphabet, u, rfl, hl, fun H1 s1 => ?_⟩
          walk_at "rds"
          refine rd_ite (fun h => ?_) (fun h => ?_)
          · rw [h, Bool.true_and] at q
            walk_at "rds"
            exact ⟨u, rfl, hl, fun H2 s2 => q _ (same_trans s1 s2)⟩
          · rw [h, Bool.false_and] at q
            exact q _ s1
      · rw [h2, Bool.false_and] at q
        walk_at "rds"
        refine rd_ite (fun _ => ?_) (fun h => by cases h)
        walk_at "rds"
        exact q _ (same_refl _)
    · rw [areV_not hn] at q
      refine rd_isi ty k ?_
      walk_at "rds"
      refine rd_ite (fun _ => ?_) (fun h => by cases h)
      walk_at "rds"
      exact q _ (same_refl _)
def isTxtB (ls : List Nat) : V → Bool
  | .str z => consB ls z.cps.toList
  | _ => false
theorem isTxt_not {ls : List Nat} {x : V} (h : ∀ z, x ≠ .str z) : isTxtB ls x = false := by
  cases x with
  | str z => exact (h z rfl).elim
  | _ => rfl
def spIsTxt (K : PySem.W.Frag) : Sp := fun vs H Q _ => ∃ (ls : List Nat) (x : V), vs = [.str (tx ls), x] ∧ TxtOr K H x ∧ ∀ H', Same H H' → Q (.bl (isTxtB ls x)) H'
theorem cl_is_text (T : Txt K mg) : Cl P w K mg base "is_text" ["letters", "value"] 2 (spIsTxt K) := cl_of T.a_is_text fun f fd F => by
  have C__consists_of := cl_cons (P := P) (w := w) (base := base) T
  refine F.ok sc_is_text (fun vs H Q E h => ?_) (fun cdv A outer s H vs Q E hr h => ?_)
  · obtain ⟨ls, x, rfl, _⟩ := h
    rfl
  · obtain ⟨ls, x, rfl, hx, q⟩ := h
    refine ⟨_, (pss_one (ps_ret (pe_and (pe_callB call_isi (by rfl) T.m_isinstance (by decide +kernel) (pa_cons (pv 1) (pa_cons (pe_bltn (v := .ty "str") (by rfl) T.m_str (by decide +kernel) rfl) pa_nil))) (pe_one (pe_cl C__consists_of (hr.mono (by decide)) (by rfl) (pa_cons (pv 0) (pa_cons (pv 1) pa_nil))))))), ?_⟩
    walk_at "rds"
    rcases hx with ⟨u, rfl, hl⟩ | ⟨⟨t, ty, k⟩, hn⟩
    · refine rd_isi (b := true) (.base (.str _)) (kit_ty (by decide +kernel)) ?_
      walk_at "rds"
      refine rd_ite (fun _ => ?_) (fun h => by cases h)
      walk_at "rds"
      exact ⟨ls, u, rfl, hl, q⟩
    · rw [isTxt_not hn] at q
      refine rd_isi ty k ?_
      walk_at "rds"
      refine rd_ite (fun h => by cases h) (fun _ => ?_)
      exact q _ (same_refl _)
end

section
variable {P : Program} {w : World} {K : PySem.W.Frag} {mg : Str → Option Value} {base : Heap}
abbrev SC (mg : Str → Option Value) : Addr := ca mg "Store"
abbrev TC (mg : Str → Option Value) : Addr := ca mg "Trial"
abbrev CT (mg : Str → Option Value) : Addr := ca mg "NoText"
abbrev CV (mg : Str → Option Value) : Addr := ca mg "NoValue"
theorem mk_NoText (T : Txt K mg) : Mk P w K mg base "NoText" "value" (ca mg "NoText") := Un.mk_of T.e_NoText fun fI fd F => by
  refine F.ok sc_NoText (fun vs H Q E h => ?_) (fun cdv A outer s H vs Q E hr h => ?_)
  · obtain ⟨a, v, C, rfl, _⟩ := h
    rfl
  · obtain ⟨a, v, C, rfl, T', hno, ea, q⟩ := h
    refine ⟨_, (pss_one (ps_oxt (pv 0) (pv 1))), ?_⟩
    exact ⟨v, rfl, .ref a, rfl, a, C, rfl, T', hno, ea, fun dx h1 h2 => q dx h1 h2⟩
theorem mk_NoValue (T : Txt K mg) : Mk P w K mg base "NoValue" "value" (ca mg "NoValue") := Un.mk_of T.e_NoValue fun fI fd F => by
  refine F.ok sc_NoValue (fun vs H Q E h => ?_) (fun cdv A outer s H vs Q E hr h => ?_)
  · obtain ⟨a, v, C, rfl, _⟩ := h
    rfl
  · obtain ⟨a, v, C, rfl, T', hno, ea, q⟩ := h
    refine ⟨_, (pss_one (ps_oxt (pv 0) (pv 1))), ?_⟩
    exact ⟨v, rfl, .ref a, rfl, a, C, rfl, T', hno, ea, fun dx h1 h2 => q dx h1 h2⟩
def SF (ls : List Nat) (d : Addr) : List (Str × V) := [("letters", .str (tx ls)), ("table", .ref d)]
def Ov (ls k : List Nat) : Prop := (∀ c ∈ k, c ∈ ls) ∧ k.length ≤ 1000
/-- a store at a: its table at d -/
structure St (C : Addr) (H : Hp) (a d : Addr) (ls : List Nat) (m : Tab) : Prop where
  o : ∃ dx, H a = some (.ins C dx (SF ls d))
  t : H d = some (.dK (encT m))
def Keep1 (d : Addr) (H H' : Hp) : Prop := ∀ b o, H b = some o → b ≠ d → H' b = some o
theorem isTxt_ov {ls k : List Nat} (h : Ov ls k) : isTxtB ls (.str (tx k)) = true := by
  show consB ls k = true
  unfold consB
  rw [List.all_eq_true]
  exact fun c hc => decide_eq_true (h.1 c hc)
/-- any value that a test of numbers may meet -/
def NumOr (K : PySem.W.Frag) (H : Hp) (x : V) : Prop := (∃ v : Int, x = .int v) ∨ (∃ b, x = .bl b) ∨ ((∃ t, TyX K H x (.type t) ∧ kitB t "int" = some false) ∧ ∀ v : Int, x ≠ .int v)
def isNum : V → Bool
  | .int _ => true
  | _ => false
def okV : V → Bool
  | .int v => decide (0 ≤ v)
  | _ => false
theorem isNum_not {x : V} (h : ∀ v : Int, x ≠ .int v) : isNum x = false := by
  cases x with
  | int v => exact (h v rfl).elim
  | _ => rfl
theorem okV_not {x : V} (h : ∀ v : Int, x ≠ .int v) : okV x = false := by
  cases x with
  | int v => exact (h v rfl).elim
  | _ => rfl
theorem NumOr.ext {H H' : Hp} {x : V} (h : NumOr K H x) (s : ExtN H H') : NumOr K H' x := by
  rcases h with h | h | ⟨⟨t, ty, k⟩, hn⟩
  · exact .inl h
  · exact .inr (.inl h)
  · exact .inr (.inr ⟨⟨t, tyX_ext s ty, k⟩, hn⟩)
theorem TxtOr.ext {H H' : Hp} {x : V} (h : TxtOr K H x) (s : ExtN H H') : TxtOr K H' x := by
  rcases h with h | ⟨⟨t, ty, k⟩, hn⟩
  · exact .inl h
  · exact .inr ⟨⟨t, tyX_ext s ty, k⟩, hn⟩
def spNum (K : PySem.W.Frag) : Sp := fun vs H Q _ => ∃ x, vs = [x] ∧ NumOr K H x ∧ ∀ H', Same H H' → Q (.bl (isNum x)) H'
theorem cl_num (T : Txt K mg) : Cl P w K mg base "is_number" ["value"] 1 (spNum K) := cl_of T.a_is_number fun f fd F => by
  refine F.ok sc_is_number (fun vs H Q E h => ?_) (fun cdv A outer s H vs Q E hr h => ?_)
  · obtain ⟨x, rfl, _⟩ := h
    rfl
  · obtain ⟨x, rfl, hx, q⟩ := h
    refine ⟨_, (pss_one (ps_ret (pe_and (pe_callB call_isi (by rfl) T.m_isinstance (by decide +kernel) (pa_cons (pv 0) (pa_cons (pe_bltn (v := .ty "int") (by rfl) T.m_int (by decide +kernel) rfl) pa_nil))) (pe_one (pe_not (pe_callB call_isi (by rfl) T.m_isinstance (by decide +kernel) (pa_cons (pv 0) (pa_cons (pe_bltn (v := .ty "bool") (by rfl) T.m_bool (by decide +kernel) rfl) pa_nil)))))))), ?_⟩
    walk_at "rds"
    rcases hx with ⟨v, rfl⟩ | ⟨b, rfl⟩ | ⟨⟨t, ty, k⟩, hn⟩
    · refine rd_isB (b := true) (.base (.int v)) (kit_ty (by decide +kernel)) ?_
      walk_at "rds"
      refine rd_ite (fun _ => ?_) (fun h => by cases h)
      walk_at "rds"
      refine rd_isB (b := false) (.base (.int v)) (kit_ty (by decide +kernel)) ?_
      walk_at "rds"
      exact q _ (same_refl _)
    · refine rd_isB (b := true) (.base (.bl b)) (kit_ty (by decide +kernel)) ?_
      walk_at "rds"
      refine rd_ite (fun _ => ?_) (fun h => by cases h)
      walk_at "rds"
      refine rd_isB (b := true) (.base (.bl b)) (kit_ty (by decide +kernel)) ?_
      walk_at "rds"
      exact q _ (same_refl _)
    · rw [isNum_not hn] at q
      refine rd_isB (b := false) ty (kit_ty k) ?_
      walk_at "rds"
      refine rd_ite (fun h => by cases h) (fun _ => ?_)
      exact q _ (same_refl _)
def Err1 (C : Addr) (n : Str) (x : V) (H : Hp) (E : XK) : Prop := ∀ d H', Same H H' → H' d = some (.xd [(n, x)]) → E (.ref C) (some d) H'
def spChk (K : PySem.W.Frag) (C : Addr) : Sp := fun vs H Q E => ∃ x, vs = [x] ∧ NumOr K H x ∧ (okV x = true → ∀ H', Same H H' → Q .non H') ∧ (okV x = false → Err1 C "value" x H E)
theorem clx_chk (T : Txt K mg) : ClX P w K mg base "check_value" ["value"] 3 (spChk K (CV mg)) := clX_of T.a_check_value fun f fd F => by
  have C_is_number := cl_num (P := P) (w := w) (base := base) T
  have E_NoValue := mk_NoValue (P := P) (w := w) (base := base) T
  refine okNX F sc_check_value (fun vs H Q E h => ?_) (fun cdv A outer s H vs Q E hr h => ?_)
  · obtain ⟨x, rfl, _⟩ := h
    rfl
  · obtain ⟨x, rfl, hx, q1, q2⟩ := h
    refine ⟨_, (pss_one (ps_if (PW.pt (pw_or (pt_not (pt_val (pe_cl C_is_number (hr.mono (by decide)) (by rfl) (pa_cons (pv 0) pa_nil)))) (pw_or1 (pt_cmpR op_lt (pv 0) pe_int (nomark _)))))
      (pss_one (ps_raise rfl (takes_of rfl rfl rfl rfl) (pmk_G E_NoValue hr (by decide) (by rfl) (pv 0))))
      pss_nil)), ?_⟩
    walk_at "rds"
    refine ⟨x, rfl, hx, fun H1 s1 => ?_⟩
    walk_at "rds"
    have die : okV x = false → tMkR (ca mg (Str.ofString "NoValue")) (Str.ofString "value") (tVar 0) (L2.start n_check_value [x]) H1 fun cls d H' => E cls d H' := fun hb => by
      walk_at "rds"
      exact fun d hd => q2 hb d _ (same_trans s1 (same_upd hd)) upd_same
    rcases hx with ⟨v, rfl⟩ | ⟨b, rfl⟩ | ⟨_, hn⟩
    · refine rd_ite (fun h => by cases h) (fun _ => ?_)
      walk_at "rds"
      refine rd_ite (fun h => ?_) (fun h => ?_)
      · exact die (decide_eq_false (by have := of_decide_eq_true h; omega))
      · walk_at "rds"
        exact q1 (decide_eq_true (by have := of_decide_eq_false h; omega)) _ s1
    · refine rd_ite (fun _ => ?_) (fun h => by cases h)
      rw [if_pos rfl]
      exact die rfl
    · rw [isNum_not hn]
      refine rd_ite (fun _ => ?_) (fun h => by cases h)
      rw [if_pos rfl]
      exact die (okV_not hn)
def spSet (K : PySem.W.Frag) (C CT CV : Addr) : Sp := fun vs H Q E => ∃ (a d : Addr) (ls : List Nat) (m : Tab) (x y : V), vs = [.ref a, x, y] ∧ St C H a d ls m ∧ TxtOr K H x ∧ NumOr K H y ∧ m.length ≤ 1000 ∧
  (isTxtB ls x = false → Err1 CT "value" x H E) ∧ (isTxtB ls x = true → okV y = false → Err1 CV "value" y H E) ∧
  ∀ (k : List Nat) (v : Int), x = .str (tx k) → y = .int v → isTxtB ls x = true → 0 ≤ v → ∀ H', Keep1 d H H' → H' d = some (.dK (encT (putT m k v))) → Q .non H'
theorem met_set (T : Txt K mg) : MetG P w K mg base (L2N.CX P w) (SC mg) "__setitem__" ["self", "at", "worth"] 4 (spSet K (SC mg) (CT mg) (CV mg)) := metG_of T.k_Store T.a_Store___setitem__ fun f fd F => by
  have C_is_text := cl_is_text (P := P) (w := w) (base := base) T
  have C_check_value := clx_chk (P := P) (w := w) (base := base) T
  have E_NoText := mk_NoText (P := P) (w := w) (base := base) T
  refine okNX F sc_Store___setitem__ (fun vs H Q E h => ?_) (fun cdv A outer s H vs Q E hr h => ?_)
  · obtain ⟨a, d, ls, m, x, y, rfl, _⟩ := h
    rfl
  · obtain ⟨a, d, ls, m, x, y, rfl, hS, hx, hy, hm, q1, q2, q3⟩ := h
    refine ⟨_, (pss_cons (ps_if (pt_not (pt_val (pe_cl C_is_text (hr.mono (by decide)) (by rfl) (pa_cons (pe_fldK (K := K) (by rfl) (pv 0) (by rfl)) (pa_cons (pv 1) pa_nil)))))
      (pss_one (ps_raise rfl (takes_of rfl rfl rfl rfl) (pmk_G E_NoText hr (by decide) (by rfl) (pv 1))))
      pss_nil)
      (pss_cons (ps_expr (pe_clX C_check_value (hr.mono (by decide)) (by rfl) (takes_of rfl rfl rfl rfl) (pa_cons (pv 2) pa_nil)))
      (pss_one (ps_dput (by exact hu_of hr) (pe_fldK (K := K) (by rfl) (pv 0) (by rfl)) (pv 1) (pv 2) rfl)))), ?_⟩
    walk_at "rds"
    obtain ⟨dx, ho⟩ := hS.o
    refine ⟨a, _, dx, _, _, rfl, ho, T.k_Store, T.n_Store_letters, rfl, ?_⟩
    walk_at "rds"
    refine ⟨ls, x, rfl, hx, fun H1 s1 => ?_⟩
    walk_at "rds"
    refine rd_ite (fun h => ?_) (fun h => ?_)
    · have h' : isTxtB ls x = false := by simpa using h
      walk_at "rds"
      exact fun d' hd => q1 h' d' _ (same_trans s1 (same_upd hd)) upd_same
    · have h' : isTxtB ls x = true := by simpa using h
      walk_at "rds"
      refine ⟨y, rfl, hy.ext (Same.ext s1), fun hb H2 s2 => ?_, fun hb d' H2 s2 e2 => q2 h' hb d' H2 (same_trans s1 s2) e2⟩
      obtain ⟨k, rfl⟩ : ∃ k, x = .str (tx k) := by
        cases x with
        | str z => exact ⟨z.cps.toList, by rw [tx_of]⟩
        | _ => cases h'
      obtain ⟨v, rfl⟩ : ∃ v : Int, y = .int v := by
        cases y with
        | int v => exact ⟨v, rfl⟩
        | _ => cases hb
      have hv : 0 ≤ v := of_decide_eq_true hb
      walk_at "rds"
      have ho2 := s2 _ _ (s1 _ _ ho)
      have ht2 := s2 _ _ (s1 _ _ hS.t)
      refine ⟨a, _, dx, _, _, rfl, ho2, T.k_Store, T.n_Store_table, rfl, ?_⟩
      walk_at "rds"
      refine ⟨d, _, rfl, DPut.k (k := Sum.inr (tx k)) ht2 (by rw [encT_len]; exact small1000 hm), ?_⟩
      walk_at "rds"
      rw [putK_enc]
      refine q3 k v rfl rfl h' hv _ (fun b o h1 h2 => ?_) upd_same
      rw [upd_ne h2]
      exact s2 _ _ (s1 _ _ h1)
theorem tx_inj {u v : List Nat} (h : V.str (tx u) = .str (tx v)) : u = v := by
  have z : tx u = tx v := V.str.inj h
  rw [← tx_cps u, z, tx_cps]
/-- o[k] = v, a right key and a right value -/
theorem set_ok {C CT CV a d : Addr} {ls k : List Nat} {m : Tab} {v : Int} {H : Hp} {Q : VK} {E : XK} (hS : St C H a d ls m) (hk : Ov ls k) (hv : 0 ≤ v) (hm : m.length ≤ 1000) (q : ∀ H', Keep1 d H H' → H' d = some (.dK (encT (putT m k v))) → Q .non H') : spSet K C CT CV [.ref a, .str (tx k), .int v] H Q E := by
  refine ⟨a, d, ls, m, _, _, rfl, hS, .inl ⟨k, rfl, hk.2⟩, .inl ⟨v, rfl⟩, hm, fun h => absurd (h.symm.trans (isTxt_ov hk)) (by simp), fun _ h => absurd (h.symm.trans (show okV (.int v) = true from decide_eq_true hv)) (by simp), fun k' v' e1 e2 _ _ H' h1 h2 => ?_⟩
  cases tx_inj e1
  cases V.int.inj e2
  exact q H' h1 h2
def inB (ls : List Nat) (m : Tab) (x : V) : Bool := match x with | .str z => isTxtB ls x && decide (z.cps.toList ∈ keysT m) | _ => false
/-- x in store: x any value that a test may meet -/
def spIn (K : PySem.W.Frag) (C : Addr) : Sp := fun vs H Q _ => ∃ (a d : Addr) (ls : List Nat) (m : Tab) (x : V), vs = [.ref a, x] ∧ St C H a d ls m ∧ TxtOr K H x ∧
  ∀ H', Same H H' → Q (.bl (inB ls m x)) H'
theorem met_in (T : Txt K mg) : MetG P w K mg base CX0 (SC mg) "__contains__" ["self", "x"] 3 (spIn K (SC mg)) := metG_of T.k_Store T.a_Store___contains__ fun f fd F => by
  have C_is_text := cl_is_text (P := P) (w := w) (base := base) T
  refine F.ok sc_Store___contains__ (fun vs H Q E h => ?_) (fun cdv A outer s H vs Q E hr h => ?_)
  · obtain ⟨a, d, ls, m, x, rfl, _⟩ := h
    rfl
  · obtain ⟨a, d, ls, m, x, rfl, hS, hx, q⟩ := h
    refine ⟨_, (pss_one (ps_ret (pe_and (pe_cl C_is_text (hr.mono (by decide)) (by rfl) (pa_cons (pe_fldK (K := K) (by rfl) (pv 0) (by rfl)) (pa_cons (pv 1) pa_nil))) (pe_one (pe_cmp (pc_din (by exact hu_of hr) (pv 1) (pe_fldK (K := K) (by rfl) (pv 0) (by rfl)))))))), ?_⟩
    obtain ⟨dx, ho⟩ := hS.o
    walk_at "rds"
    refine ⟨a, _, dx, _, _, rfl, ho, T.k_Store, T.n_Store_letters, rfl, ?_⟩
    walk_at "rds"
    refine ⟨ls, x, rfl, hx, fun H1 s1 => ?_⟩
    walk_at "rds"
    rcases hx with ⟨u, rfl, hu⟩ | ⟨_, hn⟩
    · refine rd_ite (fun h => ?_) (fun h => ?_)
      · walk_at "rds"
        refine ⟨a, _, dx, _, _, rfl, s1 _ _ ho, T.k_Store, T.n_Store_table, rfl, ?_⟩
        refine ⟨d, _, rfl, DGet.k (k := Sum.inr (tx u)) (s1 _ _ hS.t), ?_⟩
        have e : (valV (encT m) (Sum.inr (tx u))).isSome = decide (u ∈ keysT m) := by
          rw [valV_enc]
          by_cases hk : u ∈ keysT m
          · obtain ⟨v, hv⟩ := getT_some hk
            rw [hv, decide_eq_true hk]
            rfl
          · rw [getT_none hk, decide_eq_false hk]
            rfl
        rw [e]
        have q1 := q _ s1
        have e2 : (isTxtB ls (.str (tx u)) && decide ((tx u).cps.toList ∈ keysT m)) = decide (u ∈ keysT m) := by
          rw [h, Bool.true_and, tx_cps]
        rw [← e2]
        exact q1
      · have q1 := q _ s1
        have e2 : (isTxtB ls (.str (tx u)) && decide ((tx u).cps.toList ∈ keysT m)) = false := by
          rw [h, Bool.false_and]
        rw [← e2]
        exact q1
    · rw [isTxt_not hn]
      refine rd_ite (fun h => by cases h) (fun _ => ?_)
      have q1 := q _ s1
      cases x with
      | str z => exact (hn z rfl).elim
      | _ => exact q1
def spLen (C : Addr) : Sp := fun vs H Q _ => ∃ (a d : Addr) (ls : List Nat) (m : Tab), vs = [.ref a] ∧ St C H a d ls m ∧ ∀ H', Same H H' → Q (.int (m.length : Nat)) H'
theorem met_len (T : Txt K mg) : MetG P w K mg base CX0 (SC mg) "__len__" ["self"] 1 (spLen (SC mg)) := metG_of T.k_Store T.a_Store___len__ fun f fd F => by
  refine F.ok sc_Store___len__ (fun vs H Q E h => ?_) (fun cdv A outer s H vs Q E hr h => ?_)
  · obtain ⟨a, d, ls, m, rfl, _⟩ := h
    rfl
  · obtain ⟨a, d, ls, m, rfl, hS, q⟩ := h
    refine ⟨_, (pss_one (ps_ret (pe_callB call_lenD (by rfl) T.m_len (by decide +kernel) (pa_cons (pe_fldK (K := K) (by rfl) (pv 0) (by rfl)) pa_nil)))), ?_⟩
    obtain ⟨dx, ho⟩ := hS.o
    walk_at "rds"
    refine ⟨a, _, dx, _, _, rfl, ho, T.k_Store, T.n_Store_table, rfl, ?_⟩
    walk_at "rds"
    refine ⟨d, _, rfl, hS.t, ?_⟩
    have e : ((encT m).length : Int) = (m.length : Int) := by rw [encT_len]
    rw [e]
    exact q _ (same_refl _)
end

section
variable {P : Program} {w : World} {K : PySem.W.Frag} {mg : Str → Option Value} {base : Heap}
def spKeys (C : Addr) : Sp := fun vs H Q _ => ∃ (a d : Addr) (ls : List Nat) (m : Tab) (lo : List Nat) (hi af : Option (List Nat)), vs = [.ref a, .str (tx lo), bnd hi, bnd af] ∧ St C H a d ls m ∧ m.length ≤ 1000 ∧
  ∀ ks r H', KR m lo hi af ks → Same H H' → H r = none → H' r = some (.lst (ks.map fun k => V.str (tx k))) → Q (.ref r) H'
theorem cl_keys (T : Txt K mg) : Cl P w K mg base "_keys" ["store", "low", "high", "after"] 1 (spKeys (SC mg)) := cl_of T.a__keys fun f fd F => by
  refine F.ok sc__keys (fun vs H Q E h => ?_) (fun cdv A outer s H vs Q E hr h => ?_)
  · obtain ⟨a, d, ls, m, lo, hi, af, rfl, _⟩ := h
    rfl
  · obtain ⟨a, d, ls, m, lo, hi', af, rfl, hS, hm, q⟩ := h
    refine ⟨_, (pss_one (ps_ret (pe_callB cr_sortedT (by rfl) T.m_sorted (by decide +kernel) (pa_cons (pe_lock (pe_lc (own := [("key", 4)]) (g := gName 4) (by rfl) sc__keys.nd (pi_keys (pe_fldK (K := K) (by rfl) (pv 0) (by rfl))) (blkOk_by (own := [("key", 4)]) (N := n__keys) (sc := defScope s__keys) (by decide +kernel)) (fun _ _ _ _ _ => (pg_name (i := 4) sc__keys.nd rfl (Or.inl rfl))) (fun _ _ _ _ _ => (pts_one (PW.pt (pw_and (pt_cmpR op_leX (pv 1) (pv 4) (nomark _)) (pw_and (PW.pt (pw_or (pt_cmpR op_isN' (pv 2) pe_non (nomark _)) (pw_or1 (pt_cmpR op_ltX (pv 4) (pv 2) (nomark _))))) (pw_and1 (PW.pt (pw_or (pt_cmpR op_isN' (pv 3) pe_non (nomark _)) (pw_or1 (pt_cmpR op_gtX (pv 4) (pv 3) (nomark _))))))))))) (fun _ _ _ _ _ => (pe_callTy call_strS (by rfl) T.m_str (by decide +kernel) (pa_cons (pv 4) pa_nil))))) pa_nil)))), ?_⟩
    obtain ⟨dx, ho⟩ := hS.o
    have hne : a ≠ d := fun e => by
      rw [e, hS.t] at ho
      cases ho
    refine Un.rd_lock hS.t trivial fun od => ?_
    walk_at "rds"
    refine ⟨a, _, dx, _, _, rfl, by rw [upd_ne hne]; exact ho, T.k_Store, T.n_Store_table, rfl, d, od, rfl, .inl ⟨_, upd_same, fun e ne => ?_⟩⟩
    have hed : e ≠ d := fun z => by
      rw [z, upd_same] at ne
      cases ne
    have hee : H e = none := by
      rw [upd_ne hed] at ne
      exact ne
    refine lc_it walk_keys (fun i H' => (∀ b o, H b = some o → b ≠ d → H' b = some o) ∧ H' d = some (.frz od (.dK (encT m))) ∧ H' e = some (.lst ((((keysT m).take i).filter (inR lo hi' af)).map fun k => V.str (tx k))))
      ⟨fun b o hb hbd => ?_, ?_, ?_⟩ (fun i H' _ h => h.2.1) ?_ ?_
    · have hbe : b ≠ e := fun z => by
        rw [z, hee] at hb
        cases hb
      rw [upd_ne hbe, upd_ne hbd]
      exact hb
    · rw [upd_ne hed.symm, upd_same]
    · exact upd_same
    · rintro i x H1 H2 hi ⟨k1, k2, k3⟩ ⟨rfl, k, v, hk, rfl⟩
      obtain ⟨key, hkey, rfl⟩ := keys_at hk
      have hlen := filt_len (keysT m) i (inR lo hi' af)
      have hkl : (keysT m).length = m.length := List.length_map _
      walk_at "rds"
      refine ⟨rfl, rd_stretch rfl rfl rfl rfl ?_⟩
      refine rd_ite (fun hin => ?_) (fun hin => ?_)
      · walk_at "rds"
        refine ⟨tx key, rfl, _, k3, by rw [List.length_map]; exact small1000 (by omega), fun b o hb hbd => ?_, ?_, ?_⟩
        · have hbe : b ≠ e := fun z => by
            rw [z, hee] at hb
            cases hb
          rw [upd_ne hbe]
          exact k1 b o hb hbd
        · rw [upd_ne hed.symm]
          exact k2
        · rw [upd_same, filt_snoc hkey hin, List.map_append]
          rfl
      · rw [filt_skip hkey hin]
        exact ⟨k1, k2, k3⟩
    · rintro H2 ⟨k1, k2, k3⟩
      refine ⟨k2, ?_⟩
      rw [encT_len, ← List.length_map (f := (·.1)), show (m.map (·.1)) = keysT m from rfl, List.take_length] at k3
      refine rd_sortT (ks := (keysT m).filter (inR lo hi' af)) (SqL.of (by rw [upd_ne hed]; exact k3)) (fun js p h1 h2 hp => ?_)
      have sH : Same H (upd H2 d (.dK (encT m))) := fun b o hb => by
        by_cases hbd : b = d
        · subst hbd
          rw [upd_same]
          rw [hS.t] at hb
          exact hb
        · rw [upd_ne hbd]
          exact k1 b o hb hbd
      have hpn : H p = none := by
        cases hz : H p with
        | none => rfl
        | some o =>
          rw [sH _ _ hz] at hp
          cases hp
      exact q js p _ ⟨h1, h2⟩ (same_mut sH hpn) hpn upd_same
end

section
variable {P : Program} {w : World} {K : PySem.W.Frag} {mg : Str → Option Value} {base : Heap} {dvs : List V} {kws : List (Str × V)} {f : Addr} {fd : FuncData}
def spPairs (C : Addr) : Sp := fun vs H Q _ => ∃ (a d : Addr) (ls : List Nat) (m : Tab) (lo : List Nat) (hi af : Option (List Nat)), vs = [.ref a, .str (tx lo), bnd hi, bnd af] ∧ St C H a d ls m ∧ m.length ≤ 1000 ∧
  ∀ ks r us H', KR m lo hi af ks → Same H H' → H r = none → H' r = some (.lst us) → Prs H' (prT m ks) us → Q (.ref r) H'
theorem ok_pairs (T : Txt K mg) (F : FunD K "pairs" "Store.pairs" (defArgs s_Store_pairs) (defBody s_Store_pairs) (defScope s_Store_pairs) dvs kws f fd) : FnOk P w K mg base CX0 2 f fd ["self", "low", "high", "after"] (spPairs (SC mg)) := by
  have C__keys := cl_keys (P := P) (w := w) (base := base) T
  refine okN F sc_Store_pairs (fun vs H Q E h => ?_) (fun cdv A outer s H vs Q E hr h => ?_)
  · obtain ⟨a, d, ls, m, lo, hi, af, rfl, _⟩ := h
    rfl
  · obtain ⟨a, d, ls, m, lo, hi', af, rfl, hS, hm, q⟩ := h
    refine ⟨_, (pss_one (ps_ret (pe_lc (own := [("key", 4)]) (g := gName 4) (tt := tYes) (by rfl) sc_Store_pairs.nd (pi_list (pe_cl C__keys (hr.mono (by decide)) (by rfl) (pa_cons (pv 0) (pa_cons (pv 1) (pa_cons (pv 2) (pa_cons (pv 3) pa_nil)))))) (blkOk_by (own := [("key", 4)]) (N := n_Store_pairs) (sc := defScope s_Store_pairs) (by decide +kernel)) (fun _ _ _ _ _ => (pg_name (i := 4) sc_Store_pairs.nd rfl (Or.inl rfl))) (fun _ _ _ _ _ => pts_nil) (fun _ _ _ _ _ => (pe_tup (pa_cons (pv 4) (pa_cons (pe_dget (by exact hu_of hr) (pe_fldK (K := K) (by rfl) (pv 0) (by rfl)) (pv 4) (fun _ _ => rfl)) pa_nil))))))), ?_⟩
    obtain ⟨dx, ho⟩ := hS.o
    walk_at "rds"
    refine ⟨a, d, ls, m, lo, hi', af, rfl, hS, hm, fun ks r H1 hks s1 hr1 er1 => ?_⟩
    walk_at "rds"
    refine ⟨_, rfl, ⟨_, SqL.of er1⟩, fun e ne => lc_list (K := K) (a := r) (xs := ks.map fun k => V.str (tx k)) (fun i H' => Same H1 H' ∧ ∃ us, H' e = some (.lst us) ∧ Prs H' (prT m (ks.take i)) us) ⟨same_upd ne, [], upd_same, .nil⟩ (fun i H' _ h => SqL.of (h.1 _ _ er1)) ?_ ?_⟩
    · rintro i x H2 hx ⟨s2, us, eu, pu⟩
      rw [List.getElem?_map] at hx
      cases hk : ks[i]? with
      | none => rw [hk] at hx; cases hx
      | some key =>
        rw [hk] at hx
        cases hx
        have hkm : key ∈ keysT m := hks.mem (List.mem_of_getElem? hk)
        obtain ⟨v, hv⟩ := getT_some hkm
        have hl : us.length < sizeLine := by
          rw [← pu.len, prT_len, List.length_take]
          have := hks.len
          exact small1000 (by omega)
        walk_at "rds"
        refine ⟨rfl, ?_⟩
        walk_at "rds"
        refine rd_ite (fun _ => ?_) (fun h => by cases h)
        walk_at "rds"
        have o2 := s2 _ _ (s1 _ _ ho)
        have t2 := s2 _ _ (s1 _ _ hS.t)
        refine ⟨a, _, dx, _, _, rfl, o2, T.k_Store, T.n_Store_table, rfl, ?_⟩
        walk_at "rds"
        refine ⟨d, .int v, rfl, ?_, ?_⟩
        · have g := DGet.k (k := Sum.inr (tx key)) t2
          rw [valV_enc, hv] at g
          exact g
        walk_at "rds"
        refine ⟨by show 2 ≤ sizeLine; decide, fun p hp => ?_⟩
        have hpe : e ≠ p := fun z => by
          rw [← z, eu] at hp
          cases hp
        refine ⟨us, by rw [upd_ne hpe]; exact eu, hl, same_mut (same_mut s2 (same_none s2 hp)) ne, _, upd_same, ?_⟩
        have e1 : prT m (ks.take (i + 1)) = prT m (ks.take i) ++ [(key, v)] := by
          unfold prT
          rw [List.take_add_one, hk, Option.toList_some, List.map_append]
          show _ ++ [(key, (getT m key).getD 0)] = _
          rw [hv]
          rfl
        rw [e1]
        have hk3 : ∀ T l, H2 T = some (.tup l) → upd (upd H2 p (.tup [.str (tx key), .int v])) e (.lst (us ++ [.ref p])) T = some (.tup l) := fun T l h => by
          have h1 : T ≠ e := fun z => by
            rw [z, eu] at h
            cases h
          have h2 : T ≠ p := fun z => by
            rw [z, hp] at h
            cases h
          rw [upd_ne h1, upd_ne h2]
          exact h
        refine (pu.keep hk3).app (Prs.one ?_)
        rw [upd_ne hpe.symm, upd_same]
    · rintro H2 ⟨s2, us, eu, pu⟩
      rw [List.length_map, List.take_length] at pu
      have hen : H e = none := same_none s1 ne
      exact q ks e us H2 hks (same_trans s1 s2) hen eu pu
end

section
variable {P : Program} {w : World} {K : PySem.W.Frag} {mg : Str → Option Value} {base : Heap} {dvs : List V} {kws : List (Str × V)} {f : Addr} {fd : FuncData}
theorem St.keep {C : Addr} {H H' : Hp} {a d : Addr} {ls : List Nat} {m n : Tab} (h : St C H a d ls m) (k : Keep1 d H H') (t : H' d = some (.dK (encT n))) : St C H' a d ls n := by
  obtain ⟨dx, ho⟩ := h.o
  refine ⟨⟨dx, k _ _ ho fun e => ?_⟩, t⟩
  have := h.t
  rw [← e, ho] at this
  cases this
theorem St.same {C : Addr} {H H' : Hp} {a d : Addr} {ls : List Nat} {m : Tab} (h : St C H a d ls m) (k : Same H H') : St C H' a d ls m := by
  obtain ⟨dx, ho⟩ := h.o
  exact ⟨⟨dx, k _ _ ho⟩, k _ _ h.t⟩
theorem Same.keep1 {d : Addr} {H H' : Hp} (h : Same H H') : Keep1 d H H' := fun b o hb _ => h b o hb
theorem Keep1.trans {d : Addr} {H H1 H2 : Hp} (a : Keep1 d H H1) (b : Keep1 d H1 H2) : Keep1 d H H2 := fun c o hc hd => b c o (a c o hc hd) hd
theorem Keep1.put {d : Addr} {H H1 : Hp} {o : HO} (a : Keep1 d H H1) : Keep1 d H (upd H1 d o) := fun c x hc hd => by
  rw [upd_ne hd]
  exact a c x hc hd
def spTake (C : Addr) : Sp := fun vs H Q _ => ∃ (a d : Addr) (ls : List Nat) (m : Tab) (lo : List Nat) (hi af : Option (List Nat)), vs = [.ref a, .str (tx lo), bnd hi, bnd af] ∧ St C H a d ls m ∧ (keysT m).Nodup ∧ m.length ≤ 1000 ∧
  ∀ ks H', KR m lo hi af ks → Keep1 d H H' → H' d = some (.dK (encT (dropsT m ks))) → Q (.int (ks.length : Nat)) H'
theorem ok_take (T : Txt K mg) (F : FunD K "take" "Store.take" (defArgs s_Store_take) (defBody s_Store_take) (defScope s_Store_take) dvs kws f fd) : FnOk P w K mg base CX0 2 f fd ["self", "low", "high", "after"] (spTake (SC mg)) := by
  have C__keys := cl_keys (P := P) (w := w) (base := base) T
  refine okN F sc_Store_take (fun vs H Q E h => ?_) (fun cdv A outer s H vs Q E hr h => ?_)
  · obtain ⟨a, d, ls, m, lo, hi, af, rfl, _⟩ := h
    rfl
  · obtain ⟨a, d, ls, m, lo, hi', af, rfl, hS, hnd, hm, q⟩ := h
    refine ⟨_, (pss_cons (ps_set (i := 4) sc_Store_take.nd rfl (Or.inl rfl) (pe_cl C__keys (hr.mono (by decide)) (by rfl) (pa_cons (pv 0) (pa_cons (pv 1) (pa_cons (pv 2) (pa_cons (pv 3) pa_nil))))))
      (Evl.pss_cut (ps_for PassesOwn.never rfl (pi_list (pv 4)) (pg_name (i := 5) sc_Store_take.nd rfl (Or.inl rfl))
      (pss_one (ps_ddel (pe_fldK (K := K) (by rfl) (pv 0) (by rfl)) (pv 5))))
      (pss_one (ps_ret (pe_callB call_lenQ (by rfl) T.m_len (by decide +kernel) (pa_cons (pv 4) pa_nil)))))), ?_⟩
    walk_at "rds"
    refine ⟨a, d, ls, m, lo, hi', af, rfl, hS, hm, fun ks r H1 hks s1 hr1 er1 => ?_⟩
    have hS1 := hS.same s1
    have hrd : r ≠ d := fun z => by
      rw [z, hS1.t] at er1
      cases er1
    refine rd_cut (fun σ' H' => (∃ y, σ' = [some (.ref a), some (.str (tx lo)), some (bnd hi'), some (bnd af), some (.ref r), y]) ∧ Keep1 d H1 H' ∧ H' d = some (.dK (encT (dropsT m ks)))) ?_ ?_
    · walk_at "rds"
      refine ⟨_, rfl, ⟨_, SqL.of er1⟩, for_list (K := K) (a := r) (xs := ks.map fun k => V.str (tx k)) (fun i σ' H' => (∃ y, σ' = [some (.ref a), some (.str (tx lo)), some (bnd hi'), some (bnd af), some (.ref r), y]) ∧ Keep1 d H1 H' ∧ H' d = some (.dK (encT (dropsT m (ks.take i))))) ⟨⟨_, rfl⟩, Same.keep1 (same_refl _), hS1.t⟩ (fun i σ' H' _ h => SqL.of (h.2.1 _ _ er1 hrd)) ?_ ?_⟩
      · rintro i x σ' H2 hx ⟨⟨y, rfl⟩, k2, t2⟩
        rw [List.getElem?_map] at hx
        cases hk : ks[i]? with
        | none => rw [hk] at hx; cases hx
        | some key =>
          rw [hk] at hx
          cases hx
          have hS2 := hS1.keep k2 t2
          obtain ⟨dx, ho⟩ := hS2.o
          have hin : key ∈ keysT (dropsT m (ks.take i)) := mem_drops.mpr ⟨hks.mem (List.mem_of_getElem? hk), not_before (hks.nodup hnd) hk⟩
          obtain ⟨v, hv⟩ := getT_some hin
          walk_at "rds"
          refine ⟨a, _, dx, _, _, rfl, ho, T.k_Store, T.n_Store_table, rfl, ?_⟩
          walk_at "rds"
          refine ⟨d, _, Sum.inr (tx key), rfl, t2, rfl, by rw [valV_enc, hv]; rfl, ⟨_, rfl⟩, k2.put, ?_⟩
          rw [upd_same, dropK_enc, drops_snoc hk]
      · rintro σ' H2 ⟨hσ, k2, t2⟩
        rw [List.length_map, List.take_length] at t2
        exact ⟨hσ, k2, t2⟩
    · rintro σ' H2 ⟨⟨y, rfl⟩, k2, t2⟩
      walk_at "rds"
      refine rd_lenL (SqL.of (k2 _ _ er1 hrd)) ?_
      rw [List.length_map]
      exact q ks H2 hks ((Same.keep1 s1).trans k2) t2
def spFill (C : Addr) : Sp := fun vs H Q _ => ∃ (a d : Addr) (ls : List Nat) (m : Tab) (v : Int) (lo : List Nat) (hi af : Option (List Nat)), vs = [.ref a, .int v, .str (tx lo), bnd hi, bnd af] ∧ 0 ≤ v ∧ St C H a d ls m ∧ m.length ≤ 1000 ∧
  ∀ ks H', KR m lo hi af ks → Keep1 d H H' → H' d = some (.dK (encT (putsT m ks v))) → Q (.int (ks.length : Nat)) H'
theorem ok_fill (T : Txt K mg) (F : FunD K "fill" "Store.fill" (defArgs s_Store_fill) (defBody s_Store_fill) (defScope s_Store_fill) dvs kws f fd) : FnOk P w K mg base CX0 4 f fd ["self", "value", "low", "high", "after"] (spFill (SC mg)) := by
  have C__keys := cl_keys (P := P) (w := w) (base := base) T
  have C_check_value := clx_chk (P := P) (w := w) (base := base) T
  refine okN F sc_Store_fill (fun vs H Q E h => ?_) (fun cdv A outer s H vs Q E hr h => ?_)
  · obtain ⟨a, d, ls, m, v, lo, hi, af, rfl, _⟩ := h
    rfl
  · obtain ⟨a, d, ls, m, v, lo, hi', af, rfl, hv0, hS, hm, q⟩ := h
    refine ⟨_, (pss_cons (ps_expr (pe_clX C_check_value (hr.mono (by decide)) (by rfl) takes0 (pa_cons (pv 1) pa_nil)))
      (pss_cons (ps_set (i := 5) sc_Store_fill.nd rfl (Or.inl rfl) (pe_cl C__keys (hr.mono (by decide)) (by rfl) (pa_cons (pv 0) (pa_cons (pv 2) (pa_cons (pv 3) (pa_cons (pv 4) pa_nil))))))
      (Evl.pss_cut (ps_for PassesOwn.never rfl (pi_list (pv 5)) (pg_name (i := 6) sc_Store_fill.nd rfl (Or.inl rfl))
      (pss_one (ps_dput (by exact hu_of hr) (pe_fldK (K := K) (by rfl) (pv 0) (by rfl)) (pv 6) (pv 1) rfl)))
      (pss_one (ps_ret (pe_callB call_lenQ (by rfl) T.m_len (by decide +kernel) (pa_cons (pv 5) pa_nil))))))), ?_⟩
    walk_at "rds"
    refine ⟨.int v, rfl, .inl ⟨v, rfl⟩, fun _ H0 s0 => ?_, fun h => absurd (h.symm.trans (show okV (.int v) = true from decide_eq_true hv0)) (by simp)⟩
    walk_at "rds"
    refine ⟨a, d, ls, m, lo, hi', af, rfl, hS.same s0, hm, fun ks r H1 hks s1' hr1' er1 => ?_⟩
    have s1 := same_trans s0 s1'
    have hS1 := hS.same s1
    have hrd : r ≠ d := fun z => by
      rw [z, hS1.t] at er1
      cases er1
    refine rd_cut (fun σ' H' => (∃ y, σ' = [some (.ref a), some (.int v), some (.str (tx lo)), some (bnd hi'), some (bnd af), some (.ref r), y]) ∧ Keep1 d H1 H' ∧ H' d = some (.dK (encT (putsT m ks v)))) ?_ ?_
    · walk_at "rds"
      refine ⟨_, rfl, ⟨_, SqL.of er1⟩, for_list (K := K) (a := r) (xs := ks.map fun k => V.str (tx k)) (fun i σ' H' => (∃ y, σ' = [some (.ref a), some (.int v), some (.str (tx lo)), some (bnd hi'), some (bnd af), some (.ref r), y]) ∧ Keep1 d H1 H' ∧ H' d = some (.dK (encT (putsT m (ks.take i) v)))) ⟨⟨_, rfl⟩, Same.keep1 (same_refl _), hS1.t⟩ (fun i σ' H' _ h => SqL.of (h.2.1 _ _ er1 hrd)) ?_ ?_⟩
      · rintro i x σ' H2 hx ⟨⟨y, rfl⟩, k2, t2⟩
        rw [List.getElem?_map] at hx
        cases hk : ks[i]? with
        | none => rw [hk] at hx; cases hx
        | some key =>
          rw [hk] at hx
          cases hx
          have hS2 := hS1.keep k2 t2
          obtain ⟨dx, ho⟩ := hS2.o
          have hlen : (encT (putsT m (ks.take i) v)).length < 1000 + 1 := by
            rw [encT_len, ← keys_len, puts_keys (fun k h => hks.mem (List.mem_of_mem_take h)), keys_len]
            omega
          walk_at "rds"
          refine ⟨a, _, dx, _, _, rfl, ho, T.k_Store, T.n_Store_table, rfl, ?_⟩
          walk_at "rds"
          refine ⟨d, _, rfl, DPut.k (k := Sum.inr (tx key)) t2 (small1000 (by omega)), ⟨_, rfl⟩, k2.put, ?_⟩
          rw [upd_same, putK_enc, puts_snoc hk]
      · rintro σ' H2 ⟨hσ, k2, t2⟩
        rw [List.length_map, List.take_length] at t2
        exact ⟨hσ, k2, t2⟩
    · rintro σ' H2 ⟨⟨y, rfl⟩, k2, t2⟩
      walk_at "rds"
      refine rd_lenL (SqL.of (k2 _ _ er1 hrd)) ?_
      rw [List.length_map]
      exact q ks H2 hks ((Same.keep1 s1).trans k2) t2
end

section
variable {P : Program} {w : World} {K : PySem.W.Frag} {mg : Str → Option Value} {base : Heap} {dvs : List V} {kws : List (Str × V)} {f : Addr} {fd : FuncData}
def spChkL : Sp := fun vs H Q _ => ∃ ls : List Nat, vs = [.str (tx ls)] ∧ areB ls = true ∧ ls.length ≤ 1000 ∧ ∀ H', Same H H' → Q (.bl true) H'
theorem cl_chkL (T : Txt K mg) : Cl P w K mg base "check_letters" ["letters"] 3 spChkL := cl_of T.a_check_letters fun f fd F => by
  have C__are_letters := cl_are (P := P) (w := w) (base := base) T
  refine F.ok sc_check_letters (fun vs H Q E h => ?_) (fun cdv A outer s H vs Q E hr h => ?_)
  · obtain ⟨ls, rfl, _⟩ := h
    rfl
  · obtain ⟨ls, rfl, hl, hz, q⟩ := h
    refine ⟨_, (pss_cons (ps_if (pt_not (pt_val (pe_cl C__are_letters (hr.mono (by decide)) (by rfl) (pa_cons (pv 0) pa_nil))))
      (pss_one ps_dead)
      pss_nil)
      (pss_one (ps_ret pe_bl))), ?_⟩
    walk_at "rds"
    refine ⟨_, rfl, .inl ⟨ls, rfl, hz⟩, fun H1 s1 => ?_⟩
    walk_at "rds"
    rw [areV_tx, hl]
    refine rd_ite (fun h => by cases h) (fun _ => ?_)
    walk_at "rds"
    exact q _ s1
def spInit (K : PySem.W.Frag) (C : Addr) : Sp := fun vs H Q _ => ∃ (a dx p : Addr) (ls : List Nat) (us : List V) (ms : Tab), vs = [.ref a, .str (tx ls), .ref p] ∧ H a = some (.ins C dx []) ∧ areB ls = true ∧ ls.length ≤ 1000 ∧ Seq1 K H p us ∧ Prs H ms us ∧ (∀ q ∈ ms, Ov ls q.1 ∧ 0 ≤ q.2) ∧ ms.length ≤ 500 ∧
  ∀ d H', Keep1 a H H' → H d = none → d ≠ a → H' a = some (.ins C dx (SF ls d)) → H' d = some (.dK (encT (putsP [] ms))) → Q .non H'
theorem ok_init (T : Txt K mg) (F : FunD K "__init__" "Store.__init__" (defArgs s_Store___init__) (defBody s_Store___init__) (defScope s_Store___init__) dvs kws f fd) : FnOk P w K mg base CX0 5 f fd ["self", "letters", "pairs"] (spInit K (SC mg)) := by
  have C_check_letters := cl_chkL (P := P) (w := w) (base := base) T
  have C_Store___setitem__ := met_set (P := P) (w := w) (base := base) T
  refine okN F sc_Store___init__ (fun vs H Q E h => ?_) (fun cdv A outer s H vs Q E hr h => ?_)
  · obtain ⟨a, dx, p, ls, us, ms, rfl, _⟩ := h
    rfl
  · obtain ⟨a, dx, p, ls, us, ms, rfl, ha, hl, hz, hp, hpr, hov, hms, q⟩ := h
    refine ⟨_, (pss_cons (ps_expr (pe_cl C_check_letters (hr.mono (by decide)) (by rfl) (pa_cons (pv 1) pa_nil)))
      (pss_cons (ps_fld (pv 0) (pv 1) rfl)
      (pss_cons (ps_fld (pv 0) pe_dnewK rfl)
      (pss_one (ps_for PassesOwn.never rfl (pi_seq (pv 2)) (pg_tup rfl (pgs_cons (pg_name (i := 3) sc_Store___init__.nd rfl (Or.inl rfl)) (pgs_cons (pg_name (i := 4) sc_Store___init__.nd rfl (Or.inl rfl)) pgs_nil)))
      (pss_one (ps_asg (pv 4) (pg_sub (pv 0) (pv 3) (set_GX C_Store___setitem__ T.q_Store hr (by decide) takes0))))))))), ?_⟩
    walk_at "rds"
    refine ⟨ls, rfl, hl, hz, fun H1 s1 => ?_⟩
    walk_at "rds"
    refine ⟨a, _, dx, [], rfl, s1 _ _ ha, T.k_Store, T.n_Store_letters, by show 0 < 1000; decide, ?_⟩
    walk_at "rds"
    refine fun d hd => ?_
    have hda : d ≠ a := fun z => by
      rw [z, upd_same] at hd
      cases hd
    have hd1 : H1 d = none := by
      rw [upd_ne hda] at hd
      exact hd
    walk_at "rds"
    refine ⟨a, _, dx, _, rfl, by rw [upd_ne hda.symm]; exact upd_same, T.k_Store, T.n_Store_table, by show 1 < 1000; decide, ?_⟩
    have k3 : Keep1 a H (upd (upd (upd H1 a (.ins (SC mg) dx (putF "letters" (.str (tx ls)) []))) d (.dK [])) a (.ins (SC mg) dx (putF "table" (.ref d) (putF "letters" (.str (tx ls)) [])))) := fun b o hb hba => by
      have h1 := s1 _ _ hb
      have hbd : b ≠ d := fun z => by
        rw [z, hd1] at h1
        cases h1
      rw [upd_ne hba, upd_ne hbd, upd_ne hba]
      exact h1
    have a3 : (upd (upd (upd H1 a (.ins (SC mg) dx (putF "letters" (.str (tx ls)) []))) d (.dK [])) a (.ins (SC mg) dx (putF "table" (.ref d) (putF "letters" (.str (tx ls)) [])))) a = some (.ins (SC mg) dx (SF ls d)) := upd_same
    have d3 : (upd (upd (upd H1 a (.ins (SC mg) dx (putF "letters" (.str (tx ls)) []))) d (.dK [])) a (.ins (SC mg) dx (putF "table" (.ref d) (putF "letters" (.str (tx ls)) [])))) d = some (.dK (encT [])) := by
      rw [upd_ne hda, upd_same]
      rfl
    generalize upd (upd (upd H1 a (.ins (SC mg) dx (putF "letters" (.str (tx ls)) []))) d (.dK [])) a (.ins (SC mg) dx (putF "table" (.ref d) (putF "letters" (.str (tx ls)) []))) = H3 at k3 a3 d3 ⊢
    have hd0 : H d = none := same_none s1 hd1
    have hp3 : Seq1 K H3 p us := hp.keep fun o ho h => k3 _ _ h fun z => by
      rw [z, ha] at h
      cases h
      exact SeqO.nins ho
    have hpr3 : Prs H3 ms us := hpr.keep fun T l h => k3 _ _ h fun z => by
      rw [z, ha] at h
      cases h
    have hS3 : St (SC mg) H3 a d ls [] := ⟨⟨dx, a3⟩, d3⟩
    walk_at "rds"
    refine rd_iSeqF (fun Q q => rd_var rfl q) hp3 (fun J G W hG => for_it W (fun i σ' H' => (∃ y z, σ' = [some (.ref a), some (.str (tx ls)), some (.ref p), y, z]) ∧ Keep1 d H3 H' ∧ H' d = some (.dK (encT (putsP [] (ms.take i))))) ⟨⟨_, _, rfl⟩, Same.keep1 (same_refl _), d3⟩ (fun i σ' H' _ h => hG _ fun o ho h1 => h.2.1 _ _ h1 fun z => ?_) ?_ ?_)
    · rw [z, d3] at h1
      cases h1
      exact SeqO.ndK ho
    · rintro i x σ' H4 H5 hi ⟨⟨y, z, rfl⟩, k4, t4⟩ ⟨rfl, hx⟩
      obtain ⟨⟨key, v⟩, hms', ⟨U, rfl, hU⟩⟩ := hpr3.get hx
      have hUd : U ≠ d := fun z => by
        rw [z, d3] at hU
        cases hU
      have hS5 := hS3.keep k4 t4
      obtain ⟨dx5, ho5⟩ := hS5.o
      have hq := hov _ (List.mem_of_getElem? hms')
      have hlen := putsP_len (ms.take i) []
      rw [List.length_take, List.length_nil] at hlen
      refine rd_gtup (SqT.of (k4 _ _ hU hUd)) rfl ?_
      walk_at "rds"
      refine ⟨a, _, _, rfl, ho5, set_ok hS5 hq.1 hq.2 (by omega) fun H6 k6 t6 => ⟨⟨_, _, rfl⟩, k4.trans k6, ?_⟩⟩
      rw [t6, putsP_snoc hms']
    · rintro σ' H4 ⟨_, k4, t4⟩
      rw [← hpr.len, List.take_length] at t4
      have k5 : Keep1 a H H4 := fun b o hb hba => k4 _ _ (k3 _ _ hb hba) fun z => by
        rw [z, hd0] at hb
        cases hb
      exact q d H4 k5 hd0 hda (k4 _ _ a3 hda.symm) t4
end

section
variable {P : Program} {w : World} {K : PySem.W.Frag} {mg : Str → Option Value} {base : Heap}
/-- Store(letters, pairs) -/
theorem mk_Store_2 (T : Txt K mg) : MakD P w K mg base "Store" (SC mg) 5 (spInit K (SC mg)) [] := by
  obtain ⟨f, T', fd, F, M, _⟩ := T.d_Store___init__
  obtain ⟨ds, v, b⟩ := F.binds1 (ps := ["self", "letters", "pairs"]) 3 1 (by simp) rfl fun T kV doc pm an cdv ct us its h1 h2 => match us, its, h1, h2 with | [_, _, _], [_], _, _ => ⟨_, rfl, rfl⟩
  exact ⟨f, fd, _, ds, M, ok_init T F, T.g_Store, b, v⟩
/-- Store(letters) -/
theorem mk_Store_1 (T : Txt K mg) : ∃ E, (∀ H, Seq1 K H E []) ∧ MakD P w K mg base "Store" (SC mg) 5 (spInit K (SC mg)) [.ref E] := by
  obtain ⟨f, T', fd, F, M, o, ho, hc, hd, hn⟩ := T.d_Store___init__
  obtain ⟨ds, v, b⟩ := F.binds1 (ps := ["self", "letters", "pairs"]) 2 0 (by simp) rfl fun T kV doc pm an cdv ct us its h1 h2 => match us, its, h1, h2 with | [_, _], [_], _, _ => ⟨_, rfl, rfl⟩
  exact ⟨T', fun H => .inr (.inr ⟨o, #[], 0, ho, hc, hd, by decide, .nil⟩), f, fd, _, ds, M, ok_init T F, T.g_Store, b, v⟩
theorem make_end {C p : Addr} {H : Hp} {ls : List Nat} {us : List V} {ms : Tab} {Q : Addr → Hp → Prop} {E : XK} (hl : areB ls = true) (hz : ls.length ≤ 1000) (hp : Seq1 K H p us) (hpr : Prs H ms us) (hov : ∀ q ∈ ms, Ov ls q.1 ∧ 0 ≤ q.2) (hms : ms.length ≤ 500)
    (q : ∀ x d H', Same H H' → H x = none → H d = none → St C H' x d ls (putsP [] ms) → Q x H') :
    ∀ x dx, H x = none → H dx = none → dx ≠ x → spInit K C [.ref x, .str (tx ls), .ref p] (upd (upd H dx (.own x)) x (.ins C dx [])) (fun v H2 => v = .non ∧ Q x H2) E := by
  intro x dx hx hdx hne
  have s1 : Same H (upd (upd H dx (.own x)) x (.ins C dx [])) := fun b o hb => by
    have h1 : b ≠ x := fun z => by
      rw [z, hx] at hb
      cases hb
    have h2 : b ≠ dx := fun z => by
      rw [z, hdx] at hb
      cases hb
    rw [upd_ne h1, upd_ne h2]
    exact hb
  refine ⟨x, dx, p, ls, us, ms, rfl, upd_same, hl, hz, hp.keep fun o _ h => s1 _ _ h, hpr.same s1, hov, hms, fun d H' k hd hdx' hx' hd' => ⟨rfl, ?_⟩⟩
  have hd0 := same_none s1 hd
  refine q x d H' (fun b o hb => k _ _ (s1 _ _ hb) fun z => ?_) hx hd0 ⟨⟨dx, hx'⟩, hd'⟩
  rw [z, hx] at hb
  cases hb
def spCopied (C : Addr) : Sp := fun vs H Q _ => ∃ (a d : Addr) (ls : List Nat) (m : Tab), vs = [.ref a] ∧ St C H a d ls m ∧ areB ls = true ∧ ls.length ≤ 1000 ∧ (keysT m).Nodup ∧ (∀ q ∈ m, Ov ls q.1 ∧ 0 ≤ q.2) ∧ m.length ≤ 500 ∧
  ∀ x d' H', Same H H' → H x = none → H d' = none → St C H' x d' ls m → Q (.ref x) H'
theorem met_copied (T : Txt K mg) : MetG P w K mg base CX0 (SC mg) "copied" ["self"] 7 (spCopied (SC mg)) := metG_of T.k_Store T.a_Store_copied fun f fd F => by
  have C_Store_2 := mk_Store_2 (P := P) (w := w) (base := base) T
  refine F.ok sc_Store_copied (fun vs H Q E h => ?_) (fun cdv A outer s H vs Q E hr h => ?_)
  · obtain ⟨a, d, ls, m, rfl, _⟩ := h
    rfl
  · obtain ⟨a, d, ls, m, rfl, hS, hl, hz, hnd, hov, hms, q⟩ := h
    refine ⟨_, (pss_one (ps_ret (pe_mkD C_Store_2 hr (by decide) (by rfl) (pa_cons (pe_fldK (K := K) (by rfl) (pv 0) (by rfl)) (pa_cons (LiI.pe_listItems rfl (pe_fldK (K := K) (by rfl) (pv 0) (by rfl)) (by rfl) T.m_list (by decide +kernel)) pa_nil))))), ?_⟩
    obtain ⟨dx, ho⟩ := hS.o
    walk_at "rds"
    refine ⟨a, _, dx, _, _, rfl, ho, T.k_Store, T.n_Store_letters, rfl, ?_⟩
    walk_at "rds"
    refine ⟨a, _, dx, _, _, rfl, ho, T.k_Store, T.n_Store_table, rfl, d, _, rfl, hS.t, fun H1 p ts s1 hp hts hpts e1 hpr => ?_⟩
    refine make_end hl hz (.inl (SqL.of e1)) (prs_of_items hpr) hov hms (fun x d' H' s2 hx hd hS' => ?_)
    rw [putsP_same m [] hnd, List.nil_append] at hS'
    exact q x d' H' (same_trans s1 s2) (same_none s1 hx) (same_none s1 hd) hS'
end
section
variable {P : Program} {w : World} {K : PySem.W.Frag} {mg : Str → Option Value} {base : Heap}
theorem at_pairs_1 (T : Txt K mg) : MetD P w K mg base (SC mg) "pairs" 2 (spPairs (SC mg)) [.str (tx []), .non, .non] := by
  obtain ⟨f, fd, F, M, i⟩ := T.d_Store_pairs
  obtain ⟨ds, v, b⟩ := F.binds (ps := ["self", "low", "high", "after"]) 1 0 (by simp) rfl (fun T D doc pm an cdv ct us its ks h1 h2 h3 => match us, its, ks, h1, h2, h3 with | [_], [_, _], [_], _, _, _ => ⟨_, rfl, _, _, _, _, _, _, rfl, rfl, rfl⟩) (by simp)
  exact ⟨f, fd, _, ds, T.k_Store, M, ok_pairs T F, b, v⟩end
section
variable {P : Program} {w : World} {K : PySem.W.Frag} {mg : Str → Option Value} {base : Heap}
theorem clh_cons (T : Txt K mg) : ClH P w K mg base "_consists_of" ["characters", "text"] 1 spCons := clH_of T.a__consists_of fun f fd F => by
  refine okH F sc__consists_of (fun vs H Q E h => ?_) (fun cdv A outer s H vs Q E pe hr hc h => ?_)
  · obtain ⟨cs, u, rfl, _⟩ := h
    rfl
  · obtain ⟨cs, u, rfl, hl, q⟩ := h
    refine ⟨_, (pss_one (ps_ret (pe_callB (UnH.cr_allH hc) (by rfl) T.m_all (by decide +kernel) (pa_cons (UnH.pe_lcH (own := [("character", 2)]) (g := gName 2) (tt := tYes) hc sc__consists_of.nd (UnH.pik_str (pv 1)) (blkOk_by (own := [("character", 2)]) (N := n__consists_of) (sc := defScope s__consists_of) (by decide +kernel)) (fun _ _ _ _ _ hb => (pg_name (i := 2) sc__consists_of.nd rfl (Or.inl rfl))) (fun _ _ _ _ _ hb => pts_nil) (fun _ _ _ _ _ hb => (pe_cmpR op_inX (pv 2) (pv 0) (by rfl)))) pa_nil)))), ?_⟩
    walk_at "rds"
    refine fun e ne => lc_text (l := u) (fun i H' => Same H H' ∧ H' e = some (.lst (((u.take i).map fun c => decide (c ∈ cs)).map V.bl))) ⟨same_upd ne, upd_same⟩ ?_ ?_
    · rintro i c H' hc ⟨sH, he⟩
      have hi : i < u.length := (List.getElem?_eq_some_iff.mp hc).1
      walk_at "rds"
      refine ⟨rfl, ?_⟩
      walk_at "rds"
      refine rd_ite (fun _ => ?_) (fun h => by cases h)
      walk_at "rds"
      refine ⟨_, he, by rw [List.length_map, List.length_map, List.length_take]; exact small1000 (by omega), same_mut sH ne, ?_⟩
      rw [upd_same, take_snoc _ hc, List.map_append]
      rfl
    · rintro H' ⟨sH, he⟩
      rw [List.take_length] at he
      walk_at "rds"
      refine rd_all (SqL.of he) ?_
      have e1 : (u.map fun c => decide (c ∈ cs)).all id = consB cs u := by unfold consB; rw [List.all_map]; rfl
      rw [e1]
      exact q _ sH
theorem clh_asc (T : Txt K mg) : ClH P w K mg base "_ascends" ["text"] 1 spAsc := clH_of T.a__ascends fun f fd F => by
  refine okH F sc__ascends (fun vs H Q E h => ?_) (fun cdv A outer s H vs Q E pe hr hc h => ?_)
  · obtain ⟨u, rfl, _⟩ := h
    rfl
  · obtain ⟨u, rfl, hl, q⟩ := h
    refine ⟨_, (pss_one (ps_ret (pe_callB (UnH.cr_allH hc) (by rfl) T.m_all (by decide +kernel) (pa_cons (UnH.pe_lcH (own := [("one", 1), ("other", 2)]) (g := (gTup K 2 (gCons (gName 1) (gCons (gName 2) gNil)))) (tt := tYes) hc sc__ascends.nd (UnH.pik_zipS (by rfl) T.m_zip (pa_cons (pv 0) (pa_cons (pe_slice sl_strX (pv 0) (po_some pe_int) po_none) pa_nil))) (blkOk_by (own := [("one", 1), ("other", 2)]) (N := n__ascends) (sc := defScope s__ascends) (by decide +kernel)) (fun _ _ _ _ _ hb => by exact (UnH.pg_tupH hb (pgs_cons (pg_name (i := 1) sc__ascends.nd rfl (Or.inl rfl)) (pgs_cons (pg_name (i := 2) sc__ascends.nd rfl (Or.inl rfl)) pgs_nil)))) (fun _ _ _ _ _ hb => pts_nil) (fun _ _ _ _ _ hb => (pe_cmpR op_ltX (pv 1) (pv 2) (nomark _)))) pa_nil)))), ?_⟩
    walk_at "rds"
    refine rd_slX (sz_of' hl) ?_
    have e0 : cutL u (some 1) none = u.drop 1 := by
      show cutL u (some ((1 : Nat) : Int)) none = _
      unfold cutL
      rw [HT.sIx_none, HT.sIx_nat]
      rcases u with _ | ⟨c, u⟩
      · rfl
      · have e3 : min 1 (c :: u).length = 1 := by simp
        rw [e3]
        simp
    rw [e0]
    walk_at "rds"
    refine fun e ne => lc_zip (l := u) (m := u.drop 1) (fun i H' => Same H H' ∧ H' e = some (.lst ((((u.zip (u.drop 1)).take i).map fun p => decide ([p.1] < [p.2])).map V.bl))) ⟨same_upd ne, upd_same⟩ ?_ ?_
    · rintro i c d T' H' hc hd ⟨sH, he⟩ hT
      have hi : i < u.length := (List.getElem?_eq_some_iff.mp hc).1
      have hz : (u.zip (u.drop 1))[i]? = some (c, d) := List.getElem?_zip_eq_some.mpr ⟨hc, hd⟩
      have hne : T' ≠ e := fun z => by rw [z, he] at hT; cases hT
      refine rd_gtup (SqT.of upd_same) rfl ?_
      walk_at "rds"
      refine ⟨rfl, ?_⟩
      walk_at "rds"
      refine rd_ite (fun _ => ?_) (fun h => by cases h)
      walk_at "rds"
      refine ⟨_, by rw [upd_ne hne.symm]; exact he, ?_, ?_, ?_⟩
      · rw [List.length_map, List.length_map, List.length_take, List.length_zip]
        exact small1000 (by omega)
      · exact same_mut (fun b o hb => same_upd hT b o (sH b o hb)) ne
      · rw [upd_same, take_snoc _ hz, List.map_append]
        first | rfl | (rw [List.map_append]; rfl)
    · rintro H' ⟨sH, he⟩
      have hlen : (u.zip (u.drop 1)).length = min u.length (u.drop 1).length := List.length_zip
      rw [← hlen, List.take_length] at he
      walk_at "rds"
      refine rd_all (SqL.of he) ?_
      have e1 : ((u.zip (u.drop 1)).map fun p => decide ([p.1] < [p.2])).all id = ascB u := by unfold ascB; rw [List.all_map]; rfl
      rw [e1]
      exact q _ sH
theorem clh_are (T : Txt K mg) : ClH P w K mg base "_are_letters" ["value"] 2 (spAre K) := clH_of T.a__are_letters fun f fd F => by
  have CH__consists_of := clh_cons (P := P) (w := w) (base := base) T
  have CH__ascends := clh_asc (P := P) (w := w) (base := base) T
  refine okH F sc__are_letters (fun vs H Q E h => ?_) (fun cdv A outer s H vs Q E pe hr hc h => ?_)
  · obtain ⟨x, rfl, _⟩ := h
    rfl
  · obtain ⟨x, rfl, hx, q⟩ := h
    refine ⟨_, (pss_cons (ps_if (pt_not (pt_val (pe_callB call_isi (by rfl) T.m_isinstance (by decide +kernel) (pa_cons (pv 0) (pa_cons (pe_bltn (v := .ty "str") (by rfl) T.m_str (by decide +kernel) rfl) pa_nil)))))
      (pss_one (ps_ret pe_bl))
      pss_nil)
      (pss_cons (ps_if (pt_not (pt_chain op_le op_le (pe_gint T.c_FEWEST_LETTERS (by rfl)) (pe_callB call_lenX (by rfl) T.m_len (by decide +kernel) (pa_cons (pv 0) pa_nil)) (pe_gint T.c_MOST_LETTERS (by rfl))))
      (pss_one (ps_ret pe_bl))
      pss_nil)
      (pss_one (ps_ret (pe_and (pe_clH CH__consists_of hr (by decide) hc (by rfl) (pa_cons (pe_gstr T.c_CHARACTERS [45, 46, 47, 48, 49, 50, 51, 52, 53, 54, 55, 56, 57, 95, 97, 98, 99, 100, 101, 102, 103, 104, 105, 106, 107, 108, 109, 110, 111, 112, 113, 114, 115, 116, 117, 118, 119, 120, 121, 122] (by decide +kernel) (by rfl)) (pa_cons (pv 0) pa_nil))) (pe_one (pe_clH CH__ascends hr (by decide) hc (by rfl) (pa_cons (pv 0) pa_nil)))))))), ?_⟩
    walk_at "rds"
    rcases hx with ⟨u, rfl, hl⟩ | ⟨⟨t, ty, k⟩, hn⟩
    · rw [areV_tx] at q
      unfold areB at q
      refine rd_isi (b := true) (.base (.str _)) (kit_ty (by decide +kernel)) ?_
      walk_at "rds"
      refine rd_ite (fun h => by cases h) (fun _ => ?_)
      walk_at "rds"
      refine rd_lenX (sz_of' hl) ?_
      have e2 : decide (2 ≤ (u.length : Int)) = decide (2 ≤ u.length) := by
        rw [decide_eq_decide]
        omega
      have e5 : decide ((u.length : Int) ≤ 5) = decide (u.length ≤ 5) := by
        rw [decide_eq_decide]
        omega
      walk_at "rds"
      rw [e2]
      refine rd_ite (fun h2 => ?_) (fun h2 => ?_)
      · rw [h2, Bool.true_and] at q
        walk_at "rds"
        rw [e5]
        refine rd_ite (fun h5 => ?_) (fun h5 => ?_)
        · have h5' : decide (u.length ≤ 5) = false := by simpa using h5
          rw [h5', Bool.false_and] at q
          walk_at "rds"
          exact q _ (same_refl _)
        · have h5' : decide (u.length ≤ 5) = true := by simpa using h5
          rw [h5', Bool.true_and] at q
          walk_at "rds"
          refine ⟨alphabet, u, rfl, hl, fun H1 s1 => ?_⟩
          walk_at "rds"
          refine rd_ite (fun h => ?_) (fun h => ?_)
          · rw [h, Bool.true_and] at q
            walk_at "rds"
            exact ⟨u, rfl, hl, fun H2 s2 => q _ (same_trans s1 s2)⟩
          · rw [h, Bool.false_and] at q
            exact q _ s1
      · rw [h2, Bool.false_and] at q
        walk_at "rds"
        refine rd_ite (fun _ => ?_) (fun h => by cases h)
        walk_at "rds"
        exact q _ (same_refl _)
    · rw [areV_not hn] at q
      refine rd_isi ty k ?_
      walk_at "rds"
      refine rd_ite (fun _ => ?_) (fun h => by cases h)
      walk_at "rds"
      exact q _ (same_refl _)
theorem clh_is_text (T : Txt K mg) : ClH P w K mg base "is_text" ["letters", "value"] 2 (spIsTxt K) := clH_of T.a_is_text fun f fd F => by
  have CH__consists_of := clh_cons (P := P) (w := w) (base := base) T
  refine okH F sc_is_text (fun vs H Q E h => ?_) (fun cdv A outer s H vs Q E pe hr hc h => ?_)
  · obtain ⟨ls, x, rfl, _⟩ := h
    rfl
  · obtain ⟨ls, x, rfl, hx, q⟩ := h
    refine ⟨_, (pss_one (ps_ret (pe_and (pe_callB call_isi (by rfl) T.m_isinstance (by decide +kernel) (pa_cons (pv 1) (pa_cons (pe_bltn (v := .ty "str") (by rfl) T.m_str (by decide +kernel) rfl) pa_nil))) (pe_one (pe_clH CH__consists_of hr (by decide) hc (by rfl) (pa_cons (pv 0) (pa_cons (pv 1) pa_nil))))))), ?_⟩
    walk_at "rds"
    rcases hx with ⟨u, rfl, hl⟩ | ⟨⟨t, ty, k⟩, hn⟩
    · refine rd_isi (b := true) (.base (.str _)) (kit_ty (by decide +kernel)) ?_
      walk_at "rds"
      refine rd_ite (fun _ => ?_) (fun h => by cases h)
      walk_at "rds"
      exact ⟨ls, u, rfl, hl, q⟩
    · rw [isTxt_not hn] at q
      refine rd_isi ty k ?_
      walk_at "rds"
      refine rd_ite (fun h => by cases h) (fun _ => ?_)
      exact q _ (same_refl _)
end

section
variable {P : Program} {w : World} {K : PySem.W.Frag} {mg : Str → Option Value} {base : Heap} {dvs : List V} {kws : List (Str × V)} {f : Addr} {fd : FuncData}
theorem clh_num (T : Txt K mg) : ClH P w K mg base "is_number" ["value"] 1 (spNum K) := clH_of T.a_is_number fun f fd F => by
  refine okH F sc_is_number (fun vs H Q E h => ?_) (fun cdv A outer s H vs Q E pe hr hc h => ?_)
  · obtain ⟨x, rfl, _⟩ := h
    rfl
  · obtain ⟨x, rfl, hx, q⟩ := h
    refine ⟨_, (pss_one (ps_ret (pe_and (pe_callB call_isi (by rfl) T.m_isinstance (by decide +kernel) (pa_cons (pv 0) (pa_cons (pe_bltn (v := .ty "int") (by rfl) T.m_int (by decide +kernel) rfl) pa_nil))) (pe_one (pe_not (pe_callB call_isi (by rfl) T.m_isinstance (by decide +kernel) (pa_cons (pv 0) (pa_cons (pe_bltn (v := .ty "bool") (by rfl) T.m_bool (by decide +kernel) rfl) pa_nil)))))))), ?_⟩
    walk_at "rds"
    rcases hx with ⟨v, rfl⟩ | ⟨b, rfl⟩ | ⟨⟨t, ty, k⟩, hn⟩
    · refine rd_isB (b := true) (.base (.int v)) (kit_ty (by decide +kernel)) ?_
      walk_at "rds"
      refine rd_ite (fun _ => ?_) (fun h => by cases h)
      walk_at "rds"
      refine rd_isB (b := false) (.base (.int v)) (kit_ty (by decide +kernel)) ?_
      walk_at "rds"
      exact q _ (same_refl _)
    · refine rd_isB (b := true) (.base (.bl b)) (kit_ty (by decide +kernel)) ?_
      walk_at "rds"
      refine rd_ite (fun _ => ?_) (fun h => by cases h)
      walk_at "rds"
      refine rd_isB (b := true) (.base (.bl b)) (kit_ty (by decide +kernel)) ?_
      walk_at "rds"
      exact q _ (same_refl _)
    · rw [isNum_not hn] at q
      refine rd_isB (b := false) ty (kit_ty k) ?_
      walk_at "rds"
      refine rd_ite (fun h => by cases h) (fun _ => ?_)
      exact q _ (same_refl _)
def spChkH : Sp := fun vs H Q _ => ∃ v : Int, vs = [.int v] ∧ 0 ≤ v ∧ ∀ H', Same H H' → Q .non H'
theorem clh_chk (T : Txt K mg) : ClH P w K mg base "check_value" ["value"] 2 spChkH := clH_of T.a_check_value fun f fd F => by
  have CH_is_number := clh_num (P := P) (w := w) (base := base) T
  refine okH F sc_check_value (fun vs H Q E h => ?_) (fun cdv A outer s H vs Q E pe hr hc h => ?_)
  · obtain ⟨v, rfl, _⟩ := h
    rfl
  · obtain ⟨v, rfl, hv, q⟩ := h
    refine ⟨_, (pss_one (ps_if (PW.pt (pw_or (pt_not (pt_val (pe_clH CH_is_number hr (by decide) hc (by rfl) (pa_cons (pv 0) pa_nil)))) (pw_or1 (pt_cmpR op_lt (pv 0) pe_int (nomark _)))))
      (pss_one ps_dead)
      pss_nil)), ?_⟩
    walk_at "rds"
    refine ⟨_, rfl, .inl ⟨v, rfl⟩, fun H1 s1 => ?_⟩
    walk_at "rds"
    refine rd_ite (fun h => by cases h) (fun _ => ?_)
    walk_at "rds"
    refine rd_ite (fun h => ?_) (fun _ => ?_)
    · have : v < 0 := of_decide_eq_true h
      omega
    · walk_at "rds"
      exact q _ s1
def spSetH (C : Addr) : Sp := fun vs H Q _ => ∃ (a d : Addr) (ls : List Nat) (m : Tab) (k : List Nat) (v : Int), vs = [.ref a, .str (tx k), .int v] ∧ St C H a d ls m ∧ Ov ls k ∧ 0 ≤ v ∧ m.length ≤ 1000 ∧
  ∀ H', Keep1 d H H' → H' d = some (.dK (encT (putT m k v))) → Q .non H'
theorem meth_set (T : Txt K mg) : MetH P w K mg base (SC mg) "__setitem__" 3 (spSetH (SC mg)) := metH_of T.k_Store T.a_Store___setitem__ fun f fd F => by
  have CH_is_text := clh_is_text (P := P) (w := w) (base := base) T
  have CH_check_value := clh_chk (P := P) (w := w) (base := base) T
  refine okH F sc_Store___setitem__ (fun vs H Q E h => ?_) (fun cdv A outer s H vs Q E pe hr hc h => ?_)
  · obtain ⟨a, d, ls, m, k, v, rfl, _⟩ := h
    rfl
  · obtain ⟨a, d, ls, m, k, v, rfl, hS, hk, hv, hm, q⟩ := h
    refine ⟨_, (pss_cons (ps_if (pt_not (pt_val (pe_clH CH_is_text hr (by decide) hc (by rfl) (pa_cons (pe_fldK (K := K) (by rfl) (pv 0) (by rfl)) (pa_cons (pv 1) pa_nil)))))
      (pss_one ps_dead)
      pss_nil)
      (pss_cons (ps_expr (pe_clH CH_check_value hr (by decide) hc (by rfl) (pa_cons (pv 2) pa_nil)))
      (pss_one (ps_dput (by exact huH hr) (pe_fldK (K := K) (by rfl) (pv 0) (by rfl)) (pv 1) (pv 2) rfl)))), ?_⟩
    walk_at "rds"
    obtain ⟨dx, ho⟩ := hS.o
    refine ⟨a, _, dx, _, _, rfl, ho, T.k_Store, T.n_Store_letters, rfl, ?_⟩
    walk_at "rds"
    refine ⟨ls, _, rfl, .inl ⟨k, rfl, hk.2⟩, fun H1 s1 => ?_⟩
    walk_at "rds"
    rw [isTxt_ov hk]
    refine rd_ite (fun h => by cases h) (fun _ => ?_)
    walk_at "rds"
    refine ⟨v, rfl, hv, fun H2 s2 => ?_⟩
    walk_at "rds"
    have ho2 := s2 _ _ (s1 _ _ ho)
    have ht2 := s2 _ _ (s1 _ _ hS.t)
    refine ⟨a, _, dx, _, _, rfl, ho2, T.k_Store, T.n_Store_table, rfl, ?_⟩
    walk_at "rds"
    refine ⟨d, _, rfl, DPut.k (k := Sum.inr (tx k)) ht2 (by rw [encT_len]; exact small1000 hm), ?_⟩
    walk_at "rds"
    rw [putK_enc]
    refine q _ (fun b o h1 h2 => ?_) upd_same
    rw [upd_ne h2]
    exact s2 _ _ (s1 _ _ h1)
theorem clh_chkL (T : Txt K mg) : ClH P w K mg base "check_letters" ["letters"] 3 spChkL := clH_of T.a_check_letters fun f fd F => by
  have CH__are_letters := clh_are (P := P) (w := w) (base := base) T
  refine okH F sc_check_letters (fun vs H Q E h => ?_) (fun cdv A outer s H vs Q E pe hr hc h => ?_)
  · obtain ⟨ls, rfl, _⟩ := h
    rfl
  · obtain ⟨ls, rfl, hl, hz, q⟩ := h
    refine ⟨_, (pss_cons (ps_if (pt_not (pt_val (pe_clH CH__are_letters hr (by decide) hc (by rfl) (pa_cons (pv 0) pa_nil))))
      (pss_one ps_dead)
      pss_nil)
      (pss_one (ps_ret pe_bl))), ?_⟩
    walk_at "rds"
    refine ⟨_, rfl, .inl ⟨ls, rfl, hz⟩, fun H1 s1 => ?_⟩
    walk_at "rds"
    rw [areV_tx, hl]
    refine rd_ite (fun h => by cases h) (fun _ => ?_)
    walk_at "rds"
    exact q _ s1
def spInitH (C : Addr) : Sp := fun vs H Q _ => ∃ (a dx p : Addr) (ls : List Nat) (us : List V) (ms : Tab), vs = [.ref a, .str (tx ls), .ref p] ∧ H a = some (.ins C dx []) ∧ areB ls = true ∧ ls.length ≤ 1000 ∧ H p = some (.lst us) ∧ Prs H ms us ∧ (∀ q ∈ ms, Ov ls q.1 ∧ 0 ≤ q.2) ∧ ms.length ≤ 500 ∧
  ∀ d H', Keep1 a H H' → H d = none → d ≠ a → H' a = some (.ins C dx (SF ls d)) → H' d = some (.dK (encT (putsP [] ms))) → Q .non H'
theorem okh_init (T : Txt K mg) (F : FunD K "__init__" "Store.__init__" (defArgs s_Store___init__) (defBody s_Store___init__) (defScope s_Store___init__) dvs kws f fd) : L2H.FnH P w K mg base CX0 5 f fd ["self", "letters", "pairs"] (spInitH (SC mg)) := by
  have CH_check_letters := clh_chkL (P := P) (w := w) (base := base) T
  have CH_Store___setitem__ := meth_set (P := P) (w := w) (base := base) T
  refine okHD F sc_Store___init__ (fun vs H Q E h => ?_) (fun cdv A outer s H vs Q E pe hr hc h => ?_)
  · obtain ⟨a, dx, p, ls, us, ms, rfl, _⟩ := h
    rfl
  · obtain ⟨a, dx, p, ls, us, ms, rfl, ha, hl, hz, hp, hpr, hov, hms, q⟩ := h
    refine ⟨_, (pss_cons (ps_expr (pe_clH CH_check_letters hr (by decide) hc (by rfl) (pa_cons (pv 1) pa_nil)))
      (pss_cons (ps_fld (pv 0) (pv 1) rfl)
      (pss_cons (ps_fld (pv 0) pe_dnewK rfl)
      (pss_one (L2H.ps_forH PassesOwn.never hc (UnH.pik_list (pv 2)).pih (UnH.pg_tupH (UnH.hotB_of hc) (pgs_cons (pg_name (i := 3) sc_Store___init__.nd rfl (Or.inl rfl)) (pgs_cons (pg_name (i := 4) sc_Store___init__.nd rfl (Or.inl rfl)) pgs_nil)))
      (pss_one (ps_asg (pv 4) (pg_sub (pv 0) (pv 3) (set_H CH_Store___setitem__ T.q_Store hr (by decide) hc))))))))), ?_⟩
    walk_at "rds"
    refine ⟨ls, rfl, hl, hz, fun H1 s1 => ?_⟩
    walk_at "rds"
    refine ⟨a, _, dx, [], rfl, s1 _ _ ha, T.k_Store, T.n_Store_letters, by show 0 < 1000; decide, ?_⟩
    walk_at "rds"
    refine fun d hd => ?_
    have hda : d ≠ a := fun z => by
      rw [z, upd_same] at hd
      cases hd
    have hd1 : H1 d = none := by
      rw [upd_ne hda] at hd
      exact hd
    walk_at "rds"
    refine ⟨a, _, dx, _, rfl, by rw [upd_ne hda.symm]; exact upd_same, T.k_Store, T.n_Store_table, by show 1 < 1000; decide, ?_⟩
    have k3 : Keep1 a H (upd (upd (upd H1 a (.ins (SC mg) dx (putF "letters" (.str (tx ls)) []))) d (.dK [])) a (.ins (SC mg) dx (putF "table" (.ref d) (putF "letters" (.str (tx ls)) [])))) := fun b o hb hba => by
      have h1 := s1 _ _ hb
      have hbd : b ≠ d := fun z => by
        rw [z, hd1] at h1
        cases h1
      rw [upd_ne hba, upd_ne hbd, upd_ne hba]
      exact h1
    have a3 : (upd (upd (upd H1 a (.ins (SC mg) dx (putF "letters" (.str (tx ls)) []))) d (.dK [])) a (.ins (SC mg) dx (putF "table" (.ref d) (putF "letters" (.str (tx ls)) [])))) a = some (.ins (SC mg) dx (SF ls d)) := upd_same
    have d3 : (upd (upd (upd H1 a (.ins (SC mg) dx (putF "letters" (.str (tx ls)) []))) d (.dK [])) a (.ins (SC mg) dx (putF "table" (.ref d) (putF "letters" (.str (tx ls)) [])))) d = some (.dK (encT [])) := by
      rw [upd_ne hda, upd_same]
      rfl
    generalize upd (upd (upd H1 a (.ins (SC mg) dx (putF "letters" (.str (tx ls)) []))) d (.dK [])) a (.ins (SC mg) dx (putF "table" (.ref d) (putF "letters" (.str (tx ls)) []))) = H3 at k3 a3 d3 ⊢
    have hd0 : H d = none := same_none s1 hd1
    have hp3 : H3 p = some (.lst us) := k3 _ _ hp fun z => by
      rw [z, ha] at hp
      cases hp
    have hpd : p ≠ d := fun z => by
      rw [z, d3] at hp3
      cases hp3
    have hpr3 : Prs H3 ms us := hpr.keep fun T l h => k3 _ _ h fun z => by
      rw [z, ha] at h
      cases h
    have hS3 : St (SC mg) H3 a d ls [] := ⟨⟨dx, a3⟩, d3⟩
    walk_at "rds"
    refine ⟨p, rfl, ⟨_, SqL.of hp3⟩, for_list (K := K) (a := p) (xs := us) (fun i σ' H' => (∃ y z, σ' = [some (.ref a), some (.str (tx ls)), some (.ref p), y, z]) ∧ Keep1 d H3 H' ∧ H' d = some (.dK (encT (putsP [] (ms.take i))))) ⟨⟨_, _, rfl⟩, Same.keep1 (same_refl _), d3⟩ (fun i σ' H' _ h => SqL.of (h.2.1 _ _ hp3 hpd)) ?_ ?_⟩
    · rintro i x σ' H4 hx ⟨⟨y, z, rfl⟩, k4, t4⟩
      obtain ⟨⟨key, v⟩, hms', ⟨U, rfl, hU⟩⟩ := hpr3.get hx
      have hUd : U ≠ d := fun z => by
        rw [z, d3] at hU
        cases hU
      have hS5 := hS3.keep k4 t4
      obtain ⟨dx5, ho5⟩ := hS5.o
      have hq := hov _ (List.mem_of_getElem? hms')
      have hlen := putsP_len (ms.take i) []
      rw [List.length_take, List.length_nil] at hlen
      refine rd_gtup (SqT.of (k4 _ _ hU hUd)) rfl ?_
      walk_at "rds"
      refine ⟨a, _, _, rfl, ho5, a, d, ls, _, key, v, rfl, hS5, hq.1, hq.2, by omega, fun H6 k6 t6 => ⟨⟨_, _, rfl⟩, k4.trans k6, ?_⟩⟩
      rw [t6, putsP_snoc hms']
    · rintro σ' H4 ⟨_, k4, t4⟩
      rw [← hpr.len, List.take_length] at t4
      have k5 : Keep1 a H H4 := fun b o hb hba => k4 _ _ (k3 _ _ hb hba) fun z => by
        rw [z, hd0] at hb
        cases hb
      exact q d H4 k5 hd0 hda (k4 _ _ a3 hda.symm) t4
theorem mkh_Store_2 (T : Txt K mg) : MakH P w K mg base "Store" (SC mg) 5 (spInitH (SC mg)) := by
  obtain ⟨f, T', fd, F, M, _⟩ := T.d_Store___init__
  obtain ⟨ds, v, b⟩ := F.binds1 (ps := ["self", "letters", "pairs"]) 3 1 (by simp) rfl fun T kV doc pm an cdv ct us its h1 h2 => match us, its, h1, h2 with | [_, _, _], [_], _, _ => ⟨_, rfl, rfl⟩
  cases v
  exact ⟨f, fd, _, M, okh_init T F, T.g_Store, b⟩
theorem make_endH {C p : Addr} {H : Hp} {ls : List Nat} {us : List V} {ms : Tab} {Q : Addr → Hp → Prop} {E : XK} (hl : areB ls = true) (hz : ls.length ≤ 1000) (hp : H p = some (.lst us)) (hpr : Prs H ms us) (hov : ∀ q ∈ ms, Ov ls q.1 ∧ 0 ≤ q.2) (hms : ms.length ≤ 500)
    (q : ∀ x d H', Same H H' → H x = none → H d = none → St C H' x d ls (putsP [] ms) → Q x H') :
    ∀ x dx, H x = none → H dx = none → dx ≠ x → spInitH C [.ref x, .str (tx ls), .ref p] (upd (upd H dx (.own x)) x (.ins C dx [])) (fun v H2 => v = .non ∧ Q x H2) E := by
  intro x dx hx hdx hne
  have s1 : Same H (upd (upd H dx (.own x)) x (.ins C dx [])) := fun b o hb => by
    have h1 : b ≠ x := fun z => by
      rw [z, hx] at hb
      cases hb
    have h2 : b ≠ dx := fun z => by
      rw [z, hdx] at hb
      cases hb
    rw [upd_ne h1, upd_ne h2]
    exact hb
  refine ⟨x, dx, p, ls, us, ms, rfl, upd_same, hl, hz, s1 _ _ hp, hpr.same s1, hov, hms, fun d H' k hd hdx' hx' hd' => ⟨rfl, ?_⟩⟩
  have hd0 := same_none s1 hd
  refine q x d H' (fun b o hb => k _ _ (s1 _ _ hb) fun z => ?_) hx hd0 ⟨⟨dx, hx'⟩, hd'⟩
  rw [z, hx] at hb
  cases hb
theorem meth_copied (T : Txt K mg) : MetH P w K mg base (SC mg) "copied" 7 (spCopied (SC mg)) := metH_of T.k_Store T.a_Store_copied fun f fd F => by
  have CH_Store_2 := mkh_Store_2 (P := P) (w := w) (base := base) T
  refine okH F sc_Store_copied (fun vs H Q E h => ?_) (fun cdv A outer s H vs Q E pe hr hc h => ?_)
  · obtain ⟨a, d, ls, m, rfl, _⟩ := h
    rfl
  · obtain ⟨a, d, ls, m, rfl, hS, hl, hz, hnd, hov, hms, q⟩ := h
    refine ⟨_, (pss_one (ps_ret (pe_mkH CH_Store_2 hr (by decide) hc (by rfl) (pa_cons (pe_fldK (K := K) (by rfl) (pv 0) (by rfl)) (pa_cons (UnH.pe_listItemsH hc (pe_fldK (K := K) (by rfl) (pv 0) (by rfl)) (by rfl) T.m_list (by decide +kernel)) pa_nil))))), ?_⟩
    obtain ⟨dx, ho⟩ := hS.o
    walk_at "rds"
    refine ⟨a, _, dx, _, _, rfl, ho, T.k_Store, T.n_Store_letters, rfl, ?_⟩
    walk_at "rds"
    refine ⟨a, _, dx, _, _, rfl, ho, T.k_Store, T.n_Store_table, rfl, d, _, rfl, hS.t, fun H1 p ts s1 hp hts hpts e1 hpr => ?_⟩
    refine make_endH hl hz e1 (prs_of_items hpr) hov hms (fun x d' H' s2 hx hd hS' => ?_)
    rw [putsP_same m [] hnd, List.nil_append] at hS'
    exact q x d' H' (same_trans s1 s2) (same_none s1 hx) (same_none s1 hd) hS'
end

section
variable {P : Program} {w : World} {K : PySem.W.Frag} {mg : Str → Option Value} {base : Heap} {f : Addr} {fd : FuncData}
/-! ### trials -/
def TF (a t : Addr) : List (Str × V) := [("store", .ref a), ("table", .ref t)]
def spTrInit (C : Addr) : Sp := fun vs H Q _ => ∃ (x dx a : Addr), vs = [.ref x, .ref a] ∧ H x = some (.ins C dx []) ∧ ∀ t H', Keep1 x H H' → H t = none → t ≠ x → H' x = some (.ins C dx (TF a t)) → H' t = some (.dK []) → Q .non H'
theorem ok_trInit (T : Txt K mg) (F : Fun K "__init__" "Trial.__init__" s_Trial___init__ f fd) : FnOk P w K mg base CX0 1 f fd ["self", "store"] (spTrInit (TC mg)) := by
  refine F.ok sc_Trial___init__ (fun vs H Q E h => ?_) (fun cdv A outer s H vs Q E hr h => ?_)
  · obtain ⟨x, dx, a, rfl, _⟩ := h
    rfl
  · obtain ⟨x, dx, a, rfl, hx, q⟩ := h
    refine ⟨_, (pss_cons (ps_fld (pv 0) (pv 1) rfl)
      (pss_one (ps_fld (pv 0) pe_dnewK rfl))), ?_⟩
    walk_at "rds"
    refine ⟨x, _, dx, [], rfl, hx, T.k_Trial, T.n_Trial_store, by show 0 < 1000; decide, ?_⟩
    walk_at "rds"
    refine fun t ht => ?_
    have htx : t ≠ x := fun z => by
      rw [z, upd_same] at ht
      cases ht
    have ht0 : H t = none := by
      rw [upd_ne htx] at ht
      exact ht
    walk_at "rds"
    refine ⟨x, _, dx, _, rfl, by rw [upd_ne htx.symm]; exact upd_same, T.k_Trial, T.n_Trial_table, by show 1 < 1000; decide, ?_⟩
    refine q t _ (fun b o hb hbx => ?_) ht0 htx upd_same (by rw [upd_ne htx, upd_same])
    have hbt : b ≠ t := fun z => by
      rw [z, ht0] at hb
      cases hb
    rw [upd_ne hbx, upd_ne hbt, upd_ne hbx]
    exact hb
theorem mk_Trial (T : Txt K mg) : MakD P w K mg base "Trial" (TC mg) 1 (spTrInit (TC mg)) [] := by
  obtain ⟨f, fd, F, M, b⟩ := T.a_Trial___init__
  exact ⟨f, fd, _, [], M, ok_trInit T F, T.g_Trial, b, .nil⟩
def spTrial (C : Addr) : Sp := fun vs H Q _ => ∃ a : Addr, vs = [.ref a] ∧ ∀ x t dx H', Same H H' → H x = none → H t = none → t ≠ x → H' x = some (.ins C dx (TF a t)) → H' t = some (.dK []) → Q (.ref x) H'
theorem met_trial (T : Txt K mg) : MetG P w K mg base CX0 (SC mg) "trial" ["self"] 3 (spTrial (TC mg)) := metG_of T.k_Store T.a_Store_trial fun f fd F => by
  have C_Trial_1 := mk_Trial (P := P) (w := w) (base := base) T
  refine F.ok sc_Store_trial (fun vs H Q E h => ?_) (fun cdv A outer s H vs Q E hr h => ?_)
  · obtain ⟨a, rfl, _⟩ := h
    rfl
  · obtain ⟨a, rfl, q⟩ := h
    refine ⟨_, (pss_one (ps_ret (pe_mkD C_Trial_1 hr (by decide) (by rfl) (pa_cons (pv 0) pa_nil)))), ?_⟩
    walk_at "rds"
    refine fun x dx hx hdx hne => ?_
    have s1 : Same H (upd (upd H dx (.own x)) x (.ins (TC mg) dx [])) := fun b o hb => by
      have h1 : b ≠ x := fun z => by
        rw [z, hx] at hb
        cases hb
      have h2 : b ≠ dx := fun z => by
        rw [z, hdx] at hb
        cases hb
      rw [upd_ne h1, upd_ne h2]
      exact hb
    refine ⟨x, dx, a, rfl, upd_same, fun t H' k ht htx hx' ht' => ⟨rfl, ?_⟩⟩
    refine q x t dx H' (fun b o hb => k _ _ (s1 _ _ hb) fun z => ?_) hx (same_none s1 ht) htx hx' ht'
    rw [z, hx] at hb
    cases hb
def spEnter (C TC : Addr) : Sp := fun vs H Q _ => ∃ (x dx t a d : Addr) (ls : List Nat) (m : Tab), vs = [.ref x] ∧ H x = some (.ins TC dx (TF a t)) ∧ St C H a d ls m ∧ x ≠ a ∧ ∀ t' H', Keep1 x H H' → H t' = none → H' x = some (.ins TC dx (TF a t')) → H' t' = some (.dK (encT m)) → Q (.ref a) H'
theorem ok_enter (T : Txt K mg) (F : Fun K "__enter__" "Trial.__enter__" s_Trial___enter__ f fd) : FnOk P w K mg base CX0 2 f fd ["self"] (spEnter (SC mg) (TC mg)) := by
  refine F.ok sc_Trial___enter__ (fun vs H Q E h => ?_) (fun cdv A outer s H vs Q E hr h => ?_)
  · obtain ⟨x, dx, t, a, d, ls, m, rfl, _⟩ := h
    rfl
  · obtain ⟨x, dx, t, a, d, ls, m, rfl, hx, hS, hne, q⟩ := h
    refine ⟨_, (pss_cons (ps_fld (pv 0) (pe_callTy call_dictD (by rfl) T.m_dict (by decide +kernel) (pa_cons (pe_fldK (K := K) (by rfl) (pe_fldK (K := K) (by rfl) (pv 0) (by rfl)) (by rfl)) pa_nil)) rfl)
      (pss_one (ps_ret (pe_fldK (K := K) (by rfl) (pv 0) (by rfl))))), ?_⟩
    obtain ⟨da, ho⟩ := hS.o
    walk_at "rds"
    refine ⟨x, _, dx, _, _, rfl, hx, T.k_Trial, T.n_Trial_store, rfl, ?_⟩
    refine ⟨a, _, da, _, _, rfl, ho, T.k_Store, T.n_Store_table, rfl, ?_⟩
    walk_at "rds"
    refine ⟨d, _, rfl, .inl hS.t, fun t' ht' => ?_⟩
    have htx : t' ≠ x := fun z => by
      rw [z, hx] at ht'
      cases ht'
    walk_at "rds"
    refine ⟨x, _, dx, _, rfl, by rw [upd_ne htx.symm]; exact hx, T.k_Trial, T.n_Trial_table, by show 2 < 1000; decide, ?_⟩
    walk_at "rds"
    refine ⟨x, _, dx, _, _, rfl, upd_same, T.k_Trial, T.n_Trial_store, rfl, ?_⟩
    refine q t' _ (fun b o hb hbx => ?_) ht' upd_same (by rw [upd_ne htx, upd_same])
    have hbt : b ≠ t' := fun z => by
      rw [z, ht'] at hb
      cases hb
    rw [upd_ne hbx, upd_ne hbt]
    exact hb
def spExit (C TC : Addr) : Sp := fun vs H Q _ => ∃ (x dxt a t dx d' : Addr) (ls : List Nat) (v1 v2 v3 : V), vs = [.ref x, v1, v2, v3] ∧ H x = some (.ins TC dxt (TF a t)) ∧ H a = some (.ins C dx (SF ls d')) ∧ Q .non (upd H a (.ins C dx (SF ls t)))
theorem ok_exit (T : Txt K mg) (F : Fun K "__exit__" "Trial.__exit__" s_Trial___exit__ f fd) : FnOk P w K mg base CX0 2 f fd ["self", "kind", "value", "trace"] (spExit (SC mg) (TC mg)) := by
  refine F.ok sc_Trial___exit__ (fun vs H Q E h => ?_) (fun cdv A outer s H vs Q E hr h => ?_)
  · obtain ⟨x, dxt, a, t, dx, d', ls, v1, v2, v3, rfl, _⟩ := h
    rfl
  · obtain ⟨x, dxt, a, t, dx, d', ls, v1, v2, v3, rfl, hx, ha, q⟩ := h
    refine ⟨_, (pss_one (ps_fld (pe_fldK (K := K) (by rfl) (pv 0) (by rfl)) (pe_fldK (K := K) (by rfl) (pv 0) (by rfl)) rfl)), ?_⟩
    walk_at "rds"
    refine ⟨x, _, dxt, _, _, rfl, hx, T.k_Trial, T.n_Trial_table, rfl, ?_⟩
    walk_at "rds"
    refine ⟨x, _, dxt, _, _, rfl, hx, T.k_Trial, T.n_Trial_store, rfl, ?_⟩
    refine ⟨a, _, dx, _, rfl, ha, T.k_Store, T.n_Store_table, by show 2 < 1000; decide, ?_⟩
    exact q
theorem okh_exit (T : Txt K mg) (F : Fun K "__exit__" "Trial.__exit__" s_Trial___exit__ f fd) : L2H.FnH P w K mg base CX0 2 f fd ["self", "kind", "value", "trace"] (spExit (SC mg) (TC mg)) := by
  refine okH F sc_Trial___exit__ (fun vs H Q E h => ?_) (fun cdv A outer s H vs Q E pe hr hc h => ?_)
  · obtain ⟨x, dxt, a, t, dx, d', ls, v1, v2, v3, rfl, _⟩ := h
    rfl
  · obtain ⟨x, dxt, a, t, dx, d', ls, v1, v2, v3, rfl, hx, ha, q⟩ := h
    refine ⟨_, (pss_one (ps_fld (pe_fldK (K := K) (by rfl) (pv 0) (by rfl)) (pe_fldK (K := K) (by rfl) (pv 0) (by rfl)) rfl)), ?_⟩
    walk_at "rds"
    refine ⟨x, _, dxt, _, _, rfl, hx, T.k_Trial, T.n_Trial_table, rfl, ?_⟩
    walk_at "rds"
    refine ⟨x, _, dxt, _, _, rfl, hx, T.k_Trial, T.n_Trial_store, rfl, ?_⟩
    refine ⟨a, _, dx, _, rfl, ha, T.k_Store, T.n_Store_table, by show 2 < 1000; decide, ?_⟩
    exact q
/-- what store.within makes of the work's reading -/
def TTwithin (C TC : Addr) : (XK → V → Hp → VK → Prop) → Addr → Hp → VK → XK → Prop := fun tl a H Q E => ∃ (d : Addr) (ls : List Nat) (m : Tab), St C H a d ls m ∧ ∀ x t dxt H2, Same H H2 → H x = none → H t = none → x ≠ t → H2 x = some (.ins TC dxt (TF a t)) → H2 t = some (.dK (encT m)) →
  tl (fun cls e H3 => ∀ σ', UnH.wWith (spExit C TC) x (fun cls d _ H => E cls d H) cls e σ' H3) (.ref a) H2 (fun r H3 => spExit C TC [.ref x, .non, .non, .non] H3 (fun _ H4 => Q r H4) (fun _ _ _ => False))
end
open UnP in
theorem gives_within {X : Cx} {k : Nat} (T : Txt X.K X.mg) (hk : 3 ≤ k) (g : Addr) (cdv : Value) (q : Str) : GivesM X k n_Store_within "Store.within" (defScope s_Store_within) g cdv (defBody s_Store_within) "work" "store" q (TTwithin (SC X.mg) (TC X.mg)) := by
  intro a f c' P' s H Q E tl act hc hr h
  have C_Store_trial := met_trial (P := X.prog) (w := X.w) (base := X.base) T
  obtain ⟨fe, fdE, FE, mE, _, bE⟩ := T.a_Trial___enter__
  obtain ⟨fx, fdX, FX, mX, _, bX⟩ := T.a_Trial___exit__
  refine ⟨_, pss_one (UnH.ps_withRet (i := 2) (Wout := fun cls d _ H => E cls d H) (tb := fun W σ HZ Q => σ[1]? = some (some (.ref f)) ∧ tVar 2 σ HZ fun v H1 => H1 c' = some (CodeH c' q P') ∧ tl (fun cls d H' => ∀ σ', W cls d σ' H') v H1 Q) rfl rfl rfl sc_Store_within.nd rfl rfl (takes_of rfl rfl rfl rfl) hr (by omega) mE (ok_enter T FE) bE mX (ok_exit T FX) (okh_exit T FX) bX (pe_mtG0 C_Store_trial hr hk (pv 0)) fun W pn xe tk _ => act W pn xe _ _ _ _ _ tk (fun cls d σ' H' z => z σ') (pv 2)), ?_⟩
  obtain ⟨d, ls, m, hS, q⟩ := h
  obtain ⟨da, ho⟩ := hS.o
  unfold UnH.tWithRet
  refine ⟨.ref a, rfl, a, da, _, rfl, ho, rfl, ?_⟩
  refine ⟨a, rfl, fun x t dx H1 s1 hx ht hne ex et => ⟨x, dx, _, rfl, ex, ?_⟩⟩
  have hxa : x ≠ a := fun z => by
    rw [z, ho] at hx
    cases hx
  refine ⟨x, dx, t, a, d, ls, m, rfl, ex, hS.same s1, hxa, fun t' H2 k2 ht' ex2 et2 => ?_⟩
  have s2 : Same H H2 := fun b o hb => k2 _ _ (s1 _ _ hb) fun z => by
    rw [z, hx] at hb
    cases hb
  have hxt : x ≠ t' := fun z => by
    rw [z, et2] at ex2
    cases ex2
  exact ⟨rfl, .ref a, rfl, s2 _ _ hc, q x t' dx H2 s2 hx (same_none s1 ht') hxt ex2 et2⟩

section
variable {P : Program} {w : World} {K : PySem.W.Frag} {mg : Str → Option Value} {base : Heap}
/-- the source of draws stands at D, its great cells at L -/
def Deal (D L : Addr) (H : Hp) : Prop := ∃ (cs : List Int) (m : Int), H D = some (.lst [.ref L, .int m]) ∧ H L = some (.lst (cs.map V.int)) ∧ 0 ≤ m ∧ m < 2147483647 ∧ cs.length ≤ 63
theorem Deal.ne {D L : Addr} {H : Hp} (d : Deal D L H) : D ≠ L := by
  obtain ⟨cs, m, h1, h2, _⟩ := d
  refine ne_of h1 h2 fun z => ?_
  have e : [V.ref L, V.int m] = cs.map V.int := by injection z
  cases cs with
  | nil => simp at e
  | cons c r => simp at e
theorem Deal.keep {D L : Addr} {H H' : Hp} (d : Deal D L H) (s : Same H H') : Deal D L H' := by
  obtain ⟨cs, m, h1, h2, h⟩ := d
  exact ⟨cs, m, s _ _ h1, s _ _ h2, h⟩
theorem Deal.new {D L p : Addr} {H : Hp} (d : Deal D L H) (h : H p = none) : p ≠ D ∧ p ≠ L := by
  obtain ⟨cs, m, h1, h2, _⟩ := d
  exact ⟨(ne_of_none h1 h).symm, (ne_of_none h2 h).symm⟩
def spDraw : Sp := fun vs H Q _ => ∃ (D L : Addr) (n : Int), vs = [.ref D, .int n] ∧ Deal D L H ∧ 0 < n ∧ n < 2 ^ 200 ∧ ∀ (k : Int) (H' : Hp), 0 ≤ k → k < n → Keep D L H H' → Deal D L H' → Q (.int k) H'
theorem cl_draw (T : Txt K mg) : Cl P w K mg base "_law_draw" ["_law_deal_here", "_law_many"] 1 spDraw := cl_of T.a__law_draw fun f fd F => by
  refine F.ok sc__law_draw (fun vs H Q E h => ?_) (fun cdv A outer s H vs Q E hr h => ?_)
  · obtain ⟨D, L, n, rfl, _⟩ := h
    rfl
  · obtain ⟨D, L, n, rfl, d, hn, hn2, q⟩ := h
    refine ⟨_, (Evl.pss_cut (ps_while PassesOwn.never (PW.pt (pw_and (pt_cmpR (op_neD hr.units) (pe_ix ix_list (pv 0) pe_int (fun _ _ => rfl)) (pe_lst pa_nil) (nomark _)) (pw_and1 (pt_cmpR op_eq (pe_ix ix_list (pe_ix ix_list (pv 0) pe_int (fun _ _ => rfl)) (pe_un un_neg pe_int) (fun _ _ => rfl)) pe_int (nomark _)))))
      (pss_one (ps_expr (pe_bm0 PySem.F.plainAttrs_list PySem.F.slot_list_pop PySem.F.type_list_pop mt_pop (pe_ix ix_list (pv 0) pe_int (fun _ _ => rfl))))))
      (pss_cons (ps_if (pt_cmpR (op_neD hr.units) (pe_ix ix_list (pv 0) pe_int (fun _ _ => rfl)) (pe_lst pa_nil) (nomark _))
      (pss_cons (ps_set (i := 2) sc__law_draw.nd rfl (Or.inl rfl) (pe_bm0 PySem.F.plainAttrs_list PySem.F.slot_list_pop PySem.F.type_list_pop mt_pop (pe_ix ix_list (pv 0) pe_int (fun _ _ => rfl))))
      (pss_cons (ps_expr (pe_bm PySem.F.plainAttrs_list PySem.F.slot_list_append PySem.F.type_list_append mt_append (pe_ix ix_list (pv 0) pe_int (fun _ _ => rfl)) (pa_cons (pe_op op_fdivW (pv 2) (pv 1)) pa_nil)))
      (pss_one (ps_ret (pe_op op_mod (pe_callTy call_intI (by rfl) T.m_int (by decide +kernel) (pa_cons (pv 2) pa_nil)) (pv 1))))))
      pss_nil)
      (pss_cons (ps_asg (pe_op op_mod (pe_callTy call_intI (by rfl) T.m_int (by decide +kernel) (pa_cons (pe_op op_mulW (pe_ix ix_list (pv 0) pe_int (fun _ _ => rfl)) pe_int) pa_nil)) pe_int) (pg_sub (pv 0) pe_int set_list))
      (pss_one (ps_ret (pe_op op_mod (pe_callTy call_intI (by rfl) T.m_int (by decide +kernel) (pa_cons (pe_op op_fdivW (pe_ix ix_list (pv 0) pe_int (fun _ _ => rfl)) pe_int) pa_nil)) (pv 1))))))), ?_⟩
    obtain ⟨cs, m, hD, hL, hm⟩ := d
    obtain ⟨hm1, hm2, hm3⟩ := hm
    -- the zeros at the end are thrown away
    refine ⟨fun σ H' => ∃ cs' : List Int, σ = [some (.ref D), some (.int n), none] ∧ cs'.length ≤ 63 ∧ Keep D L H H' ∧ H' D = some (.lst [.ref L, .int m]) ∧ H' L = some (.lst (cs'.map V.int)), ?_, ?_⟩
    · refine ⟨fun k σ H' => ∃ cs' : List Int, σ = [some (.ref D), some (.int n), none] ∧ k = cs'.length ∧ cs'.length ≤ 63 ∧ Keep D L H H' ∧ H' D = some (.lst [.ref L, .int m]) ∧ H' L = some (.lst (cs'.map V.int)), ⟨cs.length, cs, rfl, rfl, hm3, Keep.refl H, hD, hL⟩, ?_⟩
      rintro k σ H1 ⟨cs', rfl, rfl, hlen, kp, h1, h2⟩
      walk_at "rds"
      refine rd_ixL (SqL.of h1) (by rfl) ?_
      walk_at "rds"
      refine ⟨Nat.zero_le _, fun e he => ?_⟩
      have s1 : Same H1 (upd H1 e (.lst [])) := same_upd he
      have h1' := s1 _ _ h1
      have h2' := s1 _ _ h2
      have kp' : Keep D L H (upd H1 e (.lst [])) := kp.trans (Keep.of_same s1)
      refine rd_neNil (SqL.of h2') (SqL.of upd_same) ?_
      generalize upd H1 e (.lst []) = H2 at *
      clear s1
      walk_at "rds"
      refine rd_ite (fun hb => ?_) (fun hb => ?_)
      · -- the last cell
        have hne : cs' ≠ [] := by
          rintro rfl
          simp at hb
        obtain ⟨ys, z, rfl⟩ : ∃ ys z, cs' = ys ++ [z] := ⟨cs'.dropLast, cs'.getLast hne, (List.dropLast_concat_getLast hne).symm⟩
        have h2'' : H2 L = some (.lst (ys.map V.int ++ [.int z])) := by rw [h2', List.map_append]; rfl
        walk_at "rds"
        refine rd_ixL (SqL.of h1') (by rfl) ?_
        walk_at "rds"
        refine rd_ixL (SqL.of h2'') (atI_last _ _) ?_
        walk_at "rds"
        refine rd_ite (fun hz => ?_) (fun hz => ?_)
        · refine ⟨fun σ' H' => ∃ cs' : List Int, σ' = [some (.ref D), some (.int n), none] ∧ cs'.length < ys.length + 1 ∧ Keep D L H H' ∧ H' D = some (.lst [.ref L, .int m]) ∧ H' L = some (.lst (cs'.map V.int)), ?_, ?_⟩
          · rintro σ' H' ⟨cs2, e1, e2, e3, e4, e5⟩
            rw [List.length_append] at hlen
            exact ⟨cs2.length, by simpa using e2, cs2, e1, rfl, by simp at hlen; omega, e3, e4, e5⟩
          · walk_at "rds"
            refine rd_ixL (SqL.of h1') (by rfl) ?_
            refine rd_tyL (SqL.of h2'') ?_
            refine rd_pop h2'' ?_
            have hDL : D ≠ L := ne_of h1' h2'' fun z => by
              injection z with z
              cases ys <;> simp at z
            exact ⟨ys, rfl, Nat.lt_succ_self _, kp'.trans (Keep.own (.inr rfl)), by rw [upd_ne hDL]; exact h1', upd_same⟩
        · exact ⟨_, rfl, hlen, kp', h1', h2'⟩
      · exact ⟨_, rfl, hlen, kp', h1', h2'⟩
    · rintro σ' H1 ⟨cs', rfl, hlen, kp, h1, h2⟩
      walk_at "rds"
      refine rd_ixL (SqL.of h1) (by rfl) ?_
      walk_at "rds"
      refine ⟨Nat.zero_le _, fun e he => ?_⟩
      have s1 : Same H1 (upd H1 e (.lst [])) := same_upd he
      have h1' := s1 _ _ h1
      have h2' := s1 _ _ h2
      have kp' : Keep D L H (upd H1 e (.lst [])) := kp.trans (Keep.of_same s1)
      refine rd_neNil (SqL.of h2') (SqL.of upd_same) ?_
      generalize upd H1 e (.lst []) = H2 at *
      clear s1
      have hd : Deal D L H2 := ⟨cs', m, h1', h2', hm1, hm2, hlen⟩
      have hDL := hd.ne
      walk_at "rds"
      refine rd_ite (fun hb => ?_) (fun hb => ?_)
      · have hne : cs' ≠ [] := by
          rintro rfl
          simp at hb
        obtain ⟨ys, z, rfl⟩ : ∃ ys z, cs' = ys ++ [z] := ⟨cs'.dropLast, cs'.getLast hne, (List.dropLast_concat_getLast hne).symm⟩
        have h2'' : H2 L = some (.lst (ys.map V.int ++ [.int z])) := by rw [h2', List.map_append]; rfl
        rw [List.length_append] at hlen
        simp only [List.length_cons, List.length_nil] at hlen
        walk_at "rds"
        refine rd_ixL (SqL.of h1') (by rfl) ?_
        refine rd_tyL (SqL.of h2'') ?_
        refine rd_pop h2'' ?_
        have h1c : upd H2 L (.lst (ys.map V.int)) D = some (.lst [.ref L, .int m]) := by rw [upd_ne hDL]; exact h1'
        walk_at "rds"
        refine rd_ixL (SqL.of h1c) (by rfl) ?_
        refine rd_tyL (SqL.of upd_same) ?_
        walk_at "rds"
        refine rd_I (wide_div hn (b := 200) (by omega) (by decide) (by decide)) ?_
        walk_at "rds"
        refine rd_app upd_same (by rw [List.length_map]; exact small1000 (by omega)) ?_
        walk_at "rds"
        refine rd_I hn ?_
        rw [upd_upd]
        refine q (z % n) _ (Int.emod_nonneg _ (by omega)) (Int.emod_lt_of_pos _ hn) (kp'.trans (Keep.own (.inr rfl))) ⟨ys ++ [z / n], m, by rw [upd_ne hDL]; exact h1', ?_, hm1, hm2, by simpa using hlen⟩
        rw [upd_same, List.map_append]
        rfl
      · walk_at "rds"
        refine rd_ixL (SqL.of h1') (by rfl) ?_
        walk_at "rds"
        refine rd_I (mulW_of (by omega) (by decide)) ?_
        walk_at "rds"
        refine rd_I (by decide) ?_
        walk_at "rds"
        refine rd_setL h1' (by rfl) ?_
        walk_at "rds"
        refine rd_ixL (SqL.of upd_same) (by rfl) ?_
        walk_at "rds"
        refine rd_I (wide_div (b := 10) (by decide) (by decide) (by decide) (by decide)) ?_
        walk_at "rds"
        refine rd_I hn ?_
        refine q _ _ (Int.emod_nonneg _ (by omega)) (Int.emod_lt_of_pos _ hn) (kp'.trans (Keep.own (.inl rfl))) ⟨cs', m * 48271 % 2147483647, upd_same, by rw [upd_ne hDL.symm]; exact h2', Int.emod_nonneg _ (by decide), Int.emod_lt_of_pos _ (by decide), hlen⟩
/-- the source is made -/
def spDeal (K : PySem.W.Frag) : Sp := fun vs H Q _ => ∃ (a : Addr) (ns : List Int) (b : Int), vs = [.ref a, .int b] ∧ SqL K H a (ns.map V.int) ∧ ns.length ≤ 63 ∧ 0 ≤ b ∧ b ≤ 1000 ∧
  ∀ (D L : Addr) (H' : Hp), H D = none → H L = none → Same H H' → Deal D L H' → Q (.ref D) H'
theorem cl_deal (T : Txt K mg) : Cl P w K mg base "_law_deal" ["_law_script", "_law_base"] 1 (spDeal K) := cl_of T.a__law_deal fun f fd F => by
  refine F.ok sc__law_deal (fun vs H Q E h => ?_) (fun cdv A outer s H vs Q E hr h => ?_)
  · obtain ⟨a, ns, b, rfl, _⟩ := h
    rfl
  · obtain ⟨a, ns, b, rfl, hS, hlen, hb0, hb1, q⟩ := h
    refine ⟨_, (pss_cons (ps_setLc (i := 3) (own := [("_law_cell", 2)]) (g := gName 2) (tt := tYes) (by rfl) sc__law_deal.nd rfl rfl (sw_true rfl rfl rfl (by decide +kernel)) (pi_list (pe_slice sl_list (pv 0) (po_some (pv 1)) (po_some pe_int))) (blkOk_by (own := [("_law_cell", 2)]) (N := n__law_deal) (sc := defScope s__law_deal) (by decide +kernel)) (fun _ _ _ _ _ => (pg_name (i := 2) sc__law_deal.nd rfl (Or.inl rfl))) (fun _ _ _ _ _ => pts_nil) (fun _ _ _ _ _ => (pe_callB call_abs (by rfl) T.m_abs (by decide +kernel) (pa_cons (pv 2) pa_nil))))
      (pss_cons (ps_set (i := 4) sc__law_deal.nd rfl (Or.inl rfl) (pe_op op_add pe_int (pe_op op_mulW pe_int (pv 1))))
      (Evl.pss_cut (ps_for PassesOwn.never rfl (pi_list (pv 3)) (pg_name (i := 2) sc__law_deal.nd rfl (Or.inl rfl))
      (pss_one (ps_set (i := 4) sc__law_deal.nd rfl (Or.inl rfl) (pe_op op_mod (pe_callTy call_intI (by rfl) T.m_int (by decide +kernel) (pa_cons (pe_op op_add (pe_op op_mulW (pv 4) pe_int) (pe_op op_mod (pe_callTy call_intI (by rfl) T.m_int (by decide +kernel) (pa_cons (pv 2) pa_nil)) pe_int)) pa_nil)) pe_int))))
      (pss_one (ps_ret (pe_lst (pa_cons (pe_revL (pe_lc (own := [("_law_cell", 2)]) (g := gName 2) (by rfl) sc__law_deal.nd (pi_list (pv 3)) (blkOk_by (own := [("_law_cell", 2)]) (N := n__law_deal) (sc := defScope s__law_deal) (by decide +kernel)) (fun _ _ _ _ _ => (pg_name (i := 2) sc__law_deal.nd rfl (Or.inl rfl))) (fun _ _ _ _ _ => (pts_one (pt_cmpR op_ge (pv 2) (pe_op op_pow pe_int pe_int) (nomark _)))) (fun _ _ _ _ _ => (pv 2)))) (pa_cons (pv 4) pa_nil)))))))), ?_⟩
    walk_at "rds"
    refine rd_slL hS fun p np => ?_
    obtain ⟨zs, ez, hz⟩ := cutV_ints ns (some b) (some 63)
    rw [ez]
    have s1 : Same H (upd H p (.lst (zs.map V.int))) := same_upd np
    have hp : upd H p (.lst (zs.map V.int)) p = some (.lst (zs.map V.int)) := upd_same
    generalize upd H p (.lst (zs.map V.int)) = H1 at *
    refine ⟨_, rfl, ⟨_, SqL.of hp⟩, fun c nc => lc_list (K := K) (a := p) (xs := zs.map V.int) (fun i H' => Same H1 H' ∧ H' c = some (.lst ((zs.take i).map fun z => V.int (if z < 0 then -z else z)))) ⟨same_upd nc, upd_same⟩ (fun i H' _ h => SqL.of (h.1 _ _ hp)) ?_ ?_⟩
    · rintro i x H2 hx ⟨s2, hc⟩
      obtain ⟨z, hz', rfl⟩ := get_map hx
      have hl : i < zs.length := (List.getElem?_eq_some_iff.mp hz').1
      walk_at "rds"
      refine ⟨rfl, ?_⟩
      walk_at "rds"
      refine rd_ite (fun _ => ?_) (fun h => by cases h)
      walk_at "rds"
      refine ⟨z, rfl, _, hc, by rw [List.length_map, List.length_take]; exact small1000 (by omega), same_mut s2 nc, ?_⟩
      rw [upd_same, take_snoc _ hz']
    · rintro H2 ⟨s2, hc0⟩
      obtain ⟨cs, hcs, hc⟩ : ∃ cs : List Int, cs.length ≤ 63 ∧ H2 c = some (.lst (cs.map V.int)) := ⟨zs.map fun z => if z < 0 then -z else z, by rw [List.length_map]; omega, by
        rw [hc0, List.length_map, List.take_length, List.map_map]
        rfl⟩
      have sH : Same H H2 := s1.trans s2
      clear hc0 s1 s2 hp nc np ez hz
      walk_at "rds"
      refine rd_I (mulW_of (by decide) (by omega)) ?_
      walk_at "rds"
      -- the number that is mixed
      refine rd_cut (fun σ' H' => ∃ (y : Option V) (m : Int), σ' = [some (.ref a), some (.int b), y, some (.ref c), some (.int m)] ∧ H' = H2 ∧ 0 ≤ m ∧ m < 2147483647) ?_ ?_
      · walk_at "rds"
        refine ⟨_, rfl, ⟨_, SqL.of hc⟩, for_list (K := K) (a := c) (xs := cs.map V.int) (fun i σ' H' => ∃ (y : Option V) (m : Int), σ' = [some (.ref a), some (.int b), y, some (.ref c), some (.int m)] ∧ H' = H2 ∧ 0 ≤ m ∧ m < 2147483647) ⟨none, 15485863 + 11 * b, rfl, rfl, by omega, by omega⟩ (fun i σ' H' _ h => ?_) ?_ (fun σ' H' h => h)⟩
        · obtain ⟨y, m, _, rfl, _⟩ := h
          exact SqL.of hc
        · rintro i x σ' H' hx ⟨y, m, rfl, rfl, hm1, hm2⟩
          obtain ⟨z, hz', rfl⟩ := get_map hx
          walk_at "rds"
          refine rd_I (mulW_of (by omega) (by decide)) ?_
          walk_at "rds"
          refine rd_I (by decide) ?_
          walk_at "rds"
          refine rd_I (by decide) ?_
          walk_at "rds"
          exact ⟨_, _, rfl, rfl, Int.emod_nonneg _ (by decide), Int.emod_lt_of_pos _ (by decide)⟩
      · rintro σ' H' ⟨y, m, rfl, rfl, hm1, hm2⟩
        walk_at "rds"
        refine ⟨_, rfl, ⟨_, SqL.of hc⟩, fun e ne => lc_list (K := K) (a := c) (xs := cs.map V.int) (fun i H3 => Same H' H3 ∧ ∃ ds : List Int, ds.length ≤ i ∧ H3 e = some (.lst (ds.map V.int))) ⟨same_upd ne, [], Nat.le_refl _, upd_same⟩ (fun i H3 _ h => SqL.of (h.1 _ _ hc)) ?_ ?_⟩
        · rintro i x H3 hx ⟨s3, ds, hd, he⟩
          obtain ⟨z, hz', rfl⟩ := get_map hx
          have hl : i < cs.length := (List.getElem?_eq_some_iff.mp hz').1
          walk_at "rds"
          refine ⟨rfl, ?_⟩
          walk_at "rds"
          refine rd_I ⟨by decide, by decide, by decide⟩ ?_
          walk_at "rds"
          refine rd_ite (fun h0 => ?_) (fun h0 => ?_)
          · walk_at "rds"
            refine ⟨_, he, by rw [List.length_map]; exact small1000 (by omega), same_mut s3 ne, ds ++ [z], by simpa using hd, ?_⟩
            rw [upd_same, List.map_append]
            rfl
          · exact ⟨s3, ds, by omega, he⟩
        · rintro H3 ⟨s3, ds, hd, he⟩
          rw [List.length_map] at hd
          refine ⟨e, _, rfl, SqL.of he, fun l nl => ?_⟩
          have e1 : (ds.map V.int).reverse = ds.reverse.map V.int := by rw [List.map_reverse]
          rw [e1]
          walk_at "rds"
          refine ⟨(by show 2 ≤ sizeLine; decide), fun d nd => ?_⟩
          have s4 : Same H3 (upd H3 l (.lst (ds.reverse.map V.int))) := same_upd nl
          have s5 := same_upd (o := .lst [V.ref l, V.int m]) nd
          have nl2 : H l = none := (sH.trans s3).free nl
          refine q d l _ ((sH.trans (s3.trans s4)).free nd) nl2 (sH.trans (s3.trans (s4.trans s5))) ⟨ds.reverse, m, upd_same, ?_, hm1, hm2, by rw [List.length_reverse]; omega⟩
          rw [upd_ne (ne_of_none upd_same nd), upd_same]
/-- a sequence to pick from: a list, or a text by its sgs -/
def SeqV (K : PySem.W.Frag) (H : Hp) (D L : Addr) (v : V) (ys : List V) : Prop := (∃ a, v = .ref a ∧ a ≠ D ∧ a ≠ L ∧ SqL K H a ys) ∨ (∃ l, v = .str (tx l) ∧ ys = sgs l)
def spPick (K : PySem.W.Frag) : Sp := fun vs H Q _ => ∃ (D L : Addr) (v : V) (ys : List V), vs = [.ref D, v] ∧ Deal D L H ∧ SeqV K H D L v ys ∧ 0 < ys.length ∧ ys.length ≤ 1000 ∧ ∀ (x : V) (H' : Hp), x ∈ ys → Keep D L H H' → Deal D L H' → Q x H'
theorem keep_seq {K : PySem.W.Frag} {H H' : Hp} {D L a : Addr} {ys : List V} (k : Keep D L H H') (h1 : a ≠ D) (h2 : a ≠ L) (h : SqL K H a ys) : SqL K H' a ys := by
  rcases h with (h | ⟨o, h⟩) | h
  · exact .inl (.inl (k _ _ h h1 h2))
  · exact .inl (.inr ⟨o, k _ _ h h1 h2⟩)
  · exact .inr h
theorem cl_pick (T : Txt K mg) : Cl P w K mg base "_law_pick" ["_law_deal_here", "_law_some"] 2 (spPick K) := cl_of T.a__law_pick fun f fd F => by
  have C__law_draw := cl_draw (P := P) (w := w) (base := base) T
  refine F.ok sc__law_pick (fun vs H Q E h => ?_) (fun cdv A outer s H vs Q E hr h => ?_)
  · obtain ⟨D, L, v, ys, rfl, _⟩ := h
    rfl
  · obtain ⟨D, L, v, ys, rfl, hd, hS, h0, h1, q⟩ := h
    refine ⟨_, (pss_one (ps_ret (pe_ix ix_any (pv 1) (pe_cl C__law_draw (hr.mono (by decide)) (by rfl) (pa_cons (pv 0) (pa_cons (pe_callB call_lenA (by rfl) T.m_len (by decide +kernel) (pa_cons (pv 1) pa_nil)) pa_nil))) (fun _ _ => rfl)))), ?_⟩
    walk_at "rds"
    refine rd_lenA (ys := ys) ?_ ?_
    · rcases hS with ⟨a, rfl, h2, h3, h4⟩ | ⟨l, rfl, rfl⟩
      · exact .inl ⟨a, rfl, h4⟩
      · exact .inr ⟨l, rfl, rfl, by rw [← sgs_len]; exact Nat.le_of_lt (small1000 h1)⟩
    walk_at "rds"
    refine ⟨D, L, _, rfl, hd, by omega, by omega, fun k H' hk1 hk2 kp hd' => ?_⟩
    obtain ⟨j, rfl⟩ := Int.eq_ofNat_of_zero_le hk1
    have hj : j < ys.length := by omega
    refine rd_ixA (ys := ys) (j := j) (x := ys[j]) ?_ (List.getElem?_eq_getElem hj) ?_
    · rcases hS with ⟨a, rfl, h2, h3, h4⟩ | ⟨l, rfl, rfl⟩
      · exact .inl ⟨a, rfl, keep_seq kp h2 h3 h4⟩
      · exact .inr ⟨l, rfl, rfl, by rw [← sgs_len]; exact Nat.le_of_lt (small1000 h1)⟩
    · exact q _ _ (List.getElem_mem hj) kp hd'
end
section
variable {P : Program} {w : World} {K : PySem.W.Frag} {mg : Str → Option Value} {base : Heap}
theorem alphabet_nodup : alphabet.Nodup := by decide
def spLetters : Sp := fun vs H Q _ => ∃ (D L : Addr) (n : Int), vs = [.ref D, .int n] ∧ Deal D L H ∧ 2 ≤ n ∧ n ≤ 39 ∧
  ∀ (ls : List Nat) (H' : Hp), 2 ≤ ls.length → (ls.length : Int) ≤ n → ls.Pairwise (· < ·) → (∀ c ∈ ls, c ∈ alphabet) → Keep D L H H' → Deal D L H' → Q (.str (tx ls)) H'
theorem cl_letters (T : Txt K mg) : Cl P w K mg base "_law_letters" ["_law_deal_here", "_law_most"] 2 spLetters := cl_of T.a__law_letters fun f fd F => by
  have C__law_draw := cl_draw (P := P) (w := w) (base := base) T
  refine F.ok sc__law_letters (fun vs H Q E h => ?_) (fun cdv A outer s H vs Q E hr h => ?_)
  · obtain ⟨D, L, v, rfl, _⟩ := h
    rfl
  · obtain ⟨D, L, n, rfl, hd, h0, h1, q⟩ := h
    refine ⟨_, (pss_cons (ps_par (i := 2) (j := 3) (by rfl) sc__law_letters.nd rfl rfl (by decide) rfl rfl (pa_cons (pe_callTy (call_listX rfl) (by rfl) T.m_list (by decide +kernel) (pa_cons (pe_strX [45, 46, 47, 48, 49, 50, 51, 52, 53, 54, 55, 56, 57, 95, 97, 98, 99, 100, 101, 102, 103, 104, 105, 106, 107, 108, 109, 110, 111, 112, 113, 114, 115, 116, 117, 118, 119, 120, 121, 122] (by decide +kernel)) pa_nil)) (pa_cons (pe_lst pa_nil) pa_nil)) (by rfl))
      (Evl.pss_cut (ps_for PassesOwn.never rfl (pi_range1 (by rfl) T.m_range (pa_cons (pe_op op_add pe_int (pe_cl C__law_draw (hr.mono (by decide)) (by rfl) (pa_cons (pv 0) (pa_cons (pe_op op_sub (pv 1) pe_int) pa_nil)))) pa_nil)) (pg_name (i := 4) sc__law_letters.nd rfl (Or.inl rfl))
      (pss_one (ps_expr (pe_bm PySem.F.plainAttrs_list PySem.F.slot_list_append PySem.F.type_list_append mt_append (pv 3) (pa_cons (pe_bm PySem.F.plainAttrs_list PySem.F.slot_list_pop PySem.F.type_list_pop mt_popAt (pv 2) (pa_cons (pe_cl C__law_draw (hr.mono (by decide)) (by rfl) (pa_cons (pv 0) (pa_cons (pe_callB call_lenQ (by rfl) T.m_len (by decide +kernel) (pa_cons (pv 2) pa_nil)) pa_nil))) pa_nil)) pa_nil)))))
      (pss_one (ps_ret (pe_bm PySem.F.plainAttrs_str PySem.F.slot_str_join PySem.F.type_str_join mt_joinX (pe_strX [] (by decide +kernel)) (pa_cons (pe_callB cr_sortedT (by rfl) T.m_sorted (by decide +kernel) (pa_cons (pe_lc (own := [("_law_sign", 5)]) (g := gName 5) (tt := tYes) (by rfl) sc__law_letters.nd (pi_list (pv 3)) (blkOk_by (own := [("_law_sign", 5)]) (N := n__law_letters) (sc := defScope s__law_letters) (by decide +kernel)) (fun _ _ _ _ _ => (pg_name (i := 5) sc__law_letters.nd rfl (Or.inl rfl))) (fun _ _ _ _ _ => pts_nil) (fun _ _ _ _ _ => (pe_callTy call_strS (by rfl) T.m_str (by decide +kernel) (pa_cons (pv 5) pa_nil)))) pa_nil)) pa_nil)))))), ?_⟩
    walk_at "rds"
    refine rd_listX (l := alphabet) (by decide) fun s ns => ?_
    have s1 : Same H (upd H s (.lst (sgs alphabet))) := same_upd ns
    have hs1 : upd H s (.lst (sgs alphabet)) s = some (.lst (sgs alphabet)) := upd_same
    generalize upd H s (.lst (sgs alphabet)) = H1 at *
    walk_at "rds"
    refine ⟨Nat.zero_le _, fun g ng => ?_⟩
    have s2 : Same H1 (upd H1 g (.lst [])) := same_upd ng
    have hg1 : upd H1 g (.lst []) g = some (.lst []) := upd_same
    have hs2 := s2 _ _ hs1
    have hgs : g ≠ s := (ne_of_none hs1 ng).symm
    have ng0 : H g = none := s1.free ng
    generalize upd H1 g (.lst []) = H2 at *
    walk_at "rds"
    have hd2 := hd.keep (s1.trans s2)
    have sH := s1.trans s2
    obtain ⟨cs, m, hD, hL, _⟩ := id hd
    have sD : s ≠ D := (ne_of_none hD ns).symm
    have sL : s ≠ L := (ne_of_none hL ns).symm
    have gD : g ≠ D := (ne_of_none hD ng0).symm
    have gL : g ≠ L := (ne_of_none hL ng0).symm
    clear hD hL
    refine rd_cut (fun σ' H' => ∃ (y : Option V) (fs : List Nat), σ' = [some (.ref D), some (.int n), some (.ref s), some (.ref g), y, none] ∧ 2 ≤ fs.length ∧ (fs.length : Int) ≤ n ∧ fs.Nodup ∧ (∀ c ∈ fs, c ∈ alphabet) ∧ Keep D L H H' ∧ Deal D L H' ∧ H' g = some (.lst (sgs fs))) ?_ ?_
    · walk_at "rds"
      refine ⟨D, L, _, rfl, hd2, by omega, by omega, fun k0 Hk hk01 hk02 kpk hdk => ?_⟩
      walk_at "rds"
      refine ⟨2 + k0, rfl, by omega, by omega, for_range (lo := 0) (n := (2 + k0).toNat) (fun i σ' H' => ∃ (y : Option V) (fs zs : List Nat), σ' = [some (.ref D), some (.int n), some (.ref s), some (.ref g), y, none] ∧ fs.length = i ∧ (zs ++ fs).Perm alphabet ∧ Keep D L H H' ∧ Deal D L H' ∧ H' g = some (.lst (sgs fs)) ∧ H' s = some (.lst (sgs zs)))
        ⟨none, [], alphabet, rfl, rfl, by rw [List.append_nil], (Keep.of_same sH).trans kpk, hdk, kpk _ _ hg1 gD gL, kpk _ _ hs2 sD sL⟩ ?_ ?_⟩
      · rintro i σ' H' hi ⟨y, fs, zs, rfl, hl, hp, kp, hd', hg', hs'⟩
        have hlen : zs.length + fs.length = 40 := by
          have := hp.length_eq
          rw [List.length_append] at this
          exact this
        walk_at "rds"
        refine rd_tyL (SqL.of hg') ?_
        walk_at "rds"
        refine rd_tyL (SqL.of hs') ?_
        walk_at "rds"
        refine rd_lenL (SqL.of hs') ?_
        walk_at "rds"
        rw [sgs_len]
        refine ⟨D, L, _, rfl, hd', by omega, by omega, fun k H3 hk1 hk2 kp3 hd3 => ?_⟩
        obtain ⟨j, rfl⟩ := Int.eq_ofNat_of_zero_le hk1
        have hj : j < zs.length := by omega
        have hs3 := kp3 _ _ hs' sD sL
        have hg3 := kp3 _ _ hg' gD gL
        walk_at "rds"
        refine rd_popAt (i := j) (y := V.str (tx [zs[j]])) hs3 (by omega) (by unfold sgs; rw [List.getElem?_map, List.getElem?_eq_getElem hj]; rfl) ?_
        rw [sgs_erase]
        have hd4 : Deal D L (upd H3 s (.lst (sgs (zs.eraseIdx j)))) := by
          obtain ⟨c1, m1, a1, a2, a3⟩ := hd3
          exact ⟨c1, m1, by rw [upd_ne sD.symm]; exact a1, by rw [upd_ne sL.symm]; exact a2, a3⟩
        have kp4 : Keep D L H (upd H3 s (.lst (sgs (zs.eraseIdx j)))) := (kp.trans kp3).mut ns
        have hg4 : upd H3 s (.lst (sgs (zs.eraseIdx j))) g = some (.lst (sgs fs)) := by rw [upd_ne hgs]; exact hg3
        have hs4 : upd H3 s (.lst (sgs (zs.eraseIdx j))) s = some (.lst (sgs (zs.eraseIdx j))) := upd_same
        generalize upd H3 s (.lst (sgs (zs.eraseIdx j))) = H4 at *
        walk_at "rds"
        refine rd_app hg4 (by rw [sgs_len]; exact small1000 (by omega)) ?_
        refine ⟨_, fs ++ [zs[j]], zs.eraseIdx j, rfl, by rw [List.length_append]; simp; exact hl, ?_, kp4.mut ng0, ?_, ?_, ?_⟩
        · have e1 := eraseIdx_perm (List.getElem?_eq_getElem hj)
          have e2 : (zs.eraseIdx j ++ (fs ++ [zs[j]])).Perm ((zs[j] :: zs.eraseIdx j) ++ fs) := by
            rw [← List.append_assoc]
            exact (List.perm_append_singleton _ _)
          exact e2.trans ((e1.append_right fs).trans hp)
        · obtain ⟨c1, m1, a1, a2, a3⟩ := hd4
          exact ⟨c1, m1, by rw [upd_ne gD.symm]; exact a1, by rw [upd_ne gL.symm]; exact a2, a3⟩
        · rw [upd_same]
          unfold sgs
          rw [List.map_append]
          rfl
        · rw [upd_ne hgs.symm]
          exact hs4
      · rintro σ' H' ⟨y, fs, zs, rfl, hl, hp, kp, hd', hg', hs'⟩
        have nd : (zs ++ fs).Nodup := hp.nodup_iff.mpr alphabet_nodup
        exact ⟨y, fs, rfl, by omega, by omega, (List.nodup_append.mp nd).2.1, fun c hc => hp.mem_iff.mp (List.mem_append_right _ hc), kp, hd', hg'⟩
    · rintro σ' H' ⟨y, fs, rfl, hl2, hl, nd, hmem, kp, hd', hg'⟩
      walk_at "rds"
      refine ⟨_, rfl, ⟨_, SqL.of hg'⟩, fun e ne => lc_list (K := K) (a := g) (xs := sgs fs) (fun i H3 => Same H' H3 ∧ H3 e = some (.lst (sgs (fs.take i)))) ⟨same_upd ne, upd_same⟩ (fun i H3 _ h => SqL.of (h.1 _ _ hg')) ?_ ?_⟩
      · rintro i x H3 hx ⟨s3, he⟩
        obtain ⟨c, hc, rfl⟩ := get_map hx
        have hl' : i < fs.length := (List.getElem?_eq_some_iff.mp hc).1
        walk_at "rds"
        refine ⟨rfl, ?_⟩
        walk_at "rds"
        refine rd_ite (fun _ => ?_) (fun h => by cases h)
        walk_at "rds"
        refine ⟨_, he, by rw [sgs_len, List.length_take]; exact small1000 (by omega), same_mut s3 ne, ?_⟩
        rw [upd_same]
        unfold sgs
        rw [take_snoc _ hc]
      · rintro H3 ⟨s3, he⟩
        rw [sgs_len, List.take_length] at he
        have he' : H3 e = some (.lst ((fs.map fun c => tx [c]).map V.str)) := by rw [he, List.map_map]; rfl
        walk_at "rds"
        refine ⟨e, _, rfl, SqL.of he', fun ys p hp hso np => ?_⟩
        obtain ⟨ks, rfl, hk, hlt⟩ := sorted_signs hp hso nd
        walk_at "rds"
        refine rd_joinX (ls := ks.map fun c => [c]) (SqL.of (by rw [upd_same, List.map_map, List.map_map]; rfl)) ?_ ?_
        · have : (List.map List.length (ks.map fun c => [c])).sum = ks.length := by
            rw [List.map_map]
            have : (List.length ∘ fun c : Nat => [c]) = fun _ => 1 := rfl
            rw [this, List.map_const', List.sum_replicate_nat]
            omega
          rw [this, hk.length_eq]
          omega
        · rw [flat_ones]
          have kp3 : Keep D L H (upd H3 p (.lst ((ks.map fun c => tx [c]).map V.str))) := kp.trans (Keep.of_same (s3.trans (same_upd np)))
          exact q ks _ (by rw [hk.length_eq]; exact hl2) (by rw [hk.length_eq]; exact hl) hlt (fun c hc => hmem c (hk.mem_iff.mp hc)) kp3 (hd'.keep (s3.trans (same_upd np)))
end

section
variable {P : Program} {w : World} {K : PySem.W.Frag} {mg : Str → Option Value} {base : Heap}
def spText : Sp := fun vs H Q _ => ∃ (D L : Addr) (ls : List Nat) (n : Int), vs = [.ref D, .str (tx ls), .int n] ∧ Deal D L H ∧ ls ≠ [] ∧ ls.length ≤ 100 ∧ 0 ≤ n ∧ n ≤ 100 ∧
  ∀ (t : List Nat) (H' : Hp), (∀ c ∈ t, c ∈ ls) → (t.length : Int) ≤ n → Keep D L H H' → Deal D L H' → Q (.str (tx t)) H'
theorem cl_text (T : Txt K mg) : Cl P w K mg base "_law_text" ["_law_deal_here", "_law_letters_here", "_law_most"] 3 spText := cl_of T.a__law_text fun f fd F => by
  have C__law_draw := cl_draw (P := P) (w := w) (base := base) T
  have C__law_pick := cl_pick (P := P) (w := w) (base := base) T
  refine F.ok sc__law_text (fun vs H Q E h => ?_) (fun cdv A outer s H vs Q E hr h => ?_)
  · obtain ⟨D, L, ls, n, rfl, _⟩ := h
    rfl
  · obtain ⟨D, L, ls, n, rfl, hd, hne, hls, h0, h1, q⟩ := h
    have hpos : 0 < ls.length := List.length_pos_iff.mpr hne
    refine ⟨_, (pss_cons (ps_par (i := 3) (j := 4) (by rfl) sc__law_text.nd rfl rfl (by decide) rfl rfl (pa_cons (pe_cl C__law_draw (hr.mono (by decide)) (by rfl) (pa_cons (pv 0) (pa_cons (pe_op op_add (pv 2) pe_int) pa_nil))) (pa_cons (pe_cl C__law_draw (hr.mono (by decide)) (by rfl) (pa_cons (pv 0) (pa_cons pe_int pa_nil))) pa_nil)) (by rfl))
      (pss_cons (ps_set (i := 5) sc__law_text.nd rfl (Or.inl rfl) (pe_ix ix_list (pe_lst (pa_cons (pv 3) (pa_cons (pv 3) (pa_cons pe_int (pa_cons pe_int pa_nil))))) (pv 4) (fun _ _ => rfl)))
      (pss_cons (ps_set (i := 6) sc__law_text.nd rfl (Or.inl rfl) (pe_bm PySem.F.plainAttrs_str PySem.F.slot_str_join PySem.F.type_str_join mt_joinX (pe_strX [] (by decide +kernel)) (pa_cons (pe_lc (own := [("_law_k", 7)]) (g := gName 7) (tt := tYes) (by rfl) sc__law_text.nd (pi_range1 (by rfl) T.m_range (pa_cons (pv 5) pa_nil)) (blkOk_by (own := [("_law_k", 7)]) (N := n__law_text) (sc := defScope s__law_text) (by decide +kernel)) (fun _ _ _ _ _ => (pg_name (i := 7) sc__law_text.nd rfl (Or.inl rfl))) (fun _ _ _ _ _ => pts_nil) (fun _ _ _ _ _ => (pe_cl C__law_pick (hr.mono (by decide)) (by rfl) (pa_cons (pv 0) (pa_cons (pv 1) pa_nil))))) pa_nil)))
      (pss_one (ps_ret (pe_ifExp (pt_cmpR op_lt (pv 4) pe_int (nomark _)) (pv 6) (pe_slice sl_strX (pe_op op_mulT (pv 6) (pv 3)) po_none (po_some (pv 3))))))))), ?_⟩
    walk_at "rds"
    refine ⟨D, L, _, rfl, hd, by omega, by omega, fun k H1 hk1 hk2 kp hd1 => ?_⟩
    walk_at "rds"
    refine ⟨D, L, _, rfl, hd1, by omega, by decide, fun fo H2 hf1 hf2 kp2 hd2 => ?_⟩
    walk_at "rds"
    refine ⟨by show 4 ≤ sizeLine; decide, fun p hp => ?_⟩
    obtain ⟨m, hm, hm0, hm1, hmf⟩ : ∃ m, atI [V.int k, V.int k, V.int 1, V.int 2] fo = some (.int m) ∧ 0 ≤ m ∧ m ≤ 101 ∧ (fo < 2 → m = k) := by
      rcases (show fo = 0 ∨ fo = 1 ∨ fo = 2 ∨ fo = 3 by omega) with rfl | rfl | rfl | rfl
      · exact ⟨k, rfl, hk1, by omega, fun _ => rfl⟩
      · exact ⟨k, rfl, hk1, by omega, fun _ => rfl⟩
      · exact ⟨1, rfl, by omega, by omega, fun h => by omega⟩
      · exact ⟨2, rfl, by omega, by omega, fun h => by omega⟩
    have s3 : Same H2 (upd H2 p (.lst [.int k, .int k, .int 1, .int 2])) := same_upd hp
    walk_at "rds"
    refine rd_ixL (SqL.of upd_same) hm ?_
    walk_at "rds"
    have hd3 := hd2.keep s3
    have kp3 := (kp.trans kp2).trans (Keep.of_same s3)
    generalize upd H2 p (.lst [.int k, .int k, .int 1, .int 2]) = H3 at hd3 kp3 ⊢
    clear s3 hd2 hd1 kp kp2
    refine ⟨m, rfl, by omega, by omega, fun e ne => lc_range (lo := 0) (n := m.toNat) (fun i H4 => ∃ t : List Nat, t.length = i ∧ (∀ c ∈ t, c ∈ ls) ∧ Keep D L H3 H4 ∧ Deal D L H4 ∧ H4 e = some (.lst (sgs t))) ⟨[], rfl, (fun _ h => by cases h), Keep.of_same (same_upd ne), hd3.keep (same_upd ne), upd_same⟩ ?_ ?_⟩
    · rintro i H4 hi ⟨t, ht, hmem, kp4, hd4, he⟩
      obtain ⟨cs, mm, hD, hL, _⟩ := id hd3
      have eD : e ≠ D := (ne_of_none hD ne).symm
      have eL : e ≠ L := (ne_of_none hL ne).symm
      walk_at "rds"
      refine ⟨rfl, ?_⟩
      walk_at "rds"
      refine rd_ite (fun _ => ?_) (fun h => by cases h)
      walk_at "rds"
      refine ⟨D, L, _, sgs ls, rfl, hd4, .inr ⟨ls, rfl, rfl⟩, by rw [sgs_len]; exact hpos, by rw [sgs_len]; omega, fun x H5 hx kp5 hd5 => ?_⟩
      obtain ⟨c, hc, rfl⟩ := List.mem_map.mp hx
      have he4 := kp5 _ _ he eD eL
      refine ⟨_, he4, by rw [sgs_len]; exact small1000 (by omega), t ++ [c], by simp [ht], ?_, (kp4.trans kp5).mut ne, ?_, ?_⟩
      · intro d hd'
        rcases List.mem_append.mp hd' with h | h
        · exact hmem d h
        · rw [List.mem_singleton.mp h]; exact hc
      · obtain ⟨c1, m1, a1, a2, a3⟩ := hd5
        exact ⟨c1, m1, by rw [upd_ne eD.symm]; exact a1, by rw [upd_ne eL.symm]; exact a2, a3⟩
      · rw [upd_same]
        unfold sgs
        rw [List.map_append]
        rfl
    · rintro H4 ⟨t, ht, hmem, kp4, hd4, he⟩
      walk_at "rds"
      refine rd_joinX (ls := t.map fun c => [c]) (SqL.of (by rw [he, List.map_map]; rfl)) ?_ ?_
      · have : (List.map List.length (t.map fun c => [c])).sum = t.length := by
          rw [List.map_map]
          have : (List.length ∘ fun c : Nat => [c]) = fun _ => 1 := rfl
          rw [this, List.map_const', List.sum_replicate_nat]
          omega
        rw [this]
        omega
      · rw [flat_ones]
        walk_at "rds"
        refine rd_ite (fun hf => ?_) (fun hf => ?_)
        · have e1 := hmf (of_decide_eq_true hf)
          walk_at "rds"
          exact q t _ hmem (by omega) (kp3.trans kp4) hd4
        · walk_at "rds"
          obtain ⟨j, rfl⟩ := Int.eq_ofNat_of_zero_le hk1
          have hml : t.length * j ≤ 101 * 101 := Nat.mul_le_mul (by omega) (by omega)
          refine rd_mulX (by omega) (by omega) (by rw [Int.toNat_natCast]; omega) ?_
          walk_at "rds"
          rw [Int.toNat_natCast]
          refine rd_slX (by rw [reps_len, Nat.mul_comm]; exact Nat.le_trans hml (by decide)) ?_
          rw [cutL_take]
          exact q _ _ (fun c hc => hmem c (reps_mem (List.mem_of_mem_take hc))) (by rw [List.length_take]; omega) (kp3.trans kp4) hd4
def spValue : Sp := fun vs H Q _ => ∃ D L : Addr, vs = [.ref D] ∧ Deal D L H ∧ ∀ (v : Int) (H' : Hp), 0 ≤ v → v < 10 ^ 18 → Keep D L H H' → Deal D L H' → Q (.int v) H'
theorem cl_value (T : Txt K mg) : Cl P w K mg base "_law_value" ["_law_deal_here"] 2 spValue := cl_of T.a__law_value fun f fd F => by
  have C__law_draw := cl_draw (P := P) (w := w) (base := base) T
  refine F.ok sc__law_value (fun vs H Q E h => ?_) (fun cdv A outer s H vs Q E hr h => ?_)
  · obtain ⟨D, L, rfl, _⟩ := h
    rfl
  · obtain ⟨D, L, rfl, hd, q⟩ := h
    refine ⟨_, (pss_cons (ps_set (i := 1) sc__law_value.nd rfl (Or.inl rfl) (pe_cl C__law_draw (hr.mono (by decide)) (by rfl) (pa_cons (pv 0) (pa_cons pe_int pa_nil))))
      (pss_cons (ps_if (pt_cmpR op_eq (pv 1) pe_int (nomark _))
      (pss_one (ps_ret (pe_op op_sub (pe_op op_sub (pe_op op_pow pe_int pe_int) pe_int) (pe_cl C__law_draw (hr.mono (by decide)) (by rfl) (pa_cons (pv 0) (pa_cons pe_int pa_nil))))))
      pss_nil)
      (pss_one (ps_ret (pe_ix ix_list (pe_lst (pa_cons (pe_cl C__law_draw (hr.mono (by decide)) (by rfl) (pa_cons (pv 0) (pa_cons pe_int pa_nil))) (pa_cons (pe_cl C__law_draw (hr.mono (by decide)) (by rfl) (pa_cons (pv 0) (pa_cons pe_int pa_nil))) pa_nil))) (pe_callTy call_intB (by rfl) T.m_int (by decide +kernel) (pa_cons (pe_cmpR op_eq (pv 1) pe_int (nomark _)) pa_nil)) (fun _ _ => rfl)))))), ?_⟩
    walk_at "rds"
    refine ⟨D, L, _, rfl, hd, by decide, by decide, fun k H1 hk1 hk2 kp hd1 => ?_⟩
    walk_at "rds"
    have e5 : decide (V.int k = V.int 5) = decide (k = 5) := by
      rw [decide_eq_decide]
      exact ⟨fun h => V.int.inj h, fun h => by rw [h]⟩
    rw [e5]
    refine rd_ite (fun h5 => ?_) (fun h5 => ?_)
    · walk_at "rds"
      refine rd_I ⟨by decide, by decide, by decide⟩ ?_
      walk_at "rds"
      refine ⟨D, L, _, rfl, hd1, by decide, by decide, fun j H2 hj1 hj2 kp2 hd2 => ?_⟩
      walk_at "rds"
      have e18 : ((10 : Int) ^ (18 : Int).toNat) = 10 ^ 18 := rfl
      exact q _ _ (by rw [e18]; omega) (by rw [e18]; omega) (kp.trans kp2) hd2
    · walk_at "rds"
      refine ⟨D, L, _, rfl, hd1, by decide, by decide, fun j H2 hj1 hj2 kp2 hd2 => ?_⟩
      walk_at "rds"
      refine ⟨D, L, _, rfl, hd2, by decide, by decide, fun i H3 hi1 hi2 kp3 hd3 => ?_⟩
      walk_at "rds"
      refine ⟨by show 2 ≤ sizeLine; decide, fun p hp => ?_⟩
      walk_at "rds"
      have s4 : Same H3 (upd H3 p (.lst [.int j, .int i])) := same_upd hp
      have kp4 := ((kp.trans kp2).trans kp3).trans (Keep.of_same s4)
      have hd4 := hd3.keep s4
      have hcases : ∀ b : Bool, ∃ v : Int, atI [V.int j, V.int i] (if b = true then 1 else 0) = some (.int v) ∧ 0 ≤ v ∧ v < 10 ^ 18 := fun b => by
        cases b
        · exact ⟨j, rfl, hj1, by omega⟩
        · exact ⟨i, rfl, hi1, by omega⟩
      obtain ⟨v, hv, hv0, hv1⟩ := hcases (decide (V.int k = V.int 4))
      refine rd_ixL (SqL.of upd_same) hv ?_
      exact q v _ hv0 hv1 kp4 hd4
end

section
variable {P : Program} {w : World} {K : PySem.W.Frag} {mg : Str → Option Value} {base : Heap}
/-- [str(one) for one in table]: what the list holds at each turn -/
def KL (H : Hp) (d e : Addr) (od : Obj) (m : Tab) (i : Nat) (H' : Hp) : Prop := (∀ b o, H b = some o → b ≠ d → H' b = some o) ∧ H' d = some (.frz od (.dK (encT m))) ∧ H' e = some (.lst (((keysT m).take i).map fun k => V.str (tx k)))
theorem KL.step {H : Hp} {d e : Addr} {od : Obj} {m : Tab} {i : Nat} {H' : Hp} {key : List Nat} (h : KL H d e od m i H') (ne : upd H d (.frz od (.dK (encT m))) e = none) (hm : m.length ≤ 1000) (hk : (keysT m)[i]? = some key) :
    ∃ acc, H' e = some (.lst acc) ∧ acc.length < sizeLine ∧ KL H d e od m (i + 1) (upd H' e (.lst (acc ++ [.str (tx key)]))) := by
  obtain ⟨k1, k2, k3⟩ := h
  have hed : e ≠ d := fun z => by
    rw [z, upd_same] at ne
    cases ne
  have hee : H e = none := by
    rw [upd_ne hed] at ne
    exact ne
  have hkl := keys_len m
  refine ⟨_, k3, by rw [List.length_map, List.length_take]; exact small1000 (by omega), fun b o hb hbd => ?_, ?_, ?_⟩
  · have hbe : b ≠ e := fun z => by
      rw [z, hee] at hb
      cases hb
    rw [upd_ne hbe]
    exact k1 b o hb hbd
  · rw [upd_ne hed.symm]
    exact k2
  · rw [upd_same, List.take_add_one, hk, Option.toList_some, List.map_append]
    rfl
theorem strs_of_keys {H : Hp} {d e : Addr} {m : Tab} {od : Obj} {g : TG} {tt : TT} {te : TE} {vs : List Nat} {σ : L2.St} {Qd : Hp → Prop} (hd : H d = some (.dK (encT m))) (ne : upd H d (.frz od (.dK (encT m))) e = none)
    (hq : ∀ H2, Same H H2 → H2 e = some (.lst ((keysT m).map fun k => V.str (tx k))) → ∀ H3, H3 d = some (.frz od (.dK (encT m))) → upd H3 d (.dK (encT m)) = H2 → Qd H3)
    (hs : ∀ i key H2, (keysT m)[i]? = some key → KL H d e od m i H2 → g (.str (tx key)) (wipe σ vs) H2 fun σ2 H2 => wipe σ2 vs = wipe σ vs ∧ tt σ2 H2 fun b H3 =>
      if b = true then te σ2 H3 fun y H4 => ∃ acc, H4 e = some (.lst acc) ∧ acc.length < sizeLine ∧ KL H d e od m (i + 1) (upd H4 e (.lst (acc ++ [y]))) else KL H d e od m (i + 1) H3) :
    ∃ W : Nat → Nat → Hp → Prop, (∃ n, W 0 n (upd (upd H d (.frz od (.dK (encT m)))) e (.lst []))) ∧ ∀ i n H, W i n H →
      ((Itk d od (encT m)).stop i H ∧ Qd H) ∨ ((Itk d od (encT m)).go i H ∧ ∃ Nx : Hp → Prop, (∀ H', Nx H' → ∃ m', m' < n ∧ W (i + 1) m' H') ∧ ∀ x H', (Itk d od (encT m)).yld i H x H' → g x (wipe σ vs) H' fun σ2 H2 => wipe σ2 vs = wipe σ vs ∧ tt σ2 H2 fun b H3 =>
        if b = true then te σ2 H3 fun y H4 => ∃ acc, H4 e = some (.lst acc) ∧ acc.length < sizeLine ∧ Nx (upd H4 e (.lst (acc ++ [y]))) else Nx H3) := by
  have hed : e ≠ d := fun z => by
    rw [z, upd_same] at ne
    cases ne
  have hee : H e = none := by
    rw [upd_ne hed] at ne
    exact ne
  refine lc_it walk_keys (fun i H' => KL H d e od m i H') ⟨fun b o hb hbd => ?_, ?_, ?_⟩ (fun i H' _ h => h.2.1) ?_ ?_
  · have hbe : b ≠ e := fun z => by
      rw [z, hee] at hb
      cases hb
    rw [upd_ne hbe, upd_ne hbd]
    exact hb
  · rw [upd_ne hed.symm, upd_same]
  · exact upd_same
  · rintro i x H1 H2 hi hK ⟨rfl, k, v, hk, rfl⟩
    obtain ⟨key, hkey, rfl⟩ := keys_at hk
    exact hs i key _ hkey hK
  · rintro H3 ⟨k1, k2, k3⟩
    rw [encT_len, ← keys_len, List.take_length] at k3
    refine hq _ (fun b o hb => ?_) (by rw [upd_ne hed]; exact k3) H3 k2 rfl
    by_cases hbd : b = d
    · subst hbd
      rw [upd_same]
      rw [hd] at hb
      exact hb
    · rw [upd_ne hbd]
      exact k1 b o hb hbd
theorem Deal.dict {D L d : Addr} {H : Hp} {kvs : List (Key × V)} (h : Deal D L H) (hd : H d = some (.dK kvs)) : d ≠ D ∧ d ≠ L := by
  obtain ⟨cs, m, h1, h2, _⟩ := h
  constructor
  · rintro rfl
    rw [hd] at h1
    cases h1
  · rintro rfl
    rw [hd] at h2
    cases h2
/-- keys over some letters, of bounded lengths -/
def KB (ls : List Nat) (N : Nat) (m : Tab) : Prop := ∀ k ∈ keysT m, (∀ c ∈ k, c ∈ ls) ∧ k.length ≤ N
theorem St.kd {C : Addr} {D L : Addr} {H H' : Hp} {a d : Addr} {ls : List Nat} {m : Tab} (h : St C H a d ls m) (hD : Deal D L H) (k : Keep D L H H') : St C H' a d ls m := by
  obtain ⟨dx, ho⟩ := h.o
  obtain ⟨cs, x, h1, h2, _⟩ := hD
  refine ⟨⟨dx, k _ _ ho (fun z => ?_) (fun z => ?_)⟩, k _ _ h.t (fun z => ?_) (fun z => ?_)⟩
  · rw [z, h1] at ho
    cases ho
  · rw [z, h2] at ho
    cases ho
  · have := h.t
    rw [z, h1] at this
    cases this
  · have := h.t
    rw [z, h2] at this
    cases this
theorem Deal.kd {D L d : Addr} {H H' : Hp} {kvs : List (Key × V)} (h : Deal D L H) (k : Keep D L H H') (hd : H d = some (.dK kvs)) : H' d = some (.dK kvs) := k _ _ hd (h.dict hd).1 (h.dict hd).2
/-- what the law's tables are like -/
structure TabOk (ls : List Nat) (N : Nat) (m : Tab) : Prop where
  len : m.length ≤ 100
  nd : (keysT m).Nodup
  kb : KB ls N m
  v : ∀ q ∈ m, 0 ≤ q.2 ∧ q.2 < 10 ^ 18
theorem mem_putT {m : Tab} {k : List Nat} {v : Int} {q : List Nat × Int} (h : q ∈ putT m k v) : q ∈ m ∨ q.2 = v := by
  unfold putT at h
  split at h
  · obtain ⟨p, hp, rfl⟩ := List.mem_map.mp h
    split
    · exact .inr rfl
    · exact .inl hp
  · rcases List.mem_append.mp h with h | h
    · exact .inl h
    · rw [List.mem_singleton.mp h]
      exact .inr rfl
theorem TabOk.mono {ls : List Nat} {N M : Nat} {m : Tab} (h : TabOk ls N m) (hn : N ≤ M) : TabOk ls M m := ⟨h.len, h.nd, fun k hk => ⟨(h.kb k hk).1, Nat.le_trans (h.kb k hk).2 hn⟩, h.v⟩
theorem TabOk.put {ls : List Nat} {N : Nat} {m : Tab} {k : List Nat} {v : Int} (h : TabOk ls N m) (h1 : ∀ c ∈ k, c ∈ ls) (h2 : k.length ≤ N) (h3 : k ∈ keysT m ∨ m.length ≤ 99) (v1 : 0 ≤ v) (v2 : v < 10 ^ 18) : TabOk ls N (putT m k v) := by
  refine ⟨?_, putT_nodup h.nd, ?_, ?_⟩
  · rw [← keys_len, putT_keys]
    split
    · rw [keys_len]
      exact h.len
    · rename_i hk
      have : m.length ≤ 99 := h3.resolve_left hk
      rw [List.length_append, keys_len]
      simp
      omega
  · intro j hj
    rw [putT_keys] at hj
    split at hj
    · exact h.kb j hj
    · rcases List.mem_append.mp hj with hj | hj
      · exact h.kb j hj
      · rw [List.mem_singleton.mp hj]
        exact ⟨h1, h2⟩
  · intro q hq
    rcases mem_putT hq with hq | hq
    · exact h.v q hq
    · rw [hq]
      exact ⟨v1, v2⟩
theorem TabOk.drops {ls : List Nat} {N : Nat} : ∀ {ks : List (List Nat)} {m : Tab}, TabOk ls N m → TabOk ls N (dropsT m ks)
  | [], _, h => h
  | j :: r, m, h => TabOk.drops (ks := r) (m := dropT m j) ⟨Nat.le_trans (List.length_filter_le _ _) h.len, dropT_nodup h.nd, fun k hk => h.kb k (mem_drop.mp hk).1, fun q hq => h.v q (List.mem_filter.mp hq).1⟩
theorem TabOk.puts {ls : List Nat} {N : Nat} {v : Int} (v1 : 0 ≤ v) (v2 : v < 10 ^ 18) : ∀ {ks : List (List Nat)} {m : Tab}, TabOk ls N m → (∀ k ∈ ks, k ∈ keysT m) → TabOk ls N (putsT m ks v)
  | [], _, h, _ => h
  | j :: r, m, h, hk => by
    have hj := hk j List.mem_cons_self
    have e : keysT (putT m j v) = keysT m := by rw [putT_keys, if_pos hj]
    exact TabOk.puts v1 v2 (ks := r) (m := putT m j v) (h.put (h.kb j hj).1 (h.kb j hj).2 (.inl hj) v1 v2) fun k hk' => by
      rw [e]
      exact hk k (List.mem_cons_of_mem _ hk')
theorem TabOk.ok {ls : List Nat} {N : Nat} {m : Tab} (h : TabOk ls N m) (hl : ∀ c ∈ ls, c ∈ alphabet) (hN : N ≤ 300) : ∀ q ∈ m, OkP q := fun q hq => by
  have hk := h.kb q.1 (List.mem_map.mpr ⟨q, hq, rfl⟩)
  have hv := h.v q hq
  have ha : ∀ c ∈ alphabet, c < 1000 := by decide
  refine ⟨by omega, fun c hc => ha c (hl c (hk.1 c hc)), ?_⟩
  have e : (10 : Int) ^ 18 < 2 ^ 60 := by decide
  omega
/-- all but four stay -/
def Keep4 (D L d t : Addr) (H H' : Hp) : Prop := ∀ b o, H b = some o → b ≠ D → b ≠ L → b ≠ d → b ≠ t → H' b = some o
theorem Keep.k4 {D L d t : Addr} {H H' : Hp} (h : Keep D L H H') : Keep4 D L d t H H' := fun b o hb h1 h2 _ _ => h b o hb h1 h2
theorem Keep4.trans {D L d t : Addr} {H H1 H2 : Hp} (a : Keep4 D L d t H H1) (b : Keep4 D L d t H1 H2) : Keep4 D L d t H H2 := fun c o hc h1 h2 h3 h4 => b c o (a c o hc h1 h2 h3 h4) h1 h2 h3 h4
theorem Same.k4 {D L d t : Addr} {H H' : Hp} (h : Same H H') : Keep4 D L d t H H' := fun b o hb _ _ _ _ => h b o hb
theorem Keep1.k4 {D L d t : Addr} {H H' : Hp} (h : Keep1 d H H') : Keep4 D L d t H H' := fun b o hb _ _ h3 _ => h b o hb h3
theorem Keep1.k4' {D L d t : Addr} {H H' : Hp} (h : Keep1 t H H') : Keep4 D L d t H H' := fun b o hb _ _ _ h4 => h b o hb h4
theorem Deal.k1 {D L d : Addr} {H H' : Hp} {kvs : List (Key × V)} (h : Deal D L H) (hd : H d = some (.dK kvs)) (k : Keep1 d H H') : Deal D L H' := by
  obtain ⟨h1, h2⟩ := h.dict hd
  obtain ⟨cs, m, e1, e2, r⟩ := h
  exact ⟨cs, m, k _ _ e1 h1.symm, k _ _ e2 h2.symm, r⟩
/-- a table without keys twice is the pairs of its keys -/
theorem prT_self : ∀ {m : Tab}, (keysT m).Nodup → prT m (keysT m) = m
  | [], _ => rfl
  | (k, v) :: r, h => by
    have hn : k ∉ keysT r := (List.nodup_cons.mp h).1
    have ih := prT_self (m := r) (List.nodup_cons.mp h).2
    have h1 : ∀ j ∈ keysT r, getT ((k, v) :: r) j = getT r j := fun j hj => by
      have : k ≠ j := fun e => hn (by rw [e]; exact hj)
      unfold getT
      rw [List.find?_cons_of_neg (by simpa using this)]
    have h2 : getT ((k, v) :: r) k = some v := by
      unfold getT
      rw [List.find?_cons_of_pos (by simp)]
      rfl
    show (k, (getT ((k, v) :: r) k).getD 0) :: (keysT r).map (fun j => (j, (getT ((k, v) :: r) j).getD 0)) = _
    rw [h2]
    have h3 : (keysT r).map (fun j => (j, (getT ((k, v) :: r) j).getD 0)) = prT r (keysT r) := by
      unfold prT
      exact List.map_congr_left fun j hj => by rw [h1 j hj]
    rw [h3, ih]
    rfl
/-- pairs in another order make an equal table -/
theorem eqTab_self {m : Tab} (h : (keysT m).Nodup) : eqTab m m = true := by
  unfold eqTab
  rw [decide_eq_true rfl, Bool.true_and, List.all_eq_true]
  intro p hp
  refine decide_eq_true ?_
  obtain ⟨a, b, rfl⟩ := List.append_of_mem hp
  have hn : p.1 ∉ keysT a := fun hm => by
    unfold keysT at h hm
    rw [List.map_append, List.map_cons] at h
    exact (List.nodup_append.mp h).2.2 p.1 hm p.1 List.mem_cons_self rfl
  unfold getT
  rw [List.find?_append]
  have e : a.find? (fun q => decide (q.1 = p.1)) = none := by
    rw [List.find?_eq_none]
    intro x hx
    simp only [decide_eq_true_eq]
    intro e
    exact hn (List.mem_map.mpr ⟨x, hx, e⟩)
  rw [e, Option.none_or, List.find?_cons_of_pos (by simp)]
  rfl
theorem getT_mem {m : Tab} {p : List Nat × Int} (h : (keysT m).Nodup) (hp : p ∈ m) : getT m p.1 = some p.2 := by
  have := eqTab_self h
  unfold eqTab at this
  rw [decide_eq_true rfl, Bool.true_and, List.all_eq_true] at this
  exact of_decide_eq_true (this p hp)
theorem eqTab_perm {m n : Tab} (h : (keysT n).Nodup) (hp : m.Perm n) : eqTab m n = true := by
  unfold eqTab
  rw [decide_eq_true hp.length_eq, Bool.true_and, List.all_eq_true]
  exact fun p hm => decide_eq_true (getT_mem h (hp.mem_iff.mp hm))
theorem Prs.perm {H : Hp} {us ws : List V} (hp : us.Perm ws) : ∀ {m : Tab}, Prs H m us → ∃ n, m.Perm n ∧ Prs H n ws := by
  induction hp with
  | nil => exact fun h => ⟨_, .refl _, h⟩
  | cons x _ ih =>
    intro m h
    cases h with
    | cons a b =>
      obtain ⟨n, h1, h2⟩ := ih b
      exact ⟨_, h1.cons _, .cons a h2⟩
  | swap x y l =>
    intro m h
    cases h with
    | cons a b =>
      cases b with
      | cons c e => exact ⟨_, .swap _ _ _, .cons c (.cons a e)⟩
  | trans _ _ ih1 ih2 =>
    intro m h
    obtain ⟨n, h1, h2⟩ := ih1 h
    obtain ⟨n2, h3, h4⟩ := ih2 h2
    exact ⟨n2, h1.trans h3, h4⟩
theorem putT_mem {m : Tab} {k : List Nat} {v : Int} : (k, v) ∈ putT m k v := by
  unfold putT
  split
  · rename_i h
    obtain ⟨p, hp, e⟩ := List.any_eq_true.mp h
    have e' : p.1 = k := of_decide_eq_true e
    exact List.mem_map.mpr ⟨p, hp, by rw [if_pos e', e']⟩
  · exact List.mem_append_right _ (List.mem_singleton.mpr rfl)
theorem eqTab_put {m : Tab} {k : List Nat} {v : Int} (h : getT m k ≠ some v) : eqTab (putT m k v) m = false := by
  unfold eqTab
  cases hl : decide ((putT m k v).length = m.length) with
  | false => rfl
  | true =>
    rw [Bool.true_and, List.all_eq_false]
    exact ⟨_, putT_mem, by simpa using h⟩
theorem nodup_sub_len : ∀ {l m : List Nat}, l.Nodup → (∀ c ∈ l, c ∈ m) → l.length ≤ m.length
  | [], _, _, _ => Nat.zero_le _
  | a :: r, m, hn, hs => by
    obtain ⟨h1, h2⟩ := List.nodup_cons.mp hn
    have ha : a ∈ m := hs a List.mem_cons_self
    have ih := nodup_sub_len (l := r) (m := m.erase a) h2 fun c hc => (List.mem_erase_of_ne fun e => h1 (by rw [← e]; exact hc)).mpr (hs c (List.mem_cons_of_mem _ hc))
    rw [List.length_erase_of_mem ha] at ih
    have : 0 < m.length := List.length_pos_of_mem ha
    rw [List.length_cons]
    omega
theorem ascB_of : ∀ {u : List Nat}, u.Pairwise (· < ·) → ascB u = true
  | [], _ => rfl
  | [a], _ => rfl
  | a :: b :: r, h => by
    have h1 : a < b := (List.pairwise_cons.mp h).1 b List.mem_cons_self
    have ih := ascB_of (u := b :: r) (List.pairwise_cons.mp h).2
    unfold ascB at ih ⊢
    show (((a, b) :: (b :: r).zip r).all fun p => decide ([p.1] < [p.2])) = true
    rw [List.all_cons, Bool.and_eq_true]
    refine ⟨decide_eq_true (List.cons_lt_cons_iff.mpr (.inl h1)), ?_⟩
    exact ih
theorem areB_of {u : List Nat} (h1 : 2 ≤ u.length) (h2 : u.length ≤ 5) (h3 : ∀ c ∈ u, c ∈ alphabet) (h4 : u.Pairwise (· < ·)) : areB u = true := by
  unfold areB consB
  rw [decide_eq_true h1, decide_eq_true h2, ascB_of h4, Bool.true_and, Bool.true_and, Bool.and_true, List.all_eq_true]
  exact fun c hc => decide_eq_true (h3 c hc)
theorem KR.perm {m n : Tab} {lo : List Nat} {hi af : Option (List Nat)} {ks : List (List Nat)} (h : KR n lo hi af ks) (p : (keysT n).Perm (keysT m)) : KR m lo hi af ks := ⟨h.1.trans (p.filter _), h.2⟩
theorem getT_perm {m n : Tab} (h : n.Perm m) (hn : (keysT n).Nodup) (hm : (keysT m).Nodup) {k : List Nat} (hk : k ∈ keysT m) : getT n k = getT m k := by
  obtain ⟨p, hp, rfl⟩ := List.mem_map.mp hk
  rw [getT_mem hm hp, getT_mem hn (h.mem_iff.mpr hp)]
theorem prT_perm {m n : Tab} (h : n.Perm m) (hn : (keysT n).Nodup) (hm : (keysT m).Nodup) {ks : List (List Nat)} (hk : ∀ k ∈ ks, k ∈ keysT m) : prT n ks = prT m ks := by
  unfold prT
  exact List.map_congr_left fun k h' => by rw [getT_perm h hn hm (hk k h')]
theorem Deal.kt {D L T : Addr} {H H' : Hp} {l : List V} (h : Deal D L H) (k : Keep D L H H') (e : H T = some (.tup l)) : H' T = some (.tup l) := by
  obtain ⟨cs, m, h1, h2, _⟩ := h
  exact k _ _ e (fun z => by rw [z, h1] at e; cases e) (fun z => by rw [z, h2] at e; cases e)
theorem Deal.none {D L p : Addr} {H : Hp} (h : Deal D L H) (n : H p = none) : p ≠ D ∧ p ≠ L := by
  obtain ⟨cs, m, h1, h2, _⟩ := h
  exact ⟨(ne_of_none h1 n).symm, (ne_of_none h2 n).symm⟩
theorem Deal.aside {D L p : Addr} {H : Hp} {o : HO} (d : Deal D L H) (h : p ≠ D ∧ p ≠ L) : Deal D L (upd H p o) := by
  obtain ⟨cs, m, a, b, c⟩ := d
  exact ⟨cs, m, by rw [upd_ne h.1.symm]; exact a, by rw [upd_ne h.2.symm]; exact b, c⟩
theorem one_good {z w : Nat} {a : PyData} (g : GoodZ z w a) : GoodZ (z + 1) (w + 10) (.list [a]) ∧ GoodZ (z + 1) (w + 10) (.tuple [a]) := by
  have gz := g.z
  have gw := g.w
  constructor
  · refine ⟨?_, ?_, ?_, ?_, ?_⟩
    · simp only [PyData.showable, PyData.showableAll, g.s, Bool.and_true]
    · simp only [PyData.hasDict, PyData.hasDictAll, g.n, Bool.or_false]
    · simp only [PyData.depth, PyData.depthAll]
      omega
    · simp only [PyData.leavesShort, PyData.leavesShortAll, g.l, Bool.and_true]
    · simp only [PyData.weight, PyData.weightAll]
      omega
  · refine ⟨?_, ?_, ?_, ?_, ?_⟩
    · simp only [PyData.showable, PyData.showableAll, g.s, Bool.and_true]
    · simp only [PyData.hasDict, PyData.hasDictAll, g.n, Bool.or_false]
    · simp only [PyData.depth, PyData.depthAll]
      omega
    · simp only [PyData.leavesShort, PyData.leavesShortAll, g.l, Bool.and_true]
    · simp only [PyData.weight, PyData.weightAll]
      omega
theorem TabOk.nil (ls : List Nat) (N : Nat) : TabOk ls N [] := ⟨Nat.zero_le _, List.nodup_nil, fun k hk => by (cases hk), fun q hq => by (cases hq)⟩
theorem drops_eq : ∀ (ks : List (List Nat)) (m : Tab), dropsT m ks = m.filter fun p => decide (p.1 ∉ ks)
  | [], m => by
    show m = _
    rw [List.filter_eq_self.mpr]
    intro p _
    simp
  | j :: r, m => by
    show dropsT (dropT m j) r = _
    rw [drops_eq r]
    unfold dropT
    rw [List.filter_filter]
    congr 1
    funext p
    by_cases h1 : p.1 = j <;> by_cases h2 : p.1 ∈ r <;> simp [h1, h2]
theorem drops_perm {m : Tab} {ks js : List (List Nat)} (h : ∀ k, k ∈ ks ↔ k ∈ js) : dropsT m ks = dropsT m js := by
  rw [drops_eq, drops_eq]
  congr 1
  funext p
  exact decide_eq_decide.mpr (not_congr (h p.1))
theorem putT_in {m : Tab} {k : List Nat} {v : Int} (h : k ∈ keysT m) : putT m k v = m.map fun p => if p.1 = k then (p.1, v) else p := by
  unfold putT
  rw [if_pos]
  obtain ⟨p, hp, e⟩ := List.mem_map.mp h
  exact List.any_eq_true.mpr ⟨p, hp, decide_eq_true e⟩
theorem puts_eq {v : Int} : ∀ (ks : List (List Nat)) (m : Tab), (∀ k ∈ ks, k ∈ keysT m) → putsT m ks v = m.map fun p => if p.1 ∈ ks then (p.1, v) else p
  | [], m, _ => by
    show m = _
    simp
  | j :: r, m, h => by
    show putsT (putT m j v) r v = _
    have hj := h j List.mem_cons_self
    have e : keysT (putT m j v) = keysT m := by rw [putT_keys, if_pos hj]
    rw [puts_eq r _ (fun k hk => by rw [e]; exact h k (List.mem_cons_of_mem _ hk)), putT_in hj, List.map_map]
    congr 1
    funext p
    by_cases h1 : p.1 = j
    · simp [h1]
    · simp [h1]
theorem puts_perm {m : Tab} {v : Int} {ks js : List (List Nat)} (h : ∀ k, k ∈ ks ↔ k ∈ js) (hk : ∀ k ∈ ks, k ∈ keysT m) : putsT m ks v = putsT m js v := by
  rw [puts_eq ks m hk, puts_eq js m fun k q => hk k ((h k).mpr q)]
  congr 1
  funext p
  simp only [h]
/-- [other for other in table if ..] -/
def KP (H : Hp) (d e : Addr) (od : Obj) (m : Tab) (p : List Nat → Bool) (i : Nat) (H' : Hp) : Prop := (∀ b o, H b = some o → b ≠ d → H' b = some o) ∧ H' d = some (.frz od (.dK (encT m))) ∧ H' e = some (.lst ((((keysT m).take i).filter p).map fun k => V.str (tx k)))
theorem keys_if {H : Hp} {d e : Addr} {m : Tab} {od : Obj} {g : TG} {tt : TT} {te : TE} {vs : List Nat} {σ : L2.St} {Qd : Hp → Prop} (p : List Nat → Bool) (hm : m.length ≤ 1000) (hd : H d = some (.dK (encT m))) (ne : upd H d (.frz od (.dK (encT m))) e = none)
    (hq : ∀ H2, Same H H2 → H2 e = some (.lst (((keysT m).filter p).map fun k => V.str (tx k))) → ∀ H3, H3 d = some (.frz od (.dK (encT m))) → upd H3 d (.dK (encT m)) = H2 → Qd H3)
    (hs : ∀ (i : Nat) (key : List Nat) (H2 : Hp) (Y : VK) (B : Hp → Prop), (keysT m)[i]? = some key → H2 d = some (.frz od (.dK (encT m))) → (p key = true → Y (.str (tx key)) H2) → (p key = false → B H2) → g (.str (tx key)) (wipe σ vs) H2 fun σ2 H2 => wipe σ2 vs = wipe σ vs ∧ tt σ2 H2 fun b H3 => if b = true then te σ2 H3 Y else B H3) :
    ∃ W : Nat → Nat → Hp → Prop, (∃ n, W 0 n (upd (upd H d (.frz od (.dK (encT m)))) e (.lst []))) ∧ ∀ i n H, W i n H →
      ((Itk d od (encT m)).stop i H ∧ Qd H) ∨ ((Itk d od (encT m)).go i H ∧ ∃ Nx : Hp → Prop, (∀ H', Nx H' → ∃ m', m' < n ∧ W (i + 1) m' H') ∧ ∀ x H', (Itk d od (encT m)).yld i H x H' → g x (wipe σ vs) H' fun σ2 H2 => wipe σ2 vs = wipe σ vs ∧ tt σ2 H2 fun b H3 =>
        if b = true then te σ2 H3 fun y H4 => ∃ acc, H4 e = some (.lst acc) ∧ acc.length < sizeLine ∧ Nx (upd H4 e (.lst (acc ++ [y]))) else Nx H3) := by
  have hed : e ≠ d := fun z => by
    rw [z, upd_same] at ne
    cases ne
  have hee : H e = none := by
    rw [upd_ne hed] at ne
    exact ne
  have hkl := keys_len m
  refine lc_it walk_keys (fun i H' => KP H d e od m p i H') ⟨fun b o hb hbd => ?_, ?_, ?_⟩ (fun i H' _ h => h.2.1) ?_ ?_
  · have hbe : b ≠ e := fun z => by
      rw [z, hee] at hb
      cases hb
    rw [upd_ne hbe, upd_ne hbd]
    exact hb
  · rw [upd_ne hed.symm, upd_same]
  · exact upd_same
  · rintro i x H1 H2 hi ⟨k1, k2, k3⟩ ⟨rfl, k, v, hk, rfl⟩
    obtain ⟨key, hkey, rfl⟩ := keys_at hk
    have hfl := filt_len (keysT m) i p
    refine hs i key _ _ _ hkey k2 (fun hp => ⟨_, k3, by rw [List.length_map]; exact small1000 (by omega), fun b o hb hbd => ?_, ?_, ?_⟩) (fun hp => ?_)
    · have hbe : b ≠ e := fun z => by
        rw [z, hee] at hb
        cases hb
      rw [upd_ne hbe]
      exact k1 b o hb hbd
    · rw [upd_ne hed.symm]
      exact k2
    · rw [upd_same, filt_snoc hkey hp, List.map_append]
      rfl
    · refine ⟨k1, k2, ?_⟩
      rw [filt_skip hkey hp]
      exact k3
  · rintro H3 ⟨k1, k2, k3⟩
    rw [encT_len, ← keys_len, List.take_length] at k3
    refine hq _ (fun b o hb => ?_) (by rw [upd_ne hed]; exact k3) H3 k2 rfl
    by_cases hbd : b = d
    · subst hbd
      rw [upd_same]
      rw [hd] at hb
      exact hb
    · rw [upd_ne hbd]
      exact k1 b o hb hbd
end

section
variable {P : Program} {w : World} {K : PySem.W.Frag} {mg : Str → Option Value} {base : Heap}
def spShown : Sp := fun vs H Q _ => ∃ (d : Addr) (m : Tab), vs = [.ref d] ∧ H d = some (.dK (encT m)) ∧ m.length ≤ 1000 ∧
  ∀ ks r us H', KR m [] none none ks → Same H H' → H r = none → H' r = some (.lst us) → Prs H' (prT m ks) us → Q (.ref r) H'
theorem inR_all {k : List Nat} : Un.inR [] none none k = true := by
  unfold Un.inR upB afB
  have h1 : ¬ k < [] := by simp
  simp [h1]
theorem cl_shown (T : Txt K mg) : Cl P w K mg base "_law_shown" ["_law_table"] 1 spShown := cl_of T.a__law_shown fun f fd F => by
  refine F.ok sc__law_shown (fun vs H Q E h => ?_) (fun cdv A outer s H vs Q E hr h => ?_)
  · obtain ⟨d, m, rfl, _⟩ := h
    rfl
  · obtain ⟨d, m, rfl, hd, hm, q⟩ := h
    refine ⟨_, (pss_one (ps_ret (pe_lc (own := [("_law_key", 1)]) (g := gName 1) (tt := tYes) (by rfl) sc__law_shown.nd (pi_list (pe_callB cr_sortedT (by rfl) T.m_sorted (by decide +kernel) (pa_cons (pe_lock (pe_lc (own := [("_law_one", 2)]) (g := gName 2) (tt := tYes) (by rfl) sc__law_shown.nd (pi_keys (pv 0)) (blkOk_by (own := [("_law_one", 2)]) (N := n__law_shown) (sc := defScope s__law_shown) (by decide +kernel)) (fun _ _ _ _ _ => (pg_name (i := 2) sc__law_shown.nd rfl (Or.inl rfl))) (fun _ _ _ _ _ => pts_nil) (fun _ _ _ _ _ => (pe_callTy call_strS (by rfl) T.m_str (by decide +kernel) (pa_cons (pv 2) pa_nil))))) pa_nil))) (blkOk_by (own := [("_law_key", 1)]) (N := n__law_shown) (sc := defScope s__law_shown) (by decide +kernel)) (fun _ _ _ _ _ => (pg_name (i := 1) sc__law_shown.nd rfl (Or.inl rfl))) (fun _ _ _ _ _ => pts_nil) (fun _ _ _ _ _ => (pe_tup (pa_cons (pv 1) (pa_cons (pe_dget (by exact hu_of hr) (pv 0) (pv 1) (fun _ _ => rfl)) pa_nil))))))), ?_⟩
    walk_at "rds"
    refine Un.rd_lock hd trivial fun od => ?_
    walk_at "rds"
    refine ⟨d, od, rfl, .inl ⟨_, upd_same, fun e ne => ?_⟩⟩
    refine strs_of_keys hd ne (fun H2 s2 e2 H3 k3 eH => ⟨k3, ?_⟩) ?_
    · rw [eH]
      clear eH k3 ne
      walk_at "rds"
      refine rd_sortT (SqL.of e2) (fun js p hjs hjp hp => ?_)
      have sp3 : Same H (upd H2 p (.lst (js.map fun k => V.str (tx k)))) := same_trans s2 (same_upd hp)
      have hp3 : upd H2 p (.lst (js.map fun k => V.str (tx k))) p = some (.lst (js.map fun k => V.str (tx k))) := upd_same
      generalize upd H2 p (.lst (js.map fun k => V.str (tx k))) = H4 at sp3 hp3 ⊢
      have hjl : js.length ≤ 1000 := by
        rw [hjs.length_eq, keys_len]
        exact hm
      have hkr : KR m [] none none js := ⟨by
        rw [List.filter_eq_self.mpr fun k _ => inR_all]
        exact hjs, hjp⟩
      walk_at "rds"
      refine ⟨_, rfl, ⟨_, SqL.of hp3⟩, fun g ng => lc_list (K := K) (a := p) (xs := js.map fun k => V.str (tx k)) (fun i H' => Same H4 H' ∧ ∃ us, H' g = some (.lst us) ∧ Prs H' (prT m (js.take i)) us) ⟨same_upd ng, [], upd_same, .nil⟩ (fun i H' _ h => SqL.of (h.1 _ _ hp3)) ?_ ?_⟩
      · rintro i x H5 hx ⟨s5, us, eu, pu⟩
        obtain ⟨key, hk, rfl⟩ := get_map hx
        have hkm : key ∈ keysT m := hjs.mem_iff.mp (List.mem_of_getElem? hk)
        obtain ⟨v, hv⟩ := getT_some hkm
        have hl : us.length < sizeLine := by
          rw [← pu.len, prT_len, List.length_take]
          exact small1000 (by omega)
        walk_at "rds"
        refine ⟨rfl, ?_⟩
        walk_at "rds"
        refine rd_ite (fun _ => ?_) (fun h => by cases h)
        walk_at "rds"
        have t2 := s5 _ _ (sp3 _ _ hd)
        refine ⟨d, .int v, rfl, ?_, ?_⟩
        · have g := DGet.k (k := Sum.inr (tx key)) t2
          rw [valV_enc, hv] at g
          exact g
        walk_at "rds"
        refine ⟨by show 2 ≤ sizeLine; decide, fun p2 hp2 => ?_⟩
        have hpe : g ≠ p2 := fun z => by
          rw [← z, eu] at hp2
          cases hp2
        refine ⟨us, by rw [upd_ne hpe]; exact eu, hl, same_mut (same_mut s5 (same_none s5 hp2)) ng, _, upd_same, ?_⟩
        have e1 : prT m (js.take (i + 1)) = prT m (js.take i) ++ [(key, v)] := by
          unfold prT
          rw [List.take_add_one, hk, Option.toList_some, List.map_append]
          show _ ++ [(key, (getT m key).getD 0)] = _
          rw [hv]
          rfl
        rw [e1]
        have hk3 : ∀ T l, H5 T = some (.tup l) → upd (upd H5 p2 (.tup [.str (tx key), .int v])) g (.lst (us ++ [.ref p2])) T = some (.tup l) := fun T l h => by
          have h1 : T ≠ g := fun z => by
            rw [z, eu] at h
            cases h
          have h2 : T ≠ p2 := fun z => by
            rw [z, hp2] at h
            cases h
          rw [upd_ne h1, upd_ne h2]
          exact h
        refine (pu.keep hk3).app (Prs.one ?_)
        rw [upd_ne hpe.symm, upd_same]
      · rintro H5 ⟨s5, us, eu, pu⟩
        rw [List.length_map, List.take_length] at pu
        exact q js g us H5 hkr (same_trans sp3 s5) (same_none sp3 ng) eu pu
    · rintro i key H2 hk hK
      walk_at "rds"
      refine ⟨rfl, ?_⟩
      walk_at "rds"
      refine rd_ite (fun _ => ?_) (fun h => by cases h)
      walk_at "rds"
      exact hK.step ne hm hk
end

section
variable {P : Program} {w : World} {K : PySem.W.Frag} {mg : Str → Option Value} {base : Heap}
theorem clh_shown (T : Txt K mg) : ClH P w K mg base "_law_shown" ["_law_table"] 1 spShown := clH_of T.a__law_shown fun f fd F => by
  refine okH F sc__law_shown (fun vs H Q E h => ?_) (fun cdv A outer s H vs Q E pe hr hc h => ?_)
  · obtain ⟨d, m, rfl, _⟩ := h
    rfl
  · obtain ⟨d, m, rfl, hd, hm, q⟩ := h
    refine ⟨_, (pss_one (ps_ret (UnH.pe_lcH (own := [("_law_key", 1)]) (g := gName 1) (tt := tYes) hc sc__law_shown.nd (UnH.pik_list (pe_callB cr_sortedT (by rfl) T.m_sorted (by decide +kernel) (pa_cons (pe_lock (UnH.pe_lcH (own := [("_law_one", 2)]) (g := gName 2) (tt := tYes) hc sc__law_shown.nd (UnH.pik_keys (pv 0)) (blkOk_by (own := [("_law_one", 2)]) (N := n__law_shown) (sc := defScope s__law_shown) (by decide +kernel)) (fun _ _ _ _ _ hb => (pg_name (i := 2) sc__law_shown.nd rfl (Or.inl rfl))) (fun _ _ _ _ _ hb => pts_nil) (fun _ _ _ _ _ hb => (pe_callTy call_strS (by rfl) T.m_str (by decide +kernel) (pa_cons (pv 2) pa_nil))))) pa_nil))) (blkOk_by (own := [("_law_key", 1)]) (N := n__law_shown) (sc := defScope s__law_shown) (by decide +kernel)) (fun _ _ _ _ _ hb => (pg_name (i := 1) sc__law_shown.nd rfl (Or.inl rfl))) (fun _ _ _ _ _ hb => pts_nil) (fun _ _ _ _ _ hb => (pe_tup (pa_cons (pv 1) (pa_cons (pe_dget (by exact huH hr) (pv 0) (pv 1) (fun _ _ => rfl)) pa_nil))))))), ?_⟩
    walk_at "rds"
    refine Un.rd_lock hd trivial fun od => ?_
    walk_at "rds"
    refine ⟨.ref d, rfl, d, od, _, rfl, upd_same, fun e ne => ?_⟩
    refine strs_of_keys hd ne (fun H2 s2 e2 H3 k3 eH => ⟨k3, ?_⟩) ?_
    · rw [eH]
      clear eH k3 ne
      walk_at "rds"
      refine rd_sortT (SqL.of e2) (fun js p hjs hjp hp => ?_)
      have sp3 : Same H (upd H2 p (.lst (js.map fun k => V.str (tx k)))) := same_trans s2 (same_upd hp)
      have hp3 : upd H2 p (.lst (js.map fun k => V.str (tx k))) p = some (.lst (js.map fun k => V.str (tx k))) := upd_same
      generalize upd H2 p (.lst (js.map fun k => V.str (tx k))) = H4 at sp3 hp3 ⊢
      have hjl : js.length ≤ 1000 := by
        rw [hjs.length_eq, keys_len]
        exact hm
      have hkr : KR m [] none none js := ⟨by
        rw [List.filter_eq_self.mpr fun k _ => inR_all]
        exact hjs, hjp⟩
      walk_at "rds"
      refine ⟨_, rfl, ⟨_, SqL.of hp3⟩, fun g ng => lc_list (K := K) (a := p) (xs := js.map fun k => V.str (tx k)) (fun i H' => Same H4 H' ∧ ∃ us, H' g = some (.lst us) ∧ Prs H' (prT m (js.take i)) us) ⟨same_upd ng, [], upd_same, .nil⟩ (fun i H' _ h => SqL.of (h.1 _ _ hp3)) ?_ ?_⟩
      · rintro i x H5 hx ⟨s5, us, eu, pu⟩
        obtain ⟨key, hk, rfl⟩ := get_map hx
        have hkm : key ∈ keysT m := hjs.mem_iff.mp (List.mem_of_getElem? hk)
        obtain ⟨v, hv⟩ := getT_some hkm
        have hl : us.length < sizeLine := by
          rw [← pu.len, prT_len, List.length_take]
          exact small1000 (by omega)
        walk_at "rds"
        refine ⟨rfl, ?_⟩
        walk_at "rds"
        refine rd_ite (fun _ => ?_) (fun h => by cases h)
        walk_at "rds"
        have t2 := s5 _ _ (sp3 _ _ hd)
        refine ⟨d, .int v, rfl, ?_, ?_⟩
        · have g := DGet.k (k := Sum.inr (tx key)) t2
          rw [valV_enc, hv] at g
          exact g
        walk_at "rds"
        refine ⟨by show 2 ≤ sizeLine; decide, fun p2 hp2 => ?_⟩
        have hpe : g ≠ p2 := fun z => by
          rw [← z, eu] at hp2
          cases hp2
        refine ⟨us, by rw [upd_ne hpe]; exact eu, hl, same_mut (same_mut s5 (same_none s5 hp2)) ng, _, upd_same, ?_⟩
        have e1 : prT m (js.take (i + 1)) = prT m (js.take i) ++ [(key, v)] := by
          unfold prT
          rw [List.take_add_one, hk, Option.toList_some, List.map_append]
          show _ ++ [(key, (getT m key).getD 0)] = _
          rw [hv]
          rfl
        rw [e1]
        have hk3 : ∀ T l, H5 T = some (.tup l) → upd (upd H5 p2 (.tup [.str (tx key), .int v])) g (.lst (us ++ [.ref p2])) T = some (.tup l) := fun T l h => by
          have h1 : T ≠ g := fun z => by
            rw [z, eu] at h
            cases h
          have h2 : T ≠ p2 := fun z => by
            rw [z, hp2] at h
            cases h
          rw [upd_ne h1, upd_ne h2]
          exact h
        refine (pu.keep hk3).app (Prs.one ?_)
        rw [upd_ne hpe.symm, upd_same]
      · rintro H5 ⟨s5, us, eu, pu⟩
        rw [List.length_map, List.take_length] at pu
        exact q js g us H5 hkr (same_trans sp3 s5) (same_none sp3 ng) eu pu
    · rintro i key H2 hk hK
      walk_at "rds"
      refine ⟨rfl, ?_⟩
      walk_at "rds"
      refine rd_ite (fun _ => ?_) (fun h => by cases h)
      walk_at "rds"
      exact hK.step ne hm hk
end

section
variable {P : Program} {w : World} {K : PySem.W.Frag} {mg : Str → Option Value} {base : Heap}
/-- >= of texts -/
def rGeX : R2 := fun x y H Q => ∃ i j : List Nat, x = .str (tx i) ∧ y = .str (tx j) ∧ Q (.bl (!decide (i < j))) H
theorem op_geX {X : Cx} : OpR X (compareOp .GtE) rGeX := by
  intro pins s σ H x y v u Q I rx ry ⟨i, j, ex, ey, q⟩
  subst ex ey
  refine op_ge_str pins s σ H _ _ v u Q I rx ry ⟨tx i, tx j, rfl, rfl, ?_⟩
  rw [tx_cps, tx_cps]; exact q
theorem at_take_3 (T : Txt K mg) : MetD P w K mg base (SC mg) "take" 2 (spTake (SC mg)) [.non] := by
  obtain ⟨f, fd, F, M, i⟩ := T.d_Store_take
  obtain ⟨ds, v, b⟩ := F.binds0 (ps := ["self", "low", "high", "after"]) 3 (by simp) rfl (fun T doc pm an cdv ct us ks h1 h2 => match us, ks, h1, h2 with | [_, _, _], [_], _, _ => ⟨_, _, _, _, _, _, rfl, rfl, rfl⟩)
  exact ⟨f, fd, _, ds, T.k_Store, M, ok_take T F, b, v⟩
theorem at_fill_4 (T : Txt K mg) : MetD P w K mg base (SC mg) "fill" 4 (spFill (SC mg)) [.non] := by
  obtain ⟨f, fd, F, M, i⟩ := T.d_Store_fill
  obtain ⟨ds, v, b⟩ := F.binds0 (ps := ["self", "value", "low", "high", "after"]) 4 (by simp) rfl (fun T doc pm an cdv ct us ks h1 h2 => match us, ks, h1, h2 with | [_, _, _, _], [_], _, _ => ⟨_, _, _, _, _, _, rfl, rfl, rfl⟩)
  exact ⟨f, fd, _, ds, T.k_Store, M, ok_fill T F, b, v⟩
/-- a store at a with its table at d, and the law's table at tb, hold the same -/
structure Two (C : Addr) (D L : Addr) (H : Hp) (a d tb : Addr) (ls : List Nat) (m : Tab) : Prop where
  dl : Deal D L H
  s : St C H a d ls m
  t : H tb = some (.dK (encT m))
  ne : tb ≠ d
  ok : TabOk ls 3 m
theorem Two.same {C D L a d tb : Addr} {ls : List Nat} {m : Tab} {H H' : Hp} (h : Two C D L H a d tb ls m) (k : Same H H') : Two C D L H' a d tb ls m := ⟨h.dl.keep k, h.s.same k, k _ _ h.t, h.ne, h.ok⟩
theorem Two.put {C D L a d tb : Addr} {ls : List Nat} {m n : Tab} {H H1 H2 : Hp} (h : Two C D L H a d tb ls m) (k1 : Keep1 d H H1) (e1 : H1 d = some (.dK (encT n))) (k2 : Keep1 tb H1 H2) (e2 : H2 tb = some (.dK (encT n))) (ok : TabOk ls 3 n) : Two C D L H2 a d tb ls n := by
  have ht1 := k1 _ _ h.t h.ne
  have hS1 := h.s.keep k1 e1
  obtain ⟨dx, ho⟩ := hS1.o
  refine ⟨(h.dl.k1 h.s.t k1).k1 ht1 k2, ⟨⟨dx, k2 _ _ ho fun z => ?_⟩, k2 _ _ hS1.t h.ne.symm⟩, e2, h.ne, ok⟩
  rw [z, ht1] at ho
  cases ho
def LsOk (ls : List Nat) : Prop := areB ls = true ∧ ls ≠ [] ∧ ls.length ≤ 5 ∧ ∀ c ∈ ls, c ∈ alphabet
def spDeeds (C : Addr) : Sp := fun vs H Q _ => ∃ (D L a d tb : Addr) (ls : List Nat) (m : Tab), vs = [.ref D, .str (tx ls), .ref a, .ref tb] ∧ LsOk ls ∧ Two C D L H a d tb ls m ∧ m.length ≤ 90 ∧
  ∀ (n : Tab) (H' : Hp), n.length ≤ m.length + 4 → Keep4 D L d tb H H' → Two C D L H' a d tb ls n → Q .non H'
theorem put_len {m : Tab} {k : List Nat} {v : Int} : (putT m k v).length ≤ m.length + 1 := by
  rw [← keys_len, putT_keys]
  split
  · rw [keys_len]; omega
  · rw [List.length_append, keys_len]; simp
theorem cl_deeds (T : Txt K mg) : Cl P w K mg base "_law_deeds" ["_law_deal_here", "_law_letters_here", "_law_store", "_law_table"] 5 (spDeeds (SC mg)) := cl_of T.a__law_deeds fun f fd F => by
  have C__law_draw := cl_draw (P := P) (w := w) (base := base) T
  have C__law_text := cl_text (P := P) (w := w) (base := base) T
  have C__law_value := cl_value (P := P) (w := w) (base := base) T
  have C_Store___setitem__ := met_set (P := P) (w := w) (base := base) T
  have C_Store_take_3 := at_take_3 (P := P) (w := w) (base := base) T
  have C_Store_fill_4 := at_fill_4 (P := P) (w := w) (base := base) T
  refine F.ok sc__law_deeds (fun vs H Q E h => ?_) (fun cdv A outer s H vs Q E hr h => ?_)
  · obtain ⟨D, L, a, d, tb, ls, m, rfl, _⟩ := h
    rfl
  · obtain ⟨D, L, a, d, tb, ls, m, rfl, ⟨hal, hne, hl5, hla⟩, hW, hm, q⟩ := h
    refine ⟨_, (pss_one (ps_for PassesOwn.never rfl (pi_range1 (by rfl) T.m_range (pa_cons (pe_op op_add pe_int (pe_cl C__law_draw (hr.mono (by decide)) (by rfl) (pa_cons (pv 0) (pa_cons pe_int pa_nil)))) pa_nil)) (pg_name (i := 4) sc__law_deeds.nd rfl (Or.inl rfl))
      (pss_cons (ps_asg (pe_tup (pa_cons (pe_cl C__law_draw (hr.mono (by decide)) (by rfl) (pa_cons (pv 0) (pa_cons pe_int pa_nil))) (pa_cons (pe_cl C__law_text (hr.mono (by decide)) (by rfl) (pa_cons (pv 0) (pa_cons (pv 1) (pa_cons pe_int pa_nil)))) (pa_cons (pe_cl C__law_value (hr.mono (by decide)) (by rfl) (pa_cons (pv 0) pa_nil)) pa_nil)))) (pg_tup rfl (pgs_cons (pg_name (i := 5) sc__law_deeds.nd rfl (Or.inl rfl)) (pgs_cons (pg_name (i := 6) sc__law_deeds.nd rfl (Or.inr rfl)) (pgs_cons (pg_name (i := 7) sc__law_deeds.nd rfl (Or.inl rfl)) pgs_nil)))))
      (pss_one (ps_if (pt_cmpR op_lt (pv 5) pe_int (nomark _))
      (pss_cons (ps_asg (pv 7) (pg_sub (pv 2) (pv 6) (set_GX C_Store___setitem__ T.q_Store hr (by decide) takes0)))
      (pss_one (ps_dput (by exact hu_of hr) (pv 3) (pv 6) (pv 7) rfl)))
      (pss_one (ps_if (pt_cmpR op_eq (pv 5) pe_int (nomark _))
      (pss_cons (ps_expr (pe_mtD C_Store_take_3 hr (by decide) (pv 2) (pa_cons (pv 6) (pa_cons pe_non pa_nil))))
      (pss_one (ps_for PassesOwn.never rfl (pi_list (pe_lock (pe_lc (own := [("_law_other", 9)]) (g := gName 9) (by rfl) sc__law_deeds.nd (pi_keys (pv 3)) (blkOk_by (own := [("_law_other", 9)]) (N := n__law_deeds) (sc := defScope s__law_deeds) (by decide +kernel)) (fun _ _ _ _ _ => (pg_name (i := 9) sc__law_deeds.nd rfl (Or.inl rfl))) (fun _ _ _ _ _ => (pts_one (pt_cmpR op_geX (pv 9) (pv 6) (nomark _)))) (fun _ _ _ _ _ => (pv 9))))) (pg_name (i := 8) sc__law_deeds.nd rfl (Or.inl rfl))
      (pss_one (ps_expr (pe_dpop1 (pv 3) (pv 8) ⟨rfl, rfl, rfl, rfl⟩))))))
      (pss_cons (ps_expr (pe_mtD C_Store_fill_4 hr (by decide) (pv 2) (pa_cons (pv 7) (pa_cons (pe_strX [] (by decide +kernel)) (pa_cons (pv 6) pa_nil)))))
      (pss_one (ps_for PassesOwn.never rfl (pi_list (pe_lock (pe_lc (own := [("_law_other", 9)]) (g := gName 9) (by rfl) sc__law_deeds.nd (pi_keys (pv 3)) (blkOk_by (own := [("_law_other", 9)]) (N := n__law_deeds) (sc := defScope s__law_deeds) (by decide +kernel)) (fun _ _ _ _ _ => (pg_name (i := 9) sc__law_deeds.nd rfl (Or.inl rfl))) (fun _ _ _ _ _ => (pts_one (pt_cmpR op_ltX (pv 9) (pv 6) (nomark _)))) (fun _ _ _ _ _ => (pv 9))))) (pg_name (i := 8) sc__law_deeds.nd rfl (Or.inl rfl))
      (pss_one (ps_dput (by exact hu_of hr) (pv 3) (pv 8) (pv 7) rfl)))))))))))), ?_⟩
    walk_at "rds"
    refine ⟨D, L, _, rfl, hW.dl, by decide, by decide, fun kk H1 hk1 hk2 kp1 hD1 => ?_⟩
    have hW1 : Two (SC mg) D L H1 a d tb ls m := ⟨hD1, hW.s.kd hW.dl kp1, hW.dl.kd kp1 hW.t, hW.ne, hW.ok⟩
    walk_at "rds"
    refine ⟨1 + kk, rfl, by omega, by omega, for_range (lo := 0) (n := (1 + kk).toNat) (fun i σ' H' => (∃ n : Tab, n.length ≤ m.length + i ∧ Keep4 D L d tb H H' ∧ Two (SC mg) D L H' a d tb ls n) ∧ ∃ y1 y2 y3 y4 y5, σ' = [some (.ref D), some (.str (tx ls)), some (.ref a), some (.ref tb), y1, y2, y3, y4, y5, none]) ⟨⟨m, by omega, Keep.k4 kp1, hW1⟩, _, _, _, _, _, rfl⟩ ?_ ?_⟩
    · rintro i σ' H2 hi ⟨⟨n, hn, k2, hW2⟩, y1, y2, y3, y4, y5, rfl⟩
      walk_at "rds"
      refine ⟨D, L, _, rfl, hW2.dl, by decide, by decide, fun fo H3 hf1 hf2 kp3 hD3 => ?_⟩
      walk_at "rds"
      refine ⟨D, L, ls, 3, rfl, hD3, hne, by omega, by decide, by decide, fun key H4 hc1 hc2 kp4 hD4 => ?_⟩
      walk_at "rds"
      refine ⟨D, L, rfl, hD4, fun v H5 hv1 hv2 kp5 hD5 => ?_⟩
      have kp25 : Keep D L H2 H5 := (kp3.trans kp4).trans kp5
      have hW5 : Two (SC mg) D L H5 a d tb ls n := ⟨hD5, hW2.s.kd hW2.dl kp25, hW2.dl.kd kp25 hW2.t, hW2.ne, hW2.ok⟩
      have kH5 : Keep4 D L d tb H H5 := k2.trans (Keep.k4 kp25)
      clear kp5 hD4 kp4 hD3 kp3 kp25 hW2 k2
      have hnl : n.length ≤ 93 := by omega
      walk_at "rds"
      refine ⟨by show 3 ≤ sizeLine; decide, fun p hp => ?_⟩
      have s6 := same_upd (o := .tup [V.int fo, V.str (tx key), V.int v]) hp
      have kH6 : Keep4 D L d tb H (upd H5 p (.tup [V.int fo, V.str (tx key), V.int v])) := kH5.trans (Same.k4 s6)
      have hW6 := hW5.same s6
      refine rd_gtup (SqT.of upd_same) rfl ?_
      generalize upd H5 p (.tup [V.int fo, V.str (tx key), V.int v]) = H6 at hW6 kH6
      clear hW5 kH5 hp s6
      have hkey : key.length ≤ 3 := by omega
      obtain ⟨dx, ho⟩ := hW6.s.o
      walk_at "rds"
      refine rd_ite (fun hf => ?_) (fun hf => ?_)
      · walk_at "rds"
        refine ⟨a, _, _, rfl, ho, set_ok hW6.s ⟨hc1, by omega⟩ hv1 (by omega) fun H7 k7 t7 => ?_⟩
        have htb7 := k7 _ _ hW6.t hW6.ne
        walk_at "rds"
        refine ⟨tb, _, rfl, DPut.k (k := Sum.inr (tx key)) htb7 (by rw [encT_len]; exact small1000 (by omega)), ?_⟩
        rw [putK_enc]
        have hT := hW6.ok.put (k := key) (v := v) hc1 hkey (.inr (by omega)) hv1 hv2
        have k8 : Keep1 tb H7 (upd H7 tb (.dK (encT (putT n key v)))) := Keep1.put (Same.keep1 (same_refl _))
        exact ⟨⟨putT n key v, by have := put_len (m := n) (k := key) (v := v); omega, kH6.trans ((Keep1.k4 k7).trans (Keep1.k4' k8)), hW6.put k7 t7 k8 upd_same hT⟩, _, _, _, _, _, rfl⟩
      · walk_at "rds"
        refine rd_ite (fun hf2 => ?_) (fun hf2 => ?_)
        · walk_at "rds"
          refine ⟨a, _, _, rfl, ho, rfl, ?_⟩
          walk_at "rds"
          refine ⟨a, d, ls, n, key, none, none, rfl, hW6.s, hW6.ok.nd, by omega, fun ks H7 hks k7 t7 => ?_⟩
          have htb7 := k7 _ _ hW6.t hW6.ne
          walk_at "rds"
          refine Un.rd_lock htb7 trivial fun od => ?_
          walk_at "rds"
          refine ⟨tb, od, rfl, .inl ⟨_, upd_same, fun e ne => ?_⟩⟩
          have e1 : ∀ k, k ∈ ks ↔ k ∈ (keysT n).filter fun k => !decide (k < key) := fun k => by
            rw [hks.1.mem_iff, show (Un.inR key none none) = (fun k => !decide (k < key)) from by (funext k; unfold Un.inR upB afB; simp)]
          refine keys_if (fun k => !decide (k < key)) (by omega) htb7 ne (fun H8 s8 e8 H9 k9 eH => ⟨k9, ?_⟩) (fun i key2 H8 Y B hk hfz hY hB => ?_)
          · rw [eH]
            clear eH k9 ne
            have hetb : e ≠ tb := fun z => by
              rw [z, s8 _ _ htb7] at e8
              cases e8
            generalize hjs : (keysT n).filter (fun k => !decide (k < key)) = js at e8 e1
            have hjn : js.Nodup := hjs ▸ hW6.ok.nd.filter _
            have hjm : ∀ k ∈ js, k ∈ keysT n := fun k hk => by
              rw [← hjs] at hk
              exact (List.mem_filter.mp hk).1
            refine ⟨e, rfl, ⟨_, SqL.of e8⟩, for_list (K := K) (a := e) (xs := js.map fun k => V.str (tx k)) (fun i σ' H' => (∃ y1 y2 y3 y4 y5, σ' = [some (.ref D), some (.str (tx ls)), some (.ref a), some (.ref tb), y1, y2, y3, y4, y5, none]) ∧ Keep1 tb H8 H' ∧ H' tb = some (.dK (encT (dropsT n (js.take i))))) ⟨⟨_, _, _, _, _, rfl⟩, Same.keep1 (same_refl _), s8 _ _ htb7⟩ (fun i σ' H' _ h => SqL.of (h.2.1 _ _ e8 hetb)) ?_ ?_⟩
            · rintro i x σ' H10 hx ⟨⟨z1, z2, z3, z4, z5, rfl⟩, k10, t10⟩
              obtain ⟨key2, hk, rfl⟩ := get_map hx
              have hin : key2 ∈ keysT (dropsT n (js.take i)) := mem_drops.mpr ⟨hjm _ (List.mem_of_getElem? hk), not_before hjn hk⟩
              obtain ⟨v2, hv2'⟩ := getT_some hin
              walk_at "rds"
              refine ⟨tb, rfl, .inl ⟨_, .inl t10⟩, ?_⟩
              walk_at "rds"
              refine ⟨_, Sum.inr (tx key2), .int v2, t10, rfl, by rw [valV_enc, hv2']; rfl, ⟨_, _, _, _, _, rfl⟩, k10.put, ?_⟩
              rw [upd_same, dropK_enc, drops_snoc hk]
            · rintro σ' H10 ⟨hσ, k10, t10⟩
              rw [List.length_map, List.take_length, ← drops_perm e1] at t10
              refine ⟨⟨dropsT n ks, Nat.le_trans drops_len (by omega), kH6.trans ((Keep1.k4 k7).trans ((Same.k4 s8).trans (Keep1.k4' k10))), (hW6.put k7 t7 (fun b o hb hbt => k10 _ _ (s8 _ _ hb) hbt) t10 hW6.ok.drops)⟩, hσ⟩
          · walk_at "rds"
            refine ⟨rfl, ?_⟩
            walk_at "rds"
            refine ⟨key2, key, rfl, rfl, ?_⟩
            walk_at "rds"
            refine rd_ite (fun h => ?_) (fun h => ?_)
            · walk_at "rds"
              exact hY h
            · exact hB h
        · walk_at "rds"
          refine ⟨a, _, _, rfl, ho, rfl, ?_⟩
          walk_at "rds"
          refine ⟨a, d, ls, n, v, [], some key, none, rfl, hv1, hW6.s, by omega, fun ks H7 hks k7 t7 => ?_⟩
          have htb7 := k7 _ _ hW6.t hW6.ne
          walk_at "rds"
          refine Un.rd_lock htb7 trivial fun od => ?_
          walk_at "rds"
          refine ⟨tb, od, rfl, .inl ⟨_, upd_same, fun e ne => ?_⟩⟩
          have e1 : ∀ k, k ∈ ks ↔ k ∈ (keysT n).filter fun k => decide (k < key) := fun k => by
            rw [hks.1.mem_iff, show (Un.inR [] (some key) none) = (fun k => decide (k < key)) from by (funext k; unfold Un.inR upB afB; simp)]
          refine keys_if (fun k => decide (k < key)) (by omega) htb7 ne (fun H8 s8 e8 H9 k9 eH => ⟨k9, ?_⟩) (fun i key2 H8 Y B hk hfz hY hB => ?_)
          · rw [eH]
            clear eH k9 ne
            have hetb : e ≠ tb := fun z => by
              rw [z, s8 _ _ htb7] at e8
              cases e8
            generalize hjs : (keysT n).filter (fun k => decide (k < key)) = js at e8 e1
            have hjm : ∀ k ∈ js, k ∈ keysT n := fun k hk => by
              rw [← hjs] at hk
              exact (List.mem_filter.mp hk).1
            refine ⟨e, rfl, ⟨_, SqL.of e8⟩, for_list (K := K) (a := e) (xs := js.map fun k => V.str (tx k)) (fun i σ' H' => (∃ y1 y2 y3 y5, σ' = [some (.ref D), some (.str (tx ls)), some (.ref a), some (.ref tb), y1, y2, y3, some (.int v), y5, none]) ∧ Keep1 tb H8 H' ∧ H' tb = some (.dK (encT (putsT n (js.take i) v)))) ⟨⟨_, _, _, _, rfl⟩, Same.keep1 (same_refl _), s8 _ _ htb7⟩ (fun i σ' H' _ h => SqL.of (h.2.1 _ _ e8 hetb)) ?_ ?_⟩
            · rintro i x σ' H10 hx ⟨⟨z1, z2, z3, z5, rfl⟩, k10, t10⟩
              obtain ⟨key2, hk, rfl⟩ := get_map hx
              have hlen : (encT (putsT n (js.take i) v)).length < 1000 + 1 := by
                rw [encT_len, ← keys_len, puts_keys (fun k h => hjm _ (List.mem_of_mem_take h)), keys_len]
                omega
              walk_at "rds"
              refine ⟨tb, _, rfl, DPut.k (k := Sum.inr (tx key2)) t10 (small1000 (by omega)), ⟨_, _, _, _, rfl⟩, k10.put, ?_⟩
              rw [upd_same, putK_enc, puts_snoc hk]
            · rintro σ' H10 ⟨⟨z1, z2, z3, z5, rfl⟩, k10, t10⟩
              rw [List.length_map, List.take_length, ← puts_perm e1 (fun k h => hks.mem h)] at t10
              have hl : (putsT n ks v).length = n.length := by rw [← keys_len, puts_keys (fun k h => hks.mem h), keys_len]
              refine ⟨⟨putsT n ks v, by omega, kH6.trans ((Keep1.k4 k7).trans ((Same.k4 s8).trans (Keep1.k4' k10))), (hW6.put k7 t7 (fun b o hb hbt => k10 _ _ (s8 _ _ hb) hbt) t10 (hW6.ok.puts hv1 hv2 fun k h => hks.mem h))⟩, _, _, _, _, _, rfl⟩
          · walk_at "rds"
            refine ⟨rfl, ?_⟩
            walk_at "rds"
            refine rd_ite (fun h => ?_) (fun h => ?_)
            · walk_at "rds"
              exact hY h
            · exact hB h
    · rintro σ' H2 ⟨⟨n, hn, k2, hW2⟩, y1, y2, y3, y4, y5, rfl⟩
      exact q n H2 (by omega) k2 hW2
end

--C _law_is_it._law_key
--C _law_is_it._law_is_so
section
variable {P : Program} {w : World} {K : PySem.W.Frag} {mg : Str → Option Value} {base : Heap}
/-- o[k], a key that is there -/
def spGetK (C : Addr) : Sp := fun vs H Q _ => ∃ (a d : Addr) (ls : List Nat) (m : Tab) (k : List Nat) (v : Int), vs = [.ref a, .str (tx k)] ∧ St C H a d ls m ∧ Ov ls k ∧ getT m k = some v ∧ ∀ H', Same H H' → Q (.int v) H'
theorem mem_of_get {m : Tab} {k : List Nat} {v : Int} (h : getT m k = some v) : k ∈ keysT m := Classical.byContradiction fun hc => by
  rw [getT_none hc] at h
  cases h
theorem met_getK (T : Txt K mg) : MetG P w K mg base CX0 (SC mg) "__getitem__" ["self", "at"] 4 (spGetK (SC mg)) := metG_of T.k_Store T.a_Store___getitem__ fun f fd F => by
  have C_Store___contains__ := met_in (P := P) (w := w) (base := base) T
  refine F.ok sc_Store___getitem__ (fun vs H Q E h => ?_) (fun cdv A outer s H vs Q E hr h => ?_)
  · obtain ⟨a, d, ls, m, k, v, rfl, _⟩ := h
    rfl
  · obtain ⟨a, d, ls, m, k, v, rfl, hS, hk, hv, q⟩ := h
    refine ⟨_, (pss_cons (ps_if (pt_cmpR (notIn_G C_Store___contains__ hr (by decide)) (pv 1) (pv 0) (by rfl))
      (pss_one ps_dead)
      pss_nil)
      (pss_one (ps_ret (pe_dget (by exact hu_of hr) (pe_fldK (K := K) (by rfl) (pv 0) (by rfl)) (pv 1) (fun _ _ => rfl))))), ?_⟩
    obtain ⟨dx, ho⟩ := hS.o
    have hin : inB ls m (.str (tx k)) = true := by
      show (isTxtB ls (.str (tx k)) && decide ((tx k).cps.toList ∈ keysT m)) = true
      rw [isTxt_ov hk, tx_cps, Bool.true_and]
      exact decide_eq_true (mem_of_get hv)
    walk_at "rds"
    refine ⟨a, dx, _, rfl, ho, a, d, ls, m, _, rfl, hS, .inl ⟨k, rfl, hk.2⟩, fun H1 s1 => ⟨_, rfl, ?_⟩⟩
    rw [hin]
    walk_at "rds"
    refine rd_ite (fun h => by cases h) (fun _ => ?_)
    walk_at "rds"
    refine ⟨a, _, dx, _, _, rfl, s1 _ _ ho, T.k_Store, T.n_Store_table, rfl, ?_⟩
    walk_at "rds"
    refine ⟨d, .int v, rfl, ?_, q _ s1⟩
    have g := DGet.k (k := Sum.inr (tx k)) (s1 _ _ hS.t)
    rw [valV_enc, hv] at g
    exact g
theorem nil_first {m : Tab} {ks : List (List Nat)} (h : KR m [] none none ks) (h0 : [] ∈ keysT m) : ∃ r, ks = [] :: r := by
  have hm : [] ∈ ks := h.1.mem_iff.mpr (List.mem_filter.mpr ⟨h0, inR_all⟩)
  cases ks with
  | nil => cases hm
  | cons k r =>
    rcases List.mem_cons.mp hm with e | e
    · exact ⟨r, by rw [← e]⟩
    · have := (List.pairwise_cons.mp h.2).1 [] e
      cases k with
      | nil => exact ⟨r, rfl⟩
      | cons c k => exact absurd (List.Lex.nil : ([] : List Nat) < c :: k) this
theorem asc_head : ∀ {u : List Nat} {c : Nat}, ascB (c :: u) = true → ∀ x ∈ c :: u, c ≤ x
  | [], c, _, x, hx => by
    rw [List.mem_singleton.mp hx]
    exact Nat.le_refl _
  | y :: u, c, h, x, hx => by
    unfold ascB at h
    simp only [List.drop_succ_cons, List.drop_zero, List.zip_cons_cons, List.all_cons, Bool.and_eq_true, decide_eq_true_eq] at h
    have hcy : c < y := by
      rcases List.cons_lt_cons_iff.mp h.1 with z | ⟨_, z⟩
      · exact z
      · simp at z
    rcases List.mem_cons.mp hx with e | hx
    · omega
    · have := asc_head (u := u) (c := y) (by unfold ascB; simpa using h.2) x hx
      omega
theorem low_only {ls : List Nat} {m : Tab} {c : Nat} (hc : ∀ x ∈ ls, c ≤ x) (hk : KB ls 3 m) {ks : List (List Nat)} (h : KR m [] (some [c]) none ks) : ∀ k, k ∈ ks ↔ k ∈ keysT m ∧ k = [] := fun k => by
  rw [h.1.mem_iff, List.mem_filter]
  constructor
  · rintro ⟨h1, h2⟩
    refine ⟨h1, ?_⟩
    have h3 : k < [c] := by
      unfold Un.inR upB afB at h2
      simpa using h2
    cases k with
    | nil => rfl
    | cons x k =>
      have hx := hc x ((hk _ h1).1 x List.mem_cons_self)
      rcases List.cons_lt_cons_iff.mp h3 with h4 | ⟨_, h4⟩
      · omega
      · simp at h4
  · rintro ⟨h1, rfl⟩
    refine ⟨h1, ?_⟩
    unfold Un.inR upB afB
    simp
theorem put_drop {ls : List Nat} {m : Tab} {c : Nat} {v : Int} (hc : ∀ x ∈ ls, c ≤ x) (hk : KB ls 3 m) (h0 : [] ∉ keysT m) {ks : List (List Nat)} (h : KR (putT m [] v) [] (some [c]) none ks) : dropsT (putT m [] v) ks = m := by
  have e1 : putT m [] v = m ++ [([], v)] := by
    unfold putT
    rw [if_neg]
    intro z
    obtain ⟨p, hp, e⟩ := List.any_eq_true.mp z
    exact h0 (List.mem_map.mpr ⟨p, hp, of_decide_eq_true e⟩)
  have hk1 : KB ls 3 (putT m [] v) := fun k hk' => by
    rw [e1] at hk'
    unfold keysT at hk'
    rw [List.map_append] at hk'
    rcases List.mem_append.mp hk' with z | z
    · exact hk k z
    · rw [List.mem_singleton.mp z]
      exact ⟨fun c hc => (nomatch hc), Nat.zero_le _⟩
  have hl := low_only hc hk1 h
  rw [drops_eq, e1, List.filter_append, List.filter_eq_self.mpr, List.filter_eq_nil_iff.mpr, List.append_nil]
  · intro p hp
    rw [List.mem_singleton.mp hp]
    have : ([] : List Nat) ∈ ks := (hl []).mpr ⟨by rw [e1]; unfold keysT; simp, rfl⟩
    simp [this]
  · intro p hp
    have : p.1 ∉ ks := fun z => h0 (((hl p.1).mp z).2 ▸ List.mem_map.mpr ⟨p, hp, rfl⟩)
    simp [this]
theorem put_back {m : Tab} {k : List Nat} {v w : Int} (hn : (keysT m).Nodup) (h : getT m k = some w) : putT (putT m k v) k w = m := by
  have hk := mem_of_get h
  have hk1 : k ∈ keysT (putT m k v) := by rw [putT_keys, if_pos hk]; exact hk
  rw [putT_in hk1, putT_in hk, List.map_map]
  refine (List.map_congr_left fun p hp => ?_).trans (List.map_id _)
  by_cases e : p.1 = k
  · have z := getT_mem hn hp
    rw [e, h] at z
    have e2 : p = (k, w) := Prod.ext e (Option.some.inj z).symm
    simp [e2]
  · simp [e]
def spIsIt (C : Addr) : Sp := fun vs H Q _ => ∃ (a d tb : Addr) (ls : List Nat) (m : Tab), vs = [.ref a, .ref a, .ref tb] ∧ LsOk ls ∧ St C H a d ls m ∧ H tb = some (.dK (encT m)) ∧ tb ≠ d ∧ TabOk ls 3 m ∧ m.length ≤ 90 ∧
  ∀ H', Keep1 d H H' → H' d = some (.dK (encT m)) → Q (.bl true) H'
theorem cl_is_it (T : Txt K mg) : ClG P w K mg base "_law_is_it" ["_law_store", "_law_other", "_law_table"] 6 (spIsIt (SC mg)) := clG_of T.a__law_is_it fun f fd F => by
  have C_Store_pairs_1 := at_pairs_1 (P := P) (w := w) (base := base) T
  have C_Store___setitem__ := met_set (P := P) (w := w) (base := base) T
  have C_Store___getitem__ := met_getK (P := P) (w := w) (base := base) T
  have C_Store___contains__ := met_in (P := P) (w := w) (base := base) T
  have C_Store_take_3 := at_take_3 (P := P) (w := w) (base := base) T
  have C__law_shown := cl_shown (P := P) (w := w) (base := base) T
  refine okG F sc__law_is_it (fun vs H Q E h => ?_) (fun cdv A outer s H vs Q E hgd hr h => ?_)
  · obtain ⟨a, d, tb, ls, m, rfl, _⟩ := h
    rfl
  · obtain ⟨a, d, tb, ls, m, rfl, ⟨hal, hne, hl5, hla⟩, hS, htb, htd, hT, hm, q⟩ := h
    refine ⟨_, (Evl.pss_cut (ps_set (i := 3) sc__law_is_it.nd rfl (Or.inl rfl) (pe_ifExp (pt_cmp (pc_dnotin (by exact hu_of hr) (pe_strX [] (by decide +kernel)) (pv 2))) (pe_strX [] (by decide +kernel)) (pe_ix ix_tup (pe_ix ix_list (pe_mtD0 C_Store_pairs_1 hr (by decide) (pv 0)) pe_int (fun _ _ => rfl)) pe_int (fun _ _ => rfl))))
      (pss_cons (ps_set (i := 4) sc__law_is_it.nd rfl (Or.inl rfl) (pe_dget2 (by exact hu_of hr) (pv 2) (pv 3) pe_non ⟨rfl, rfl, rfl, rfl⟩))
      (pss_cons (ps_asg pe_int (pg_sub (pv 1) (pv 3) (set_GX C_Store___setitem__ T.q_Store hr (by decide) takes0)))
      (Evl.pss_cut (ps_set (i := 5) sc__law_is_it.nd rfl (Or.inl rfl) (pe_and (pe_cmpR (in_G C_Store___contains__ hr (by decide)) (pv 3) (pv 0) (by rfl)) (pe_one (pe_cmpR op_eq (pe_getG C_Store___getitem__ hr (by decide) pass0 (pv 0) (pv 3)) pe_int (nomark _)))))
      (pss_cons (ps_if (pt_cmpR op_isN' (pv 4) pe_non (nomark _))
      (pss_one (ps_expr (pe_mtD C_Store_take_3 hr (by decide) (pv 0) (pa_cons (pe_strX [] (by decide +kernel)) (pa_cons (pe_ix ix_strX (pe_fldK (K := K) (by rfl) (pv 0) (by rfl)) pe_int (fun _ _ => rfl)) pa_nil)))))
      (pss_one (ps_asg (pv 4) (pg_sub (pv 0) (pv 3) (set_GX C_Store___setitem__ T.q_Store hr (by decide) takes0)))))
      (pss_one (ps_ret (pe_and (pv 5) (pe_one (pe_cmpR op_eq (pe_callB (r := rReprZ K) (call_reprZ hgd hr) (by rfl) T.m_repr (by decide +kernel) (pa_cons (pe_mtD0 C_Store_pairs_1 hr (by decide) (pv 1)) pa_nil)) (pe_callB (r := rReprZ K) (call_reprZ hgd hr) (by rfl) T.m_repr (by decide +kernel) (pa_cons (pe_cl C__law_shown (hr.mono (by decide)) (by rfl) (pa_cons (pv 2) pa_nil)) pa_nil)) (nomark _))))))))))), ?_⟩
    have hov0 : Ov ls [] := ⟨fun c hc => (nomatch hc), Nat.zero_le _⟩
    refine rd_cut (fun σ' H' => σ' = [some (.ref a), some (.ref a), some (.ref tb), some (.str (tx [])), none, none] ∧ Same H H') ?_ ?_
    · walk_at "rds"
      refine ⟨tb, _, rfl, DGet.k (k := Sum.inr (tx [])) htb, ?_⟩
      rw [valV_enc]
      walk_at "rds"
      refine rd_ite (fun hno => ?_) (fun hno => ?_)
      · walk_at "rds"
        exact ⟨rfl, same_refl _⟩
      · have hin : [] ∈ keysT m := Classical.byContradiction fun hc => by
          rw [getT_none hc] at hno
          cases hno
        obtain ⟨dx, ho⟩ := hS.o
        walk_at "rds"
        refine ⟨a, _, _, rfl, ho, rfl, ?_⟩
        walk_at "rds"
        refine ⟨a, d, ls, m, [], none, none, rfl, hS, by omega, fun ks r us H1 hks s1 hr1 er1 pr1 => ?_⟩
        obtain ⟨r0, rfl⟩ := nil_first hks hin
        have pr1' : Prs H1 (([], (getT m []).getD 0) :: prT m r0) us := pr1
        cases pr1' with
        | cons hv tl =>
          obtain ⟨T0, rfl, hT0⟩ := hv
          walk_at "rds"
          refine rd_ixL (SqL.of er1) (v := .ref T0) (by simp [atI, ixN]) ?_
          walk_at "rds"
          refine rd_ixT (SqT.of hT0) (v := .str (tx [])) (by rfl) ?_
          walk_at "rds"
          exact ⟨rfl, s1⟩
    · rintro σ' H1 ⟨rfl, s1⟩
      have hS1 := hS.same s1
      have htb1 := s1 _ _ htb
      walk_at "rds"
      refine ⟨tb, rfl, .inl ⟨_, .inl htb1⟩, ?_⟩
      walk_at "rds"
      refine ⟨_, DGet.k (k := Sum.inr (tx [])) htb1, ?_⟩
      rw [valV_enc]
      walk_at "rds"
      obtain ⟨dx, ho⟩ := hS1.o
      refine ⟨a, _, _, rfl, ho, set_ok hS1 hov0 (by decide) (by omega) fun H2 k2 t2 => ?_⟩
      have hS2 := hS1.keep k2 t2
      have htb2 := k2 _ _ htb1 htd
      have kH2 : Keep1 d H H2 := (Same.keep1 s1).trans k2
      have hg2 : getT (putT m [] 123456) [] = some 123456 := getT_mem (p := ([], 123456)) (putT_nodup hT.nd) putT_mem
      obtain ⟨dx2, ho2⟩ := hS2.o
      refine rd_cut (fun σ' H' => σ' = [some (.ref a), some (.ref a), some (.ref tb), some (.str (tx [])), some (((getT m []).map V.int).getD .non), some (.bl true)] ∧ Same H2 H') ?_ ?_
      · walk_at "rds"
        have hin : inB ls (putT m [] 123456) (.str (tx [])) = true := by
          show (isTxtB ls (.str (tx [])) && decide ((tx []).cps.toList ∈ keysT (putT m [] 123456))) = true
          rw [isTxt_ov hov0, tx_cps, Bool.true_and]
          exact decide_eq_true (mem_of_get hg2)
        refine ⟨a, dx2, _, rfl, ho2, a, d, ls, _, _, rfl, hS2, .inl ⟨[], rfl, Nat.zero_le _⟩, fun H3 s3 => ⟨_, rfl, ?_⟩⟩
        rw [hin]
        refine ⟨true, rfl, ?_⟩
        refine rd_ite (fun _ => ?_) (fun h => by cases h)
        walk_at "rds"
        refine ⟨a, dx2, _, rfl, s3 _ _ ho2, a, d, ls, _, [], 123456, rfl, hS2.same s3, hov0, hg2, fun H4 s4 => ?_⟩
        walk_at "rds"
        exact ⟨rfl, same_trans s3 s4⟩
      · rintro σ' H3 ⟨rfl, s3⟩
        have hS3 := hS2.same s3
        obtain ⟨dx3, ho3⟩ := hS3.o
        have htb3 := s3 _ _ htb2
        have kH3 : Keep1 d H H3 := kH2.trans (Same.keep1 s3)
        have gA : ∀ ks, KR m [] none none ks → GoodZ 20 200000 (plD (prT m ks)) := fun ks hks => (plD_good (prT_ok (hT.ok hla (by decide)) fun k h => hks.mem h) (by rw [prT_len]; have := hks.len; omega)).mono (by decide) (by decide)
        walk_at "rds"
        refine rd_ite (fun hn => ?_) (fun hn => ?_)
        · have h0 : [] ∉ keysT m := fun hc => by
            obtain ⟨w0, hw0⟩ := getT_some hc
            rw [hw0] at hn
            exact absurd (of_decide_eq_true hn) (by simp)
          cases ls with
          | nil => exact absurd rfl hne
          | cons c0 ls' =>
          have hmin : ∀ x ∈ c0 :: ls', c0 ≤ x := by
            unfold areB at hal
            exact asc_head (Bool.and_eq_true_iff.mp (Bool.and_eq_true_iff.mp (Bool.and_eq_true_iff.mp hal).2).2).2
          walk_at "rds"
          refine ⟨a, _, _, rfl, ho3, rfl, ?_⟩
          walk_at "rds"
          refine ⟨a, _, dx3, _, _, rfl, ho3, T.k_Store, T.n_Store_letters, rfl, ?_⟩
          walk_at "rds"
          refine rd_ixX (l := c0 :: ls') (n := c0) (sz_of' (by omega)) (by simp [atI, ixN]) ?_
          walk_at "rds"
          refine ⟨a, d, _, _, [], some [c0], none, rfl, hS3, putT_nodup hT.nd, by have := put_len (m := m) (k := []) (v := 123456); omega, fun ks0 H4 hks0 k4 t4 => ?_⟩
          rw [put_drop hmin hT.kb h0 hks0] at t4
          have hS4 : St (SC mg) H4 a d (c0 :: ls') m := hS3.keep k4 t4
          have htb4 := k4 _ _ htb3 htd
          obtain ⟨dx4, ho4⟩ := hS4.o
          walk_at "rds"
          refine rd_ite (fun _ => ?_) (fun h => by cases h)
          walk_at "rds"
          refine ⟨a, _, _, rfl, ho4, rfl, ?_⟩
          walk_at "rds"
          refine ⟨a, d, _, m, [], none, none, rfl, hS4, by omega, fun ks r us H5 hks s5 hr5 er5 pr5 => ?_⟩
          walk_at "rds"
          refine rd_reprZ (Prs.list er5 pr5) (gA ks hks) ?_
          walk_at "rds"
          refine ⟨tb, m, rfl, s5 _ _ htb4, by omega, fun ks' r6 us6 H6 hks' s6 hr6 er6 pr6 => ?_⟩
          cases hks.uniq hks'
          walk_at "rds"
          refine rd_reprZ (Prs.list er6 pr6) (gA ks hks) ?_
          walk_at "rds"
          have et : ∀ z : V, decide (z = z) = true := fun z => by simp
          rw [et]
          exact q H6 (kH3.trans (k4.trans (Same.keep1 (same_trans s5 s6)))) ((same_trans s5 s6) _ _ t4)
        · obtain ⟨w0, hw0⟩ : ∃ w0, getT m [] = some w0 := by
            cases hg : getT m [] with
            | none =>
              rw [hg] at hn
              exact absurd hn (by simp)
            | some w0 => exact ⟨w0, rfl⟩
          have hw1 := (hT.v _ (by
            have hk0 := mem_of_get hw0
            obtain ⟨p, hp, e⟩ := List.mem_map.mp hk0
            have z := getT_mem hT.nd hp
            rw [e, hw0] at z
            have e2 : p = ([], w0) := Prod.ext e (Option.some.inj z).symm
            rw [e2] at hp
            exact hp)).1
          rw [hw0]
          walk_at "rds"
          refine ⟨a, _, _, rfl, ho3, set_ok hS3 hov0 hw1 (by have := put_len (m := m) (k := []) (v := 123456); omega) fun H4 k4 t4 => ?_⟩
          rw [put_back hT.nd hw0] at t4
          have hS4 : St (SC mg) H4 a d ls m := hS3.keep k4 t4
          have htb4 := k4 _ _ htb3 htd
          obtain ⟨dx4, ho4⟩ := hS4.o
          walk_at "rds"
          refine rd_ite (fun _ => ?_) (fun h => by cases h)
          walk_at "rds"
          refine ⟨a, _, _, rfl, ho4, rfl, ?_⟩
          walk_at "rds"
          refine ⟨a, d, _, m, [], none, none, rfl, hS4, by omega, fun ks r us H5 hks s5 hr5 er5 pr5 => ?_⟩
          walk_at "rds"
          refine rd_reprZ (Prs.list er5 pr5) (gA ks hks) ?_
          walk_at "rds"
          refine ⟨tb, m, rfl, s5 _ _ htb4, by omega, fun ks' r6 us6 H6 hks' s6 hr6 er6 pr6 => ?_⟩
          cases hks.uniq hks'
          walk_at "rds"
          refine rd_reprZ (Prs.list er6 pr6) (gA ks hks) ?_
          walk_at "rds"
          have et : ∀ z : V, decide (z = z) = true := fun z => by simp
          rw [et]
          exact q H6 (kH3.trans (k4.trans (Same.keep1 (same_trans s5 s6)))) ((same_trans s5 s6) _ _ t4)
end

--C _law_work._law_inner
section
variable {P : Program} {w : World} {K : PySem.W.Frag} {mg : Str → Option Value} {base : Heap}
/-- x is not a truth value, x None or one -/
def rNotBN : R2 := fun x y H Q => ∃ b : Bool, y = .bl b ∧ ((x = .non ∧ Q (.bl true) H) ∨ ∃ a : Bool, x = .bl a ∧ Q (.bl (!decide (a = b))) H)
theorem op_notBl {X : Cx} : OpR X (compareOp .IsNot) rNotBN := by
  intro pins s σ H x y v u Q I rx ry ⟨b, ey, h⟩
  rcases h with ⟨ex, q⟩ | ⟨a, ex, q⟩
  · subst ex ey
    cases (show v = Value.none from rx)
    cases (show u = Value.bool b from ry)
    exact wpAny_isNot_other rfl (fun z => nomatch z) ⟨.bl true, H, I, rfl, q⟩
  · exact L2.op_notBl pins s σ H x y v u Q I rx ry ⟨a, b, ex, ey, q⟩
/-! ### frames, tables of code objects -/
abbrev Q1 : Str := ("_law_tried" ++ ".<locals>." : Str) ++ ("<lambda>" : Str)
abbrev Q2 : Str := ("_law_both_right" ++ ".<locals>." : Str) ++ ("<lambda>" : Str)
abbrev Q3 : Str := (Q2 ++ ".<locals>." : Str) ++ ("<lambda>" : Str)
abbrev RT : Hp → Addr → Prop := fun _ _ => True
def R2 (P1 P2 : Addr) : Hp → Addr → Prop := fun H T => T ≠ P1 ∧ T ≠ P2 ∧ UnP.TabW RT H T Q3
def TK (P1 P2 : Addr) (H : Hp) : Prop := UnP.TabW RT H P1 Q1 ∧ UnP.TabW (R2 P1 P2) H P2 Q2
def IsT (o : HO) : Prop := (∃ ps, o = .tbl ps) ∨ ∃ c q P, o = UnP.CodeH c q P
theorem tabW_keep {R : Hp → Addr → Prop} {H H' : Hp} {P : Addr} {q : Str} (k : ∀ b o, H b = some o → IsT o → H' b = some o) (hR : ∀ T, R H T → R H' T) (h : UnP.TabW R H P q) : UnP.TabW R H' P q := by
  obtain ⟨ps, h1, h2, h3⟩ := h
  refine ⟨ps, k _ _ h1 (.inl ⟨ps, rfl⟩), h2, fun pos cv hc => ?_⟩
  obtain ⟨c, P', e1, e2, e3⟩ := h3 pos cv hc
  exact ⟨c, P', e1, k _ _ e2 (.inr ⟨c, q, P', rfl⟩), hR _ e3⟩
theorem TK.keep {P1 P2 : Addr} {H H' : Hp} (k : ∀ b o, H b = some o → IsT o → H' b = some o) (h : TK P1 P2 H) : TK P1 P2 H' :=
  ⟨tabW_keep k (fun _ _ => trivial) h.1, tabW_keep k (fun T r => ⟨r.1, r.2.1, tabW_keep k (fun _ _ => trivial) r.2.2⟩) h.2⟩
theorem isT_lst {xs : List V} : ¬ IsT (.lst xs) := fun h => by
  rcases h with ⟨ps, e⟩ | ⟨c, q, P, e⟩
  · cases e
  · unfold UnP.CodeH at e; cases e
theorem isT_dK {kvs : List (Key × V)} : ¬ IsT (.dK kvs) := fun h => by
  rcases h with ⟨ps, e⟩ | ⟨c, q, P, e⟩
  · cases e
  · unfold UnP.CodeH at e; cases e
theorem isT_ins {C d : Addr} {fs : List (Str × V)} : ¬ IsT (.ins C d fs) := fun h => by
  rcases h with ⟨ps, e⟩ | ⟨c, q, P, e⟩
  · cases e
  · unfold UnP.CodeH at e; cases e
theorem ne_isT {H : Hp} {a b : Addr} {o u : HO} (h : H b = some o) (t : IsT o) (ha : H a = some u) (n : ¬ IsT u) : b ≠ a := fun z => by
  rw [z, ha] at h
  cases h
  exact n t
theorem Deal.lists {D L : Addr} {H : Hp} (h : Deal D L H) : ∃ x y, H D = some (.lst x) ∧ H L = some (.lst y) := by
  obtain ⟨cs, m, h1, h2, _⟩ := h
  exact ⟨_, _, h1, h2⟩
theorem TK.k4 {P1 P2 : Addr} {C D L a d tb : Addr} {ls : List Nat} {m : Tab} {H H' : Hp} (h : TK P1 P2 H) (W : Two C D L H a d tb ls m) (k : Keep4 D L d tb H H') : TK P1 P2 H' := h.keep fun b o hb ht => by
  obtain ⟨x, y, e1, e2⟩ := W.dl.lists
  exact k b o hb (ne_isT hb ht e1 isT_lst) (ne_isT hb ht e2 isT_lst) (ne_isT hb ht W.s.t isT_dK) (ne_isT hb ht W.t isT_dK)
theorem TK.same {P1 P2 : Addr} {H H' : Hp} (h : TK P1 P2 H) (k : Same H H') : TK P1 P2 H' := h.keep fun b o hb _ => k b o hb
theorem TK.kp {P1 P2 : Addr} {D L : Addr} {H H' : Hp} (h : TK P1 P2 H) (hD : Deal D L H) (k : Keep D L H H') : TK P1 P2 H' := h.keep fun b o hb ht => by
  obtain ⟨x, y, e1, e2⟩ := hD.lists
  exact k b o hb (ne_isT hb ht e1 isT_lst) (ne_isT hb ht e2 isT_lst)
/-- all but D, L, a, d and the code objects' tables stay; nothing is forgotten -/
structure KD (D L a d : Addr) (H H' : Hp) : Prop where
  old : ∀ b o, H b = some o → b ≠ D → b ≠ L → b ≠ a → b ≠ d → (∀ ps, o ≠ .tbl ps) → H' b = some o
  non : ∀ b, H' b = none → H b = none
theorem KD.of_same {D L a d : Addr} {H H' : Hp} (h : Same H H') : KD D L a d H H' := ⟨fun b o hb _ _ _ _ _ => h b o hb, fun b hb => same_none h hb⟩
theorem KD.of_keep {D L a d : Addr} {H H' : Hp} (h : Keep D L H H') (hD : Deal D L H') : KD D L a d H H' := ⟨fun b o hb h1 h2 _ _ _ => h b o hb h1 h2, fun b hb => by
  obtain ⟨x, y, e1, e2⟩ := hD.lists
  cases e : H b with
  | none => rfl
  | some o =>
    rw [h b o e (fun z => by rw [z, e1] at hb; cases hb) (fun z => by rw [z, e2] at hb; cases hb)] at hb
    cases hb⟩
theorem KD.trans {D L a d : Addr} {H H1 H2 : Hp} (x : KD D L a d H H1) (y : KD D L a d H1 H2) : KD D L a d H H2 := ⟨fun b o hb h1 h2 h3 h4 h5 => y.old b o (x.old b o hb h1 h2 h3 h4 h5) h1 h2 h3 h4 h5, fun b hb => x.non b (y.non b hb)⟩
/-- deeds on tables that were not there at first, or on d -/
theorem KD.deeds {C D L a d u t : Addr} {ls : List Nat} {m : Tab} {H H1 H2 : Hp} (x : KD D L a d H H1) (hu : u = d ∨ H u = none) (ht : H t = none) (k : Keep4 D L u t H1 H2) (W : Two C D L H2 a u t ls m) : KD D L a d H H2 := by
  obtain ⟨x1, y1, e1, e2⟩ := W.dl.lists
  refine ⟨fun b o hb h1 h2 h3 h4 h5 => k b o (x.old b o hb h1 h2 h3 h4 h5) h1 h2 (fun z => ?_) (fun z => ?_), fun b hb => x.non b ?_⟩
  · rcases hu with e | e
    · exact h4 (z.trans e)
    · rw [z, e] at hb
      cases hb
  · rw [z, ht] at hb
    cases hb
  · cases e : H1 b with
    | none => rfl
    | some o =>
      rw [k b o e (fun z => by rw [z, e1] at hb; cases hb) (fun z => by rw [z, e2] at hb; cases hb) (fun z => by rw [z, W.s.t] at hb; cases hb) (fun z => by rw [z, W.t] at hb; cases hb)] at hb
      cases hb
theorem Two.kp {C D L a d tb : Addr} {ls : List Nat} {m : Tab} {H H' : Hp} (h : Two C D L H a d tb ls m) (k : Keep D L H H') (hD : Deal D L H') : Two C D L H' a d tb ls m := ⟨hD, h.s.kd h.dl k, h.dl.kd k h.t, h.ne, h.ok⟩
/-! ### work -/
/-- what an end of work leaves -/
structure Left (C : Addr) (P1 P2 D L a d : Addr) (ls : List Nat) (H H' : Hp) : Prop where
  kd : KD D L a d H H'
  dl : Deal D L H'
  tk : TK P1 P2 H'
  st : ∃ dx d2, H' a = some (.ins C dx (SF ls d2))
/-- a list [True, a store, its pairs] -/
structure Told (C : Addr) (H H' : Hp) (ls : List Nat) (r : Addr) : Prop where
  ex : ∃ (c dc sh : Addr) (m : Tab) (ks : List (List Nat)) (us : List V), H' r = some (.lst [.bl true, .ref c, .ref sh]) ∧ St C H' c dc ls m ∧ H' sh = some (.lst us) ∧ KR m [] none none ks ∧ Prs H' (prT m ks) us ∧ TabOk ls 3 m ∧ m.length ≤ 90 ∧ H r = none ∧ H c = none ∧ H dc = none ∧ H sh = none
def ErrW (mg : Str → Option Value) (H' : Hp) (E : XK) : Prop := (∀ e, H' e = some (.xd [("value", .str (tx [64]))]) → E (.ref (CT mg)) (some e) H') ∧ (∀ e, H' e = some (.xd [("value", .int (-1))]) → E (.ref (CV mg)) (some e) H') ∧ ∀ e, E (.type "ZeroDivisionError") e H'
def spWork (mg : Str → Option Value) (C P1 P2 : Addr) (n : Nat) : Sp := fun vs H Q E => ∃ (D L a d tb : Addr) (ls : List Nat) (m : Tab), vs = [.ref D, .str (tx ls), .ref a, .ref tb, .int (n : Nat)] ∧ LsOk ls ∧ Two C D L H a d tb ls m ∧ TK P1 P2 H ∧ m.length + 8 * (n + 1) ≤ 90 ∧ n ≤ 5 ∧
  (∀ r H', Left C P1 P2 D L a d ls H H' → Told C H H' ls r → Q (.ref r) H') ∧ ∀ H', Left C P1 P2 D L a d ls H H' → ErrW mg H' E
def spTried (C P1 P2 : Addr) : Nat → Sp
  | 0 => fun _ _ _ _ => False
  | n + 1 => fun vs H Q _ => ∃ (D L a d tb : Addr) (ls : List Nat) (m : Tab), vs = [.ref D, .str (tx ls), .ref a, .ref tb, .int (n : Nat)] ∧ LsOk ls ∧ Two C D L H a d tb ls m ∧ TK P1 P2 H ∧ m.length + 8 * (n + 1) ≤ 90 ∧ n ≤ 5 ∧
    ∀ d' H', KD D L a d H H' → TK P1 P2 H' → H d' = none → Two C D L H' a d' tb ls m → Q (.bl true) H'
theorem cl_work (T : Txt K mg) {P1 P2 : Addr} {n kT kW : Nat} (h1 : kT ≤ kW) (h2 : 8 ≤ kW) (C__law_tried : ClG P w K mg base "_law_tried" ["_law_deal_here", "_law_letters_here", "_law_store", "_law_table", "_law_deep"] kT (spTried (SC mg) P1 P2 n)) :
    ClGN P w K mg base "_law_work" ["_law_deal_here", "_law_letters_here", "_law_store", "_law_table", "_law_deep"] (kW + 1) (spWork mg (SC mg) P1 P2 n) := clGN_of T.a__law_work fun f fd F => by
  have C__law_draw := cl_draw (P := P) (w := w) (base := base) T
  have C__law_deeds := cl_deeds (P := P) (w := w) (base := base) T
  have C__law_shown := cl_shown (P := P) (w := w) (base := base) T
  have C_Store_pairs_1 := at_pairs_1 (P := P) (w := w) (base := base) T
  have C_Store___setitem__ := met_set (P := P) (w := w) (base := base) T
  have C_Store_copied := met_copied (P := P) (w := w) (base := base) T
  refine okGN F sc__law_work (fun vs H Q E h => ?_) (fun cdv A outer s H vs Q E hgd hr h => ?_)
  · obtain ⟨D, L, a, d, tb, ls, m, rfl, _⟩ := h
    rfl
  · obtain ⟨D, L, a, d, tb, ls, m, rfl, ⟨hal, hne, hl5, hla⟩, hW, hTK, hm, hn5, q, qe⟩ := h
    refine ⟨_, (pss_cons (ps_set (i := 5) sc__law_work.nd rfl (Or.inl rfl) (pe_callTy call_dictD (by rfl) T.m_dict (by decide +kernel) (pa_cons (pv 3) pa_nil)))
      (pss_cons (ps_expr (pe_cl C__law_deeds (hr.mono (by first | decide | omega)) (by rfl) (pa_cons (pv 0) (pa_cons (pv 1) (pa_cons (pv 2) (pa_cons (pv 5) pa_nil))))))
      (Evl.pss_cut (ps_set (i := 6) sc__law_work.nd rfl (Or.inl rfl) pe_non)
      (Evl.pss_cut (ps_if (PW.pt (pw_and (pt_cmpR op_gt (pv 4) pe_int (nomark _)) (pw_and1 (pt_cmpR op_eq (pe_cl C__law_draw (hr.mono (by first | decide | omega)) (by rfl) (pa_cons (pv 0) (pa_cons pe_int pa_nil))) pe_int (nomark _)))))
      (Evl.pss_cut (ps_set (i := 6) sc__law_work.nd rfl (Or.inl rfl) (pe_clG C__law_tried hgd (hr.mono (by first | decide | omega)) (by rfl) (pa_cons (pv 0) (pa_cons (pv 1) (pa_cons (pv 2) (pa_cons (pv 5) (pa_cons (pe_op op_sub (pv 4) pe_int) pa_nil)))))))
      (pss_one (ps_expr (pe_cl C__law_deeds (hr.mono (by first | decide | omega)) (by rfl) (pa_cons (pv 0) (pa_cons (pv 1) (pa_cons (pv 2) (pa_cons (pv 5) pa_nil))))))))
      pss_nil)
      (pss_cons (ps_par (i := 7) (j := 8) (by rfl) sc__law_work.nd rfl rfl (by first | decide | omega) rfl rfl (pa_cons (pe_cl C__law_draw (hr.mono (by first | decide | omega)) (by rfl) (pa_cons (pv 0) (pa_cons pe_int pa_nil))) (pa_cons (pe_cmpR op_eq (pe_callB (r := rReprZ K) (call_reprZ hgd hr) (by rfl) T.m_repr (by decide +kernel) (pa_cons (pe_mtD0 C_Store_pairs_1 hr (by first | decide | omega) (pv 2)) pa_nil)) (pe_callB (r := rReprZ K) (call_reprZ hgd hr) (by rfl) T.m_repr (by decide +kernel) (pa_cons (pe_cl C__law_shown (hr.mono (by first | decide | omega)) (by rfl) (pa_cons (pv 5) pa_nil)) pa_nil)) (nomark _)) pa_nil)) (by rfl))
      (pss_cons (ps_if (pt_cmpR op_eq (pv 7) pe_int (nomark _))
      (pss_one (ps_asg pe_int (pg_sub (pv 2) (pe_strX [64] (by decide +kernel)) (set_GX C_Store___setitem__ T.q_Store hr (by first | decide | omega) (takes_of rfl rfl rfl rfl)))))
      pss_nil)
      (pss_cons (ps_if (pt_cmpR op_eq (pv 7) pe_int (nomark _))
      (pss_one (ps_asg (pe_un un_neg pe_int) (pg_sub (pv 2) (pe_strX [] (by decide +kernel)) (set_GX C_Store___setitem__ T.q_Store hr (by first | decide | omega) (takes_of rfl rfl rfl rfl)))))
      pss_nil)
      (pss_cons (ps_if (pt_cmpR op_eq (pv 7) pe_int (nomark _))
      (pss_one (ps_ret (pe_lst (pa_cons (pe_zero rfl (takes_of rfl rfl rfl rfl) pe_int (pe_op op_sub (pe_callB call_lenD (by rfl) T.m_len (by decide +kernel) (pa_cons (pv 5) pa_nil)) (pe_callB call_lenD (by rfl) T.m_len (by decide +kernel) (pa_cons (pv 5) pa_nil)))) (pa_cons (pv 6) pa_nil)))))
      pss_nil)
      (pss_one (ps_ret (pe_lst (pa_cons (pe_and (pv 8) (pe_one (pe_cmpR op_notBl (pv 6) pe_bl (nomark _)))) (pa_cons (pe_mtG0 C_Store_copied hr (by first | decide | omega) (pv 2)) (pa_cons (pe_cl C__law_shown (hr.mono (by first | decide | omega)) (by rfl) (pa_cons (pv 5) pa_nil)) pa_nil)))))))))))))), ?_⟩
    walk_at "rds"
    refine ⟨tb, _, rfl, .inl hW.t, fun t0 ht0 => ?_⟩
    have s1 := same_upd (o := .dK (encT m)) ht0
    have e1 : upd H t0 (.dK (encT m)) t0 = some (.dK (encT m)) := upd_same
    have ht0d : t0 ≠ d := fun z => by
      rw [z, hW.s.t] at ht0
      cases ht0
    generalize upd H t0 (.dK (encT m)) = H1 at s1 e1 ⊢
    have W1 : Two (SC mg) D L H1 a d t0 ls m := ⟨hW.dl.keep s1, hW.s.same s1, e1, ht0d, hW.ok⟩
    have hls : LsOk ls := ⟨hal, hne, hl5, hla⟩
    walk_at "rds"
    refine ⟨D, L, a, d, t0, ls, m, rfl, hls, W1, by omega, fun m1 H2 hl1 k2 W2 => ?_⟩
    have kd2 : KD D L a d H H2 := (KD.of_same s1).deeds (.inl rfl) ht0 k2 W2
    have tk2 : TK P1 P2 H2 := (hTK.same s1).k4 W1 k2
    clear k2 W1 e1 s1
    refine rd_cut (fun σ' H' => σ' = [some (.ref D), some (.str (tx ls)), some (.ref a), some (.ref tb), some (.int (n : Nat)), some (.ref t0), some .non, none, none] ∧ H' = H2) ?_ ?_
    · walk_at "rds"
      exact ⟨rfl, rfl⟩
    rintro σ' H2' ⟨rfl, rfl⟩
    refine rd_cut (fun σ' H' => ∃ y, σ' = [some (.ref D), some (.str (tx ls)), some (.ref a), some (.ref tb), some (.int (n : Nat)), some (.ref t0), some y, none, none] ∧ (y = .non ∨ y = .bl true) ∧ KD D L a d H H' ∧ TK P1 P2 H' ∧ ∃ d2 m2, Two (SC mg) D L H' a d2 t0 ls m2 ∧ m2.length ≤ m.length + 8) ?_ ?_
    · walk_at "rds"
      refine rd_ite (fun hn => ?_) (fun _ => ?_)
      · walk_at "rds"
        refine ⟨D, L, _, rfl, W2.dl, by decide, by decide, fun kk H3 _ _ kp3 hD3 => ?_⟩
        have W3 := W2.kp kp3 hD3
        have kd3 : KD D L a d H H3 := kd2.trans (KD.of_keep kp3 hD3)
        have tk3 := tk2.kp W2.dl kp3
        walk_at "rds"
        refine rd_ite (fun _ => ?_) (fun _ => ?_)
        · cases n with
          | zero => exact absurd (of_decide_eq_true hn) (by simp)
          | succ n =>
          refine rd_cut (fun σ' H' => σ' = [some (.ref D), some (.str (tx ls)), some (.ref a), some (.ref tb), some (.int ((n + 1 : Nat) : Int)), some (.ref t0), some (.bl true), none, none] ∧ KD D L a d H H' ∧ TK P1 P2 H' ∧ ∃ d2, H d2 = none ∧ Two (SC mg) D L H' a d2 t0 ls m1) ?_ ?_
          · walk_at "rds"
            refine ⟨D, L, a, d, t0, ls, m1, by rw [show ((n + 1 : Nat) : Int) - 1 = (n : Nat) by omega]; rfl, hls, W3, tk3, by omega, by omega, fun d' H4 kd4 tk4 hd' W4 => ?_⟩
            walk_at "rds"
            exact ⟨rfl, kd3.trans ⟨fun b o hb h1 h2 h3 h4 h5 => kd4.old b o hb h1 h2 h3 h4 h5, kd4.non⟩, tk4, d', kd3.non _ hd', W4⟩
          · rintro σ' H4 ⟨rfl, kd4, tk4, d4, hd4, W4⟩
            walk_at "rds"
            refine ⟨D, L, a, d4, t0, ls, m1, rfl, hls, W4, by omega, fun m5 H5 hl5' k5 W5 => ?_⟩
            exact ⟨_, rfl, .inr rfl, kd4.deeds (.inr hd4) ht0 k5 W5, tk4.k4 W4 k5, d4, m5, W5, by omega⟩
        · exact ⟨_, rfl, .inl rfl, kd3, tk3, d, m1, W3, by omega⟩
      · refine rd_ite (fun h => by cases h) (fun _ => ?_)
        exact ⟨_, rfl, .inl rfl, kd2, tk2, d, m1, W2, by omega⟩
    · rintro σ' H3 ⟨y, rfl, hy, kd3, tk3, d2, m2, W3, hl3⟩
      walk_at "rds"
      refine ⟨D, L, _, rfl, W3.dl, by decide, by decide, fun fo H4 hf1 hf2 kp4 hD4 => ?_⟩
      have W4 := W3.kp kp4 hD4
      have kd4 : KD D L a d H H4 := kd3.trans (KD.of_keep kp4 hD4)
      have tk4 := tk3.kp W3.dl kp4
      have gA : ∀ ks, KR m2 [] none none ks → GoodZ 20 200000 (plD (prT m2 ks)) := fun ks hks => (plD_good (prT_ok (W3.ok.ok hla (by decide)) fun k h => hks.mem h) (by rw [prT_len]; have := hks.len; omega)).mono (by decide) (by decide)
      obtain ⟨dx4, ho4⟩ := W4.s.o
      walk_at "rds"
      refine ⟨a, _, _, rfl, ho4, rfl, ?_⟩
      walk_at "rds"
      refine ⟨a, d2, ls, m2, [], none, none, rfl, W4.s, by omega, fun ks r5 us5 H5 hks s5 hr5 er5 pr5 => ?_⟩
      walk_at "rds"
      refine rd_reprZ (Prs.list er5 pr5) (gA ks hks) ?_
      walk_at "rds"
      refine ⟨t0, m2, rfl, s5 _ _ W4.t, by omega, fun ks' r6 us6 H6 hks' s6 hr6 er6 pr6 => ?_⟩
      cases hks.uniq hks'
      walk_at "rds"
      refine rd_reprZ (Prs.list er6 pr6) (gA ks hks) ?_
      have s46 := same_trans s5 s6
      have W6 := W4.same s46
      have kd6 : KD D L a d H H6 := kd4.trans (KD.of_same s46)
      have tk6 := tk4.same s46
      clear s46 kd4 tk4 W4 ho4 dx4 kd3 tk3 W3 kp4 hD4
      obtain ⟨dx6, ho6⟩ := W6.s.o
      have et : ∀ z : V, decide (z = z) = true := fun z => by simp
      walk_at "rds"
      rw [et]
      have left : ∀ H', Same H6 H' → Left (SC mg) P1 P2 D L a d ls H H' := fun H' s => ⟨kd6.trans (KD.of_same s), W6.dl.keep s, tk6.same s, dx6, d2, s _ _ ho6⟩
      refine rd_ite (fun _ => ?_) (fun _ => ?_)
      · have h64 : isTxtB ls (.str (tx [64])) = false := by
          show consB ls [64] = false
          unfold consB
          have : (64 : Nat) ∉ ls := fun hc => absurd (hla 64 hc) (by decide)
          simp [this]
        walk_at "rds"
        refine ⟨a, _, _, rfl, ho6, a, d2, ls, m2, _, _, rfl, W6.s, .inl ⟨[64], rfl, by decide⟩, .inl ⟨0, rfl⟩, by omega, fun _ e H' s' e' => (qe H' (left H' s')).1 e e', fun h => absurd (h64.symm.trans h) (by simp), fun k v e1 _ h => absurd (h64.symm.trans h) (by simp)⟩
      refine rd_next ?_
      walk_at "rds"
      refine rd_ite (fun _ => ?_) (fun _ => ?_)
      · have h0 : isTxtB ls (.str (tx [])) = true := isTxt_ov ⟨fun c hc => (nomatch hc), Nat.zero_le _⟩
        walk_at "rds"
        refine ⟨a, _, _, rfl, ho6, a, d2, ls, m2, _, _, rfl, W6.s, .inl ⟨[], rfl, by decide⟩, .inl ⟨-1, rfl⟩, by omega, fun h => absurd (h0.symm.trans h) (by simp), fun _ _ e H' s' e' => (qe H' (left H' s')).2.1 e e', fun k v _ e2 _ h => ?_⟩
        cases V.int.inj e2
        exact absurd h (by decide)
      refine rd_next ?_
      walk_at "rds"
      refine rd_ite (fun _ => ?_) (fun _ => ?_)
      · walk_at "rds"
        unfold tZero
        walk_at "rds"
        refine ⟨t0, _, rfl, W6.t, ?_⟩
        walk_at "rds"
        refine ⟨t0, _, rfl, W6.t, ?_⟩
        walk_at "rds"
        exact ⟨⟨1, rfl⟩, by rw [Int.sub_self], fun e => (qe H6 (left H6 (same_refl _))).2.2 e⟩
      · refine rd_next ?_
        have hov : ∀ q ∈ m2, Ov ls q.1 ∧ 0 ≤ q.2 := fun q hq => ⟨⟨(W6.ok.kb q.1 (List.mem_map.mpr ⟨q, hq, rfl⟩)).1, by have := (W6.ok.kb q.1 (List.mem_map.mpr ⟨q, hq, rfl⟩)).2; omega⟩, (W6.ok.v q hq).1⟩
        walk_at "rds"
        refine rd_ite (fun _ => ?_) (fun h => by cases h)
        walk_at "rds"
        have fin : (tCons (tMeth (SC mg) (Str.ofString "copied") (spCopied (SC mg)) [] E0 (tVar 2) tNil) (tCons (tCall spShown [] E0 (tCons (tVar 5) tNil)) tNil) (([some (V.ref D), some (V.str (tx ls)), some (V.ref a), some (V.ref tb), some (V.int n), some (V.ref t0), some y, none, none].set 7 (some (V.int fo))).set 8 (some (V.bl true))) H6 fun xs H2 => (V.bl true :: xs).length ≤ sizeLine ∧ ∀ (p : Addr), H2 p = none → Q (V.ref p) (upd H2 p (HO.lst (V.bl true :: xs)))) := by
          walk_at "rds"
          refine ⟨a, _, _, rfl, ho6, rfl, ?_⟩
          walk_at "rds"
          refine ⟨a, d2, ls, m2, rfl, W6.s, hal, by omega, W6.ok.nd, hov, by omega, fun c dc H7 s7 hc hdc hS7 => ?_⟩
          walk_at "rds"
          refine ⟨t0, m2, rfl, s7 _ _ W6.t, by omega, fun ks2 sh us8 H8 hks8 s8 hsh esh psh => ?_⟩
          walk_at "rds"
          refine ⟨by show 3 ≤ sizeLine; decide, fun r hr0 => ?_⟩
          have s9 := same_upd (o := .lst [V.bl true, .ref c, .ref sh]) hr0
          have s69 := same_trans s7 (same_trans s8 s9)
          refine q r _ (left _ s69) ⟨c, dc, sh, m2, ks2, us8, upd_same, (hS7.same s8).same s9, s9 _ _ esh, hks8, psh.same s9, W6.ok, by omega, ?_, kd6.non _ hc, kd6.non _ hdc, kd6.non _ (same_none s7 hsh)⟩
          exact kd6.non _ (same_none (same_trans s7 s8) hr0)
        refine ⟨false, rfl, ?_⟩
        rcases hy with rfl | rfl
        · exact .inl ⟨rfl, fin⟩
        · exact .inr ⟨true, rfl, fin⟩
/-! ### entered -/
def spEnt (mg : Str → Option Value) (C P1 P2 : Addr) (n : Nat) : Sp := fun vs H Q E => ∃ (hd D L a d tb wd : Addr) (ls : List Nat) (m : Tab), vs = [.ref hd, .ref D, .str (tx ls), .ref a, .ref wd] ∧ H hd = some (.lst []) ∧ hd ≠ D ∧ hd ≠ L ∧ H wd = some (.tup [.ref tb, .int (n : Nat)]) ∧ LsOk ls ∧ Two C D L H a d tb ls m ∧ TK P1 P2 H ∧ m.length + 8 * (n + 1) ≤ 90 ∧ n ≤ 5 ∧
  ∀ H1, H1 = upd H hd (.lst [.ref a]) → (∀ r H', Left C P1 P2 D L a d ls H1 H' → Told C H1 H' ls r → Q (.ref r) H') ∧ ∀ H', Left C P1 P2 D L a d ls H1 H' → ErrW mg H' E
theorem cl_ent (T : Txt K mg) {P1 P2 : Addr} {n kW : Nat} (h1 : 1 ≤ kW) (C__law_work : ClGN P w K mg base "_law_work" ["_law_deal_here", "_law_letters_here", "_law_store", "_law_table", "_law_deep"] kW (spWork mg (SC mg) P1 P2 n)) :
    ClGN P w K mg base "_law_entered" ["_law_handed", "_law_deal_here", "_law_letters_here", "_law_store", "_law_world"] (kW + 1) (spEnt mg (SC mg) P1 P2 n) := clGN_of T.a__law_entered fun f fd F => by
  refine okGN F sc__law_entered (fun vs H Q E h => ?_) (fun cdv A outer s H vs Q E hgd hr h => ?_)
  · obtain ⟨hd, D, L, a, d, tb, wd, ls, m, rfl, _⟩ := h
    rfl
  · obtain ⟨hd, D, L, a, d, tb, wd, ls, m, rfl, hh, hhD, hhL, hw, hls, hW, hTK, hm, hn5, q⟩ := h
    refine ⟨_, (pss_cons (ps_expr (pe_bm PySem.F.plainAttrs_list PySem.F.slot_list_append PySem.F.type_list_append mt_append (pv 0) (pa_cons (pv 3) pa_nil)))
      (pss_one (ps_ret (pe_clGX C__law_work hgd hr (by first | decide | omega) (by rfl) (takes_of rfl rfl rfl rfl) (pa_cons (pv 1) (pa_cons (pv 2) (pa_cons (pv 3) (pa_cons (pe_ix ix_tup (pv 4) pe_int (fun _ _ => rfl)) (pa_cons (pe_ix ix_tup (pv 4) pe_int (fun _ _ => rfl)) pa_nil))))))))), ?_⟩
    walk_at "rds"
    refine rd_tyL (SqL.of hh) ?_
    walk_at "rds"
    refine rd_app hh (by show 0 < sizeLine; decide) ?_
    obtain ⟨q1, q2⟩ := q _ rfl
    obtain ⟨x, y, e1, e2⟩ := hW.dl.lists
    have htb : tb ≠ hd := fun z => by
      have := hW.t
      rw [z, hh] at this
      cases this
    have hwd : wd ≠ hd := fun z => by
      rw [z, hh] at hw
      cases hw
    have hd0 : d ≠ hd := fun z => by
      have := hW.s.t
      rw [z, hh] at this
      cases this
    have k1 : ∀ b o, H b = some o → b ≠ hd → upd H hd (.lst [.ref a]) b = some o := fun b o hb h => by
      rw [upd_ne h]
      exact hb
    obtain ⟨dx, ho⟩ := hW.s.o
    have ha0 : a ≠ hd := fun z => by
      rw [z, hh] at ho
      cases ho
    have W1 : Two (SC mg) D L (upd H hd (.lst [.ref a])) a d tb ls m := by
      obtain ⟨cs, mm, z1, z2, z3⟩ := hW.dl
      exact ⟨⟨cs, mm, k1 _ _ z1 hhD.symm, k1 _ _ z2 hhL.symm, z3⟩, ⟨⟨dx, k1 _ _ ho ha0⟩, k1 _ _ hW.s.t hd0⟩, k1 _ _ hW.t htb, hW.ne, hW.ok⟩
    have tk1 : TK P1 P2 (upd H hd (.lst [.ref a])) := hTK.keep fun b o hb ht => k1 _ _ hb (ne_isT hb ht hh isT_lst)
    have hw1 := k1 _ _ hw hwd
    show _
    walk_at "rds"
    refine rd_ixT (SqT.of hw1) (v := .ref tb) (by rfl) ?_
    walk_at "rds"
    refine rd_ixT (SqT.of hw1) (v := .int (n : Nat)) (by rfl) ?_
    walk_at "rds"
    exact ⟨D, L, a, d, tb, ls, m, rfl, hls, W1, tk1, hm, hn5, q1, q2⟩
end

--C _law_tried.try
--C _law_tried._law_found
--Y _law_tried 1 : (pe_mlamG (k := kE + 7) (y := "store") (TT := TTwithin (SC mg) (TC mg)) (q := Q1) (P := P1) (R := RT) (Pre := fun _ => True) T.k_Store T.a_Store_within sc_Store_within rfl (.inl rfl) (fun g cdg => gives_within T (show 3 ≤ kE + 7 + 1 by omega) g cdg _) rfl (code_static TB) rfl $K hr (UnP.lamP_by (sc := defScope s__law_tried) (b := false) (by decide +kernel) (fun _ _ => rfl) (fun _ => rfl)) (show ("_law_other" : Str) ∉ n__law_tried by decide +kernel) rfl (fun _ _ _ _ _ _ => rfl) $B $O)
section
variable {P : Program} {w : World} {K : PySem.W.Frag} {mg : Str → Option Value} {base : Heap}
theorem TK.grow1 {P1 P2 : Addr} {H H2 : Hp} (hP : P1 ≠ P2) (h : TK P1 P2 H) (g : UnP.Grow H P1 H2) (t : UnP.TabW RT H2 P1 Q1) : TK P1 P2 H2 := by
  refine ⟨t, ?_⟩
  obtain ⟨ps1, g1, _, _⟩ := h.1
  have code : ∀ {c q P}, H c = some (UnP.CodeH c q P) → H2 c = some (UnP.CodeH c q P) := fun {c q P} e => g.old _ _ (fun z => UnP.codeH_ne ps1 (Option.some.inj (e.symm.trans (z ▸ g1)))) e
  obtain ⟨ps, h1, h2, h3⟩ := h.2
  refine ⟨ps, g.old _ _ hP.symm h1, h2, fun pos cv hc => ?_⟩
  obtain ⟨c, P', e1, e2, e3, e4, ps', f1, f2, f3⟩ := h3 pos cv hc
  refine ⟨c, P', e1, code e2, e3, e4, ps', g.old _ _ e3 f1, f2, fun pos cv hc => ?_⟩
  obtain ⟨c, P', e1, e2, _⟩ := f3 pos cv hc
  exact ⟨c, P', e1, code e2, trivial⟩
theorem KD.grow {D L a d P1 : Addr} {H H2 : Hp} {ps : Array Value} (g : UnP.Grow H P1 H2) (h : H P1 = some (.tbl ps)) : KD D L a d H H2 := ⟨fun b o hb _ _ _ _ n => g.old b o (fun z => n ps (Option.some.inj (hb.symm.trans (z ▸ h)))) hb, g.non⟩
theorem KD.k1 {D L a d t : Addr} {H H1 H2 : Hp} {o : HO} (x : KD D L a d H H1) (ht : H t = none) (k : Keep1 t H1 H2) (e : H2 t = some o) : KD D L a d H H2 := by
  refine ⟨fun b o hb h1 h2 h3 h4 h5 => k b o (x.old b o hb h1 h2 h3 h4 h5) fun z => ?_, fun b hb => x.non b ?_⟩
  · rw [z, ht] at hb
    cases hb
  · cases e1 : H1 b with
    | none => rfl
    | some o1 =>
      by_cases z : b = t
      · rw [z, e] at hb
        cases hb
      · rw [k b o1 e1 z] at hb
        cases hb
theorem Told.upd {C a : Addr} {G H : Hp} {ls : List Nat} {r C1 d1 : Addr} {fs1 : List (Str × V)} {o u : HO} (h : Told C G H ls r) (ha : G a = some u) (hu : H a = some (.ins C1 d1 fs1)) : Told C G (upd H a o) ls r := by
  obtain ⟨c, dc, sh, m, ks, us, f1, f2, f3, f4, f5, f6, f7, f8, f9, f10, f11⟩ := h.ex
  have up : ∀ {b : Addr} {x : HO}, H b = some x → G b = none → L2.upd H a o b = some x := fun {b x} h1 h2 => by
    rw [upd_ne]
    · exact h1
    · intro z
      rw [z, ha] at h2
      cases h2
  obtain ⟨dx, ho⟩ := f2.o
  refine ⟨c, dc, sh, m, ks, us, up f1 f8, ⟨⟨dx, up ho f9⟩, up f2.t f10⟩, up f3 f11, f4, f5.keep fun T l h1 => ?_, f6, f7, f8, f9, f10, f11⟩
  rw [upd_ne]
  · exact h1
  · intro z
    rw [z, hu] at h1
    cases h1
theorem St.k1 {C t a d : Addr} {ls : List Nat} {m n : Tab} {H H' : Hp} (h : St C H a d ls m) (k : Keep1 t H H') (ht : H t = some (.dK (encT n))) (hd : d ≠ t) : St C H' a d ls m := by
  obtain ⟨dx, ho⟩ := h.o
  refine ⟨⟨dx, k _ _ ho fun z => ?_⟩, k _ _ h.t hd⟩
  rw [z, ht] at ho
  cases ho
theorem Two.dk {C D L a d tb : Addr} {ls : List Nat} {m : Tab} {H : Hp} (W : Two C D L H a d tb ls m) : tb ≠ D ∧ tb ≠ L ∧ tb ≠ a ∧ tb ≠ d := by
  obtain ⟨x0, y0, eD, eL⟩ := W.dl.lists
  obtain ⟨dx, ho⟩ := W.s.o
  have ht := W.t
  refine ⟨fun z => ?_, fun z => ?_, fun z => ?_, W.ne⟩
  · rw [z, eD] at ht; cases ht
  · rw [z, eL] at ht; cases ht
  · rw [z, ho] at ht; cases ht
/-- behind a trial -/
structure Aft (C P1 P2 D L a d hd t : Addr) (ls : List Nat) (m : Tab) (H H4 : Hp) : Prop where
  kd : KD D L a d H H4
  dl : Deal D L H4
  tk : TK P1 P2 H4
  st : St C H4 a t ls m
  hh : H4 hd = some (.lst [.ref a])
  tn : H t = none
theorem Aft.same {C P1 P2 D L a d hd t : Addr} {ls : List Nat} {m : Tab} {H H4 H5 : Hp} (h : Aft C P1 P2 D L a d hd t ls m H H4) (s : Same H4 H5) : Aft C P1 P2 D L a d hd t ls m H H5 := ⟨h.kd.trans (KD.of_same s), h.dl.keep s, h.tk.same s, h.st.same s, s _ _ h.hh, h.tn⟩
/-- [True, store.copied(), shown(table)] -/
theorem told_tail {mg : Str → Option Value} {P1 P2 D L a d hd t tb : Addr} {ls : List Nat} {m : Tab} {H H4 : Hp} {σ : L2.St} {Qz : Addr → Hp → Prop} (hls : LsOk ls) (ok : TabOk ls 3 m) (hm : m.length ≤ 90) (af : Aft (SC mg) P1 P2 D L a d hd t ls m H H4) (htb : H4 tb = some (.dK (encT m)))
    (h2 : σ[2]? = some (some (.ref a))) (h3 : σ[3]? = some (some (.ref tb))) (hq : ∀ fo H5, Aft (SC mg) P1 P2 D L a d hd t ls m H H5 → Told (SC mg) H4 H5 ls fo → Qz fo H5) :
    tCons (tMeth (SC mg) (Str.ofString "copied") (spCopied (SC mg)) [] E0 (tVar 2) tNil) (tCons (tCallS spShown (fun _ => E0) (tCons (tVar 3) tNil)) tNil) σ H4 fun xs H2 => (V.bl true :: xs).length ≤ sizeLine ∧ ∀ p, H2 p = none → Qz p (upd H2 p (.lst (V.bl true :: xs))) := by
  obtain ⟨dx, ho⟩ := af.st.o
  have hov : ∀ q ∈ m, Ov ls q.1 ∧ 0 ≤ q.2 := fun q hq => ⟨⟨(ok.kb q.1 (List.mem_map.mpr ⟨q, hq, rfl⟩)).1, by have := (ok.kb q.1 (List.mem_map.mpr ⟨q, hq, rfl⟩)).2; omega⟩, (ok.v q hq).1⟩
  have h5 := hls.2.2.1
  refine ⟨.ref a, h2, a, dx, _, rfl, ho, rfl, ?_⟩
  refine ⟨a, t, ls, m, rfl, af.st, hls.1, by omega, ok.nd, hov, by omega, fun c dc H5 s5 hc hdc hS5 => ?_⟩
  refine ⟨.ref tb, h3, ?_⟩
  refine ⟨tb, m, rfl, s5 _ _ htb, by omega, fun ks sh us H6 hks s6 hsh esh psh => ?_⟩
  refine ⟨by show 3 ≤ sizeLine; decide, fun p hp => ?_⟩
  have s7 := same_upd (o := .lst [V.bl true, .ref c, .ref sh]) hp
  have s47 := same_trans s5 (same_trans s6 s7)
  exact hq p _ (af.same s47) ⟨c, dc, sh, m, ks, us, upd_same, (hS5.same s6).same s7, s7 _ _ esh, hks, psh.same s7, ok, hm, same_none (same_trans s5 s6) hp, hc, hdc, same_none s5 hsh⟩
theorem fn_tried (T : Txt K mg) (Z : Xt K mg) {c1 P1 P2 : Addr} (TB : LamX.TabB base mg c1 P1) (hP : P1 ≠ P2) {f : Addr} {fd : FuncData} (F : FunC K "_law_tried" "_law_tried" s__law_tried f fd c1) {n kE : Nat}
    (C__law_entered : ClGN P w K mg base "_law_entered" ["_law_handed", "_law_deal_here", "_law_letters_here", "_law_store", "_law_world"] kE (spEnt mg (SC mg) P1 P2 n)) :
    FnG P w K mg base (kE + 10) f fd ["_law_deal_here", "_law_letters_here", "_law_store", "_law_table", "_law_deep"] (spTried (SC mg) P1 P2 (n + 1)) := by
  have C__law_is_it := cl_is_it (P := P) (w := w) (base := base) T
  have C__law_shown := cl_shown (P := P) (w := w) (base := base) T
  have CH__law_shown := clh_shown (P := P) (w := w) (base := base) T
  have C_Store_pairs_1 := at_pairs_1 (P := P) (w := w) (base := base) T
  have CH_Store_copied := meth_copied (P := P) (w := w) (base := base) T
  refine okGC F sc__law_tried (fun vs H Q E h => ?_) (fun A outer s H vs Q E hgd hr h => ?_)
  · obtain ⟨D, L, a, d, tb, ls, m, rfl, _⟩ := h
    rfl
  · obtain ⟨D, L, a, d, tb, ls, m, rfl, hls, hW, hTK, hm, hn5, q⟩ := h
    refine ⟨_, (pss_cons (ps_asg (pe_tup (pa_cons (pe_lst pa_nil) (pa_cons pe_non pa_nil))) (pg_tup rfl (pgs_cons (pg_name (i := 7) sc__law_tried.nd rfl (Or.inr rfl)) (pgs_cons (pg_name (i := 5) sc__law_tried.nd rfl (Or.inl rfl)) pgs_nil))))
      (Evl.pss_cut (ps_try_hds rfl rfl sc__law_tried.nd takes0 (fun W pn xe tk _ => (pss_one (ps_set (i := 5) sc__law_tried.nd rfl (Or.inl rfl) (pe_mlamG (k := kE + 7) (y := "store") (TT := TTwithin (SC mg) (TC mg)) (q := Q1) (P := P1) (R := RT) (Pre := fun _ => True) T.k_Store T.a_Store_within sc_Store_within rfl (.inl rfl) (fun g cdg => gives_within T (show 3 ≤ kE + 7 + 1 by omega) g cdg _) rfl (code_static TB) rfl tk hr (UnP.lamP_by (sc := defScope s__law_tried) (b := false) (by decide +kernel) (fun _ _ => rfl) (fun _ => rfl)) (show ("_law_other" : Str) ∉ n__law_tried by decide +kernel) rfl (fun _ _ _ _ _ _ => rfl) (fun A outer s H E f c P gu hr => (have hgd := gu.trans hgd; (pe_clGX C__law_entered hgd hr (by first | decide | omega) (by rfl) (takes_of rfl rfl rfl rfl) (pa_cons (pv 8) (pa_cons (pv 1) (pa_cons (pv 2) (pa_cons (pv 0) (pa_cons (pe_tup (pa_cons (pv 4) (pa_cons (pv 5) pa_nil))) pa_nil)))))))) (pv 2))))) (.as (i := 6) rfl rfl ⟨rfl, by decide, .inl T.e_NoText.1⟩ (fun a oe cls d pn hz hf hc => (pss_one (ps_set (i := 5) sc__law_tried.nd rfl (Or.inl rfl) (pe_lst (pa_cons (pe_cmpR op_eq (pe_xf T.e_NoText.2.1.xf T.e_NoText.2.2.1 hz.zc hf (pv 6)) (pe_strX [64] (by decide +kernel)) (nomark _)) (pa_cons (pe_mtH0 CH_Store_copied (L2H.roomH_mark hr _) (by first | decide | omega) hc (pv 2)) (pa_cons (pe_clH CH__law_shown (L2H.roomH_mark hr _) (by first | decide | omega) hc (by rfl) (pa_cons (pv 3) pa_nil)) pa_nil))))))) (.as (i := 6) rfl rfl ⟨rfl, by decide, .inl T.e_NoValue.1⟩ (fun a oe cls d pn hz hf hc => (pss_one (ps_set (i := 5) sc__law_tried.nd rfl (Or.inl rfl) (pe_lst (pa_cons (pe_cmpR op_eq (pe_xf T.e_NoValue.2.1.xf T.e_NoValue.2.2.1 hz.zc hf (pv 6)) (pe_un un_neg pe_int) (nomark _)) (pa_cons (pe_mtH0 CH_Store_copied (L2H.roomH_mark hr _) (by first | decide | omega) hc (pv 2)) (pa_cons (pe_clH CH__law_shown (L2H.roomH_mark hr _) (by first | decide | omega) hc (by rfl) (pa_cons (pv 3) pa_nil)) pa_nil))))))) (.bare (c := .type "ZeroDivisionError") ⟨rfl, by decide, .inr ⟨T.m_ZeroDivisionError, by decide +kernel, by decide⟩⟩ (fun a oe cls d pn hz hf hc => (pss_one (ps_set (i := 5) sc__law_tried.nd rfl (Or.inl rfl) (pe_lst (pa_cons pe_bl (pa_cons (pe_mtH0 CH_Store_copied (L2H.roomH_mark hr _) (by first | decide | omega) hc (pv 2)) (pa_cons (pe_clH CH__law_shown (L2H.roomH_mark hr _) (by first | decide | omega) hc (by rfl) (pa_cons (pv 3) pa_nil)) pa_nil))))))) .nil))))
      (pss_cons (ps_if (PW.pt (pw_or (pt_cmpR op_ne (pe_callB call_lenQ (by rfl) T.m_len (by decide +kernel) (pa_cons (pv 7) pa_nil)) pe_int (nomark _)) (pw_or1 (pt_not (pt_val (pe_clG C__law_is_it hgd (hr.mono (by first | decide | omega)) (by rfl) (pa_cons (pv 2) (pa_cons (pe_ix ix_list (pv 7) pe_int (fun _ _ => rfl)) (pa_cons (pv 3) pa_nil)))))))))
      (pss_one (ps_ret pe_bl))
      pss_nil)
      (pss_one (ps_ret (pe_and (pe_ix ix_list (pv 5) pe_int (fun _ _ => rfl)) (pe_and (pe_cmpR op_eq (pe_callB (r := rReprZ K) (call_reprZ hgd hr) (by rfl) T.m_repr (by decide +kernel) (pa_cons (pe_mtD0 C_Store_pairs_1 hr (by first | decide | omega) (pe_ix ix_list (pv 5) pe_int (fun _ _ => rfl))) pa_nil)) (pe_callB (r := rReprZ K) (call_reprZ hgd hr) (by rfl) T.m_repr (by decide +kernel) (pa_cons (pe_ix ix_list (pv 5) pe_int (fun _ _ => rfl)) pa_nil)) (nomark _)) (pe_one (pe_cmpR op_eq (pe_callB (r := rReprZ K) (call_reprZ hgd hr) (by rfl) T.m_repr (by decide +kernel) (pa_cons (pe_mtD0 C_Store_pairs_1 hr (by first | decide | omega) (pv 2)) pa_nil)) (pe_callB (r := rReprZ K) (call_reprZ hgd hr) (by rfl) T.m_repr (by decide +kernel) (pa_cons (pe_cl C__law_shown (hr.mono (by first | decide | omega)) (by rfl) (pa_cons (pv 3) pa_nil)) pa_nil)) (nomark _)))))))))), ?_⟩
    walk_at "rds"
    refine ⟨by show 0 ≤ sizeLine; decide, fun hd hhd => ?_⟩
    have s1 := same_upd (o := .lst []) hhd
    have e1 : upd H hd (.lst []) hd = some (.lst []) := upd_same
    generalize upd H hd (.lst []) = H1 at s1 e1 ⊢
    walk_at "rds"
    refine ⟨by show 2 ≤ sizeLine; decide, fun tp htp => ?_⟩
    have s2 := same_trans s1 (same_upd (o := .tup [.ref hd, .non]) htp)
    have e2 := same_upd (o := .tup [.ref hd, .non]) htp _ _ e1
    refine rd_gtup (SqT.of upd_same) rfl ?_
    generalize upd H1 tp (.tup [.ref hd, .non]) = H2 at s2 e2 ⊢
    have W2 := hW.same s2
    have tk2 := hTK.same s2
    obtain ⟨dx, ho⟩ := W2.s.o
    obtain ⟨x0, y0, eD, eL⟩ := hW.dl.lists
    have hdD : hd ≠ D := fun z => by
      rw [z, eD] at hhd
      cases hhd
    have hdL : hd ≠ L := fun z => by
      rw [z, eL] at hhd
      cases hhd
    walk_at "rds"
    dsimp only
    refine rd_cut (fun σ' H' => ∃ (fo t : Addr) (y : Option V) (G : Hp) (o : HO), σ' = [some (.ref D), some (.str (tx ls)), some (.ref a), some (.ref tb), some (.int (n : Nat)), some (.ref fo), y, some (.ref hd)] ∧ Aft (SC mg) P1 P2 D L a d hd t ls m H H' ∧ G t = some o ∧ Told (SC mg) G H' ls fo) ?_ ?_
    · walk_at "rds"
      obtain ⟨ps1, hps1, _, _⟩ := id tk2.1
      refine ⟨.ref a, rfl, a, dx, _, rfl, ho, rfl, trivial, tk2.1, fun _ _ _ _ => trivial, fun _ _ _ _ _ => trivial, fun c' P' H3 g t3 _ hc => ?_⟩
      have tk3 := tk2.grow1 hP g t3
      have kd3 : KD D L a d H H3 := (KD.of_same s2).trans (KD.grow g hps1)
      have g' : ∀ b o, H2 b = some o → (∀ ps, o ≠ .tbl ps) → H3 b = some o := fun b o hb hn => g.old b o (fun z => hn ps1 (Option.some.inj (hb.symm.trans (z ▸ hps1)))) hb
      have W3 : Two (SC mg) D L H3 a d tb ls m := by
        obtain ⟨cs, mm, z1, z2, z3⟩ := W2.dl
        exact ⟨⟨cs, mm, g' _ _ z1 (fun _ z => by cases z), g' _ _ z2 (fun _ z => by cases z), z3⟩, ⟨⟨dx, g' _ _ ho fun _ z => by cases z⟩, g' _ _ W2.s.t fun _ z => by cases z⟩, g' _ _ W2.t (fun _ z => by cases z), W2.ne, W2.ok⟩
      have e3 := g' _ _ e2 (fun _ z => by cases z)
      refine ⟨d, ls, m, W3.s, fun x t dxt H4 s4 hx ht hxt ex et => ?_⟩
      have W4 := W3.same s4
      have tk4 := tk3.same s4
      have kd4 : KD D L a d H H4 := kd3.trans (KD.of_same s4)
      have e4 := s4 _ _ e3
      walk_at "rds"
      refine ⟨by show 2 ≤ sizeLine; decide, fun wd hwd => ?_⟩
      have s5 := same_upd (o := .tup [.ref tb, .int (n : Nat)]) hwd
      have e5 : upd H4 wd (.tup [.ref tb, .int (n : Nat)]) wd = some (.tup [.ref tb, .int (n : Nat)]) := upd_same
      generalize upd H4 wd (.tup [.ref tb, .int (n : Nat)]) = H5 at s5 e5 ⊢
      have hxn : x ≠ D ∧ x ≠ L ∧ x ≠ a ∧ x ≠ d ∧ x ≠ hd := by
        obtain ⟨x1, y1, z1, z2⟩ := W3.dl.lists
        obtain ⟨dx3, ho3⟩ := W3.s.o
        have z3 := W3.s.t
        refine ⟨fun z => ?_, fun z => ?_, fun z => ?_, fun z => ?_, fun z => ?_⟩
        · rw [← z, hx] at z1; cases z1
        · rw [← z, hx] at z2; cases z2
        · rw [← z, hx] at ho3; cases ho3
        · rw [← z, hx] at z3; cases z3
        · rw [← z, hx] at e3; cases e3
      have htn : t ≠ D ∧ t ≠ L ∧ t ≠ a ∧ t ≠ d ∧ t ≠ hd := by
        obtain ⟨x1, y1, z1, z2⟩ := W3.dl.lists
        obtain ⟨dx3, ho3⟩ := W3.s.o
        have z3 := W3.s.t
        refine ⟨fun z => ?_, fun z => ?_, fun z => ?_, fun z => ?_, fun z => ?_⟩
        · rw [← z, ht] at z1; cases z1
        · rw [← z, ht] at z2; cases z2
        · rw [← z, ht] at ho3; cases ho3
        · rw [← z, ht] at z3; cases z3
        · rw [← z, ht] at e3; cases e3
      have tn0 : H t = none := kd3.non _ ht
      -- behind the trial
      have aft : ∀ H1' H', H1' = upd H5 hd (.lst [.ref a]) → Left (SC mg) P1 P2 D L a d ls H1' H' → H' x = some (.ins (TC mg) dxt (TF a t)) ∧ ∃ dx' d', H' a = some (.ins (SC mg) dx' (SF ls d')) ∧ Aft (SC mg) P1 P2 D L a d hd t ls m H (upd H' a (.ins (SC mg) dx' (SF ls t))) ∧ ∃ o, H1' t = some o := fun H1' H' e1' lf => by
        obtain ⟨dx', d', hoa⟩ := lf.st
        have h1x : H1' x = some (.ins (TC mg) dxt (TF a t)) := by rw [e1', upd_ne hxn.2.2.2.2]; exact s5 _ _ ex
        have h1t : H1' t = some (.dK (encT m)) := by rw [e1', upd_ne htn.2.2.2.2]; exact s5 _ _ et
        have h1h : H1' hd = some (.lst [.ref a]) := by rw [e1', upd_same]
        have hda : hd ≠ a ∧ hd ≠ d := by
          obtain ⟨dx3, ho3⟩ := W3.s.o
          have z3 := W3.s.t
          refine ⟨fun z => ?_, fun z => ?_⟩
          · rw [← z, e3] at ho3; cases ho3
          · rw [← z, e3] at z3; cases z3
        have fx := lf.kd.old _ _ h1x hxn.1 hxn.2.1 hxn.2.2.1 hxn.2.2.2.1 (fun _ z => by cases z)
        have ft := lf.kd.old _ _ h1t htn.1 htn.2.1 htn.2.2.1 htn.2.2.2.1 (fun _ z => by cases z)
        have fh := lf.kd.old _ _ h1h hdD hdL hda.1 hda.2 (fun _ z => by cases z)
        have up : ∀ {b : Addr} {o : HO}, H' b = some o → b ≠ a → upd H' a (.ins (SC mg) dx' (SF ls t)) b = some o := fun {b o} h n => by rw [upd_ne n]; exact h
        have kd1 : KD D L a d H H1' := ⟨fun b o hb h1 h2 h3 h4 h5 => by
          rw [e1', upd_ne (fun z => by rw [z, hhd] at hb; cases hb)]
          exact s5 _ _ (kd4.old b o hb h1 h2 h3 h4 h5), fun b hb => by
          by_cases z : b = hd
          · rw [z, h1h] at hb; cases hb
          · rw [e1', upd_ne z] at hb
            exact kd4.non b (same_none s5 hb)⟩
        refine ⟨fx, dx', d', hoa, ⟨⟨fun b o hb h1 h2 h3 h4 h5 => up (lf.kd.old b o (kd1.old b o hb h1 h2 h3 h4 h5) h1 h2 h3 h4 h5) h3, fun b hb => ?_⟩, ?_, lf.tk.keep fun b o hb ht' => up hb (ne_isT hb ht' hoa isT_ins), ⟨⟨dx', upd_same⟩, up ft htn.2.2.1⟩, up fh hda.1, tn0⟩, _, h1t⟩
        · by_cases z : b = a
          · rw [z, upd_same] at hb; cases hb
          · rw [upd_ne z] at hb
            exact kd1.non b (lf.kd.non b hb)
        · obtain ⟨cs, mm, z1, z2, z3⟩ := lf.dl
          obtain ⟨x1, y1, w1, w2⟩ := W3.dl.lists
          obtain ⟨dx3, ho3⟩ := W3.s.o
          exact ⟨cs, mm, up z1 (fun z => by rw [z, ho3] at w1; cases w1), up z2 (fun z => by rw [z, ho3] at w2; cases w2), z3⟩
      refine ⟨hd, D, L, a, d, tb, wd, ls, m, rfl, s5 _ _ e4, hdD, hdL, e5, hls, W4.same s5, tk4.same s5, by omega, by omega, fun H1' e1' => ⟨fun r H' lf tl => ?_, fun H' lf => ?_⟩⟩
      · obtain ⟨fx, dx', d', hoa, af, o, hto⟩ := aft H1' H' e1' lf
        refine ⟨x, dxt, a, t, dx', d', ls, .non, .non, .non, rfl, fx, hoa, ?_⟩
        have hGa : ∃ u, H1' a = some u := by
          obtain ⟨dx3, ho3⟩ := W3.s.o
          exact ⟨_, by rw [e1', upd_ne (fun z => by rw [z, e3] at ho3; cases ho3)]; exact s5 _ _ (s4 _ _ ho3)⟩
        obtain ⟨u, hGa⟩ := hGa
        exact ⟨r, t, none, H1', o, rfl, af, hto, tl.upd hGa hoa⟩
      · obtain ⟨fx, dx', d', hoa, af, o, hto⟩ := aft H1' H' e1' lf
        have htb4 : upd H' a (.ins (SC mg) dx' (SF ls t)) tb = some (.dK (encT m)) := af.kd.old _ _ hW.t hW.dk.1 hW.dk.2.1 hW.dk.2.2.1 hW.dk.2.2.2 (fun _ z => by cases z)
        have three : ∀ {vs : List V}, vs.length = 3 → ∃ v1 v2 v3, vs = [v1, v2, v3] := fun {vs} h => by
          match vs, h with
          | [v1, v2, v3], _ => exact ⟨v1, v2, v3, rfl⟩
        have xdn : ∀ {e : Addr} {fs : List (Str × V)}, H' e = some (.xd fs) → upd H' a (.ins (SC mg) dx' (SF ls t)) e = some (.xd fs) := fun {e fs} he => by
          rw [upd_ne]
          · exact he
          · intro z
            rw [z, hoa] at he
            cases he
        refine ⟨fun e he σ' => ⟨⟨.ref (CT mg), rfl⟩, fun vs hvs => ?_⟩, fun e he σ' => ⟨⟨.ref (CV mg), rfl⟩, fun vs hvs => ?_⟩, fun e σ' => ⟨⟨.ty "ZeroDivisionError", rfl⟩, fun vs hvs => ?_⟩⟩
        · obtain ⟨v1, v2, v3, rfl⟩ := three hvs
          refine ⟨x, dxt, a, t, dx', d', ls, v1, v2, v3, rfl, fx, hoa, rfl, ?_⟩
          refine ⟨true, Z.x_TT, fun _ a0 ha0 => ?_, fun h => (nomatch h)⟩
          refine ⟨.ref a0, rfl, rfl, rfl, e, _, .str (tx [64]), rfl, xdn he, rfl, ?_⟩
          refine ⟨rfl, ?_⟩
          rw [show decide (V.str (tx [64]) = V.str (tx [64])) = true by simp]
          exact told_tail hls hW.ok (by omega) af htb4 rfl rfl fun fo H5 af5 tl5 => ⟨fo, t, _, _, _, rfl, af5, af.st.t, tl5⟩
        · obtain ⟨v1, v2, v3, rfl⟩ := three hvs
          refine ⟨x, dxt, a, t, dx', d', ls, v1, v2, v3, rfl, fx, hoa, rfl, ?_⟩
          refine ⟨false, Z.x_VT, fun h => (nomatch h), fun _ => ⟨true, Z.x_VV, fun _ a0 ha0 => ?_, fun h => (nomatch h)⟩⟩
          refine ⟨.ref a0, rfl, rfl, rfl, e, _, .int (-1), rfl, xdn he, rfl, ?_⟩
          refine ⟨1, rfl, rfl, ?_⟩
          rw [show decide (V.int (-1) = V.int (-1)) = true by simp]
          exact told_tail hls hW.ok (by omega) af htb4 rfl rfl fun fo H5 af5 tl5 => ⟨fo, t, _, _, _, rfl, af5, af.st.t, tl5⟩
        · obtain ⟨v1, v2, v3, rfl⟩ := three hvs
          refine ⟨x, dxt, a, t, dx', d', ls, v1, v2, v3, rfl, fx, hoa, rfl, ?_⟩
          refine ⟨false, Z.x_ZT, fun h => (nomatch h), fun _ => ⟨false, Z.x_ZV, fun h => (nomatch h), fun _ => ⟨true, Z.x_ZZ, fun _ a0 ha0 => ?_, fun h => (nomatch h)⟩⟩⟩
          exact told_tail hls hW.ok (by omega) af htb4 rfl rfl fun fo H5 af5 tl5 => ⟨fo, t, _, _, _, rfl, af5, af.st.t, tl5⟩
    · rintro σ' H' ⟨fo, t, y, G, o, rfl, af, hG, tl⟩
      have htb' : H' tb = some (.dK (encT m)) := af.kd.old _ _ hW.t hW.dk.1 hW.dk.2.1 hW.dk.2.2.1 hW.dk.2.2.2 (fun _ z => by cases z)
      have htbt : tb ≠ t := fun z => by
        have := hW.t
        rw [z, af.tn] at this
        cases this
      obtain ⟨c, dc, sh, mc, ks, us, f1, f2, f3, f4, f5, f6, f7, f8, f9, f10, f11⟩ := tl.ex
      have hdct : dc ≠ t := fun z => by
        rw [z, hG] at f10
        cases f10
      walk_at "rds"
      refine rd_lenL (SqL.of af.hh) ?_
      walk_at "rds"
      refine rd_ite (fun h => absurd h (by simp)) (fun _ => ?_)
      walk_at "rds"
      refine rd_ixL (SqL.of af.hh) (v := .ref a) (by simp [atI, ixN]) ?_
      walk_at "rds"
      refine ⟨a, t, tb, ls, m, rfl, hls, af.st, htb', htbt, hW.ok, by omega, fun H5 k5 t5 => ?_⟩
      have hS5 : St (SC mg) H5 a t ls m := af.st.keep k5 t5
      have htb5 := k5 _ _ htb' htbt
      have kd5 : KD D L a d H H5 := af.kd.k1 af.tn k5 t5
      have ntt : ∀ {b : Addr} {o : HO}, H' b = some o → o ≠ .dK (encT m) → b ≠ t := fun {b o} h n z => n (by
        rw [z, af.st.t] at h
        exact (Option.some.inj h).symm)
      have g1 := k5 _ _ f1 (ntt f1 fun z => by cases z)
      have g2 := f2.k1 k5 af.st.t hdct
      have g3 := k5 _ _ f3 (ntt f3 fun z => by cases z)
      have g5 : Prs H5 (prT mc ks) us := f5.keep fun T l h => k5 _ _ h (ntt h fun z => by cases z)
      have tk5 : TK P1 P2 H5 := af.tk.keep fun b o hb ht => k5 _ _ hb (ne_isT hb ht af.st.t isT_dK)
      have dl5 : Deal D L H5 := af.dl.k1 af.st.t k5
      walk_at "rds"
      refine rd_ite (fun h => by cases h) (fun _ => ?_)
      refine rd_next ?_
      walk_at "rds"
      refine rd_ixL (SqL.of g1) (v := .bl true) (by simp [atI, ixN]) ?_
      walk_at "rds"
      refine rd_ite (fun _ => ?_) (fun h => by cases h)
      have good : ∀ {mm : Tab} {ks : List (List Nat)}, TabOk ls 3 mm → mm.length ≤ 90 → KR mm [] none none ks → GoodZ 20 200000 (plD (prT mm ks)) := fun {mm ks} h1 h2 hks => (plD_good (prT_ok (h1.ok hls.2.2.2 (by decide)) fun k h => hks.mem h) (by rw [prT_len]; have := hks.len; omega)).mono (by decide) (by decide)
      have et : ∀ z : V, decide (z = z) = true := fun z => by simp
      obtain ⟨dxc, hoc⟩ := g2.o
      walk_at "rds"
      refine rd_ixL (SqL.of g1) (v := .ref c) (by simp [atI, ixN]) ?_
      walk_at "rds"
      refine ⟨c, _, _, rfl, hoc, rfl, ?_⟩
      walk_at "rds"
      refine ⟨c, dc, ls, mc, [], none, none, rfl, g2, by omega, fun ks6 r6 us6 H6 hks6 s6 hr6 er6 pr6 => ?_⟩
      cases f4.uniq hks6
      walk_at "rds"
      refine rd_reprZ (Prs.list er6 pr6) (good f6 f7 f4) ?_
      walk_at "rds"
      refine rd_ixL (SqL.of (s6 _ _ g1)) (v := .ref sh) (by simp [atI, ixN]) ?_
      walk_at "rds"
      refine rd_reprZ (Prs.list (s6 _ _ g3) (g5.same s6)) (good f6 f7 f4) ?_
      walk_at "rds"
      rw [et]
      refine rd_ite (fun _ => ?_) (fun h => by cases h)
      have hS6 := hS5.same s6
      obtain ⟨dx6, ho6⟩ := hS6.o
      walk_at "rds"
      refine ⟨a, _, _, rfl, ho6, rfl, ?_⟩
      walk_at "rds"
      refine ⟨a, t, ls, m, [], none, none, rfl, hS6, by omega, fun ks7 r7 us7 H7 hks7 s7 hr7 er7 pr7 => ?_⟩
      walk_at "rds"
      refine rd_reprZ (Prs.list er7 pr7) (good hW.ok (by omega) hks7) ?_
      walk_at "rds"
      have s67 := same_trans s6 s7
      refine ⟨tb, m, rfl, s67 _ _ htb5, by omega, fun ks8 r8 us8 H8 hks8 s8 hr8 er8 pr8 => ?_⟩
      cases hks7.uniq hks8
      walk_at "rds"
      refine rd_reprZ (Prs.list er8 pr8) (good hW.ok (by omega) hks7) ?_
      walk_at "rds"
      rw [et]
      have s58 := same_trans s67 s8
      exact q t H8 (kd5.trans (KD.of_same s58)) (tk5.same s58) af.tn ⟨dl5.keep s58, hS5.same s58, s58 _ _ htb5, htbt, hW.ok⟩
end

--C _law_both_right._law_found
--Y _law_both_right 1 : (pe_mlamG (k := 8) (y := "store") (TT := TTwithin (SC mg) (TC mg)) (q := Q2) (P := P2) (R := R2 P1 P2) (Pre := fun _ => True) T.k_Store T.a_Store_within sc_Store_within rfl (.inl rfl) (fun g cdg => gives_within T (by decide) g cdg _) rfl (code_static TB) rfl $K hr (UnP.lamP_by (sc := defScope s__law_both_right) (b := true) (by decide +kernel) (fun _ _ => rfl) (fun _ => rfl)) (show ("_law_one" : Str) ∉ n__law_both_right by decide +kernel) rfl (fun _ _ _ _ _ _ => rfl) $B $O)
--Y _law_both_right 2 : (pe_mlamG (k := 6) (y := "store") (TT := TTwithin (SC mg) (TC mg)) (q := Q3) (P := P) (R := RT) (Pre := fun H => H c = some (UnP.CodeH c Q2 P) ∧ ∃ ps, H P = some (.tbl ps)) T.k_Store T.a_Store_within sc_Store_within rfl (.inl rfl) (fun g cdg => gives_within T (by decide) g cdg _) rfl (code_dyn TB) rfl $K hr (UnP.lamP_by (sc := lam1) (b := false) (by decide +kernel) (fun _ _ => rfl) (fun _ => rfl)) (show ("_law_two" : Str) ∉ ("_law_one" : Str) :: n__law_both_right by decide +kernel) rfl (fun _ _ _ _ _ _ => rfl) $B $O)
section
variable {P : Program} {w : World} {K : PySem.W.Frag} {mg : Str → Option Value} {base : Heap}
abbrev lam1 : Scope := match defBody s__law_both_right with
  | _ :: .Assign _ (.Call _ (.Lambda _ _ sc _ :: _) _ _) _ :: _ => sc
  | _ => defScope s__law_both_right
theorem TK.grow2 {P1 P2 : Addr} {H H2 : Hp} (hP : P1 ≠ P2) (h : TK P1 P2 H) (g : UnP.Grow H P2 H2) (t : UnP.TabW (R2 P1 P2) H2 P2 Q2) : TK P1 P2 H2 := by
  refine ⟨?_, t⟩
  obtain ⟨ps2, g2, _, _⟩ := h.2
  obtain ⟨ps, h1, h2, h3⟩ := h.1
  refine ⟨ps, g.old _ _ hP h1, h2, fun pos cv hc => ?_⟩
  obtain ⟨c, P', e1, e2, _⟩ := h3 pos cv hc
  exact ⟨c, P', e1, g.old _ _ (fun z => UnP.codeH_ne ps2 (Option.some.inj (e2.symm.trans (z ▸ g2)))) e2, trivial⟩
theorem TK.growD {P1 P2 T : Addr} {H H2 : Hp} (h : TK P1 P2 H) (r : R2 P1 P2 H T) (g : UnP.Grow H T H2) (t : UnP.TabW RT H2 T Q3) : TK P1 P2 H2 := by
  obtain ⟨n1, n2, psT, gT, _, _⟩ := r
  have code : ∀ {c q P}, H c = some (UnP.CodeH c q P) → H2 c = some (UnP.CodeH c q P) := fun {c q P} e => g.old _ _ (fun z => UnP.codeH_ne psT (Option.some.inj (e.symm.trans (z ▸ gT)))) e
  constructor
  · obtain ⟨ps, h1, h2, h3⟩ := h.1
    refine ⟨ps, g.old _ _ n1.symm h1, h2, fun pos cv hc => ?_⟩
    obtain ⟨c, P', e1, e2, _⟩ := h3 pos cv hc
    exact ⟨c, P', e1, code e2, trivial⟩
  · obtain ⟨ps, h1, h2, h3⟩ := h.2
    refine ⟨ps, g.old _ _ n2.symm h1, h2, fun pos cv hc => ?_⟩
    obtain ⟨c, P', e1, e2, e3, e4, e5⟩ := h3 pos cv hc
    refine ⟨c, P', e1, code e2, e3, e4, ?_⟩
    by_cases z : P' = T
    · rw [z]; exact t
    · obtain ⟨ps', f1, f2, f3⟩ := e5
      refine ⟨ps', g.old _ _ z f1, f2, fun pos cv hc => ?_⟩
      obtain ⟨c, P', e1, e2, _⟩ := f3 pos cv hc
      exact ⟨c, P', e1, code e2, trivial⟩
theorem Two.k4o {C D L a d tb : Addr} {ls : List Nat} {m : Tab} {H H' : Hp} (W : Two C D L H a d tb ls m) (k : Keep4 D L d tb H H') {b : Addr} {o : HO} (hb : H b = some o) (h1 : ∀ xs, o ≠ .lst xs) (h2 : b ≠ d) (h3 : b ≠ tb) : H' b = some o := by
  obtain ⟨x, y, e1, e2⟩ := W.dl.lists
  exact k b o hb (fun z => by rw [z, e1] at hb; exact h1 _ (Option.some.inj hb).symm) (fun z => by rw [z, e2] at hb; exact h1 _ (Option.some.inj hb).symm) h2 h3
theorem Two.k4n {C D L a d tb : Addr} {ls : List Nat} {m : Tab} {H H' : Hp} (W : Two C D L H a d tb ls m) (k : Keep4 D L d tb H H') {b : Addr} {o : HO} (hb : H b = some o) (h1 : ∀ xs, o ≠ .lst xs) (h2 : ∀ kvs, o ≠ .dK kvs) : H' b = some o :=
  W.k4o k hb h1 (fun z => by have := W.s.t; rw [← z, hb] at this; exact h2 _ (Option.some.inj this)) fun z => by have := W.t; rw [← z, hb] at this; exact h2 _ (Option.some.inj this)
theorem plD_goodN {m : Tab} (h : ∀ q ∈ m, OkP q) (hm : m.length ≤ 60) : GoodZ 2 24061 (plD m) := by
  have g := list_good (z := 1) (w := 400) (ds := m.map pD) fun d hd => by
    obtain ⟨q, hq, rfl⟩ := List.mem_map.mp hd
    exact pair_good (h q hq)
  rw [List.length_map] at g
  exact g.mono (Nat.le_refl _) (by omega)
/-- lists but D and L stay, also those that are walked -/
def IsL (o : HO) : Prop := (∃ xs, o = .lst xs) ∨ ∃ ob u, o = .frz ob u
def KLst (D L : Addr) (H H' : Hp) : Prop := ∀ b o, H b = some o → IsL o → b ≠ D → b ≠ L → H' b = some o
theorem KLst.trans {D L : Addr} {H H1 H2 : Hp} (x : KLst D L H H1) (y : KLst D L H1 H2) : KLst D L H H2 := fun b o hb i h1 h2 => y b o (x b o hb i h1 h2) i h1 h2
theorem KLst.of_same {D L : Addr} {H H' : Hp} (h : Same H H') : KLst D L H H' := fun b o hb _ _ _ => h b o hb
theorem KLst.of_keep {D L : Addr} {H H' : Hp} (h : Keep D L H H') : KLst D L H H' := fun b o hb _ h1 h2 => h b o hb h1 h2
theorem isL_dK {kvs : List (Key × V)} : ¬ IsL (.dK kvs) := fun h => by
  rcases h with ⟨xs, e⟩ | ⟨ob, u, e⟩ <;> cases e
theorem isL_ins {C d : Addr} {fs : List (Str × V)} : ¬ IsL (.ins C d fs) := fun h => by
  rcases h with ⟨xs, e⟩ | ⟨ob, u, e⟩ <;> cases e
theorem ne_isL {H : Hp} {a b : Addr} {o u : HO} (h : H b = some o) (t : IsL o) (ha : H a = some u) (n : ¬ IsL u) : b ≠ a := fun z => by
  rw [z, ha] at h
  cases h
  exact n t
theorem KLst.k4 {C D L a d tb : Addr} {ls : List Nat} {m : Tab} {H H' : Hp} (W : Two C D L H a d tb ls m) (k : Keep4 D L d tb H H') : KLst D L H H' := fun b o hb i h1 h2 => k b o hb h1 h2 (ne_isL hb i W.s.t isL_dK) (ne_isL hb i W.t isL_dK)
theorem KLst.kd {C D L a d tb : Addr} {ls : List Nat} {m : Tab} {H H' : Hp} (W : Two C D L H a d tb ls m) (k : KD D L a d H H') : KLst D L H H' := fun b o hb i h1 h2 => by
  obtain ⟨dx, ho⟩ := W.s.o
  exact k.old b o hb h1 h2 (ne_isL hb i ho isL_ins) (ne_isL hb i W.s.t isL_dK) fun ps z => by
    rcases i with ⟨xs, e⟩ | ⟨ob, u, e⟩ <;> rw [z] at e <;> cases e
theorem KLst.grow {D L P : Addr} {H H' : Hp} {ps : Array Value} (g : UnP.Grow H P H') (h : H P = some (.tbl ps)) : KLst D L H H' := fun b o hb i _ _ => g.old b o (fun z => by
  rw [z, h] at hb
  rcases i with ⟨xs, e⟩ | ⟨ob, u, e⟩ <;> rw [← Option.some.inj hb] at e <;> cases e) hb
theorem KLst.upd {D L a C d : Addr} {H : Hp} {o : HO} {fs : List (Str × V)} (h : H a = some (.ins C d fs)) : KLst D L H (upd H a o) := fun b u hb i _ _ => by
  rw [upd_ne (ne_isL hb i h isL_ins)]
  exact hb
theorem KLst.seq {K : PySem.W.Frag} {D L a : Addr} {H H' : Hp} {xs : List V} (k : KLst D L H H') (h1 : H D = none) (h2 : H L = none) (h : SqL K H a xs) : SqL K H' a xs := by
  rcases h with (h | ⟨ob, h⟩) | h
  · exact .inl (.inl (k a _ h (.inl ⟨_, rfl⟩) (ne_of_none h h1) (ne_of_none h h2)))
  · exact .inl (.inr ⟨ob, k a _ h (.inr ⟨_, _, rfl⟩) (ne_of_none h h1) (ne_of_none h h2)⟩)
  · exact .inr h
/-- what two trials, one within the other, leave -/
structure BothF (C P1 P2 D L a b tb f1 s1 fo : Addr) (ls : List Nat) (m : Tab) (H0 H : Hp) (t t2 p2 r1 r2 r3 : Addr) (m1 m2 : Tab) (ks1 ks2 ks3 : List (List Nat)) (us1 us2 us3 : List V) : Prop where
  fo : H fo = some (.lst [.non, .ref p2, .ref r3])
  p2 : H p2 = some (.lst [.ref r1, .ref r2])
  r1 : H r1 = some (.lst us1)
  r2 : H r2 = some (.lst us2)
  r3 : H r3 = some (.lst us3)
  q1 : Prs H (prT m1 ks1) us1
  q2 : Prs H (prT m2 ks2) us2
  q3 : Prs H (prT m ks3) us3
  k1 : KR m1 [] none none ks1
  k2 : KR m2 [] none none ks2
  k3 : KR m [] none none ks3
  o1 : TabOk ls 3 m1
  o2 : TabOk ls 3 m2
  l1 : m1.length ≤ m.length + 4
  l2 : m2.length ≤ m.length + 4
  f1 : H f1 = some (.dK (encT m1))
  s1 : H s1 = some (.dK (encT m2))
  w : Two C D L H a t tb ls m
  sb : St C H b t2 ls m
  tk : TK P1 P2 H
  kl : KLst D L H0 H
theorem BothF.same {C P1 P2 D L a b tb f1 s1 fo : Addr} {ls : List Nat} {m : Tab} {H0 H H' : Hp} {t t2 p2 r1 r2 r3 : Addr} {m1 m2 : Tab} {ks1 ks2 ks3 : List (List Nat)} {us1 us2 us3 : List V} (h : BothF C P1 P2 D L a b tb f1 s1 fo ls m H0 H t t2 p2 r1 r2 r3 m1 m2 ks1 ks2 ks3 us1 us2 us3) (s : Same H H') : BothF C P1 P2 D L a b tb f1 s1 fo ls m H0 H' t t2 p2 r1 r2 r3 m1 m2 ks1 ks2 ks3 us1 us2 us3 :=
  ⟨s _ _ h.fo, s _ _ h.p2, s _ _ h.r1, s _ _ h.r2, s _ _ h.r3, h.q1.same s, h.q2.same s, h.q3.same s, h.k1, h.k2, h.k3, h.o1, h.o2, h.l1, h.l2, s _ _ h.f1, s _ _ h.s1, h.w.same s, h.sb.same s, h.tk.same s, h.kl.trans (KLst.of_same s)⟩
def spBoth (C P1 P2 : Addr) : Sp := fun vs H Q _ => ∃ (D L a d b e tb : Addr) (ls : List Nat) (m : Tab), vs = [.ref D, .str (tx ls), .ref a, .ref b, .ref tb] ∧ LsOk ls ∧ Two C D L H a d tb ls m ∧ St C H b e ls m ∧ e ≠ d ∧ e ≠ tb ∧ a ≠ b ∧ TK P1 P2 H ∧ m.length ≤ 30 ∧
  ∀ d' H', Two C D L H' a d' tb ls m → TK P1 P2 H' → KLst D L H H' → Q (.bl true) H'
theorem cl_both (T : Txt K mg) {c2 P1 P2 : Addr} (aC : AtC K mg "_law_both_right" s__law_both_right ["_law_deal_here", "_law_letters_here", "_law_store", "_law_other", "_law_table"] c2) (TB : LamX.TabB base mg c2 P2) (hP : P1 ≠ P2) :
    ClG P w K mg base "_law_both_right" ["_law_deal_here", "_law_letters_here", "_law_store", "_law_other", "_law_table"] 11 (spBoth (SC mg) P1 P2) := clGC_of aC fun f fd F => by
  have C__law_deeds := cl_deeds (P := P) (w := w) (base := base) T
  have C__law_shown := cl_shown (P := P) (w := w) (base := base) T
  have C_Store_pairs_1 := at_pairs_1 (P := P) (w := w) (base := base) T
  refine okGC F sc__law_both_right (fun vs H Q E h => ?_) (fun A outer s H vs Q E hgd hr h => ?_)
  · obtain ⟨D, L, a, d, b, e, tb, ls, m, rfl, _⟩ := h
    rfl
  · obtain ⟨D, L, a, d, b, e, tb, ls, m, rfl, hls, hW, hSb, hed, hetb, hab, hTK, hm, q⟩ := h
    refine ⟨_, (pss_cons (ps_asg (pe_tup (pa_cons (pe_callTy call_dictD (by rfl) T.m_dict (by decide +kernel) (pa_cons (pv 4) pa_nil)) (pa_cons (pe_callTy call_dictD (by rfl) T.m_dict (by decide +kernel) (pa_cons (pv 4) pa_nil)) pa_nil))) (pg_tup rfl (pgs_cons (pg_name (i := 7) sc__law_both_right.nd rfl (Or.inr rfl)) (pgs_cons (pg_name (i := 8) sc__law_both_right.nd rfl (Or.inr rfl)) pgs_nil))))
      (Evl.pss_cut (ps_set (i := 5) sc__law_both_right.nd rfl (Or.inl rfl) (pe_mlamG (k := 8) (y := "store") (TT := TTwithin (SC mg) (TC mg)) (q := Q2) (P := P2) (R := R2 P1 P2) (Pre := fun _ => True) T.k_Store T.a_Store_within sc_Store_within rfl (.inl rfl) (fun g cdg => gives_within T (by decide) g cdg _) rfl (code_static TB) rfl takes0 hr (UnP.lamP_by (sc := defScope s__law_both_right) (b := true) (by decide +kernel) (fun _ _ => rfl) (fun _ => rfl)) (show ("_law_one" : Str) ∉ n__law_both_right by decide +kernel) rfl (fun _ _ _ _ _ _ => rfl) (fun A outer s H E f c P gu hr => (have hgd := gu.trans hgd; (pe_lst (pa_cons (pe_cl C__law_deeds (hr.mono (by decide)) (by rfl) (pa_cons (pv 1) (pa_cons (pv 2) (pa_cons (pv 0) (pa_cons (pv 8) pa_nil))))) (pa_cons (pe_slice (show SlR _ (rSlL K) from sl_list) (pe_mlamG (k := 6) (y := "store") (TT := TTwithin (SC mg) (TC mg)) (q := Q3) (P := P) (R := RT) (Pre := fun H => H c = some (UnP.CodeH c Q2 P) ∧ ∃ ps, H P = some (.tbl ps)) T.k_Store T.a_Store_within sc_Store_within rfl (.inl rfl) (fun g cdg => gives_within T (by decide) g cdg _) rfl (code_dyn TB) rfl (takes_of rfl rfl rfl rfl) hr (UnP.lamP_by (sc := lam1) (b := false) (by decide +kernel) (fun _ _ => rfl) (fun _ => rfl)) (show ("_law_two" : Str) ∉ ("_law_one" : Str) :: n__law_both_right by decide +kernel) rfl (fun _ _ _ _ _ _ => rfl) (fun A outer s H E f c P gu hr => (have hgd := gu.trans hgd; (pe_lst (pa_cons (pe_cl C__law_deeds (hr.mono (by decide)) (by rfl) (pa_cons (pv 2) (pa_cons (pv 3) (pa_cons (pv 0) (pa_cons (pv 10) pa_nil))))) (pa_cons (pe_mtD0 C_Store_pairs_1 hr (by decide) (pv 1)) (pa_cons (pe_mtD0 C_Store_pairs_1 hr (by decide) (pv 0)) pa_nil)))))) (pv 4)) (po_some pe_int) po_none) (pa_cons (pe_mtD0 C_Store_pairs_1 hr (by decide) (pv 4)) pa_nil)))))) (pv 2)))
      (pss_cons (ps_set (i := 6) sc__law_both_right.nd rfl (Or.inl rfl) (pe_lst (pa_cons (pe_lst (pa_cons (pe_cl C__law_shown (hr.mono (by decide)) (by rfl) (pa_cons (pv 7) pa_nil)) (pa_cons (pe_cl C__law_shown (hr.mono (by decide)) (by rfl) (pa_cons (pv 8) pa_nil)) pa_nil))) (pa_cons (pe_cl C__law_shown (hr.mono (by decide)) (by rfl) (pa_cons (pv 4) pa_nil)) pa_nil))))
      (pss_one (ps_ret (pe_and (pe_cmpR op_eq (pe_callB (r := rReprZ K) (call_reprZ hgd hr) (by rfl) T.m_repr (by decide +kernel) (pa_cons (pe_slice sl_list (pv 5) (po_some pe_int) po_none) pa_nil)) (pe_callB (r := rReprZ K) (call_reprZ hgd hr) (by rfl) T.m_repr (by decide +kernel) (pa_cons (pv 6) pa_nil)) (nomark _)) (pe_one (pe_cmpR op_eq (pe_callB (r := rReprZ K) (call_reprZ hgd hr) (by rfl) T.m_repr (by decide +kernel) (pa_cons (pe_lst (pa_cons (pe_mtD0 C_Store_pairs_1 hr (by decide) (pv 2)) (pa_cons (pe_mtD0 C_Store_pairs_1 hr (by decide) (pv 3)) pa_nil))) pa_nil)) (pe_callB (r := rReprZ K) (call_reprZ hgd hr) (by rfl) T.m_repr (by decide +kernel) (pa_cons (pe_op op_rep (pe_lst (pa_cons (pe_cl C__law_shown (hr.mono (by decide)) (by rfl) (pa_cons (pv 4) pa_nil)) pa_nil)) pe_int) pa_nil)) (nomark _))))))))), ?_⟩
    obtain ⟨dxa, hoa⟩ := hW.s.o
    obtain ⟨dxb, hob⟩ := hSb.o
    walk_at "rds"
    refine ⟨tb, _, rfl, .inl hW.t, fun f1 hf1 => ?_⟩
    have s1 := same_upd (o := .dK (encT m)) hf1
    have ef1 : upd H f1 (.dK (encT m)) f1 = some (.dK (encT m)) := upd_same
    generalize upd H f1 (.dK (encT m)) = H1 at s1 ef1 ⊢
    walk_at "rds"
    refine ⟨tb, _, rfl, .inl (s1 _ _ hW.t), fun s1a hs1 => ?_⟩
    have s2 := same_trans s1 (same_upd (o := .dK (encT m)) hs1)
    have ef2 := same_upd (o := .dK (encT m)) hs1 _ _ ef1
    have es2 : upd H1 s1a (.dK (encT m)) s1a = some (.dK (encT m)) := upd_same
    have hs1f : s1a ≠ f1 := fun z => by
      rw [z, ef1] at hs1
      cases hs1
    have hs1n : H s1a = none := same_none s1 hs1
    generalize upd H1 s1a (.dK (encT m)) = H2 at s2 ef2 es2 ⊢
    walk_at "rds"
    refine ⟨by show 2 ≤ sizeLine; decide, fun tp htp => ?_⟩
    have s3 := same_trans s2 (same_upd (o := .tup [.ref f1, .ref s1a]) htp)
    have ef3 := same_upd (o := .tup [.ref f1, .ref s1a]) htp _ _ ef2
    have es3 := same_upd (o := .tup [.ref f1, .ref s1a]) htp _ _ es2
    refine rd_gtup (SqT.of upd_same) rfl ?_
    generalize upd H2 tp (.tup [.ref f1, .ref s1a]) = H3 at s3 ef3 es3 ⊢
    have nf : ∀ {p : Addr} {o : HO}, H p = some o → p ≠ f1 ∧ p ≠ s1a := fun {p o} h => ⟨ne_of_none h hf1, ne_of_none h hs1n⟩
    walk_at "rds"
    dsimp only
    refine rd_cut (fun σ' H' => ∃ (fo t t2 p2 r1 r2 r3 : Addr) (y : Option V) (m1 m2 : Tab) (ks1 ks2 ks3 : List (List Nat)) (us1 us2 us3 : List V), σ' = [some (.ref D), some (.str (tx ls)), some (.ref a), some (.ref b), some (.ref tb), some (.ref fo), y, some (.ref f1), some (.ref s1a)] ∧ BothF (SC mg) P1 P2 D L a b tb f1 s1a fo ls m H H' t t2 p2 r1 r2 r3 m1 m2 ks1 ks2 ks3 us1 us2 us3) ?_ ?_
    · walk_at "rds"
      have tk3 := hTK.same s3
      have tkm3 := tk3.2
      obtain ⟨ps2, hps2, _, _⟩ := id tk3.2
      refine ⟨.ref a, rfl, a, dxa, _, rfl, s3 _ _ hoa, rfl, trivial, tk3.2, fun H4 T g r => ?_, fun H4 T g h1 h2 => ?_, fun c' P' H4 g t4 r4 hc => ?_⟩
      · obtain ⟨n1, n2, ps, z1, z2, z3⟩ := r
        refine ⟨n1, n2, ps, g.old _ _ n2 z1, z2, fun pos cv hc => ?_⟩
        obtain ⟨c, P', e1, e2, _⟩ := z3 pos cv hc
        exact ⟨c, P', e1, g.old _ _ (fun z => UnP.codeH_ne ps2 (Option.some.inj (e2.symm.trans (z ▸ hps2)))) e2, trivial⟩
      · obtain ⟨ps1, hps1, _, _⟩ := tk3.1
        exact ⟨(ne_of_none hps1 h1).symm, (ne_of_none hps2 h1).symm, #[], h2, trivial, fun pos cv hc => by cases hc⟩
      have tk4 := tk3.grow2 hP g t4
      have g' : ∀ {q : Addr} {o : HO}, H3 q = some o → (∀ ps, o ≠ .tbl ps) → H4 q = some o := fun {q o} hb hn => g.old q o (fun z => hn ps2 (Option.some.inj (hb.symm.trans (z ▸ hps2)))) hb
      have W3 := hW.same s3
      have Sb3 := hSb.same s3
      have W4 : Two (SC mg) D L H4 a d f1 ls m := by
        obtain ⟨cs, mm, z1, z2, z3⟩ := W3.dl
        exact ⟨⟨cs, mm, g' z1 (fun _ z => by cases z), g' z2 (fun _ z => by cases z), z3⟩, ⟨⟨dxa, g' (s3 _ _ hoa) fun _ z => by cases z⟩, g' W3.s.t fun _ z => by cases z⟩, g' ef3 (fun _ z => by cases z), (nf hW.s.t).1.symm, hW.ok⟩
      have eb4 := g' (s3 _ _ hob) (fun _ z => by cases z)
      have ee4 := g' Sb3.t (fun _ z => by cases z)
      have es4 := g' es3 (fun _ z => by cases z)
      have et4 := g' W3.t (fun _ z => by cases z)
      have ea4 := g' (s3 _ _ hoa) (fun _ z => by cases z)
      have kl4 : KLst D L H H4 := (KLst.of_same s3).trans (KLst.grow g hps2)
      clear W3 Sb3 tk3 tkm3
      refine ⟨d, ls, m, W4.s, fun x t dxt H5 s5 hx ht hxt ex et => ?_⟩
      have W5 := W4.same s5
      walk_at "rds"
      refine ⟨D, L, a, d, f1, ls, m, rfl, hls, W5, by omega, fun m1 H6 hl1 k6 W6 => ?_⟩
      have tk6 := (tk4.same s5).k4 W5 k6
      have nl : ∀ {kvs : List (Key × V)}, ∀ xs, (HO.dK kvs) ≠ .lst xs := fun {kvs} xs z => by cases z
      have nli : ∀ {C d : Addr} {fs : List (Str × V)}, ∀ xs, (HO.ins C d fs) ≠ .lst xs := fun {C d fs} xs z => by cases z
      have ndi : ∀ {C d : Addr} {fs : List (Str × V)}, ∀ xs, (HO.ins C d fs) ≠ .dK xs := fun {C d fs} xs z => by cases z
      have eb6 := W5.k4n k6 (s5 _ _ eb4) nli ndi
      have ex6 := W5.k4n k6 ex nli ndi
      have ee6 := W5.k4o k6 (s5 _ _ ee4) nl hed (nf hSb.t).1
      have es6 := W5.k4o k6 (s5 _ _ es4) nl (nf hW.s.t).2.symm hs1f
      have et6 := W5.k4o k6 (s5 _ _ et4) nl hW.ne (nf hW.t).1
      have htn : ∀ {q : Addr} {o : HO}, H4 q = some o → q ≠ t := fun {q o} h => ne_of_none h ht
      have ett6 := W5.k4o k6 et nl (htn W4.s.t).symm (htn W4.t).symm
      have isT : ∀ {q : Addr} {o : HO}, H4 q = some o → IsT o → H6 q = some o := fun {q o} h i => W5.k4n k6 (s5 _ _ h) (fun xs z => isT_lst (z ▸ i)) (fun xs z => isT_dK (z ▸ i))
      have hc6 := isT hc (.inr ⟨_, _, _, rfl⟩)
      have r6 : R2 P1 P2 H6 P' := ⟨r4.1, r4.2.1, tabW_keep (fun _ _ h i => isT h i) (fun _ _ => trivial) r4.2.2⟩
      obtain ⟨psx, hpsx, _, _⟩ := id r6.2.2
      walk_at "rds"
      refine ⟨.ref b, rfl, b, dxb, _, rfl, eb6, rfl, ⟨hc6, psx, hpsx⟩, r6.2.2, fun _ _ _ _ => trivial, fun _ _ _ _ _ => trivial, fun c2' P3 H7 g7 t7 _ hc7 => ?_⟩
      have tk7 := tk6.growD r6 g7 t7
      have g7' : ∀ {q : Addr} {o : HO}, H6 q = some o → (∀ ps, o ≠ .tbl ps) → H7 q = some o := fun {q o} hb hn => g7.old q o (fun z => hn psx (Option.some.inj (hb.symm.trans (z ▸ hpsx)))) hb
      have dl7 : Deal D L H7 := by
        obtain ⟨cs, mm, z1, z2, z3⟩ := W6.dl
        exact ⟨cs, mm, g7' z1 (fun _ z => by cases z), g7' z2 (fun _ z => by cases z), z3⟩
      have eb7 := g7' eb6 (fun _ z => by cases z)
      have ex7 := g7' ex6 (fun _ z => by cases z)
      have ee7 := g7' ee6 (fun _ z => by cases z)
      have es7 := g7' es6 (fun _ z => by cases z)
      have et7 := g7' et6 (fun _ z => by cases z)
      have ett7 := g7' ett6 (fun _ z => by cases z)
      have ef7 := g7' W6.t (fun _ z => by cases z)
      have ed7 := g7' W6.s.t (fun _ z => by cases z)
      obtain ⟨dx6, ho6⟩ := W6.s.o
      have ea7 := g7' ho6 (fun _ z => by cases z)
      refine ⟨e, ls, m, ⟨⟨dxb, eb7⟩, ee7⟩, fun x2 t2 dxt2 H8 s8 hx2 ht2 hxt2 ex2 et2 => ?_⟩
      have W8 : Two (SC mg) D L H8 b e s1a ls m := ⟨dl7.keep s8, ⟨⟨dxb, s8 _ _ eb7⟩, s8 _ _ ee7⟩, s8 _ _ es7, (nf hSb.t).2.symm, hW.ok⟩
      walk_at "rds"
      refine ⟨D, L, b, e, s1a, ls, m, rfl, hls, W8, by omega, fun m2 H9 hl2 k9 W9 => ?_⟩
      have tk9 := (tk7.same s8).k4 W8 k9
      have ea9 := W8.k4n k9 (s8 _ _ ea7) nli ndi
      have ex9 := W8.k4n k9 (s8 _ _ ex7) nli ndi
      have ex29 := W8.k4n k9 ex2 nli ndi
      have ed9 := W8.k4o k9 (s8 _ _ ed7) nl hed.symm (nf hW.s.t).2
      have ef9 := W8.k4o k9 (s8 _ _ ef7) nl (nf hSb.t).1.symm hs1f.symm
      have et9 := W8.k4o k9 (s8 _ _ et7) nl hetb.symm (nf hW.t).2
      have ett9 := W8.k4o k9 (s8 _ _ ett7) nl (htn ee4).symm (htn es4).symm
      have ht2n : ∀ {q : Addr} {o : HO}, H7 q = some o → q ≠ t2 := fun {q o} h => ne_of_none h ht2
      have et29 := W8.k4o k9 et2 nl (ht2n ee7).symm (ht2n es7).symm
      have kl9 : KLst D L H H9 := ((((kl4.trans (KLst.of_same s5)).trans (KLst.k4 W5 k6)).trans (KLst.grow g7 hpsx)).trans (KLst.of_same s8)).trans (KLst.k4 W8 k9)
      obtain ⟨dxb9, eb9⟩ := W9.s.o
      have dl9 := W9.dl
      have es9 := W9.t
      have Sb9 := W9.s
      have ok1 := W6.ok
      have ok2 := W9.ok
      clear W4 W5 W6 k6 tk4 tk6 tk7 W8 k9 isT
      walk_at "rds"
      refine ⟨a, _, _, rfl, ea9, rfl, ?_⟩
      walk_at "rds"
      refine ⟨a, d, ls, m1, [], none, none, rfl, ⟨⟨_, ea9⟩, ed9⟩, by omega, fun ks1 r1 us1 H10 hks1 s10 hr1 er1 pr1 => ?_⟩
      walk_at "rds"
      refine ⟨b, _, _, rfl, s10 _ _ eb9, rfl, ?_⟩
      walk_at "rds"
      refine ⟨b, e, ls, m2, [], none, none, rfl, Sb9.same s10, by omega, fun ks2 r2 us2 H11 hks2 s11 hr2 er2 pr2 => ?_⟩
      have s911 := same_trans s10 s11
      have er1 := s11 _ _ er1
      have pr1 := pr1.same s11
      walk_at "rds"
      refine ⟨by show 3 ≤ sizeLine; decide, fun p1 hp1 => ?_⟩
      have s12 := same_upd (o := .lst [.non, .ref r1, .ref r2]) hp1
      have ep1 : upd H11 p1 (.lst [.non, .ref r1, .ref r2]) p1 = some (.lst [.non, .ref r1, .ref r2]) := upd_same
      generalize upd H11 p1 (.lst [.non, .ref r1, .ref r2]) = H12 at s12 ep1 ⊢
      have s912 := same_trans s911 s12
      have eb12 := s912 _ _ eb9
      have k13 : ∀ {q : Addr} {o : HO}, H12 q = some o → (∀ C d fs, o ≠ .ins C d fs) → upd H12 b (.ins (SC mg) dxb9 (SF ls t2)) q = some o := fun {q o} h n => by
        rw [upd_ne (fun z => by rw [z, eb12] at h; exact n _ _ _ (Option.some.inj h).symm)]
        exact h
      have nI : ∀ {kvs : List (Key × V)}, ∀ C d fs, (HO.dK kvs) ≠ .ins C d fs := fun {kvs} C d fs z => by cases z
      have nIl : ∀ {xs : List V}, ∀ C d fs, (HO.lst xs) ≠ .ins C d fs := fun {xs} C d fs z => by cases z
      have nIt : ∀ {xs : List V}, ∀ C d fs, (HO.tup xs) ≠ .ins C d fs := fun {xs} C d fs z => by cases z
      refine ⟨x2, dxt2, b, t2, dxb9, e, ls, .non, .non, .non, rfl, s912 _ _ ex29, eb12, ?_⟩
      have eb13 : upd H12 b (.ins (SC mg) dxb9 (SF ls t2)) b = some (.ins (SC mg) dxb9 (SF ls t2)) := upd_same
      have ea13 : upd H12 b (.ins (SC mg) dxb9 (SF ls t2)) a = some (.ins (SC mg) dx6 (SF ls d)) := by rw [upd_ne hab]; exact s912 _ _ ea9
      have ex13 : upd H12 b (.ins (SC mg) dxb9 (SF ls t2)) x = some (.ins (TC mg) dxt (TF a t)) := by
        rw [upd_ne (fun z => by rw [z, eb4] at hx; cases hx)]; exact s912 _ _ ex9
      have tk13 : TK P1 P2 (upd H12 b (.ins (SC mg) dxb9 (SF ls t2))) := (tk9.same s912).keep fun q o h i => k13 h fun _ _ _ z => isT_ins (z ▸ i)
      have dl13 : Deal D L (upd H12 b (.ins (SC mg) dxb9 (SF ls t2))) := by
        obtain ⟨cs, mm, z1, z2, z3⟩ := dl9.keep s912
        exact ⟨cs, mm, k13 z1 nIl, k13 z2 nIl, z3⟩
      have kl13 : KLst D L H (upd H12 b (.ins (SC mg) dxb9 (SF ls t2))) := (kl9.trans (KLst.of_same s912)).trans (KLst.upd eb12)
      have er13 := k13 (s12 _ _ er1) nIl
      have er23 := k13 (s12 _ _ er2) nIl
      have pr13 : Prs (upd H12 b (.ins (SC mg) dxb9 (SF ls t2))) (prT m1 ks1) us1 := (pr1.same s12).keep fun T l h => k13 h nIt
      have pr23 : Prs (upd H12 b (.ins (SC mg) dxb9 (SF ls t2))) (prT m2 ks2) us2 := (pr2.same s12).keep fun T l h => k13 h nIt
      have ep13 := k13 ep1 nIl
      have ed13 := k13 (s912 _ _ ed9) nI
      have ef13 := k13 (s912 _ _ ef9) nI
      have es13 := k13 (s912 _ _ es9) nI
      have et13 := k13 (s912 _ _ et9) nI
      have ett13 := k13 (s912 _ _ ett9) nI
      have et213 := k13 (s912 _ _ et29) nI
      clear k13
      generalize upd H12 b (.ins (SC mg) dxb9 (SF ls t2)) = H13 at eb13 ea13 ex13 tk13 kl13 dl13 er13 er23 pr13 pr23 ep13 ed13 ef13 es13 et13 ett13 et213 ⊢
      walk_at "rds"
      refine rd_slL (SqL.of ep13) fun p2 hp2 => ?_
      have s14 := same_upd (o := .lst (cutV [.non, .ref r1, .ref r2] (some 1) none)) hp2
      have ep2 : upd H13 p2 (.lst (cutV [.non, .ref r1, .ref r2] (some 1) none)) p2 = some (.lst [.ref r1, .ref r2]) := upd_same
      generalize upd H13 p2 (.lst (cutV [.non, .ref r1, .ref r2] (some 1) none)) = H14 at s14 ep2 ⊢
      walk_at "rds"
      refine ⟨b, _, _, rfl, s14 _ _ eb13, rfl, ?_⟩
      walk_at "rds"
      refine ⟨b, t2, ls, m, [], none, none, rfl, ⟨⟨_, s14 _ _ eb13⟩, s14 _ _ et213⟩, by omega, fun ks3 r3 us3 H15 hks3 s15 hr3 er3 pr3 => ?_⟩
      walk_at "rds"
      refine ⟨by show 3 ≤ sizeLine; decide, fun p3 hp3 => ?_⟩
      have s16 := same_upd (o := .lst [.non, .ref p2, .ref r3]) hp3
      have ep3 : upd H15 p3 (.lst [.non, .ref p2, .ref r3]) p3 = some (.lst [.non, .ref p2, .ref r3]) := upd_same
      generalize upd H15 p3 (.lst [.non, .ref p2, .ref r3]) = H16 at s16 ep3 ⊢
      have s146 := same_trans s15 s16
      have s136 := same_trans s14 s146
      have ea16 := s136 _ _ ea13
      have k17 : ∀ {q : Addr} {o : HO}, H16 q = some o → (∀ C d fs, o ≠ .ins C d fs) → upd H16 a (.ins (SC mg) dx6 (SF ls t)) q = some o := fun {q o} h n => by
        rw [upd_ne (fun z => by rw [z, ea16] at h; exact n _ _ _ (Option.some.inj h).symm)]
        exact h
      refine ⟨x, dxt, a, t, dx6, d, ls, .non, .non, .non, rfl, s136 _ _ ex13, ea16, ?_⟩
      refine ⟨p3, t, t2, p2, r1, r2, r3, _, m1, m2, ks1, ks2, ks3, us1, us2, us3, rfl, ?_⟩
      refine ⟨k17 ep3 nIl, k17 (s146 _ _ ep2) nIl, k17 (s136 _ _ er13) nIl, k17 (s136 _ _ er23) nIl, k17 (s16 _ _ er3) nIl, (pr13.same s136).keep fun T l h => k17 h nIt, (pr23.same s136).keep fun T l h => k17 h nIt, (pr3.same s16).keep fun T l h => k17 h nIt, hks1, hks2, hks3, ok1, ok2, by omega, by omega, k17 (s136 _ _ ef13) nI, k17 (s136 _ _ es13) nI, ⟨?_, ⟨⟨_, upd_same⟩, k17 (s136 _ _ ett13) nI⟩, k17 (s136 _ _ et13) nI, ne_of_none et4 ht, hW.ok⟩, ⟨⟨dxb9, ?_⟩, k17 (s136 _ _ et213) nI⟩, (tk13.same s136).keep fun q o h i => k17 h fun _ _ _ z => isT_ins (z ▸ i), (kl13.trans (KLst.of_same s136)).trans (KLst.upd ea16)⟩
      · obtain ⟨cs, mm, z1, z2, z3⟩ := dl13.keep s136
        exact ⟨cs, mm, k17 z1 nIl, k17 z2 nIl, z3⟩
      · rw [upd_ne hab.symm]
        exact s136 _ _ eb13
    · rintro σ' H' ⟨fo, t, t2, p2, r1, r2, r3, y, m1, m2, ks1, ks2, ks3, us1, us2, us3, rfl, B⟩
      have ok1 := B.o1
      have ok2 := B.o2
      have okm := B.w.ok
      have l1 := B.l1
      have l2 := B.l2
      have et : ∀ z : V, decide (z = z) = true := fun z => by simp
      have good : ∀ {mm : Tab} {ks : List (List Nat)}, TabOk ls 3 mm → mm.length ≤ 40 → KR mm [] none none ks → GoodZ 2 24061 (plD (prT mm ks)) := fun {mm ks} h1 h2 hks => plD_goodN (prT_ok (h1.ok hls.2.2.2 (by decide)) fun k h => hks.mem h) (by rw [prT_len]; have := hks.len; omega)
      have g1 := good ok1 (by omega) B.k1
      have g2 := good ok2 (by omega) B.k2
      have g3 := good okm (by omega) B.k3
      walk_at "rds"
      refine ⟨f1, m1, rfl, B.f1, by omega, fun js1 q1 vs1 H1 hj1 t1 hq1 eq1 pq1 => ?_⟩
      cases B.k1.uniq hj1
      walk_at "rds"
      refine ⟨s1a, m2, rfl, t1 _ _ B.s1, by omega, fun js2 q2 vs2 H2 hj2 t2' hq2 eq2 pq2 => ?_⟩
      cases B.k2.uniq hj2
      walk_at "rds"
      refine ⟨by show 2 ≤ sizeLine; decide, fun q3 hq3 => ?_⟩
      have t3 := same_upd (o := .lst [.ref q1, .ref q2]) hq3
      have eq3 : upd H2 q3 (.lst [.ref q1, .ref q2]) q3 = some (.lst [.ref q1, .ref q2]) := upd_same
      generalize upd H2 q3 (.lst [.ref q1, .ref q2]) = H3 at t3 eq3 ⊢
      walk_at "rds"
      refine ⟨tb, m, rfl, t3 _ _ (t2' _ _ (t1 _ _ B.w.t)), by omega, fun js3 q4 vs3 H4 hj3 t4 hq4 eq4 pq4 => ?_⟩
      cases B.k3.uniq hj3
      walk_at "rds"
      refine ⟨by show 2 ≤ sizeLine; decide, fun q5 hq5 => ?_⟩
      have t5 := same_upd (o := .lst [.ref q3, .ref q4]) hq5
      have eq5 : upd H4 q5 (.lst [.ref q3, .ref q4]) q5 = some (.lst [.ref q3, .ref q4]) := upd_same
      generalize upd H4 q5 (.lst [.ref q3, .ref q4]) = H5 at t5 eq5 ⊢
      have B5 := B.same (same_trans t1 (same_trans t2' (same_trans t3 (same_trans t4 t5))))
      have t35 := same_trans t4 t5
      have t25 := same_trans t3 t35
      have t15 := same_trans t2' t25
      walk_at "rds"
      refine rd_slL (SqL.of B5.fo) fun p4 hp4 => ?_
      have t6 := same_upd (o := .lst (cutV [.non, .ref p2, .ref r3] (some 1) none)) hp4
      have ep4 : upd H5 p4 (.lst (cutV [.non, .ref p2, .ref r3] (some 1) none)) p4 = some (.lst [.ref p2, .ref r3]) := upd_same
      generalize upd H5 p4 (.lst (cutV [.non, .ref p2, .ref r3] (some 1) none)) = H6 at t6 ep4 ⊢
      have B6 := B5.same t6
      have gd : GoodZ 20 200000 (.list [.list [plD (prT m1 ks1), plD (prT m2 ks2)], plD (prT m ks3)]) := (two_good (z := 3) (w := 50000) ((two_good g1 g2).mono (by decide) (by decide)) (g3.mono (by decide) (by decide))).mono (by decide) (by decide)
      walk_at "rds"
      refine rd_reprZ (d := .list [.list [plD (prT m1 ks1), plD (prT m2 ks2)], plD (prT m ks3)]) (.lst (SqL.of ep4) (.cons (.lst (SqL.of B6.p2) (.cons (B6.q1.list B6.r1) (.cons (B6.q2.list B6.r2) .nil))) (.cons (B6.q3.list B6.r3) .nil))) gd ?_
      walk_at "rds"
      refine rd_reprZ (d := .list [.list [plD (prT m1 ks1), plD (prT m2 ks2)], plD (prT m ks3)]) (.lst (SqL.of (t6 _ _ eq5)) (.cons (.lst (SqL.of (t6 _ _ (t35 _ _ eq3))) (.cons ((pq1.same (same_trans t15 t6)).list (t6 _ _ (t15 _ _ eq1))) (.cons ((pq2.same (same_trans t25 t6)).list (t6 _ _ (t25 _ _ eq2))) .nil))) (.cons ((pq4.same (same_trans t5 t6)).list (t6 _ _ (t5 _ _ eq4))) .nil))) gd ?_
      walk_at "rds"
      rw [et]
      obtain ⟨dxa6, ea6⟩ := B6.w.s.o
      obtain ⟨dxb6, eb6⟩ := B6.sb.o
      refine ⟨_, rfl, ?_⟩
      refine ⟨a, _, _, rfl, ea6, rfl, ?_⟩
      walk_at "rds"
      refine ⟨a, t, ls, m, [], none, none, rfl, B6.w.s, by omega, fun ja w1 ua H7 hja z1 hw1 ew1 pw1 => ?_⟩
      cases B.k3.uniq hja
      walk_at "rds"
      refine ⟨b, _, _, rfl, z1 _ _ eb6, rfl, ?_⟩
      walk_at "rds"
      refine ⟨b, t2, ls, m, [], none, none, rfl, B6.sb.same z1, by omega, fun jb w2 ub H8 hjb z2 hw2 ew2 pw2 => ?_⟩
      cases B.k3.uniq hjb
      walk_at "rds"
      refine ⟨by show 2 ≤ sizeLine; decide, fun w3 hw3 => ?_⟩
      have z3 := same_upd (o := .lst [.ref w1, .ref w2]) hw3
      have ew3 : upd H8 w3 (.lst [.ref w1, .ref w2]) w3 = some (.lst [.ref w1, .ref w2]) := upd_same
      generalize upd H8 w3 (.lst [.ref w1, .ref w2]) = H9 at z3 ew3 ⊢
      have gd2 : GoodZ 20 200000 (.list [plD (prT m ks3), plD (prT m ks3)]) := (two_good g3 g3).mono (by decide) (by decide)
      walk_at "rds"
      refine rd_reprZ (d := .list [plD (prT m ks3), plD (prT m ks3)]) (.lst (SqL.of ew3) (.cons ((pw1.same (same_trans z2 z3)).list (z3 _ _ (z2 _ _ ew1))) (.cons ((pw2.same z3).list (z3 _ _ ew2)) .nil))) gd2 ?_
      walk_at "rds"
      have z13 := same_trans z1 (same_trans z2 z3)
      have B9 := B6.same z13
      refine ⟨tb, m, rfl, B9.w.t, by omega, fun jc w4 uc H10 hjc z4 hw4 ew4 pw4 => ?_⟩
      cases B.k3.uniq hjc
      walk_at "rds"
      refine ⟨by show 1 ≤ sizeLine; decide, fun w5 hw5 => ?_⟩
      have z5 := same_upd (o := .lst [.ref w4]) hw5
      have ew5 : upd H10 w5 (.lst [.ref w4]) w5 = some (.lst [.ref w4]) := upd_same
      generalize upd H10 w5 (.lst [.ref w4]) = H11 at z5 ew5 ⊢
      walk_at "rds"
      refine ⟨w5, 2, [.ref w4], rfl, rfl, ew5, by decide, by decide, (by show 2 ≤ sizeLine; decide), fun w6 hw6 => ?_⟩
      have z6 := same_upd (o := .lst (List.replicate (2 : Int).toNat [V.ref w4]).flatten) hw6
      have ew6 : upd H11 w6 (.lst (List.replicate (2 : Int).toNat [V.ref w4]).flatten) w6 = some (.lst [.ref w4, .ref w4]) := upd_same
      generalize upd H11 w6 (.lst (List.replicate (2 : Int).toNat [V.ref w4]).flatten) = H12 at z6 ew6 ⊢
      have z56 := same_trans z5 z6
      have dw := (pw4.same z56).list (K := K) (z56 _ _ ew4)
      walk_at "rds"
      refine rd_reprZ (d := .list [plD (prT m ks3), plD (prT m ks3)]) (.lst (SqL.of ew6) (.cons dw (.cons dw .nil))) gd2 ?_
      walk_at "rds"
      rw [et]
      have B12 := B9.same (same_trans z4 z56)
      exact q t H12 B12.w B12.tk B12.kl
end

section
variable {P : Program} {w : World} {K : PySem.W.Frag} {mg : Str → Option Value} {base : Heap}
theorem FnG.mono {k j : Nat} {f : Addr} {fd : FuncData} {ps : List Str} {sp : Sp} (F : FnG P w K mg base k f fd ps sp) (h : k ≤ j) : FnG P w K mg base j f fd ps sp := ⟨F.len, fun A outer s H args us vs Q E gA hr e0 b r h' => F.run A outer s H args us vs Q E gA (hr.mono h) e0 b r h'⟩
theorem FnG.or {k : Nat} {f : Addr} {fd : FuncData} {ps : List Str} {sp sp' : Sp} (F : FnG P w K mg base k f fd ps sp) (G : FnG P w K mg base k f fd ps sp') : FnG P w K mg base k f fd ps (fun vs H Q E => sp vs H Q E ∨ sp' vs H Q E) := ⟨fun vs H Q E h => h.elim (F.len vs H Q E) (G.len vs H Q E), fun A outer s H args us vs Q E gA hr e0 b r h => h.elim (F.run A outer s H args us vs Q E gA hr e0 b r) (G.run A outer s H args us vs Q E gA hr e0 b r)⟩
/-- to two or three levels -/
def spTriedA (C P1 P2 : Addr) : Sp := fun vs H Q E => spTried C P1 P2 2 vs H Q E ∨ spTried C P1 P2 3 vs H Q E
theorem cl_triedA (T : Txt K mg) (Z : Xt K mg) {c1 P1 P2 : Addr} (aC : AtC K mg "_law_tried" s__law_tried ["_law_deal_here", "_law_letters_here", "_law_store", "_law_table", "_law_deep"] c1) (TB : LamX.TabB base mg c1 P1) (hP : P1 ≠ P2) :
    ClG P w K mg base "_law_tried" ["_law_deal_here", "_law_letters_here", "_law_store", "_law_table", "_law_deep"] 44 (spTriedA (SC mg) P1 P2) := clGC_of aC fun f fd F => by
  have t0 : ClG P w K mg base "_law_tried" ["_law_deal_here", "_law_letters_here", "_law_store", "_law_table", "_law_deep"] 1 (spTried (SC mg) P1 P2 0) := clGC_of aC fun f fd F => okGC F sc__law_tried (fun vs H Q E h => h.elim) (fun A outer s H vs Q E _ _ h => h.elim)
  have e0 := cl_ent (P := P) (w := w) (base := base) T (by decide) (cl_work (kW := 8) T (by decide) (by decide) t0)
  have t1 := clGC_of aC fun f fd F => fn_tried T Z TB hP F e0
  have e1 := cl_ent (P := P) (w := w) (base := base) T (by decide) (cl_work (kW := 20) T (by decide) (by decide) t1)
  have t2 := clGC_of aC fun f fd F => fn_tried T Z TB hP F e1
  have e2 := cl_ent (P := P) (w := w) (base := base) T (by decide) (cl_work (kW := 32) T (by decide) (by decide) t2)
  exact FnG.or (FnG.mono (j := 44) (fn_tried T Z TB hP F e1) (by decide)) (fn_tried T Z TB hP F e2)
def spLaw (K : PySem.W.Frag) (P1 P2 : Addr) : Sp := fun vs H Q _ => ∃ (a : Addr) (ns : List Int), vs = [.ref a] ∧ SqL K H a (ns.map V.int) ∧ ns.length ≤ 63 ∧ TK P1 P2 H ∧ ∀ H', Q (.bl true) H'
theorem ok_law (T : Txt K mg) (Z : Xt K mg) {c1 c2 P1 P2 : Addr} (aC1 : AtC K mg "_law_tried" s__law_tried ["_law_deal_here", "_law_letters_here", "_law_store", "_law_table", "_law_deep"] c1)
    (aC2 : AtC K mg "_law_both_right" s__law_both_right ["_law_deal_here", "_law_letters_here", "_law_store", "_law_other", "_law_table"] c2) (TB1 : LamX.TabB base mg c1 P1) (TB2 : LamX.TabB base mg c2 P2) (hP : P1 ≠ P2) {f : Addr} {fd : FuncData} (F : Fun K "law" "law" s_law f fd) : FnG P w K mg base 46 f fd ["_law_script"] (spLaw K P1 P2) := by
  have C__law_deal := cl_deal (P := P) (w := w) (base := base) T
  have C__law_letters := cl_letters (P := P) (w := w) (base := base) T
  have C__law_deeds := cl_deeds (P := P) (w := w) (base := base) T
  have C__law_shown := cl_shown (P := P) (w := w) (base := base) T
  have C__law_tried := cl_triedA (P := P) (w := w) (base := base) T Z aC1 TB1 hP
  have C__law_both_right := cl_both (P := P) (w := w) (base := base) T aC2 TB2 hP
  have C_Store_pairs_1 := at_pairs_1 (P := P) (w := w) (base := base) T
  have C_Store_copied := met_copied (P := P) (w := w) (base := base) T
  have C_Store___len__ := met_len (P := P) (w := w) (base := base) T
  obtain ⟨eE, hE, C_Store_1⟩ := mk_Store_1 (P := P) (w := w) (base := base) T
  refine okG F sc_law (fun vs H Q E h => ?_) (fun cdv A outer s H vs Q E hgd hr h => ?_)
  · obtain ⟨a, ns, rfl, _⟩ := h
    rfl
  · obtain ⟨a, ns, rfl, hS, hlen, hTK, q⟩ := h
    refine ⟨_, (Evl.pss_cut (ps_for PassesOwn.never rfl (pi_range1 (by rfl) T.m_range (pa_cons (pe_callB (call_max2X rfl) (by rfl) T.m_max (by decide +kernel) (pa_cons pe_int (pa_cons (pe_callB (call_min2X rfl) (by rfl) T.m_min (by decide +kernel) (pa_cons pe_int (pa_cons (pe_callB call_lenQ (by rfl) T.m_len (by decide +kernel) (pa_cons (pv 0) pa_nil)) pa_nil))) pa_nil))) pa_nil)) (pg_name (i := 1) sc_law.nd rfl (Or.inl rfl))
      (pss_cons (ps_set (i := 2) sc_law.nd rfl (Or.inl rfl) (pe_cl C__law_deal (hr.mono (by decide)) (by rfl) (pa_cons (pv 0) (pa_cons (pv 1) pa_nil))))
      (pss_cons (ps_par (i := 3) (j := 4) (by rfl) sc_law.nd rfl rfl (by decide) rfl rfl (pa_cons (pe_cl C__law_letters (hr.mono (by decide)) (by rfl) (pa_cons (pv 2) (pa_cons pe_int pa_nil))) (pa_cons pe_dnewK pa_nil)) (by rfl))
      (pss_cons (ps_set (i := 5) sc_law.nd rfl (Or.inl rfl) (pe_mkD C_Store_1 hr (by decide) (by rfl) (pa_cons (pv 3) pa_nil)))
      (pss_one (ps_for PassesOwn.never rfl (pi_range1 (by rfl) T.m_range (pa_cons pe_int pa_nil)) (pg_name (i := 6) sc_law.nd rfl (Or.inl rfl))
      (pss_cons (ps_expr (pe_cl C__law_deeds (hr.mono (by decide)) (by rfl) (pa_cons (pv 2) (pa_cons (pv 3) (pa_cons (pv 5) (pa_cons (pv 4) pa_nil))))))
      (pss_cons (ps_par (i := 7) (j := 8) (by rfl) sc_law.nd rfl rfl (by decide) rfl rfl (pa_cons (pe_mtG0 C_Store_copied hr (by decide) (pv 5)) (pa_cons (pe_callTy call_dictD (by rfl) T.m_dict (by decide +kernel) (pa_cons (pv 4) pa_nil)) pa_nil)) (by rfl))
      (pss_cons (ps_if (PW.pt (pw_or (pt_not (pt_val (pe_clG C__law_tried hgd (hr.mono (by decide)) (by rfl) (pa_cons (pv 2) (pa_cons (pv 3) (pa_cons (pv 5) (pa_cons (pv 4) (pa_cons pe_int pa_nil)))))))) (pw_or1 (pt_not (pt_val (pe_clG C__law_tried hgd (hr.mono (by decide)) (by rfl) (pa_cons (pv 2) (pa_cons (pv 3) (pa_cons (pv 7) (pa_cons (pv 8) (pa_cons pe_int pa_nil)))))))))))
      (pss_one (ps_ret pe_bl))
      pss_nil)
      (pss_cons (ps_if (pt_not (pt_val (pe_clG C__law_both_right hgd (hr.mono (by decide)) (by rfl) (pa_cons (pv 2) (pa_cons (pv 3) (pa_cons (pv 5) (pa_cons (pv 7) (pa_cons (pv 4) pa_nil))))))))
      (pss_one (ps_ret pe_bl))
      pss_nil)
      (pss_one (ps_if (PW.pt (pw_or (pt_cmpR op_ne (pe_callB (r := rReprZ K) (call_reprZ hgd hr) (by rfl) T.m_repr (by decide +kernel) (pa_cons (pe_mtD0 C_Store_pairs_1 hr (by decide) (pv 5)) pa_nil)) (pe_callB (r := rReprZ K) (call_reprZ hgd hr) (by rfl) T.m_repr (by decide +kernel) (pa_cons (pe_cl C__law_shown (hr.mono (by decide)) (by rfl) (pa_cons (pv 4) pa_nil)) pa_nil)) (nomark _)) (pw_or1 (pt_cmpR op_ne (pe_callB (len_G C_Store___len__ hr (by decide)) (by rfl) T.m_len (by decide +kernel) (pa_cons (pv 5) pa_nil)) (pe_callB call_lenD (by rfl) T.m_len (by decide +kernel) (pa_cons (pv 4) pa_nil)) (nomark _)))))
      (pss_one (ps_ret pe_bl))
      pss_nil))))))))))))
      (pss_one (ps_ret pe_bl))), ?_⟩
    walk_at "rds"
    refine rd_cut (fun σ' H' => True) ?_ (fun σ' H' _ => ?_)
    rotate_left
    · walk_at "rds"
      exact q _
    walk_at "rds"
    refine rd_lenL hS ?_
    walk_at "rds"
    refine rd_minI ?_
    walk_at "rds"
    obtain ⟨t0, ht0, ht1, ht2⟩ : ∃ t0 : Nat, (if (if ((ns.map V.int).length : Int) < 4 then ((ns.map V.int).length : Int) else 4) > 1 then (if ((ns.map V.int).length : Int) < 4 then ((ns.map V.int).length : Int) else 4) else 1) = (t0 : Int) ∧ 1 ≤ t0 ∧ t0 ≤ 4 := by
      by_cases h1 : ((ns.map V.int).length : Int) < 4
      · rw [if_pos h1]
        by_cases h2 : ((ns.map V.int).length : Int) > 1
        · rw [if_pos h2]; exact ⟨(ns.map V.int).length, rfl, by omega, by omega⟩
        · rw [if_neg h2]; exact ⟨1, rfl, by omega, by omega⟩
      · rw [if_neg h1, if_pos (by decide)]; exact ⟨4, rfl, by omega, by omega⟩
    rw [ht0]
    refine ⟨_, rfl, by omega, by omega, for_range (lo := 0) (n := ((t0 : Nat) : Int).toNat) (fun i σ' H' => SqL K H' a (ns.map V.int) ∧ TK P1 P2 H' ∧ ∃ y1 y2 y3 y4 y5 y6 y7 y8, σ' = [some (.ref a), y1, y2, y3, y4, y5, y6, y7, y8]) ⟨hS, hTK, _, _, _, _, _, _, _, _, rfl⟩ ?_ ?_⟩
    rotate_left
    · rintro σ' H' _
      trivial
    rintro i σ' H0 hi ⟨hS0, hTK0, y1, y2, y3, y4, y5, y6, y7, y8, rfl⟩
    rw [Int.toNat_natCast] at hi
    walk_at "rds"
    refine ⟨a, ns, _, rfl, hS0, hlen, by omega, by omega, fun D L H1 nD nL s1 hd1 => ?_⟩
    walk_at "rds"
    refine ⟨D, L, 5, rfl, hd1, by decide, by decide, fun ls H2 hl1 hl2 hup hmem kp2 hd2 => ?_⟩
    have hhi : ls.length ≤ 5 := by omega
    have hne : ls ≠ [] := by
      rintro rfl
      simp at hl1
    have hare : areB ls = true := areB_of hl1 hhi hmem hup
    have hls : LsOk ls := ⟨hare, hne, hhi, hmem⟩
    walk_at "rds"
    refine fun tb htb => ?_
    have s3 := same_upd (o := .dK []) htb
    have e3 : upd H2 tb (.dK []) tb = some (.dK (encT [])) := upd_same
    generalize upd H2 tb (.dK []) = H3 at s3 e3 ⊢
    walk_at "rds"
    refine make_end (C := SC mg) hare (by omega) (hE H3) .nil (fun q hq => by cases hq) (by decide) (fun st d H5 s5 hst hd hSt => ?_)
    have kl5 : KLst D L H0 H5 := (((KLst.of_same s1).trans (KLst.of_keep kp2)).trans (KLst.of_same s3)).trans (KLst.of_same s5)
    have tk5 : TK P1 P2 H5 := (((hTK0.same s1).kp hd1 kp2).same s3).same s5
    have W5 : Two (SC mg) D L H5 st d tb ls [] := ⟨(hd2.keep s3).keep s5, hSt, s5 _ _ e3, ne_of_none e3 hd, TabOk.nil ls 3⟩
    clear s3 s5 hst hd e3 htb hd2 kp2 s1 hd1
    walk_at "rds"
    refine ⟨3, rfl, by decide, by decide, for_range (lo := 0) (n := (3 : Int).toNat) (fun i' σ' H' => (∃ y7 y8 y9, σ' = [some (.ref a), some (.int (0 + (i : Nat))), some (.ref D), some (.str (tx ls)), some (.ref tb), some (.ref st), y7, y8, y9]) ∧ KLst D L H0 H' ∧ TK P1 P2 H' ∧ ∃ d m, Two (SC mg) D L H' st d tb ls m ∧ m.length ≤ 4 * i') ⟨⟨_, _, _, rfl⟩, kl5, tk5, d, [], W5, Nat.zero_le _⟩ ?_ ?_⟩
    · rintro i' σ' H6 hi' ⟨⟨y7, y8, y9, rfl⟩, kl6, tk6, d6, m, W6, hm6⟩
      have hi3 : i' < 3 := hi'
      walk_at "rds"
      refine ⟨D, L, st, d6, tb, ls, m, rfl, hls, W6, by omega, fun m7 H7 hl7 k7 W7 => ?_⟩
      have kl7 := kl6.trans (KLst.k4 W6 k7)
      have tk7 := tk6.k4 W6 k7
      have hm7 : m7.length ≤ 4 * (i' + 1) := by omega
      clear k7 W6 kl6 tk6 hl7 hm6
      obtain ⟨dx7, ho7⟩ := W7.s.o
      have hov : ∀ q ∈ m7, Ov ls q.1 ∧ 0 ≤ q.2 := fun q hq => ⟨⟨(W7.ok.kb q.1 (List.mem_map.mpr ⟨q, hq, rfl⟩)).1, by have := (W7.ok.kb q.1 (List.mem_map.mpr ⟨q, hq, rfl⟩)).2; omega⟩, (W7.ok.v q hq).1⟩
      walk_at "rds"
      refine ⟨st, _, _, rfl, ho7, rfl, ?_⟩
      walk_at "rds"
      refine ⟨st, d6, ls, m7, rfl, W7.s, hare, by omega, W7.ok.nd, hov, by omega, fun b e H8 s8 hb he hSb => ?_⟩
      walk_at "rds"
      refine ⟨tb, _, rfl, .inl (s8 _ _ W7.t), fun ow how => ?_⟩
      have s9 := same_trans s8 (same_upd (o := .dK (encT m7)) how)
      have sb9 := hSb.same (same_upd (o := .dK (encT m7)) how)
      have eo9 : upd H8 ow (.dK (encT m7)) ow = some (.dK (encT m7)) := upd_same
      have hoe : ow ≠ e := (ne_of_none hSb.t how).symm
      generalize upd H8 ow (.dK (encT m7)) = H9 at s9 sb9 eo9 ⊢
      refine ⟨_, _, rfl, ?_⟩
      have W9 := W7.same s9
      have kl9 := kl7.trans (KLst.of_same s9)
      have tk9 := tk7.same s9
      have hon : H7 ow = none := same_none s8 how
      obtain ⟨dxb, ob9⟩ := sb9.o
      walk_at "rds"
      refine .inr ⟨D, L, st, d6, tb, ls, m7, rfl, hls, W9, tk9, (by show m7.length + 8 * (2 + 1) ≤ 90; omega), (by decide), fun d1 H10 kd1 tk10 hd1 W10 => ?_⟩
      have hbst : b ≠ st := (ne_of_none ho7 hb).symm
      have ob10 := kd1.old _ _ ob9 (W7.dl.none hb).1 (W7.dl.none hb).2 hbst (fun z => by
        have := W9.s.t
        rw [← z, ob9] at this
        cases this) (fun _ z => by cases z)
      have ee10 := kd1.old _ _ sb9.t (W7.dl.none he).1 (W7.dl.none he).2 (fun z => by
        obtain ⟨dx9, o9⟩ := W9.s.o
        have := sb9.t
        rw [z, o9] at this
        cases this) (ne_of_none W7.s.t he).symm (fun _ z => by cases z)
      have eo10 := kd1.old _ _ eo9 (W7.dl.none hon).1 (W7.dl.none hon).2 (fun z => by
        obtain ⟨dx9, o9⟩ := W9.s.o
        rw [z, o9] at eo9
        cases eo9) (ne_of_none W7.s.t hon).symm (fun _ z => by cases z)
      have kl10 := kl9.trans (KLst.kd W9 kd1)
      have hd1e : d1 ≠ e := (ne_of_none sb9.t hd1).symm
      have Wb10 : Two (SC mg) D L H10 b e ow ls m7 := ⟨W10.dl, ⟨⟨_, ob10⟩, ee10⟩, eo10, hoe, W7.ok⟩
      walk_at "rds"
      refine rd_ite (fun h => by cases h) (fun _ => ?_)
      walk_at "rds"
      refine .inl ⟨D, L, b, e, ow, ls, m7, rfl, hls, Wb10, tk10, (by show m7.length + 8 * (1 + 1) ≤ 90; omega), (by decide), fun e1 H11 kd2 tk11 he1 W11 => ?_⟩
      have kl11 := kl10.trans (KLst.kd Wb10 kd2)
      obtain ⟨dx10, o10⟩ := W10.s.o
      obtain ⟨xD, xL, eD, eL⟩ := W10.dl.lists
      have nDL : ∀ {q : Addr} {kvs : List (Key × V)}, H10 q = some (.dK kvs) → q ≠ D ∧ q ≠ L ∧ q ≠ b := fun {q kvs} h => ⟨fun z => by (rw [z, eD] at h; cases h), fun z => by (rw [z, eL] at h; cases h), fun z => by (rw [z, ob10] at h; cases h)⟩
      have W11s : Two (SC mg) D L H11 st d1 tb ls m7 := by
        obtain ⟨z1, z2, z3⟩ := nDL W10.s.t
        obtain ⟨y1, y2, y3⟩ := nDL W10.t
        refine ⟨W11.dl, ⟨⟨dx10, kd2.old _ _ o10 (fun z => by (rw [z, eD] at o10; cases o10)) (fun z => by (rw [z, eL] at o10; cases o10)) hbst.symm (fun z => by (rw [z, ee10] at o10; cases o10)) (fun _ z => by cases z)⟩, kd2.old _ _ W10.s.t z1 z2 z3 hd1e (fun _ z => by cases z)⟩, kd2.old _ _ W10.t y1 y2 y3 (ne_of_none W7.t he) (fun _ z => by cases z), W10.ne, W7.ok⟩
      walk_at "rds"
      refine rd_ite (fun h => by cases h) (fun _ => ?_)
      walk_at "rds"
      refine ⟨D, L, st, d1, b, e1, tb, ls, m7, rfl, hls, W11s, W11.s, (ne_of_none W10.s.t he1).symm, (ne_of_none W10.t he1).symm, hbst.symm, tk11, by omega, fun d2 H12 W12 tk12 kl12 => ?_⟩
      have kl12 := kl11.trans kl12
      walk_at "rds"
      refine rd_ite (fun h => by cases h) (fun _ => ?_)
      have et : ∀ z : V, decide (z = z) = true := fun z => by simp
      have gA : ∀ ks, KR m7 [] none none ks → GoodZ 20 200000 (plD (prT m7 ks)) := fun ks hks => (plD_goodN (prT_ok (W7.ok.ok hmem (by decide)) fun k h => hks.mem h) (by rw [prT_len]; have := hks.len; omega)).mono (by decide) (by decide)
      obtain ⟨dx12, o12⟩ := W12.s.o
      walk_at "rds"
      refine ⟨st, _, _, rfl, o12, rfl, ?_⟩
      walk_at "rds"
      refine ⟨st, d2, ls, m7, [], none, none, rfl, W12.s, by omega, fun ks r13 us13 H13 hks s13 hr13 er13 pr13 => ?_⟩
      walk_at "rds"
      refine rd_reprZ (Prs.list er13 pr13) (gA ks hks) ?_
      walk_at "rds"
      refine ⟨tb, m7, rfl, s13 _ _ W12.t, by omega, fun ks' r14 us14 H14 hks' s14 hr14 er14 pr14 => ?_⟩
      cases hks.uniq hks'
      walk_at "rds"
      refine rd_reprZ (Prs.list er14 pr14) (gA ks hks) ?_
      walk_at "rds"
      have s1214 := same_trans s13 s14
      have W14 := W12.same s1214
      refine rd_ite (fun h => by rw [et] at h; cases h) (fun _ => ?_)
      obtain ⟨dx14, o14⟩ := W14.s.o
      walk_at "rds"
      refine ⟨st, dx14, _, rfl, o14, st, d2, ls, m7, rfl, W14.s, fun H15 s15 => ⟨m7.length, rfl, by omega, ?_⟩⟩
      have W15 := W14.same s15
      walk_at "rds"
      refine ⟨tb, _, rfl, W15.t, ?_⟩
      rw [encT_len]
      refine ⟨rfl, ?_⟩
      rw [et]
      refine ⟨false, rfl, ?_⟩
      rw [if_neg (by decide)]
      exact ⟨⟨_, _, _, rfl⟩, (kl12.trans (KLst.of_same s1214)).trans (KLst.of_same s15), (tk12.same s1214).same s15, d2, m7, W15, hm7⟩
    · rintro σ' H' ⟨⟨y7, y8, y9, rfl⟩, kl, tk, _⟩
      exact ⟨kl.seq nD nL hS0, tk, _, _, _, _, _, _, _, _, rfl⟩
end

theorem tk_new {P1 P2 : Addr} {H : Hp} (h1 : H P1 = some (.tbl #[])) (h2 : H P2 = some (.tbl #[])) : TK P1 P2 H :=
  ⟨⟨#[], h1, trivial, fun pos cv hc => by cases hc⟩, ⟨#[], h2, trivial, fun pos cv hc => by cases hc⟩⟩
theorem told_law {K : PySem.W.Frag} {P1 P2 : Addr} {H : Hp} {a : Addr} {ns : List Int} (hl : ns.length ≤ 63) (hS : SqL K H a (ns.map V.int)) (h1 : H P1 = some (.tbl #[])) (h2 : H P2 = some (.tbl #[])) : spLaw K P1 P2 [.ref a] H (fun v _ => v = .bl true) fun _ _ _ => False :=
  ⟨a, ns, rfl, hS, hl, tk_new h1 h2, fun _ => rfl⟩
set_option maxHeartbeats 4000000 in
theorem all_mk {l : PySem.W.OpenLaw} {w : World} {K : PySem.W.Frag} {h : Heap} {mg : Str → Option Value} {fa f1 f2 f3 f4 f5 f6 f7 f8 f9 f10 f11 f12 f13 f14 f15 f16 f17 f18 f19 f20 f21 f22 : Addr} (X : K.In h) (G : h.Ns mainGlobals mg) (hfa : mg "law" = some (.ref fa))
    {od1 od2 od3 od4 od5 od6 od7 od8 od9 od10 od11 od12 od13 od14 od15 od16 od17 od18 od19 od20 od21 od22 an1 an2 an3 an4 an5 an6 an7 an8 an9 an10 an11 an12 an13 an14 an15 an16 an17 an18 an19 an20 an21 an22 : Option Addr} {sl1 sl2 sl3 sl4 sl5 sl6 sl7 sl8 sl9 sl10 sl11 sl12 sl13 sl14 sl15 sl16 sl17 sl18 sl19 sl20 sl21 sl22 : Array (Option Value)} {oc1 oc2 oc3 oc4 oc5 oc6 oc7 oc8 oc9 oc10 oc11 oc12 oc13 oc14 oc15 oc16 oc17 oc18 oc19 oc20 oc21 oc22 kV1 kV2 kV3 kV4 kV5 kV6 kV7 kV8 kV9 kV10 kV11 kV12 kV13 kV14 kV15 kV16 kV17 kV18 kV19 kV20 kV21 kV22 dc1 dc2 dc3 dc4 dc5 dc6 dc7 dc8 dc9 dc10 dc11 dc12 dc13 dc14 dc15 dc16 dc17 dc18 dc19 dc20 dc21 dc22 pm1 pm2 pm3 pm4 pm5 pm6 pm7 pm8 pm9 pm10 pm11 pm12 pm13 pm14 pm15 pm16 pm17 pm18 pm19 pm20 pm21 pm22 ct1 ct2 ct3 ct4 ct5 ct6 ct7 ct8 ct9 ct10 ct11 ct12 ct13 ct14 ct15 ct16 ct17 ct18 ct19 ct20 ct21 ct22 cd1 cd2 cd3 cd4 cd5 cd6 cd7 cd8 cd9 cd10 cd11 cd12 cd13 cd14 cd15 cd16 cd17 cd18 cd20 cd22 : Value}
    {C1 C2 C3 C4 C5 N1 N2 N3 N4 N5 : Addr} {nm1 nm2 nm3 nm4 nm5 qn1 qn2 qn3 qn4 qn5 : Str} {bs1 bs2 bs3 bs4 bs5 sub1 sub2 sub3 sub4 sub5 : List Value} {sn1 sn2 sn3 sn4 sn5 : List Str} {ab1 ab2 ab3 ab4 ab5 : Bool} {col1 col2 col3 col4 col5 : Option Bool} {dd1 dd2 dd3 dd4 dd5 : Option Addr} {m0_1 m0_2 m0_3 m0_4 m0_5 m1_1 m1_2 m1_3 m1_4 m1_5 m2_1 m2_2 m2_3 m2_4 m2_5 m3_1 m3_2 m3_3 m3_4 m3_5 m5_1 m5_2 m5_3 m5_4 m5_5 : Option Value}
    {fI3 fI4 fI5 : Addr} {iod3 iod4 iod5 ian3 ian4 ian5 : Option Addr} {isl3 isl4 isl5 : Array (Option Value)} {ioc3 ioc4 ioc5 ikV3 ikV4 ikV5 idc3 idc4 idc5 ipm3 ipm4 ipm5 icd3 icd4 icd5 ict3 ict4 ict5 : Value}
    (g1 : PySem.W.nsIn K mainGlobals "UnderError" = some (some (.ref C1))) (x1 : K.lookup C1 = some (excClassObj nm1 qn1 C1 N1 bs1 [.type "ValueError", .type "Exception", .type "BaseException", .type "object"] true sn1 sub1 ab1 col1 dd1 m0_1 m1_1 m2_1 m3_1 m5_1 "ValueError.__new__")) (o1 : Un.clB K C1 = true)
    (e1 : PySem.W.excIn K C1 PySem.HandSPX.veTail "ValueError.__new__" = true)
    (g2 : PySem.W.nsIn K mainGlobals "InvalidLetters" = some (some (.ref C2))) (x2 : K.lookup C2 = some (excClassObj nm2 qn2 C2 N2 bs2 [.ref C1, .type "ValueError", .type "Exception", .type "BaseException", .type "object"] true sn2 sub2 ab2 col2 dd2 m0_2 m1_2 m2_2 m3_2 m5_2 "ValueError.__new__")) (o2 : Un.clB K C2 = true)
    (e2 : PySem.W.excIn K C2 PySem.HandSPX.veTail "ValueError.__new__" = true)
    (g3 : PySem.W.nsIn K mainGlobals "NoText" = some (some (.ref C3))) (x3 : K.lookup C3 = some (excClassObj nm3 qn3 C3 N3 bs3 [.ref C1, .type "ValueError", .type "Exception", .type "BaseException", .type "object"] true sn3 sub3 ab3 col3 dd3 m0_3 m1_3 m2_3 m3_3 m5_3 "ValueError.__new__")) (o3 : Un.clB K C3 = true)
    (n3 : PySem.W.findIn K (.ref C3) "value" = some none) (i3 : PySem.W.findIn K (.ref C3) "__init__" = some (some (.ref fI3))) (t3 : PySem.W.typeIn K (.ref fI3) = some (.type "function"))
    (li3 : K.lookup fI3 = some ⟨ioc3, iod3, .func (PySem.W.fnOf "__init__" "NoText.__init__" (defArgs s_NoText) (defBody s_NoText) (defScope s_NoText) .none ikV3 idc3 ipm3 ian3 icd3 ict3), isl3⟩) (ci3 : PySem.W.codeIn K icd3 "NoText.__init__" = true) (ki3 : PySem.W.keepIn K (.ref fI3) = true)
    (g4 : PySem.W.nsIn K mainGlobals "NoValue" = some (some (.ref C4))) (x4 : K.lookup C4 = some (excClassObj nm4 qn4 C4 N4 bs4 [.ref C1, .type "ValueError", .type "Exception", .type "BaseException", .type "object"] true sn4 sub4 ab4 col4 dd4 m0_4 m1_4 m2_4 m3_4 m5_4 "ValueError.__new__")) (o4 : Un.clB K C4 = true)
    (n4 : PySem.W.findIn K (.ref C4) "value" = some none) (i4 : PySem.W.findIn K (.ref C4) "__init__" = some (some (.ref fI4))) (t4 : PySem.W.typeIn K (.ref fI4) = some (.type "function"))
    (li4 : K.lookup fI4 = some ⟨ioc4, iod4, .func (PySem.W.fnOf "__init__" "NoValue.__init__" (defArgs s_NoValue) (defBody s_NoValue) (defScope s_NoValue) .none ikV4 idc4 ipm4 ian4 icd4 ict4), isl4⟩) (ci4 : PySem.W.codeIn K icd4 "NoValue.__init__" = true) (ki4 : PySem.W.keepIn K (.ref fI4) = true)
    (g5 : PySem.W.nsIn K mainGlobals "NoKey" = some (some (.ref C5))) (x5 : K.lookup C5 = some (excClassObj nm5 qn5 C5 N5 bs5 [.type "KeyError", .type "LookupError", .type "Exception", .type "BaseException", .type "object"] true sn5 sub5 ab5 col5 dd5 m0_5 m1_5 m2_5 m3_5 m5_5 "LookupError.__new__")) (o5 : Un.clB K C5 = true)
    (n5 : PySem.W.findIn K (.ref C5) "key" = some none) (i5 : PySem.W.findIn K (.ref C5) "__init__" = some (some (.ref fI5))) (t5 : PySem.W.typeIn K (.ref fI5) = some (.type "function"))
    (li5 : K.lookup fI5 = some ⟨ioc5, iod5, .func (PySem.W.fnOf "__init__" "NoKey.__init__" (defArgs s_NoKey) (defBody s_NoKey) (defScope s_NoKey) .none ikV5 idc5 ipm5 ian5 icd5 ict5), isl5⟩) (ci5 : PySem.W.codeIn K icd5 "NoKey.__init__" = true) (ki5 : PySem.W.keepIn K (.ref fI5) = true)
    (a1 : PySem.W.nsIn K mainGlobals "check_letters" = some (some (.ref f1))) (l1 : K.lookup f1 = some ⟨oc1, od1, .func (PySem.W.fnOf "check_letters" "check_letters" (defArgs s_check_letters) (defBody s_check_letters) (defScope s_check_letters) .none kV1 dc1 pm1 an1 cd1 ct1), sl1⟩) (c1 : PySem.W.codeIn K cd1 "check_letters" = true) (k1 : PySem.W.keepIn K (.ref f1) = true)
    (a2 : PySem.W.nsIn K mainGlobals "_are_letters" = some (some (.ref f2))) (l2 : K.lookup f2 = some ⟨oc2, od2, .func (PySem.W.fnOf "_are_letters" "_are_letters" (defArgs s__are_letters) (defBody s__are_letters) (defScope s__are_letters) .none kV2 dc2 pm2 an2 cd2 ct2), sl2⟩) (c2 : PySem.W.codeIn K cd2 "_are_letters" = true) (k2 : PySem.W.keepIn K (.ref f2) = true)
    (a3 : PySem.W.nsIn K mainGlobals "_consists_of" = some (some (.ref f3))) (l3 : K.lookup f3 = some ⟨oc3, od3, .func (PySem.W.fnOf "_consists_of" "_consists_of" (defArgs s__consists_of) (defBody s__consists_of) (defScope s__consists_of) .none kV3 dc3 pm3 an3 cd3 ct3), sl3⟩) (c3 : PySem.W.codeIn K cd3 "_consists_of" = true) (k3 : PySem.W.keepIn K (.ref f3) = true)
    (a4 : PySem.W.nsIn K mainGlobals "_ascends" = some (some (.ref f4))) (l4 : K.lookup f4 = some ⟨oc4, od4, .func (PySem.W.fnOf "_ascends" "_ascends" (defArgs s__ascends) (defBody s__ascends) (defScope s__ascends) .none kV4 dc4 pm4 an4 cd4 ct4), sl4⟩) (c4 : PySem.W.codeIn K cd4 "_ascends" = true) (k4 : PySem.W.keepIn K (.ref f4) = true)
    (a5 : PySem.W.nsIn K mainGlobals "is_text" = some (some (.ref f5))) (l5 : K.lookup f5 = some ⟨oc5, od5, .func (PySem.W.fnOf "is_text" "is_text" (defArgs s_is_text) (defBody s_is_text) (defScope s_is_text) .none kV5 dc5 pm5 an5 cd5 ct5), sl5⟩) (c5 : PySem.W.codeIn K cd5 "is_text" = true) (k5 : PySem.W.keepIn K (.ref f5) = true)
    (a6 : PySem.W.nsIn K mainGlobals "is_number" = some (some (.ref f6))) (l6 : K.lookup f6 = some ⟨oc6, od6, .func (PySem.W.fnOf "is_number" "is_number" (defArgs s_is_number) (defBody s_is_number) (defScope s_is_number) .none kV6 dc6 pm6 an6 cd6 ct6), sl6⟩) (c6 : PySem.W.codeIn K cd6 "is_number" = true) (k6 : PySem.W.keepIn K (.ref f6) = true)
    (a7 : PySem.W.nsIn K mainGlobals "check_value" = some (some (.ref f7))) (l7 : K.lookup f7 = some ⟨oc7, od7, .func (PySem.W.fnOf "check_value" "check_value" (defArgs s_check_value) (defBody s_check_value) (defScope s_check_value) .none kV7 dc7 pm7 an7 cd7 ct7), sl7⟩) (c7 : PySem.W.codeIn K cd7 "check_value" = true) (k7 : PySem.W.keepIn K (.ref f7) = true)
    (a8 : PySem.W.nsIn K mainGlobals "_keys" = some (some (.ref f8))) (l8 : K.lookup f8 = some ⟨oc8, od8, .func (PySem.W.fnOf "_keys" "_keys" (defArgs s__keys) (defBody s__keys) (defScope s__keys) .none kV8 dc8 pm8 an8 cd8 ct8), sl8⟩) (c8 : PySem.W.codeIn K cd8 "_keys" = true) (k8 : PySem.W.keepIn K (.ref f8) = true)
    (a9 : PySem.W.nsIn K mainGlobals "_law_deal" = some (some (.ref f9))) (l9 : K.lookup f9 = some ⟨oc9, od9, .func (PySem.W.fnOf "_law_deal" "_law_deal" (defArgs s__law_deal) (defBody s__law_deal) (defScope s__law_deal) .none kV9 dc9 pm9 an9 cd9 ct9), sl9⟩) (c9 : PySem.W.codeIn K cd9 "_law_deal" = true) (k9 : PySem.W.keepIn K (.ref f9) = true)
    (a10 : PySem.W.nsIn K mainGlobals "_law_draw" = some (some (.ref f10))) (l10 : K.lookup f10 = some ⟨oc10, od10, .func (PySem.W.fnOf "_law_draw" "_law_draw" (defArgs s__law_draw) (defBody s__law_draw) (defScope s__law_draw) .none kV10 dc10 pm10 an10 cd10 ct10), sl10⟩) (c10 : PySem.W.codeIn K cd10 "_law_draw" = true) (k10 : PySem.W.keepIn K (.ref f10) = true)
    (a11 : PySem.W.nsIn K mainGlobals "_law_pick" = some (some (.ref f11))) (l11 : K.lookup f11 = some ⟨oc11, od11, .func (PySem.W.fnOf "_law_pick" "_law_pick" (defArgs s__law_pick) (defBody s__law_pick) (defScope s__law_pick) .none kV11 dc11 pm11 an11 cd11 ct11), sl11⟩) (c11 : PySem.W.codeIn K cd11 "_law_pick" = true) (k11 : PySem.W.keepIn K (.ref f11) = true)
    (a12 : PySem.W.nsIn K mainGlobals "_law_letters" = some (some (.ref f12))) (l12 : K.lookup f12 = some ⟨oc12, od12, .func (PySem.W.fnOf "_law_letters" "_law_letters" (defArgs s__law_letters) (defBody s__law_letters) (defScope s__law_letters) .none kV12 dc12 pm12 an12 cd12 ct12), sl12⟩) (c12 : PySem.W.codeIn K cd12 "_law_letters" = true) (k12 : PySem.W.keepIn K (.ref f12) = true)
    (a13 : PySem.W.nsIn K mainGlobals "_law_text" = some (some (.ref f13))) (l13 : K.lookup f13 = some ⟨oc13, od13, .func (PySem.W.fnOf "_law_text" "_law_text" (defArgs s__law_text) (defBody s__law_text) (defScope s__law_text) .none kV13 dc13 pm13 an13 cd13 ct13), sl13⟩) (c13 : PySem.W.codeIn K cd13 "_law_text" = true) (k13 : PySem.W.keepIn K (.ref f13) = true)
    (a14 : PySem.W.nsIn K mainGlobals "_law_value" = some (some (.ref f14))) (l14 : K.lookup f14 = some ⟨oc14, od14, .func (PySem.W.fnOf "_law_value" "_law_value" (defArgs s__law_value) (defBody s__law_value) (defScope s__law_value) .none kV14 dc14 pm14 an14 cd14 ct14), sl14⟩) (c14 : PySem.W.codeIn K cd14 "_law_value" = true) (k14 : PySem.W.keepIn K (.ref f14) = true)
    (a15 : PySem.W.nsIn K mainGlobals "_law_deeds" = some (some (.ref f15))) (l15 : K.lookup f15 = some ⟨oc15, od15, .func (PySem.W.fnOf "_law_deeds" "_law_deeds" (defArgs s__law_deeds) (defBody s__law_deeds) (defScope s__law_deeds) .none kV15 dc15 pm15 an15 cd15 ct15), sl15⟩) (c15 : PySem.W.codeIn K cd15 "_law_deeds" = true) (k15 : PySem.W.keepIn K (.ref f15) = true)
    (a16 : PySem.W.nsIn K mainGlobals "_law_shown" = some (some (.ref f16))) (l16 : K.lookup f16 = some ⟨oc16, od16, .func (PySem.W.fnOf "_law_shown" "_law_shown" (defArgs s__law_shown) (defBody s__law_shown) (defScope s__law_shown) .none kV16 dc16 pm16 an16 cd16 ct16), sl16⟩) (c16 : PySem.W.codeIn K cd16 "_law_shown" = true) (k16 : PySem.W.keepIn K (.ref f16) = true)
    (a17 : PySem.W.nsIn K mainGlobals "_law_work" = some (some (.ref f17))) (l17 : K.lookup f17 = some ⟨oc17, od17, .func (PySem.W.fnOf "_law_work" "_law_work" (defArgs s__law_work) (defBody s__law_work) (defScope s__law_work) .none kV17 dc17 pm17 an17 cd17 ct17), sl17⟩) (c17 : PySem.W.codeIn K cd17 "_law_work" = true) (k17 : PySem.W.keepIn K (.ref f17) = true)
    (a18 : PySem.W.nsIn K mainGlobals "_law_entered" = some (some (.ref f18))) (l18 : K.lookup f18 = some ⟨oc18, od18, .func (PySem.W.fnOf "_law_entered" "_law_entered" (defArgs s__law_entered) (defBody s__law_entered) (defScope s__law_entered) .none kV18 dc18 pm18 an18 cd18 ct18), sl18⟩) (c18 : PySem.W.codeIn K cd18 "_law_entered" = true) (k18 : PySem.W.keepIn K (.ref f18) = true)
    {cA19 pA19 : Addr} {cvs19 : Array Value} {cosl19 : Array (Option Value)} {cod19 : Option Addr}
    (a19 : PySem.W.nsIn K mainGlobals "_law_tried" = some (some (.ref f19))) (l19 : K.lookup f19 = some ⟨oc19, od19, .func (PySem.W.fnOf "_law_tried" "_law_tried" (defArgs s__law_tried) (defBody s__law_tried) (defScope s__law_tried) .none kV19 dc19 pm19 an19 (.ref cA19) ct19), sl19⟩) (c19 : PySem.W.codeIn K (.ref cA19) "_law_tried" = true) (k19 : PySem.W.keepIn K (.ref f19) = true)
    (lo19 : K.lookup cA19 = some ⟨.type "code", cod19, .fields cvs19, cosl19⟩) (lp19 : cvs19[11]? = some (.ref pA19)) (lh19 : PySem.W.codeHdIn K cA19 pA19 = true) (ln19 : K.lookup pA19 = none) (lt19 : h.get? pA19 = some { cls := .none, data := .fields #[] })
    (a20 : PySem.W.nsIn K mainGlobals "_law_is_it" = some (some (.ref f20))) (l20 : K.lookup f20 = some ⟨oc20, od20, .func (PySem.W.fnOf "_law_is_it" "_law_is_it" (defArgs s__law_is_it) (defBody s__law_is_it) (defScope s__law_is_it) .none kV20 dc20 pm20 an20 cd20 ct20), sl20⟩) (c20 : PySem.W.codeIn K cd20 "_law_is_it" = true) (k20 : PySem.W.keepIn K (.ref f20) = true)
    {cA21 pA21 : Addr} {cvs21 : Array Value} {cosl21 : Array (Option Value)} {cod21 : Option Addr}
    (a21 : PySem.W.nsIn K mainGlobals "_law_both_right" = some (some (.ref f21))) (l21 : K.lookup f21 = some ⟨oc21, od21, .func (PySem.W.fnOf "_law_both_right" "_law_both_right" (defArgs s__law_both_right) (defBody s__law_both_right) (defScope s__law_both_right) .none kV21 dc21 pm21 an21 (.ref cA21) ct21), sl21⟩) (c21 : PySem.W.codeIn K (.ref cA21) "_law_both_right" = true) (k21 : PySem.W.keepIn K (.ref f21) = true)
    (lo21 : K.lookup cA21 = some ⟨.type "code", cod21, .fields cvs21, cosl21⟩) (lp21 : cvs21[11]? = some (.ref pA21)) (lh21 : PySem.W.codeHdIn K cA21 pA21 = true) (ln21 : K.lookup pA21 = none) (lt21 : h.get? pA21 = some { cls := .none, data := .fields #[] })
    (a22 : PySem.W.nsIn K mainGlobals "law" = some (some (.ref f22))) (l22 : K.lookup f22 = some ⟨oc22, od22, .func (PySem.W.fnOf "law" "law" (defArgs s_law) (defBody s_law) (defScope s_law) .none kV22 dc22 pm22 an22 cd22 ct22), sl22⟩) (c22 : PySem.W.codeIn K cd22 "law" = true) (k22 : PySem.W.keepIn K (.ref f22) = true)
    (lq19_21 : pA19 ≠ pA21)
    (z1 : PySem.W.nsIn K mainGlobals "KeyError" = some none)
    (z2 : PySem.W.nsIn K mainGlobals "TypeError" = some none)
    (z3 : PySem.W.nsIn K mainGlobals "ValueError" = some none)
    (z4 : PySem.W.nsIn K mainGlobals "ZeroDivisionError" = some none)
    (z5 : PySem.W.nsIn K mainGlobals "abs" = some none)
    (z6 : PySem.W.nsIn K mainGlobals "all" = some none)
    (z7 : PySem.W.nsIn K mainGlobals "bool" = some none)
    (z8 : PySem.W.nsIn K mainGlobals "dict" = some none)
    (z9 : PySem.W.nsIn K mainGlobals "int" = some none)
    (z10 : PySem.W.nsIn K mainGlobals "isinstance" = some none)
    (z11 : PySem.W.nsIn K mainGlobals "len" = some none)
    (z12 : PySem.W.nsIn K mainGlobals "list" = some none)
    (z13 : PySem.W.nsIn K mainGlobals "max" = some none)
    (z14 : PySem.W.nsIn K mainGlobals "min" = some none)
    (z15 : PySem.W.nsIn K mainGlobals "range" = some none)
    (z16 : PySem.W.nsIn K mainGlobals "repr" = some none)
    (z17 : PySem.W.nsIn K mainGlobals "sorted" = some none)
    (z18 : PySem.W.nsIn K mainGlobals "str" = some none)
    (z19 : PySem.W.nsIn K mainGlobals "zip" = some none)
    {tq1 : Tok} (q1 : PySem.W.nsIn K mainGlobals "CHARACTERS" = some (some (.str "-./0123456789_abcdefghijklmnopqrstuvwxyz" tq1)))
    {tq2 : Tok} (q2 : PySem.W.nsIn K mainGlobals "FEWEST_LETTERS" = some (some (.int 2 tq2)))
    {tq3 : Tok} (q3 : PySem.W.nsIn K mainGlobals "MOST_LETTERS" = some (some (.int 5 tq3)))
    {OC1 : Addr} (og1 : PySem.W.nsIn K mainGlobals "Store" = some (some (.ref OC1))) (op1 : PySem.W.plainGet K OC1 Str.empty = true) (oh1 : PySem.W.hasDictIn K OC1 = true) (oo1 : PySem.W.plainOver K OC1 = true) (os1 : PySem.W.findIn K (.ref OC1) "__setattr__" = some (some (.builtin "object.__setattr__")))
    (oq1 : PySem.W.noSeq K OC1 = true) (oi1 : Un.insB K OC1 = true) (on1 : PySem.W.findIn K (.ref OC1) "__ne__" = some (some (.builtin "object.__ne__"))) (or1 : PySem.W.mroIn K OC1 (.type "object") = some true) (om1 : PySem.W.makesIn K OC1 = true) (ok1 : PySem.W.keepIn K (.ref OC1) = true)
    (of1_letters : PySem.W.findIn K (.ref OC1) "letters" = some none)
    (of1_table : PySem.W.findIn K (.ref OC1) "table" = some none)
    {mf1 : Addr} {mod1 man1 : Option Addr} {msl1 : Array (Option Value)} {moc1 mdc1 mpm1 mcd1 mct1 : Value}
    {mT1 : Addr}
    {mkv1 : Value}
    (ma1 : PySem.W.findIn K (.ref OC1) "__init__" = some (some (.ref mf1))) (mi1 : PySem.W.isFn K (.ref mf1) = true) (mn1 : PySem.W.fnIn K mf1 = true) (ml1 : K.lookup mf1 = some ⟨moc1, mod1, .func (PySem.W.fnOf "__init__" "Store.__init__" (defArgs s_Store___init__) (defBody s_Store___init__) (defScope s_Store___init__) (.ref mT1) mkv1 mdc1 mpm1 man1 mcd1 mct1), msl1⟩) (mc1 : PySem.W.codeIn K mcd1 "Store.__init__" = true) (mk1 : PySem.W.keepIn K (.ref mf1) = true)
    {mE1 : Addr} {mts1 mes1 : Array (Option Value)} {mtn1 : Nat} (mt1 : K.lookup mT1 = some ⟨.type "tuple", none, .seq #[.ref mE1] mtn1, mts1⟩) (me1 : K.lookup mE1 = some ⟨.type "tuple", none, .seq #[] 0, mes1⟩)
    {mf2 : Addr} {mod2 man2 : Option Addr} {msl2 : Array (Option Value)} {moc2 mdc2 mpm2 mcd2 mct2 : Value}
    {mkv2 : Value}
    (ma2 : PySem.W.findIn K (.ref OC1) "__setitem__" = some (some (.ref mf2))) (mi2 : PySem.W.isFn K (.ref mf2) = true) (mn2 : PySem.W.fnIn K mf2 = true) (ml2 : K.lookup mf2 = some ⟨moc2, mod2, .func (PySem.W.fnOf "__setitem__" "Store.__setitem__" (defArgs s_Store___setitem__) (defBody s_Store___setitem__) (defScope s_Store___setitem__) .none mkv2 mdc2 mpm2 man2 mcd2 mct2), msl2⟩) (mc2 : PySem.W.codeIn K mcd2 "Store.__setitem__" = true) (mk2 : PySem.W.keepIn K (.ref mf2) = true)
    {mf3 : Addr} {mod3 man3 : Option Addr} {msl3 : Array (Option Value)} {moc3 mdc3 mpm3 mcd3 mct3 : Value}
    {mkv3 : Value}
    (ma3 : PySem.W.findIn K (.ref OC1) "__getitem__" = some (some (.ref mf3))) (mi3 : PySem.W.isFn K (.ref mf3) = true) (mn3 : PySem.W.fnIn K mf3 = true) (ml3 : K.lookup mf3 = some ⟨moc3, mod3, .func (PySem.W.fnOf "__getitem__" "Store.__getitem__" (defArgs s_Store___getitem__) (defBody s_Store___getitem__) (defScope s_Store___getitem__) .none mkv3 mdc3 mpm3 man3 mcd3 mct3), msl3⟩) (mc3 : PySem.W.codeIn K mcd3 "Store.__getitem__" = true) (mk3 : PySem.W.keepIn K (.ref mf3) = true)
    {mf4 : Addr} {mod4 man4 : Option Addr} {msl4 : Array (Option Value)} {moc4 mdc4 mpm4 mcd4 mct4 : Value}
    {mkv4 : Value}
    (ma4 : PySem.W.findIn K (.ref OC1) "__contains__" = some (some (.ref mf4))) (mi4 : PySem.W.isFn K (.ref mf4) = true) (mn4 : PySem.W.fnIn K mf4 = true) (ml4 : K.lookup mf4 = some ⟨moc4, mod4, .func (PySem.W.fnOf "__contains__" "Store.__contains__" (defArgs s_Store___contains__) (defBody s_Store___contains__) (defScope s_Store___contains__) .none mkv4 mdc4 mpm4 man4 mcd4 mct4), msl4⟩) (mc4 : PySem.W.codeIn K mcd4 "Store.__contains__" = true) (mk4 : PySem.W.keepIn K (.ref mf4) = true)
    {mf5 : Addr} {mod5 man5 : Option Addr} {msl5 : Array (Option Value)} {moc5 mdc5 mpm5 mcd5 mct5 : Value}
    {mkv5 : Value}
    (ma5 : PySem.W.findIn K (.ref OC1) "__len__" = some (some (.ref mf5))) (mi5 : PySem.W.isFn K (.ref mf5) = true) (mn5 : PySem.W.fnIn K mf5 = true) (ml5 : K.lookup mf5 = some ⟨moc5, mod5, .func (PySem.W.fnOf "__len__" "Store.__len__" (defArgs s_Store___len__) (defBody s_Store___len__) (defScope s_Store___len__) .none mkv5 mdc5 mpm5 man5 mcd5 mct5), msl5⟩) (mc5 : PySem.W.codeIn K mcd5 "Store.__len__" = true) (mk5 : PySem.W.keepIn K (.ref mf5) = true)
    {mf6 : Addr} {mod6 man6 : Option Addr} {msl6 : Array (Option Value)} {moc6 mdc6 mpm6 mcd6 mct6 : Value}
    {mT6 : Addr}
    {mD6 : Addr}
    (ma6 : PySem.W.findIn K (.ref OC1) "pairs" = some (some (.ref mf6))) (mi6 : PySem.W.isFn K (.ref mf6) = true) (mn6 : PySem.W.fnIn K mf6 = true) (ml6 : K.lookup mf6 = some ⟨moc6, mod6, .func (PySem.W.fnOf "pairs" "Store.pairs" (defArgs s_Store_pairs) (defBody s_Store_pairs) (defScope s_Store_pairs) (.ref mT6) (.ref mD6) mdc6 mpm6 man6 mcd6 mct6), msl6⟩) (mc6 : PySem.W.codeIn K mcd6 "Store.pairs" = true) (mk6 : PySem.W.keepIn K (.ref mf6) = true)
    {mts6 : Array (Option Value)} {mtn6 : Nat} {mv6_0 : Tok} (mt6 : K.lookup mT6 = some ⟨.type "tuple", none, .seq #[.str "" mv6_0, .none] mtn6, mts6⟩)
    (mw6_0_ : PySem.W.nsIn K mD6 "after" = some (some (.none)))
    {mf7 : Addr} {mod7 man7 : Option Addr} {msl7 : Array (Option Value)} {moc7 mdc7 mpm7 mcd7 mct7 : Value}
    {mD7 : Addr}
    (ma7 : PySem.W.findIn K (.ref OC1) "take" = some (some (.ref mf7))) (mi7 : PySem.W.isFn K (.ref mf7) = true) (mn7 : PySem.W.fnIn K mf7 = true) (ml7 : K.lookup mf7 = some ⟨moc7, mod7, .func (PySem.W.fnOf "take" "Store.take" (defArgs s_Store_take) (defBody s_Store_take) (defScope s_Store_take) .none (.ref mD7) mdc7 mpm7 man7 mcd7 mct7), msl7⟩) (mc7 : PySem.W.codeIn K mcd7 "Store.take" = true) (mk7 : PySem.W.keepIn K (.ref mf7) = true)
    (mw7_0_ : PySem.W.nsIn K mD7 "after" = some (some (.none)))
    {mf8 : Addr} {mod8 man8 : Option Addr} {msl8 : Array (Option Value)} {moc8 mdc8 mpm8 mcd8 mct8 : Value}
    {mD8 : Addr}
    (ma8 : PySem.W.findIn K (.ref OC1) "fill" = some (some (.ref mf8))) (mi8 : PySem.W.isFn K (.ref mf8) = true) (mn8 : PySem.W.fnIn K mf8 = true) (ml8 : K.lookup mf8 = some ⟨moc8, mod8, .func (PySem.W.fnOf "fill" "Store.fill" (defArgs s_Store_fill) (defBody s_Store_fill) (defScope s_Store_fill) .none (.ref mD8) mdc8 mpm8 man8 mcd8 mct8), msl8⟩) (mc8 : PySem.W.codeIn K mcd8 "Store.fill" = true) (mk8 : PySem.W.keepIn K (.ref mf8) = true)
    (mw8_0_ : PySem.W.nsIn K mD8 "after" = some (some (.none)))
    {mf9 : Addr} {mod9 man9 : Option Addr} {msl9 : Array (Option Value)} {moc9 mdc9 mpm9 mcd9 mct9 : Value}
    {mkv9 : Value}
    (ma9 : PySem.W.findIn K (.ref OC1) "copied" = some (some (.ref mf9))) (mi9 : PySem.W.isFn K (.ref mf9) = true) (mn9 : PySem.W.fnIn K mf9 = true) (ml9 : K.lookup mf9 = some ⟨moc9, mod9, .func (PySem.W.fnOf "copied" "Store.copied" (defArgs s_Store_copied) (defBody s_Store_copied) (defScope s_Store_copied) .none mkv9 mdc9 mpm9 man9 mcd9 mct9), msl9⟩) (mc9 : PySem.W.codeIn K mcd9 "Store.copied" = true) (mk9 : PySem.W.keepIn K (.ref mf9) = true)
    {mf10 : Addr} {mod10 man10 : Option Addr} {msl10 : Array (Option Value)} {moc10 mdc10 mpm10 mcd10 mct10 : Value}
    {mkv10 : Value}
    (ma10 : PySem.W.findIn K (.ref OC1) "trial" = some (some (.ref mf10))) (mi10 : PySem.W.isFn K (.ref mf10) = true) (mn10 : PySem.W.fnIn K mf10 = true) (ml10 : K.lookup mf10 = some ⟨moc10, mod10, .func (PySem.W.fnOf "trial" "Store.trial" (defArgs s_Store_trial) (defBody s_Store_trial) (defScope s_Store_trial) .none mkv10 mdc10 mpm10 man10 mcd10 mct10), msl10⟩) (mc10 : PySem.W.codeIn K mcd10 "Store.trial" = true) (mk10 : PySem.W.keepIn K (.ref mf10) = true)
    {mf11 : Addr} {mod11 man11 : Option Addr} {msl11 : Array (Option Value)} {moc11 mdc11 mpm11 mcd11 mct11 : Value}
    {mkv11 : Value}
    (ma11 : PySem.W.findIn K (.ref OC1) "within" = some (some (.ref mf11))) (mi11 : PySem.W.isFn K (.ref mf11) = true) (mn11 : PySem.W.fnIn K mf11 = true) (ml11 : K.lookup mf11 = some ⟨moc11, mod11, .func (PySem.W.fnOf "within" "Store.within" (defArgs s_Store_within) (defBody s_Store_within) (defScope s_Store_within) .none mkv11 mdc11 mpm11 man11 mcd11 mct11), msl11⟩) (mc11 : PySem.W.codeIn K mcd11 "Store.within" = true) (mk11 : PySem.W.keepIn K (.ref mf11) = true)
    {OC2 : Addr} (og2 : PySem.W.nsIn K mainGlobals "Trial" = some (some (.ref OC2))) (op2 : PySem.W.plainGet K OC2 Str.empty = true) (oh2 : PySem.W.hasDictIn K OC2 = true) (oo2 : PySem.W.plainOver K OC2 = true) (os2 : PySem.W.findIn K (.ref OC2) "__setattr__" = some (some (.builtin "object.__setattr__")))
    (oq2 : PySem.W.noSeq K OC2 = true) (oi2 : Un.insB K OC2 = true) (on2 : PySem.W.findIn K (.ref OC2) "__ne__" = some (some (.builtin "object.__ne__"))) (or2 : PySem.W.mroIn K OC2 (.type "object") = some true) (om2 : PySem.W.makesIn K OC2 = true) (ok2 : PySem.W.keepIn K (.ref OC2) = true)
    (of2_store : PySem.W.findIn K (.ref OC2) "store" = some none)
    (of2_table : PySem.W.findIn K (.ref OC2) "table" = some none)
    {mf12 : Addr} {mod12 man12 : Option Addr} {msl12 : Array (Option Value)} {moc12 mdc12 mpm12 mcd12 mct12 : Value}
    {mkv12 : Value}
    (ma12 : PySem.W.findIn K (.ref OC2) "__init__" = some (some (.ref mf12))) (mi12 : PySem.W.isFn K (.ref mf12) = true) (mn12 : PySem.W.fnIn K mf12 = true) (ml12 : K.lookup mf12 = some ⟨moc12, mod12, .func (PySem.W.fnOf "__init__" "Trial.__init__" (defArgs s_Trial___init__) (defBody s_Trial___init__) (defScope s_Trial___init__) .none mkv12 mdc12 mpm12 man12 mcd12 mct12), msl12⟩) (mc12 : PySem.W.codeIn K mcd12 "Trial.__init__" = true) (mk12 : PySem.W.keepIn K (.ref mf12) = true)
    {mf13 : Addr} {mod13 man13 : Option Addr} {msl13 : Array (Option Value)} {moc13 mdc13 mpm13 mcd13 mct13 : Value}
    {mkv13 : Value}
    (ma13 : PySem.W.findIn K (.ref OC2) "__enter__" = some (some (.ref mf13))) (mi13 : PySem.W.isFn K (.ref mf13) = true) (mn13 : PySem.W.fnIn K mf13 = true) (ml13 : K.lookup mf13 = some ⟨moc13, mod13, .func (PySem.W.fnOf "__enter__" "Trial.__enter__" (defArgs s_Trial___enter__) (defBody s_Trial___enter__) (defScope s_Trial___enter__) .none mkv13 mdc13 mpm13 man13 mcd13 mct13), msl13⟩) (mc13 : PySem.W.codeIn K mcd13 "Trial.__enter__" = true) (mk13 : PySem.W.keepIn K (.ref mf13) = true)
    {mf14 : Addr} {mod14 man14 : Option Addr} {msl14 : Array (Option Value)} {moc14 mdc14 mpm14 mcd14 mct14 : Value}
    {mkv14 : Value}
    (ma14 : PySem.W.findIn K (.ref OC2) "__exit__" = some (some (.ref mf14))) (mi14 : PySem.W.isFn K (.ref mf14) = true) (mn14 : PySem.W.fnIn K mf14 = true) (ml14 : K.lookup mf14 = some ⟨moc14, mod14, .func (PySem.W.fnOf "__exit__" "Trial.__exit__" (defArgs s_Trial___exit__) (defBody s_Trial___exit__) (defScope s_Trial___exit__) .none mkv14 mdc14 mpm14 man14 mcd14 mct14), msl14⟩) (mc14 : PySem.W.codeIn K mcd14 "Trial.__exit__" = true) (mk14 : PySem.W.keepIn K (.ref mf14) = true)
    (X_x_TT : PySem.W.exmOne K (.ref C3) (.ref C3) = some true)
    (X_x_VT : PySem.W.exmOne K (.ref C4) (.ref C3) = some false)
    (X_x_VV : PySem.W.exmOne K (.ref C4) (.ref C4) = some true)
    (X_x_ZT : PySem.W.exmOne K (.type "ZeroDivisionError") (.ref C3) = some false)
    (X_x_ZV : PySem.W.exmOne K (.type "ZeroDivisionError") (.ref C4) = some false)
    (X_x_ZZ : PySem.W.exmOne K (.type "ZeroDivisionError") (.type "ZeroDivisionError") = some true)
    : Un.LawTG l w K 46 63 "_law_script" mg fa h := by
  have e := hfa.symm.trans (PySem.W.mg_of X G a22)
  cases e
  have F1 := fun_mk (st := s_check_letters) l1 c1 k1
  have b1 := F1.binds (ps := ["letters"]) fun _ _ _ _ _ _ us hl => match us, hl with | [_], _ => rfl
  have F2 := fun_mk (st := s__are_letters) l2 c2 k2
  have b2 := F2.binds (ps := ["value"]) fun _ _ _ _ _ _ us hl => match us, hl with | [_], _ => rfl
  have F3 := fun_mk (st := s__consists_of) l3 c3 k3
  have b3 := F3.binds (ps := ["characters", "text"]) fun _ _ _ _ _ _ us hl => match us, hl with | [_, _], _ => rfl
  have F4 := fun_mk (st := s__ascends) l4 c4 k4
  have b4 := F4.binds (ps := ["text"]) fun _ _ _ _ _ _ us hl => match us, hl with | [_], _ => rfl
  have F5 := fun_mk (st := s_is_text) l5 c5 k5
  have b5 := F5.binds (ps := ["letters", "value"]) fun _ _ _ _ _ _ us hl => match us, hl with | [_, _], _ => rfl
  have F6 := fun_mk (st := s_is_number) l6 c6 k6
  have b6 := F6.binds (ps := ["value"]) fun _ _ _ _ _ _ us hl => match us, hl with | [_], _ => rfl
  have F7 := fun_mk (st := s_check_value) l7 c7 k7
  have b7 := F7.binds (ps := ["value"]) fun _ _ _ _ _ _ us hl => match us, hl with | [_], _ => rfl
  have F8 := fun_mk (st := s__keys) l8 c8 k8
  have b8 := F8.binds (ps := ["store", "low", "high", "after"]) fun _ _ _ _ _ _ us hl => match us, hl with | [_, _, _, _], _ => rfl
  have F9 := fun_mk (st := s__law_deal) l9 c9 k9
  have b9 := F9.binds (ps := ["_law_script", "_law_base"]) fun _ _ _ _ _ _ us hl => match us, hl with | [_, _], _ => rfl
  have F10 := fun_mk (st := s__law_draw) l10 c10 k10
  have b10 := F10.binds (ps := ["_law_deal_here", "_law_many"]) fun _ _ _ _ _ _ us hl => match us, hl with | [_, _], _ => rfl
  have F11 := fun_mk (st := s__law_pick) l11 c11 k11
  have b11 := F11.binds (ps := ["_law_deal_here", "_law_some"]) fun _ _ _ _ _ _ us hl => match us, hl with | [_, _], _ => rfl
  have F12 := fun_mk (st := s__law_letters) l12 c12 k12
  have b12 := F12.binds (ps := ["_law_deal_here", "_law_most"]) fun _ _ _ _ _ _ us hl => match us, hl with | [_, _], _ => rfl
  have F13 := fun_mk (st := s__law_text) l13 c13 k13
  have b13 := F13.binds (ps := ["_law_deal_here", "_law_letters_here", "_law_most"]) fun _ _ _ _ _ _ us hl => match us, hl with | [_, _, _], _ => rfl
  have F14 := fun_mk (st := s__law_value) l14 c14 k14
  have b14 := F14.binds (ps := ["_law_deal_here"]) fun _ _ _ _ _ _ us hl => match us, hl with | [_], _ => rfl
  have F15 := fun_mk (st := s__law_deeds) l15 c15 k15
  have b15 := F15.binds (ps := ["_law_deal_here", "_law_letters_here", "_law_store", "_law_table"]) fun _ _ _ _ _ _ us hl => match us, hl with | [_, _, _, _], _ => rfl
  have F16 := fun_mk (st := s__law_shown) l16 c16 k16
  have b16 := F16.binds (ps := ["_law_table"]) fun _ _ _ _ _ _ us hl => match us, hl with | [_], _ => rfl
  have F17 := fun_mk (st := s__law_work) l17 c17 k17
  have b17 := F17.binds (ps := ["_law_deal_here", "_law_letters_here", "_law_store", "_law_table", "_law_deep"]) fun _ _ _ _ _ _ us hl => match us, hl with | [_, _, _, _, _], _ => rfl
  have F18 := fun_mk (st := s__law_entered) l18 c18 k18
  have b18 := F18.binds (ps := ["_law_handed", "_law_deal_here", "_law_letters_here", "_law_store", "_law_world"]) fun _ _ _ _ _ _ us hl => match us, hl with | [_, _, _, _, _], _ => rfl
  have F19 := fun_mk (st := s__law_tried) l19 c19 k19
  have b19 := F19.binds (ps := ["_law_deal_here", "_law_letters_here", "_law_store", "_law_table", "_law_deep"]) fun _ _ _ _ _ _ us hl => match us, hl with | [_, _, _, _, _], _ => rfl
  have FC19 : FunC K "_law_tried" "_law_tried" s__law_tried _ _ cA19 := ⟨⟨_, _, _, _, _, _, _, _, rfl, l19, c19⟩, k19⟩
  have F20 := fun_mk (st := s__law_is_it) l20 c20 k20
  have b20 := F20.binds (ps := ["_law_store", "_law_other", "_law_table"]) fun _ _ _ _ _ _ us hl => match us, hl with | [_, _, _], _ => rfl
  have F21 := fun_mk (st := s__law_both_right) l21 c21 k21
  have b21 := F21.binds (ps := ["_law_deal_here", "_law_letters_here", "_law_store", "_law_other", "_law_table"]) fun _ _ _ _ _ _ us hl => match us, hl with | [_, _, _, _, _], _ => rfl
  have FC21 : FunC K "_law_both_right" "_law_both_right" s__law_both_right _ _ cA21 := ⟨⟨_, _, _, _, _, _, _, _, rfl, l21, c21⟩, k21⟩
  have F22 := fun_mk (st := s_law) l22 c22 k22
  have b22 := F22.binds (ps := ["_law_script"]) fun _ _ _ _ _ _ us hl => match us, hl with | [_], _ => rfl
  have oc1 : ca mg "Store" = OC1 := ca_of (PySem.W.mg_of X G og1)
  have RO1_20 : mg "Store" = some (.ref (ca mg "Store")) := by rw [oc1]; exact PySem.W.mg_of X G og1
  have RO1_21 : Cls K (ca mg "Store") := by rw [oc1]; exact ⟨op1, oh1, oo1, os1⟩
  have RO1_22 : PySem.W.noSeq K (ca mg "Store") = true := by rw [oc1]; exact oq1
  have RO1_23 : InsK K (ca mg "Store") := by rw [oc1]; exact insB_ok oi1
  have RO1_24 : NeK K (ca mg "Store") := by rw [oc1]; exact ⟨on1, or1⟩
  have RO1_25 : NoAttr K (ca mg "Store") "letters" := by rw [oc1]; exact of1_letters
  have RO1_26 : NoAttr K (ca mg "Store") "table" := by rw [oc1]; exact of1_table
  have RO1_27 : AtI K (ca mg "Store") "__init__" "Store.__init__" s_Store___init__ := by rw [oc1]; exact ⟨mf1, mE1, _, ⟨⟨_, _, _, _, _, _, _, _, _, _, rfl, ml1, mc1, .inr ⟨by simp, mT1, _, [.ref mE1], mtn1, rfl, mt1, rfl, .cons rfl .nil⟩, .inl rfl⟩, mk1⟩, ⟨om1, ma1, mi1, ok1⟩, _, me1, rfl, rfl, rfl⟩
  have RO1_28 : AtM K (ca mg "Store") "__setitem__" "Store.__setitem__" s_Store___setitem__ ["self", "at", "worth"] := by rw [oc1]; exact ⟨mf2, _, (fun_mk (st := s_Store___setitem__) ml2 mc2 mk2), ⟨ma2, mi2, mk2⟩, mn2, (fun_mk (st := s_Store___setitem__) ml2 mc2 mk2).binds (ps := ["self", "at", "worth"]) fun _ _ _ _ _ _ us hl => match us, hl with | [_, _, _], _ => rfl⟩
  have RO1_29 : AtM K (ca mg "Store") "__getitem__" "Store.__getitem__" s_Store___getitem__ ["self", "at"] := by rw [oc1]; exact ⟨mf3, _, (fun_mk (st := s_Store___getitem__) ml3 mc3 mk3), ⟨ma3, mi3, mk3⟩, mn3, (fun_mk (st := s_Store___getitem__) ml3 mc3 mk3).binds (ps := ["self", "at"]) fun _ _ _ _ _ _ us hl => match us, hl with | [_, _], _ => rfl⟩
  have RO1_30 : AtM K (ca mg "Store") "__contains__" "Store.__contains__" s_Store___contains__ ["self", "x"] := by rw [oc1]; exact ⟨mf4, _, (fun_mk (st := s_Store___contains__) ml4 mc4 mk4), ⟨ma4, mi4, mk4⟩, mn4, (fun_mk (st := s_Store___contains__) ml4 mc4 mk4).binds (ps := ["self", "x"]) fun _ _ _ _ _ _ us hl => match us, hl with | [_, _], _ => rfl⟩
  have RO1_31 : AtM K (ca mg "Store") "__len__" "Store.__len__" s_Store___len__ ["self"] := by rw [oc1]; exact ⟨mf5, _, (fun_mk (st := s_Store___len__) ml5 mc5 mk5), ⟨ma5, mi5, mk5⟩, mn5, (fun_mk (st := s_Store___len__) ml5 mc5 mk5).binds (ps := ["self"]) fun _ _ _ _ _ _ us hl => match us, hl with | [_], _ => rfl⟩
  have RO1_32 : AtD K (ca mg "Store") "pairs" "Store.pairs" s_Store_pairs [V.str (tx []), V.non] [("after", V.non)] := by rw [oc1]; exact ⟨mf6, _, ⟨⟨_, _, _, _, _, _, _, _, _, _, rfl, ml6, mc6, .inr ⟨by simp, mT6, _, [.str "" mv6_0, .none], mtn6, rfl, mt6, rfl, (.cons ⟨_, rfl⟩ (.cons rfl .nil))⟩, .inr ⟨mD6, rfl, fun q hq => by rw [List.mem_singleton.mp hq]; exact ⟨_, mw6_0_, rfl⟩⟩⟩, mk6⟩, ⟨ma6, mi6, mk6⟩, mn6⟩
  have RO1_33 : AtD K (ca mg "Store") "take" "Store.take" s_Store_take [] [("after", V.non)] := by rw [oc1]; exact ⟨mf7, _, ⟨⟨_, _, _, _, _, _, _, _, _, _, rfl, ml7, mc7, .inl ⟨rfl, rfl⟩, .inr ⟨mD7, rfl, fun q hq => by rw [List.mem_singleton.mp hq]; exact ⟨_, mw7_0_, rfl⟩⟩⟩, mk7⟩, ⟨ma7, mi7, mk7⟩, mn7⟩
  have RO1_34 : AtD K (ca mg "Store") "fill" "Store.fill" s_Store_fill [] [("after", V.non)] := by rw [oc1]; exact ⟨mf8, _, ⟨⟨_, _, _, _, _, _, _, _, _, _, rfl, ml8, mc8, .inl ⟨rfl, rfl⟩, .inr ⟨mD8, rfl, fun q hq => by rw [List.mem_singleton.mp hq]; exact ⟨_, mw8_0_, rfl⟩⟩⟩, mk8⟩, ⟨ma8, mi8, mk8⟩, mn8⟩
  have RO1_35 : AtM K (ca mg "Store") "copied" "Store.copied" s_Store_copied ["self"] := by rw [oc1]; exact ⟨mf9, _, (fun_mk (st := s_Store_copied) ml9 mc9 mk9), ⟨ma9, mi9, mk9⟩, mn9, (fun_mk (st := s_Store_copied) ml9 mc9 mk9).binds (ps := ["self"]) fun _ _ _ _ _ _ us hl => match us, hl with | [_], _ => rfl⟩
  have RO1_36 : AtM K (ca mg "Store") "trial" "Store.trial" s_Store_trial ["self"] := by rw [oc1]; exact ⟨mf10, _, (fun_mk (st := s_Store_trial) ml10 mc10 mk10), ⟨ma10, mi10, mk10⟩, mn10, (fun_mk (st := s_Store_trial) ml10 mc10 mk10).binds (ps := ["self"]) fun _ _ _ _ _ _ us hl => match us, hl with | [_], _ => rfl⟩
  have RO1_37 : AtM K (ca mg "Store") "within" "Store.within" s_Store_within ["self", "work"] := by rw [oc1]; exact ⟨mf11, _, (fun_mk (st := s_Store_within) ml11 mc11 mk11), ⟨ma11, mi11, mk11⟩, mn11, (fun_mk (st := s_Store_within) ml11 mc11 mk11).binds (ps := ["self", "work"]) fun _ _ _ _ _ _ us hl => match us, hl with | [_, _], _ => rfl⟩
  have oc2 : ca mg "Trial" = OC2 := ca_of (PySem.W.mg_of X G og2)
  have RO2_38 : mg "Trial" = some (.ref (ca mg "Trial")) := by rw [oc2]; exact PySem.W.mg_of X G og2
  have RO2_39 : Cls K (ca mg "Trial") := by rw [oc2]; exact ⟨op2, oh2, oo2, os2⟩
  have RO2_40 : PySem.W.noSeq K (ca mg "Trial") = true := by rw [oc2]; exact oq2
  have RO2_41 : InsK K (ca mg "Trial") := by rw [oc2]; exact insB_ok oi2
  have RO2_42 : NeK K (ca mg "Trial") := by rw [oc2]; exact ⟨on2, or2⟩
  have RO2_43 : NoAttr K (ca mg "Trial") "store" := by rw [oc2]; exact of2_store
  have RO2_44 : NoAttr K (ca mg "Trial") "table" := by rw [oc2]; exact of2_table
  have RO2_45 : AtI0 K (ca mg "Trial") "__init__" "Trial.__init__" s_Trial___init__ ["self", "store"] := by rw [oc2]; exact ⟨mf12, _, (fun_mk (st := s_Trial___init__) ml12 mc12 mk12), ⟨om2, ma12, mi12, ok2⟩, (fun_mk (st := s_Trial___init__) ml12 mc12 mk12).binds (ps := ["self", "store"]) fun _ _ _ _ _ _ us hl => match us, hl with | [_, _], _ => rfl⟩
  have RO2_46 : AtM K (ca mg "Trial") "__enter__" "Trial.__enter__" s_Trial___enter__ ["self"] := by rw [oc2]; exact ⟨mf13, _, (fun_mk (st := s_Trial___enter__) ml13 mc13 mk13), ⟨ma13, mi13, mk13⟩, mn13, (fun_mk (st := s_Trial___enter__) ml13 mc13 mk13).binds (ps := ["self"]) fun _ _ _ _ _ _ us hl => match us, hl with | [_], _ => rfl⟩
  have RO2_47 : AtM K (ca mg "Trial") "__exit__" "Trial.__exit__" s_Trial___exit__ ["self", "kind", "value", "trace"] := by rw [oc2]; exact ⟨mf14, _, (fun_mk (st := s_Trial___exit__) ml14 mc14 mk14), ⟨ma14, mi14, mk14⟩, mn14, (fun_mk (st := s_Trial___exit__) ml14 mc14 mk14).binds (ps := ["self", "kind", "value", "trace"]) fun _ _ _ _ _ _ us hl => match us, hl with | [_, _, _, _], _ => rfl⟩
  have ox1 : OxC K C1 := Un.oxc_ve x1 o1
  have cc1 : ca mg "UnderError" = C1 := ca_of (PySem.W.mg_of X G g1)
  have E1 : Err0 K mg "UnderError" (ca mg "UnderError") := by rw [cc1]; exact ⟨PySem.W.mg_of X G g1, ox1, e1⟩
  have ox2 : OxC K C2 := Un.oxc_vs x2 o2
  have cc2 : ca mg "InvalidLetters" = C2 := ca_of (PySem.W.mg_of X G g2)
  have E2 : Err0 K mg "InvalidLetters" (ca mg "InvalidLetters") := by rw [cc2]; exact ⟨PySem.W.mg_of X G g2, ox2, e2⟩
  have ox3 : OxC K C3 := Un.oxc_vs x3 o3
  have cc3 : ca mg "NoText" = C3 := ca_of (PySem.W.mg_of X G g3)
  have FI3 := fun_mk (st := s_NoText) li3 ci3 ki3
  have bI3 := FI3.binds (ps := ["self", "value"]) fun _ _ _ _ _ _ us hl => match us, hl with | [_, _], _ => rfl
  have E3 : ErrI K mg "NoText" "NoText.__init__" "value" s_NoText (ca mg "NoText") := by rw [cc3]; exact ⟨PySem.W.mg_of X G g3, ox3, n3, _, _, i3, t3, FI3, bI3⟩
  have ox4 : OxC K C4 := Un.oxc_vs x4 o4
  have cc4 : ca mg "NoValue" = C4 := ca_of (PySem.W.mg_of X G g4)
  have FI4 := fun_mk (st := s_NoValue) li4 ci4 ki4
  have bI4 := FI4.binds (ps := ["self", "value"]) fun _ _ _ _ _ _ us hl => match us, hl with | [_, _], _ => rfl
  have E4 : ErrI K mg "NoValue" "NoValue.__init__" "value" s_NoValue (ca mg "NoValue") := by rw [cc4]; exact ⟨PySem.W.mg_of X G g4, ox4, n4, _, _, i4, t4, FI4, bI4⟩
  have ox5 : OxC K C5 := Un.oxc_ke x5 o5
  have cc5 : ca mg "NoKey" = C5 := ca_of (PySem.W.mg_of X G g5)
  have FI5 := fun_mk (st := s_NoKey) li5 ci5 ki5
  have bI5 := FI5.binds (ps := ["self", "key"]) fun _ _ _ _ _ _ us hl => match us, hl with | [_, _], _ => rfl
  have E5 : ErrI K mg "NoKey" "NoKey.__init__" "key" s_NoKey (ca mg "NoKey") := by rw [cc5]; exact ⟨PySem.W.mg_of X G g5, ox5, n5, _, _, i5, t5, FI5, bI5⟩
  have T : Txt K mg := ⟨⟨_, _, F1, PySem.W.mg_of X G a1, b1⟩, ⟨_, _, F2, PySem.W.mg_of X G a2, b2⟩, ⟨_, _, F3, PySem.W.mg_of X G a3, b3⟩, ⟨_, _, F4, PySem.W.mg_of X G a4, b4⟩, ⟨_, _, F5, PySem.W.mg_of X G a5, b5⟩, ⟨_, _, F6, PySem.W.mg_of X G a6, b6⟩, ⟨_, _, F7, PySem.W.mg_of X G a7, b7⟩, ⟨_, _, F8, PySem.W.mg_of X G a8, b8⟩, ⟨_, _, F9, PySem.W.mg_of X G a9, b9⟩, ⟨_, _, F10, PySem.W.mg_of X G a10, b10⟩, ⟨_, _, F11, PySem.W.mg_of X G a11, b11⟩, ⟨_, _, F12, PySem.W.mg_of X G a12, b12⟩, ⟨_, _, F13, PySem.W.mg_of X G a13, b13⟩, ⟨_, _, F14, PySem.W.mg_of X G a14, b14⟩, ⟨_, _, F15, PySem.W.mg_of X G a15, b15⟩, ⟨_, _, F16, PySem.W.mg_of X G a16, b16⟩, ⟨_, _, F17, PySem.W.mg_of X G a17, b17⟩, ⟨_, _, F18, PySem.W.mg_of X G a18, b18⟩, ⟨_, _, F20, PySem.W.mg_of X G a20, b20⟩, ⟨_, _, F22, PySem.W.mg_of X G a22, b22⟩, RO1_20, RO1_21, RO1_22, RO1_23, RO1_24, RO1_25, RO1_26, RO1_27, RO1_28, RO1_29, RO1_30, RO1_31, RO1_32, RO1_33, RO1_34, RO1_35, RO1_36, RO1_37, RO2_38, RO2_39, RO2_40, RO2_41, RO2_42, RO2_43, RO2_44, RO2_45, RO2_46, RO2_47, E1, E3, E4, PySem.W.mg_none_of X G z1, PySem.W.mg_none_of X G z2, PySem.W.mg_none_of X G z3, PySem.W.mg_none_of X G z4, PySem.W.mg_none_of X G z5, PySem.W.mg_none_of X G z6, PySem.W.mg_none_of X G z7, PySem.W.mg_none_of X G z8, PySem.W.mg_none_of X G z9, PySem.W.mg_none_of X G z10, PySem.W.mg_none_of X G z11, PySem.W.mg_none_of X G z12, PySem.W.mg_none_of X G z13, PySem.W.mg_none_of X G z14, PySem.W.mg_none_of X G z15, PySem.W.mg_none_of X G z16, PySem.W.mg_none_of X G z17, PySem.W.mg_none_of X G z18, PySem.W.mg_none_of X G z19, ⟨_, PySem.W.mg_of X G q1⟩, ⟨_, PySem.W.mg_of X G q2⟩, ⟨_, PySem.W.mg_of X G q3⟩⟩
  have Z : Xt K mg := ⟨(by rw [cc3]; exact X_x_TT), (by rw [cc4, cc3]; exact X_x_VT), (by rw [cc4]; exact X_x_VV), (by rw [cc3]; exact X_x_ZT), (by rw [cc4]; exact X_x_ZV), (by rw []; exact X_x_ZZ)⟩
  refine ⟨PySem.W.fnOf "law" "law" (defArgs s_law) (defBody s_law) (defScope s_law) .none kV22 dc22 pm22 an22 cd22 ct22, [(cA19, pA19), (cA21, pA21)], spLaw K pA19 pA21, fun p hp => ?_, fun p hp => ?_, fun p hp => ?_, fun s v => .of_eq rfl, fun H a ns hl hT hS => told_law hl hS (hT _ (List.mem_cons_self)) (hT _ (List.mem_cons_of_mem _ (List.mem_cons_self))), fun base _ _ hB => ?_⟩
  ·
    simp only [List.mem_cons, List.not_mem_nil, or_false] at hp
    rcases hp with rfl | rfl
    · exact lt19
    · exact lt21
  ·
    simp only [List.mem_cons, List.not_mem_nil, or_false] at hp
    rcases hp with rfl | rfl
    · exact ln19
    · exact ln21
  ·
    simp only [List.mem_cons, List.not_mem_nil, or_false] at hp
    rcases hp with rfl | rfl
    · exact PySem.W.codeHd_of_K X lh19
    · exact PySem.W.codeHd_of_K X lh21
  · have hB0 := hB
    exact ok_law T Z ⟨_, _, FC19, PySem.W.mg_of X G a19, b19⟩ ⟨_, _, FC21, PySem.W.mg_of X G a21, b21⟩ (hB _ (List.mem_cons_self)) (hB _ (List.mem_cons_of_mem _ (List.mem_cons_self))) lq19_21 F22
end Zk48
open PySem PySem.W PyProof.Rows
set_option maxRecDepth 100000 in
set_option maxHeartbeats 0 in
theorem PySem.Challenge.cw_undername_k48_whole_trials_of_stores_holds : PySem.Challenge.rw_undername_k48_whole_trials_of_stores.Holds := by
  w_on; o_law; k_head; (case hw => w_witness2)
  k_fill
  refine Un.walk_ofTG (l := PySem.Challenge.rw_undername_k48_whole_trials_of_stores) (n := 63) (k := 46) (x := "_law_script") rfl (by decide) rfl ⟨rfl, by decide, by decide⟩ (fun w h Y => PySem.W.km_in_of Y) ?F
  case F =>
    intro w mg fa h Y KX G hmg
    refine' Zk48.all_mk KX G hmg ?g1 ?x1 ?o1 ?e1 ?g2 ?x2 ?o2 ?e2 ?g3 ?x3 ?o3 ?n3 ?i3 ?t3 ?li3 ?ci3 ?ki3 ?g4 ?x4 ?o4 ?n4 ?i4 ?t4 ?li4 ?ci4 ?ki4 ?g5 ?x5 ?o5 ?n5 ?i5 ?t5 ?li5 ?ci5 ?ki5 ?a1 ?l1 ?c1 ?k1 ?a2 ?l2 ?c2 ?k2 ?a3 ?l3 ?c3 ?k3 ?a4 ?l4 ?c4 ?k4 ?a5 ?l5 ?c5 ?k5 ?a6 ?l6 ?c6 ?k6 ?a7 ?l7 ?c7 ?k7 ?a8 ?l8 ?c8 ?k8 ?a9 ?l9 ?c9 ?k9 ?a10 ?l10 ?c10 ?k10 ?a11 ?l11 ?c11 ?k11 ?a12 ?l12 ?c12 ?k12 ?a13 ?l13 ?c13 ?k13 ?a14 ?l14 ?c14 ?k14 ?a15 ?l15 ?c15 ?k15 ?a16 ?l16 ?c16 ?k16 ?a17 ?l17 ?c17 ?k17 ?a18 ?l18 ?c18 ?k18 ?a19 ?l19 ?c19 ?k19 ?lo19 ?lp19 ?lh19 ?ln19 ?lt19 ?a20 ?l20 ?c20 ?k20 ?a21 ?l21 ?c21 ?k21 ?lo21 ?lp21 ?lh21 ?ln21 ?lt21 ?a22 ?l22 ?c22 ?k22 ?lq19_21 ?z1 ?z2 ?z3 ?z4 ?z5 ?z6 ?z7 ?z8 ?z9 ?z10 ?z11 ?z12 ?z13 ?z14 ?z15 ?z16 ?z17 ?z18 ?z19 ?q1 ?q2 ?q3 ?og1 ?op1 ?oh1 ?oo1 ?os1 ?oq1 ?oi1 ?on1 ?or1 ?om1 ?ok1 ?of1_letters ?of1_table ?ma1 ?mi1 ?mn1 ?ml1 ?mc1 ?mk1 ?mt1 ?me1 ?ma2 ?mi2 ?mn2 ?ml2 ?mc2 ?mk2 ?ma3 ?mi3 ?mn3 ?ml3 ?mc3 ?mk3 ?ma4 ?mi4 ?mn4 ?ml4 ?mc4 ?mk4 ?ma5 ?mi5 ?mn5 ?ml5 ?mc5 ?mk5 ?ma6 ?mi6 ?mn6 ?ml6 ?mc6 ?mk6 ?mt6 ?mw6_0_ ?ma7 ?mi7 ?mn7 ?ml7 ?mc7 ?mk7 ?mw7_0_ ?ma8 ?mi8 ?mn8 ?ml8 ?mc8 ?mk8 ?mw8_0_ ?ma9 ?mi9 ?mn9 ?ml9 ?mc9 ?mk9 ?ma10 ?mi10 ?mn10 ?ml10 ?mc10 ?mk10 ?ma11 ?mi11 ?mn11 ?ml11 ?mc11 ?mk11 ?og2 ?op2 ?oh2 ?oo2 ?os2 ?oq2 ?oi2 ?on2 ?or2 ?om2 ?ok2 ?of2_store ?of2_table ?ma12 ?mi12 ?mn12 ?ml12 ?mc12 ?mk12 ?ma13 ?mi13 ?mn13 ?ml13 ?mc13 ?mk13 ?ma14 ?mi14 ?mn14 ?ml14 ?mc14 ?mk14 ?X_x_TT ?X_x_VT ?X_x_VV ?X_x_ZT ?X_x_ZV ?X_x_ZZ
    case g1 => k_is
    case x1 => k_is
    case o1 => kernel_rfl
    case e1 => kernel_rfl
    case g2 => k_is
    case x2 => k_is
    case o2 => kernel_rfl
    case e2 => kernel_rfl
    case g3 => k_is
    case x3 => k_is
    case o3 => kernel_rfl
    case n3 => k_is
    case i3 => k_is
    case t3 => k_is
    case li3 => k_is
    case ci3 => k_is
    case ki3 => k_is
    case g4 => k_is
    case x4 => k_is
    case o4 => kernel_rfl
    case n4 => k_is
    case i4 => k_is
    case t4 => k_is
    case li4 => k_is
    case ci4 => k_is
    case ki4 => k_is
    case g5 => k_is
    case x5 => k_is
    case o5 => kernel_rfl
    case n5 => k_is
    case i5 => k_is
    case t5 => k_is
    case li5 => k_is
    case ci5 => k_is
    case ki5 => k_is
    case a1 => k_is
    case l1 => k_is
    case c1 => k_is
    case k1 => k_is
    case a2 => k_is
    case l2 => k_is
    case c2 => k_is
    case k2 => k_is
    case a3 => k_is
    case l3 => k_is
    case c3 => k_is
    case k3 => k_is
    case a4 => k_is
    case l4 => k_is
    case c4 => k_is
    case k4 => k_is
    case a5 => k_is
    case l5 => k_is
    case c5 => k_is
    case k5 => k_is
    case a6 => k_is
    case l6 => k_is
    case c6 => k_is
    case k6 => k_is
    case a7 => k_is
    case l7 => k_is
    case c7 => k_is
    case k7 => k_is
    case a8 => k_is
    case l8 => k_is
    case c8 => k_is
    case k8 => k_is
    case a9 => k_is
    case l9 => k_is
    case c9 => k_is
    case k9 => k_is
    case a10 => k_is
    case l10 => k_is
    case c10 => k_is
    case k10 => k_is
    case a11 => k_is
    case l11 => k_is
    case c11 => k_is
    case k11 => k_is
    case a12 => k_is
    case l12 => k_is
    case c12 => k_is
    case k12 => k_is
    case a13 => k_is
    case l13 => k_is
    case c13 => k_is
    case k13 => k_is
    case a14 => k_is
    case l14 => k_is
    case c14 => k_is
    case k14 => k_is
    case a15 => k_is
    case l15 => k_is
    case c15 => k_is
    case k15 => k_is
    case a16 => k_is
    case l16 => k_is
    case c16 => k_is
    case k16 => k_is
    case a17 => k_is
    case l17 => k_is
    case c17 => k_is
    case k17 => k_is
    case a18 => k_is
    case l18 => k_is
    case c18 => k_is
    case k18 => k_is
    case a19 => k_is
    case l19 => k_is
    case c19 => k_is
    case k19 => k_is
    case lo19 => k_is
    case lp19 => rfl
    case lh19 => kernel_rfl
    case ln19 => rfl
    case lt19 => exact PySem.W.km_tabs_of Y _ (by simp)
    case a20 => k_is
    case l20 => k_is
    case c20 => k_is
    case k20 => k_is
    case a21 => k_is
    case l21 => k_is
    case c21 => k_is
    case k21 => k_is
    case lo21 => k_is
    case lp21 => rfl
    case lh21 => kernel_rfl
    case ln21 => rfl
    case lt21 => exact PySem.W.km_tabs_of Y _ (by simp)
    case a22 => k_is
    case l22 => k_is
    case c22 => k_is
    case k22 => k_is
    case lq19_21 => decide
    case z1 => k_is
    case z2 => k_is
    case z3 => k_is
    case z4 => k_is
    case z5 => k_is
    case z6 => k_is
    case z7 => k_is
    case z8 => k_is
    case z9 => k_is
    case z10 => k_is
    case z11 => k_is
    case z12 => k_is
    case z13 => k_is
    case z14 => k_is
    case z15 => k_is
    case z16 => k_is
    case z17 => k_is
    case z18 => k_is
    case z19 => k_is
    case q1 => k_is
    case q2 => k_is
    case q3 => k_is
    case og1 => k_is
    case op1 => k_is
    case oh1 => k_is
    case oo1 => k_is
    case os1 => k_is
    case oq1 => kernel_rfl
    case oi1 => kernel_rfl
    case on1 => k_is
    case or1 => k_is
    case om1 => k_is
    case ok1 => k_is
    case of1_letters => k_is
    case of1_table => k_is
    case ma1 => k_is
    case mi1 => k_is
    case mn1 => k_is
    case ml1 => k_is
    case mc1 => k_is
    case mk1 => k_is
    case mt1 => k_is
    case me1 => k_is
    case ma2 => k_is
    case mi2 => k_is
    case mn2 => k_is
    case ml2 => k_is
    case mc2 => k_is
    case mk2 => k_is
    case ma3 => k_is
    case mi3 => k_is
    case mn3 => k_is
    case ml3 => k_is
    case mc3 => k_is
    case mk3 => k_is
    case ma4 => k_is
    case mi4 => k_is
    case mn4 => k_is
    case ml4 => k_is
    case mc4 => k_is
    case mk4 => k_is
    case ma5 => k_is
    case mi5 => k_is
    case mn5 => k_is
    case ml5 => k_is
    case mc5 => k_is
    case mk5 => k_is
    case ma6 => k_is
    case mi6 => k_is
    case mn6 => k_is
    case ml6 => k_is
    case mc6 => k_is
    case mk6 => k_is
    case mt6 => k_is
    case mw6_0_ => k_is
    case ma7 => k_is
    case mi7 => k_is
    case mn7 => k_is
    case ml7 => k_is
    case mc7 => k_is
    case mk7 => k_is
    case mw7_0_ => k_is
    case ma8 => k_is
    case mi8 => k_is
    case mn8 => k_is
    case ml8 => k_is
    case mc8 => k_is
    case mk8 => k_is
    case mw8_0_ => k_is
    case ma9 => k_is
    case mi9 => k_is
    case mn9 => k_is
    case ml9 => k_is
    case mc9 => k_is
    case mk9 => k_is
    case ma10 => k_is
    case mi10 => k_is
    case mn10 => k_is
    case ml10 => k_is
    case mc10 => k_is
    case mk10 => k_is
    case ma11 => k_is
    case mi11 => k_is
    case mn11 => k_is
    case ml11 => k_is
    case mc11 => k_is
    case mk11 => k_is
    case og2 => k_is
    case op2 => k_is
    case oh2 => k_is
    case oo2 => k_is
    case os2 => k_is
    case oq2 => kernel_rfl
    case oi2 => kernel_rfl
    case on2 => k_is
    case or2 => k_is
    case om2 => k_is
    case ok2 => k_is
    case of2_store => k_is
    case of2_table => k_is
    case ma12 => k_is
    case mi12 => k_is
    case mn12 => k_is
    case ml12 => k_is
    case mc12 => k_is
    case mk12 => k_is
    case ma13 => k_is
    case mi13 => k_is
    case mn13 => k_is
    case ml13 => k_is
    case mc13 => k_is
    case mk13 => k_is
    case ma14 => k_is
    case mi14 => k_is
    case mn14 => k_is
    case ml14 => k_is
    case mc14 => k_is
    case mk14 => k_is
    case X_x_TT => kernel_rfl
    case X_x_VT => kernel_rfl
    case X_x_VV => kernel_rfl
    case X_x_ZT => kernel_rfl
    case X_x_ZV => kernel_rfl
    case X_x_ZZ => kernel_rfl
