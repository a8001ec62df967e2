import PyProof.Rows.All
import Wide.All
import OpenK.AllK
import Wide.FinOn
import PyProof.EqAt
import PyProof.EqKinds
import PyProof.TupleCall
import PyProof.DictTable
import HandS.Base
import HandS.Call
import HandS.List
import HandS.Ends
import HandS.Dict
import HandS.More
import HandS.Exc
import HandS.ExcOwn
import HandS.ExcValue
import HandS.ExcIs
import HandS.ExcField
import HandS.ExcInit
import HandS.IsInst
import HandS.ForMost
import HandS.ForExc
import HandS.Style
import HandS.Flow
import HandS.Evl
import HandS.RaiseMore
import HandS.StrMore
import HandS.Replace
import HandS.WideBits
import HandS.TupAny
import PyProof.ListStr
import PyProof.StrBlock2
import KE.GoesZip
import KE.GoesMore
import HandS.Zip
import PyProof.ReprRoads
import HandS.EndBits
import HandS.WordsExc
import HandS.TryOnly
import PyProof.NeKinds
import HandS.OwnEq
import HandS.TryMany
import HandS.Defaults
import PyProof.Rows.SortShellAny
import HandS.ListItems
import HandS.Walk
import HandS.MakeKwOnly
import HandS.DictComp
import KE.KExcInit
import PyProof.ReprLen
import HandS.Conv
import PyProof.InstNe
import PySem.Challenge.RW_undername_k46_whole_stores_over_long_scr
set_option Elab.async false
set_option linter.all false
set_option maxRecDepth 100000
set_option maxHeartbeats 4000000
/-! UnX: own exceptions as values (over any base), made with and without an own __init__, their fields read, isinstance of them. -/
namespace PySem
namespace OXX
open PySem.W PySem.Calls PyProof.Rows PySem.HandSPX
open Builtin Builtin.ObjectAttr
section
variable {M : Model} {A : Around} {E : Value → Shared → Prop} {h : Heap} {g : Array GenState} {d : Drawn} {t : Nat} {os : OsState}
variable {nm q : Str} {C N : Addr} {bs bm bmB : List Value} {hdct : Bool} {sn : List Str} {sub : List Value} {ab : Bool} {col : Option Bool} {dd : Option Addr} {k0 k1 k2 k3 k5 : Option Value} {B newId initId : String}
/-- what the classes behind an own class must hold -/
structure Beh (B : String) (bm : List Value) : Prop where
  b : bm.contains (.type B) = true
  na : bm.contains (.type "AttributeError") = false
  nn : bm.contains (.type "NameError") = false
  ob : bm.contains (.type "object") = true
theorem check_new_x (F : ExcBaseFacts B newId initId bmB) (hT : Beh B bm) {rest : List Value} {Q : Unit → Shared → Prop}
    (hC : h.get? C = some (excClassObj nm q C N bs bm hdct sn sub ab col dd k0 k1 k2 k3 k5 newId)) (hq : Q () ⟨h, g, d, t, os⟩) : wpAny M A (checkBuiltinCall newId ⟨.ref C :: rest, []⟩) Q E ⟨h, g, d, t, os⟩ := by
  have hcont : (Value.ref C :: bm).contains (.type B) = true := by rw [List.contains_cons, hT.b, Bool.or_true]
  have hstar := F.noStar
  simp only [checkBuiltinCall, F.newKind, F.newSplit, F.newRow]
  repeat (first | refine wpAny_loadPart_at hC ?_ | (refine wpAny_isSubtype_exc hC ?_; rw [hcont]) | refine wpAny_staticBase_exc hC ?_ | refine wpAny_madeBy_exc hC ?_ | simp only [bne_self_eq_false, Bool.false_eq_true, if_false] | wp_step)
  exact hq
end
section
variable {prog : Program} {w : World} {A : Around} {E : Value → Shared → Prop} {R : Result → Shared → Prop} {h : Heap} {g : Array GenState} {d : Drawn} {t : Nat} {os : OsState}
variable {nm q : Str} {C N : Addr} {bs bm bmB : List Value} {hdct : Bool} {sn : List Str} {sub : List Value} {ab : Bool} {col : Option Bool} {dd : Option Addr} {k0 k1 k2 k3 k5 : Option Value} {B newId initId : String}
theorem new_x (F : ExcBaseFacts B newId initId bmB) (hT : Beh B bm) {rest : List Value}
    (hC : h.get? C = some (excClassObj nm q C N bs bm hdct sn sub ab col dd k0 k1 k2 k3 k5 newId))
    (hq : R (.ok (.ret (.ref (h.objs.size + 1)))) ⟨(h.push { cls := .type "tuple", data := .seq rest.toArray }).push
      { cls := .ref C, data := .fields #[.ref h.objs.size, .none, .none, .none, .bool false, .none] }, g, d, t, os⟩) (hrest : rest.length ≤ sizeLine) :
    codeAny (model prog w) A (.builtin newId ⟨.ref C :: rest, []⟩) R ⟨h, g, d, t, os⟩ := by
  have hends := F.ends
  have hcB : (Value.ref C :: bm).contains (.type B) = true := by rw [List.contains_cons, hT.b, Bool.or_true]
  have hcA : (Value.ref C :: bm).contains (.type "AttributeError") = false := by rw [List.contains_cons, hT.na]; rfl
  have hcN : (Value.ref C :: bm).contains (.type "NameError") = false := by rw [List.contains_cons, hT.nn]; rfl
  refine codeAny_builtinAt F.entry ?_
  unfold Builtin.«BaseException.__new__»
  refine wpAt_bind ?_
  show wpAt _ _ _ (stack >>= _) _ _ _
  refine wpAt_bind (wpAt_stack fun p below => wpAt_of_wpAny ?_)
  wp_walk
  refine wpAt_of_wpAny ?_
  rw [F.owner]
  repeat (first | with_reducible refine wpAny_madeHere_exc F.canon hC ?_ | with_reducible refine wpAny_loadPart_at hC ?_ | (with_reducible refine wpAny_isSubtype_exc hC ?_; first | rw [hcB] | rw [hcA] | rw [hcN]) | wp_step)
  show R _ _
  rw [Heap.size_push]
  exact hq
theorem type_call_x (F : ExcBaseFacts B newId initId bmB) (hT : Beh B bm) {rest : List Value} {fI : Addr} {Q : Fin → Shared → Prop}
    (hC : h.get? C = some (excClassObj nm q C N bs bm hdct sn sub ab col dd k0 k1 k2 k3 k5 newId))
    (hi : W.Looks (model prog w) h (typeLookup (.ref C) "__init__") (some (.ref fI))) (hb : ∀ self, W.Looks (model prog w) h (bindSpecial (.ref fI) self) (.ref fI, [self])) (hrest : rest.length ≤ sizeLine)
    (hq : codeAny (model prog w) A (.call (.ref fI) ⟨.ref (h.objs.size + 1) :: rest, []⟩)
      (fun r s' => match r with | .ok (.ret v) => v = .none ∧ Q (.done (.ret (.ref (h.objs.size + 1)))) s' | .ok _ => False | .error e => E e s')
      ⟨(h.push (W.kdv_tup rest)).push (excO C h.objs.size), g, d, t, os⟩) :
    wpAny (model prog w) A (Builtin.«type.__call__» ⟨.ref C :: rest, []⟩) Q E ⟨h, g, d, t, os⟩ := by
  repeat (first | with_reducible refine wpAny_loadPart_at hC ?_ | with_reducible refine wpAny_madeBy_exc hC ?_ | wp_step)
  refine codeAny_call_builtin_code (Code.quiet_builtin _ F.quiet) (check_new_x F hT hC ?_)
  refine new_x F hT hC ?_ hrest
  show wpAny _ _ _ _ _ _
  have k : ∀ b o, h.get? b = some o → ((h.push (W.kdv_tup rest)).push (excO C h.objs.size)).get? b = some o := fun b o e => Heap.get?_push_of_some _ (Heap.get?_push_of_some _ e)
  have hC₁ := k _ _ hC
  have hget : ((h.push (W.kdv_tup rest)).push (excO C h.objs.size)).get? (h.objs.size + 1) = some (excO C h.objs.size) := by heap_get
  have hcC : (Value.ref C :: bm).contains (.ref C) = true := by simp
  have i1 := hi.keeps k
  have b1 := (hb (.ref (h.objs.size + 1))).keeps k
  unfold isInstance
  repeat (first | with_reducible refine wpAny_loadPart_at hget ?_ | (with_reducible refine wpAny_isSubtype_exc hC₁ ?_; rw [hcC]) | wp_step)
  show wpAny _ _ (typeLookup (.ref C) _) _ _ _
  refine i1.at ?_
  refine wpAny_holding (wpAny_bind (b1.at ?_))
  refine wpAny_bind (wpAny_call (codeAny_mono hq fun r s' z => ?_))
  rcases r with e | (v | _ | _ | _) <;> first | exact z | exact z.elim | skip
  obtain ⟨rfl, z⟩ := z
  first
    | exact wpAny_pure (wpAny_pure z)
    | (wp_walk; exact z)
theorem call_x (F : ExcBaseFacts B newId initId bmB) (hT : Beh B bm) {rest : List Value} {fI : Addr}
    (hC : h.get? C = some (excClassObj nm q C N bs bm hdct sn sub ab col dd k0 k1 k2 k3 k5 newId))
    (hi : W.Looks (model prog w) h (typeLookup (.ref C) "__init__") (some (.ref fI))) (hb : ∀ self, W.Looks (model prog w) h (bindSpecial (.ref fI) self) (.ref fI, [self])) (hrest : rest.length ≤ sizeLine)
    (hq : codeAny (model prog w) (A.under (.builtin "type.__call__" ⟨.ref C :: rest, []⟩)) (.call (.ref fI) ⟨.ref (h.objs.size + 1) :: rest, []⟩) (W.InitBack (h.objs.size + 1) R)
      ⟨(h.push (W.kdv_tup rest)).push (excO C h.objs.size), g, d, t, os⟩) :
    codeAny (model prog w) A (.call (.ref C) ⟨rest, []⟩) R ⟨h, g, d, t, os⟩ := by
  have f1 := tc_lookup
  have f2 := tc_bind (.ref C)
  have hTy : (⟨h, g, d, t, os⟩ : Shared).TypeIs (.ref C) "type" := ⟨_, hC, rfl⟩
  refine codeAny_of_tree ?_
  show wpAny _ _ (callAny (.ref C) _) _ _ _
  repeat (any_goals (first | assumption | with_reducible refine wpAny_loadPart_at hC ?_ | wp_step))
  refine ⟨rfl, ?_⟩
  refine codeAny_call_builtin_at (Code.quiet_builtin _ (by decide +kernel)) entry_typeCall (wpAny_check_type_call_sub hC (type_call_x F hT hC hi hb hrest ?_))
  refine codeAny_mono hq fun r s' z => ?_
  rcases r with e | (v | _ | _ | _) <;> exact z
end
section
variable {prog : Program} {w : World} {A : Around} {R : Result → Shared → Prop} {hp : Heap} {g : Array GenState} {d : Drawn} {t : Nat} {os : OsState}
theorem osa_x {K : W.Frag} {name : Str} {tk : Tok} {v : Value} {x C : Addr} {fv : Array Value} {cd : ClassData}
    (X : K.In hp) (hx : hp.get? x = some { cls := .ref C, data := .fields fv }) (hcd : W.clsIn K C = some cd) (hne : cd.mro.isEmpty = false) (hob : cd.mro.contains (.type "object") = true) (hps : refuseLoop (.ref x) "__setattr__" cd.mro = pure ()) (hh : cd.hasDict = true) (ha : W.findIn K (.ref C) name = some none)
    (hq : ∀ h' tk' dx, (∀ b o, b ≠ x → hp.get? b = some o → h'.get? b = some o) → hp.objs.size ≤ dx → dx ≠ x → h'.get? x = some { cls := .ref C, dict := some dx, data := .fields fv } →
      h'.Ns1 dx (fun y => if y = name then some v else none) → R (.ok (.ret .none)) ⟨h', g, d, tk', os⟩) :
    codeAny (model prog w) A (.call (.builtin "object.__setattr__") ⟨[.ref x, .str name tk, v], []⟩) R ⟨hp, g, d, t, os⟩ := by
  have I : W.InstAt hp x { cls := .ref C, data := .fields fv } C none := ⟨hx, rfl, rfl, trivial⟩
  have SF := F.store_object
  have hxs : x ≠ hp.objs.size := Nat.ne_of_lt (Heap.lt_size hx)
  have sub : W.Looks (model prog w) hp (isInstance (.ref x) (.type "object")) true := I.type.andThen (W.looks_mroIn X (by unfold W.mroIn; rw [hcd, Option.bind_some, if_neg (by rw [hne]; decide), hob]))
  refine codeAny_call_builtin SF.slot.plain SF.entry (@W.check_slot (model prog w) _ _ ⟨hp, g, d, t, os⟩ "object.__setattr__" "object" "__setattr__" (.ref x) [.str name tk, v] [] _ SF.kind SF.split sub (SF.args (.ref x) (.str name tk) v) ?_)
  have hmr : W.Looks (model prog w) hp (mroOf (.ref C)) cd.mro := (W.looks_clsIn X hcd).andThen .now
  have L3 : W.Looks (model prog w) hp (storeTaker? none) none := .now
  have hcls : W.Looks (model prog w) hp (classData C) cd := W.looks_clsIn X hcd
  rw [W.osa_eq, refuse_eq]
  refine wpAny_bind (wpAny_bind (I.type.at (wpAny_bind (hmr.at ?_))))
  rw [hps]
  refine wpAny_pure (wpAny_bind (I.type.at (wpAny_bind ((W.looks_findIn X ha).at (wpAny_bind (L3.at ?_))))))
  show wpAny _ _ (storeInOwnDict (.ref x) (.ref C) (.str name tk) name v false) _ _ _
  obtain ⟨nm, bs, mro, ns, qn, hd, sn, sb, ab, col, del⟩ := cd
  dsimp only at hh
  subst hh
  unfold storeInOwnDict ownDictForStores
  repeat (first | with_reducible refine store_in_new ?_ ?_ | with_reducible refine wpAny_loadPart_at hx ?_ | with_reducible refine hcls.at ?_ | wp_step)
  · exact ⟨_, #[], _, (Heap.get?_update_ne _ _ _ _ hxs.symm).trans (Heap.get?_push_at rfl rfl), rfl, fun e he => absurd he (by simp), fun _ => rfl⟩
  · intro h' tk' hn' hs
    have hx₁ : (hp.push { cls := .type "dict", data := .dict #[] }).get? x = some { cls := .ref C, data := .fields fv } := Heap.get?_push_of_some _ hx
    refine hq h' tk' hp.objs.size (fun b o hb ho => ?_) (Nat.le_refl _) hxs.symm ?_ hn'
    · exact (hs.2 b (Nat.ne_of_lt (Heap.lt_size ho))).trans ((Heap.get?_update_ne _ _ _ _ hb).trans (Heap.get?_push_of_some _ ho))
    · exact (hs.2 x hxs).trans (Heap.get?_update_self _ hx₁ rfl)
end
end OXX
end PySem
namespace PySem.W
open PySem PySem.Spec PySem.Calls PyProof.Rows
section
variable {prog : Program} {w : World} {A : Around} {E : Value → Shared → Prop} {s : Shared} {K : Frag} {x D : Addr} {ox : Obj} {od : Option Obj}
theorem findObj_dataD {C : Addr} {name : Str} {a g : Value} (hc : (clsIn K C).isSome = true) (ha : findIn K (.ref C) name = some (some a)) (hg : specialIn K a "__get__" = some (some g)) (ht : takesIn K a = some true) : findObj K C od name = some (.bind g a) := by
  obtain ⟨cd, hc⟩ := Option.isSome_iff_exists.mp hc
  unfold findObj
  rw [hc, Option.bind_some, ha, Option.bind_some]
  simp [hg, ht]
theorem kin_classD {Q : Option Value → Shared → Prop} (hga : findIn K (.ref D) "__getattribute__" = some (some (.builtin "BaseException.__getattribute__"))) (hgt : findIn K (.ref D) "__getattr__" = some none) (hsub : subIn K (.ref D) (.type "BaseException") = some true)
    (hdct : hasDictIn K D = true) (ha : findIn K (.ref D) "__class__" = some (some (.builtin "object.__class__")))
    (hn : specialIn K (.builtin "object.__class__") "__get__" = some (some (.builtin "getset_descriptor.__get__"))) (htk : takesIn K (.builtin "object.__class__") = some true) (hm : mroIn K D (.type "object") = some true)
    (X : K.In s.heap) (I : InstAt s.heap x ox D od) (h : Q (some (.ref D)) { s with toks := s.toks + 1 }) : wpAny (model prog w) A (getAttr? (.ref x) "__class__") Q E s := by
  have hf : findObj K D od "__class__" = some (.bind (.builtin "getset_descriptor.__get__") (.builtin "object.__class__")) := findObj_dataD (by obtain ⟨cd, hc, _⟩ := any_some hdct; rw [hc]; rfl) ha hn htk
  obtain ⟨hp, g, d, t, os⟩ := s
  have L0 := I.type (M := model prog w)
  have L1 := looks_findIn (M := model prog w) X hga
  have L2 := looks_findIn (M := model prog w) X hgt
  have L3 := looks_find (M := model prog w) X I hf
  have sub : Looks (model prog w) hp (isInstance (.ref x) (.type "BaseException")) true := L0.andThen (looks_subIn X hsub)
  have hx0 : (false && onTheHeap (Value.builtin "BaseException.__getattribute__")) = false := rfl
  have hx2 : (Value.builtin "BaseException.__getattribute__" == Value.builtin "object.__getattribute__") = false := by decide +kernel
  have hx1 : (onTheHeap (Value.ref D) && Value.builtin "BaseException.__getattribute__" == Value.builtin "object.__getattribute__") = false := by rw [hx2]; rfl
  unfold getAttr? getAttrBy? getAttrBy
  refine wpAny_bind (wpAny_mkText (wpAny_bind (wpAny_attempt (wpAny_holding (wpAny_bind (L0.at (wpAny_bind (L1.at ?_))))))))
  show wpAny _ _ (if (onTheHeap (Value.ref D) && Value.builtin "BaseException.__getattribute__" == Value.builtin "object.__getattribute__") = true then _ else _) _ _ _
  rw [hx1, if_neg Bool.false_ne_true]
  unfold getAttrByItsOwn hookBefore
  refine wpAny_bind ?_
  rw [if_pos (show onTheHeap (Value.ref D) = true from rfl)]
  refine L2.at ?_
  refine wpAny_bind (wpAny_attempt (wpAny_holding ?_))
  unfold callGetattribute
  rw [hx0, if_neg Bool.false_ne_true]
  unfold boundAndCalled
  rw [PySem.F.excAttr_ValueError.ga.bind (.ref x)]
  refine wpAny_bind (wpAny_pure ?_)
  show wpAny _ _ (call (.builtin "BaseException.__getattribute__") [.ref x, .str "__class__" t]) _ _ _
  refine wpAny_call (codeAny_call_builtin PySem.F.excAttr_ValueError.ga.plain PySem.F.entry_bexc_ga ?_)
  refine @check_slot (model prog w) _ _ ⟨hp, g, d, t + 1, os⟩ "BaseException.__getattribute__" "BaseException" "__getattribute__" (.ref x) [.str "__class__" t] [] _ (by decide +kernel) (by decide +kernel) sub (PySem.F.args_bexc_ga (.ref x) (.str "__class__" t)) ?_
  unfold Builtin.«object.__getattribute__»
  refine wpAny_bind (wpAny_of_eq (a := ((Value.ref x : Value), [Value.str "__class__" t])) (by first | rfl | (simp only [slotArgs]; rfl)) ?_)
  refine wpAny_bind (wpAny_pure (wpAny_bind (L0.at (wpAny_bind (L3.at ?_)))))
  show wpAny _ _ (holding [Value.builtin "object.__class__"] (call (.builtin "getset_descriptor.__get__") [.builtin "object.__class__", .ref x, .ref D]) >>= ret) _ _ _
  refine wpAny_bind (wpAny_holding (wpAny_call (class_get (s := ⟨hp, g, d, t + 1, os⟩) (ox := ox) (od := od) X I hm ?_)))
  refine wpAny_pure ?_
  show wpAny _ _ (handedOut (.ref D)) _ _ _
  rw [handedOut_of (v := .ref D) rfl]
  first
    | exact wpAny_pure (wpAny_pure h)
    | exact wpAny_pure h
    | exact wpAny_pure (wpAny_bind (wpAny_pure (wpAny_pure h)))
theorem kitx_excD (hga : findIn K (.ref D) "__getattribute__" = some (some (.builtin "BaseException.__getattribute__"))) (hgt : findIn K (.ref D) "__getattr__" = some none) (hsub : subIn K (.ref D) (.type "BaseException") = some true) (hdct : hasDictIn K D = true) (ha : findIn K (.ref D) "__class__" = some (some (.builtin "object.__class__")))
    (hn : specialIn K (.builtin "object.__class__") "__get__" = some (some (.builtin "getset_descriptor.__get__"))) (htk : takesIn K (.builtin "object.__class__") = some true) (hm : mroIn K D (.type "object") = some true) :
    KitX K (.ref x) (.ref D) (fun h => InstAt h x ox D od) where
  ty := fun _ _ _ I => I.type
  it := fun _ _ X _ => by
    obtain ⟨cdD, hcD, _⟩ := any_some hdct
    unfold clsIn at hcD
    split at hcD
    · rename_i c' d' cd' sl' ho
      intro A' Q' E' s' k q
      unfold isType loadHead
      exact wpAny_bind (wpAny_loadPart (k _ _ (X _ _ ho)) (wpAny_pure q))
    · cases hcD
  ne := fun h tp dd its n sl X htp => by
    obtain ⟨cdD, hcD, _⟩ := any_some hdct
    refine Bool.eq_false_iff.mpr fun q => ?_
    have e : D = tp := Value.ref.inj (beq_iff_eq.mp q)
    subst e
    unfold clsIn at hcD
    split at hcD
    · rename_i c' d' cd' sl' ho
      have z := (X _ _ ho).symm.trans htp
      cases z
    · cases hcD
  ca := fun X I k => kin_classD hga hgt hsub hdct ha hn htk hm X I k
end
end PySem.W
namespace L2
open PySem PySem.Spec PyProof.Rows
/-- an own exception class, over whatever base -/
structure OxC (K : PySem.W.Frag) (C : Addr) : Prop where
  cls : ∃ nm q N bs bm sn sub ab col dd k0 k1 k2 k3 k5 B newId initId bmB, K.lookup C = some (excClassObj nm q C N bs bm true sn sub ab col dd k0 k1 k2 k3 k5 newId) ∧ ExcBaseFacts B newId initId bmB ∧ PySem.OXX.Beh B bm ∧ ∀ self, refuseLoop self "__setattr__" (.ref C :: bm) = pure ()
  sa : PySem.W.findIn K (.ref C) "__setattr__" = some (some (.builtin "object.__setattr__"))
  kC : PySem.W.keepIn K (.ref C) = true
  xf : XfC K C
  is : ExcC K C
  ty : PySem.W.typeIn K (.ref C) = some (.type "type")
  ex : PySem.W.exmOne K (.ref C) (.ref C) = some true
section
variable {X : Cx} {pins : List (Addr × Obj)} {σ : St} {H : Hp} {s : Shared} {a C dx : Addr} {f : Str} {y : V} {u : Value} {fs : List (Str × V)} {Q : Unit → Shared → Prop} {E : Value → Shared → Prop} {A : Around}
/-- self.f = y, the first one -/
theorem oxt_new (T : OxC X.K C) (I : Inv X pins σ H s) (e : H a = some (exo a C none)) (hno : PySem.W.findIn X.K (.ref C) f = some none) (ry : RelV y u)
    (h : ∀ dx s', H dx = none → dx ≠ a → Inv X pins σ (upd (upd H dx (exd dx [(f, y)])) a (exo a C (some dx))) s' → Q () s') : wpAny (model X.prog X.w) A (setAttr (.ref a) f u) Q E s := by
  obtain ⟨nm, q, N, bs, bm, sn, sub, ab, col, dd, k0, k1, k2, k3, k5, B, newId, initId, bmB, hC, FB, BB, hps⟩ := T.cls
  have hcl : PySem.W.clsIn X.K C = some { name := nm, bases := bs, mro := .ref C :: bm, ns := N, qualname := q, hasDict := true, slotNames := sn, subclasses := sub, abstract := ab, collection := col, hasDel := false } := by unfold PySem.W.clsIn; rw [hC] <;> rfl
  obtain ⟨t1, ho⟩ := exo_at I.hok e
  obtain ⟨hp, g, d, t, os⟩ := s
  refine PySem.W.set_plain I.kIn (ox := { cls := .ref C, dict := none, data := .fields #[.ref t1, .none, .none, .none, .bool false, .none] }) (od := none) ⟨ho, rfl, rfl, trivial⟩ T.sa ?_
  refine PySem.OXX.osa_x I.kIn ho hcl rfl (show (Value.ref C :: bm).contains (.type "object") = true by rw [List.contains_cons, BB.ob, Bool.or_true]) (hps _) rfl hno (fun h' tk' dx k dn dne hx hn => ?_)
  have hnd : H dx = none := I.hok.fresh dn
  have nd : ∀ {b : Addr} {o : Obj}, hp.get? b = some o → b ≠ dx := fun {b o} q => Nat.ne_of_lt (Nat.lt_of_lt_of_le (Heap.lt_size q) dn)
  have na : ∀ {b : Addr}, H b = none → b ≠ a := fun {b} n z => by
    rw [z, e] at n
    cases n
  have Un1 : Un X.fs [] H (upd (upd H dx (exd dx [(f, y)])) a (exo a C (some dx))) hp h' := {
    keep := fun b o q n _ _ => k b o (na n) q
    slot := fun b o q n _ _ => ⟨o.slots, k b o (na n) q⟩
    free := fun b o q n _ => by rw [upd_ne (na n), upd_ne (nd q)]; exact n
    there := fun b o q _ => by
      by_cases hb : b = a
      · exact ⟨_, by rw [hb]; exact hx⟩
      · exact ⟨o, k b o hb q⟩
    tups := fun b xs q => by rw [upd_ne (at_ne e q exo_tup), upd_ne (ne_of_none q hnd)]; exact q
    frzs := fun b o v q => by rw [upd_ne (at_ne e q exo_frz), upd_ne (ne_of_none q hnd)]; exact q
    tbls := fun b ps q => ⟨#[], by rw [upd_ne (at_ne e q exo_tbl), upd_ne (ne_of_none q hnd), q]; simp⟩ }
  refine h dx _ hnd dne (I.un (t' := tk') Un1 fun b o q => ?_)
  by_cases hb : b = a
  · subst hb
    rw [upd_same] at q
    cases q
    exact exo_ok hx
  · rw [upd_ne hb] at q
    by_cases hd : b = dx
    · subst hd
      rw [upd_same] at q
      cases q
      exact exd_ok hn (relO_put (fs := []) ry fun g => True.intro)
    · rw [upd_ne hd] at q
      exact (I.hok b o q).stay (fun c v hc z => k c v (by
          rcases hc with hc | hc
          · rw [hc]
            exact hb
          · exact at_ne e hc exo_own) z)
        (fun c hc => by rw [upd_ne (at_ne e hc exo_own), upd_ne (ne_of_none hc hnd)]; exact hc) (fun c xs hc => by rw [upd_ne (at_ne e hc exo_tup), upd_ne (ne_of_none hc hnd)]; exact hc)
end
/-- self.f = e, the first one -/
def tOxt (K : PySem.W.Frag) (f : Str) (to te : TE) : TS := fun D σ H => te σ H fun y H1 => to σ H1 fun x H2 => ∃ a C : Addr, x = .ref a ∧ OxC K C ∧ PySem.W.findIn K (.ref C) f = some none ∧
  (H2 a = some (exo a C none) ∧ ∀ dx, H2 dx = none → dx ≠ a → D.nx σ (upd (upd H2 dx (exd dx [(f, y)])) a (exo a C (some dx))))
/-- the promise of such an __init__: one field -/
def SpXI (K : PySem.W.Frag) (f : Str) : Sp := fun vs H Q _ => ∃ a v C, vs = [.ref a, v] ∧ OxC K C ∧ PySem.W.findIn K (.ref C) f = some none ∧ H a = some (exo a C none) ∧
  ∀ dx, H dx = none → dx ≠ a → Q .non (upd (upd H dx (exd dx [(f, v)])) a (exo a C (some dx)))
/-- C(e), C with such an __init__ -/
def tMkX (C : Addr) (f : Str) (te : TE) : TE := fun σ H Q => te σ H fun v H1 => ∀ a dx, H1 a = none → H1 dx = none → dx ≠ a → Q (.ref a) (upd (upd (upd H1 a (exo a C none)) dx (exd dx [(f, v)])) a (exo a C (some dx)))
/-- C() -/
def tMkN (C : Addr) : TE := fun _ H Q => ∀ a, H a = none → Q (.ref a) (upd H a (exo a C none))
section
variable {X : Cx} {o e : Expr} {es : List Expr} {to te : TE} {f x n : Str} {p p' pos : Pos} {C fI : Addr} {k : Nat} {fd : FuncData} {ps : List Str} {CX : CXT}
theorem ps_oxt (ho : PE X o to) (he : PE X e te) (hs : swapsWith e (some (.Attribute o f p')) pos.line X.env = pure false := by rfl) : PS X (.Assign [.Attribute o f p'] e pos) (tOxt X.K f to te) := by
  refine ⟨fun pins s σ H D I h => ?_⟩
  refine plainObj_wpAny_Assign_Attribute (thn (he.run pins s σ H _ I h) fun v s1 ⟨y, H1, I1, r1, q1⟩ => thn (ho.run pins s1 σ H1 _ I1 q1) fun u s2 ⟨x, H2, I2, r2, a, C, ex, T, hno, ea, q⟩ => ?_) hs
  subst ex
  obtain rfl : u = Value.ref a := r2
  exact oxt_new T I2 ea hno r1 fun dx s' n ne J => ⟨σ, _, J, q dx n ne⟩
theorem pe_mkN {bmB : List Value} {B newId initId : String} (F : ExcBaseFacts B newId initId bmB) (q : PySem.W.excIn X.K C bmB newId = true) (gC : X.mg x = some (.ref C)) (kC : PySem.W.keepIn X.K (.ref C) = true) (hg : Gl X x)
    (hdb : (x == ("__debug__" : Str)) = false := by decide) : PE X (.Call (.Name x p) [] [] pos) (tMkN C) := by
  refine ⟨fun pins s σ H Q I h => ?_⟩
  refine wpAny_Call_Name_kw (ld_glob I hg gC ?_ hdb)
  refine PySem.W.callWith_K0 (K := X.K) (I.tok _).kIn kC ?_
  show wpAny _ _ (call (.ref C) []) _ _ _
  obtain ⟨bm, N, nm, qn, bs, hdct, sn, sub, ab, col, dd, k0, k1, k2, k3, k5, mN, hC, hN, hni, T⟩ := exc_obj (I.tok _).kIn q
  refine wpAny_call_exc_subT F T hC hN hni (fun h' a hm => ?_) (by show 0 ≤ sizeLine; omega)
  have hn : H a = none := I.hok.gone hm.new
  obtain ⟨t, ht, _, _⟩ := hm.there
  exact ⟨.ref a, upd H a (exo a C none), I.laidN hm.keeps hm.new hn (exo_ok ht), rfl, h a hn⟩
theorem pe_mkX (T : OxC X.K C) (iC : PySem.W.findIn X.K (.ref C) "__init__" = some (some (.ref fI))) (tI : PySem.W.typeIn X.K (.ref fI) = some (.type "function")) (hno : PySem.W.findIn X.K (.ref C) f = some none)
    (F1 : FnOk X.prog X.w X.K X.mg X.base CX k fI fd ps (SpXI X.K f)) (hr : Room (k + 1) X.A) (hb : Binds X.K fd ps []) (hx : Passes CX X (fun _ _ _ => False)) (hg : Gl X x) (hm : X.mg x = some (.ref C)) (ha : PE X e te)
    (hdb : (x == ("__debug__" : Str)) = false := by decide) (he : starEach (e :: []) X.env = (false, eval e X.env) :: starEach [] X.env := by rfl) (hpl : (backTo pos (starEach [] X.env)).any (·.1) = false := by rfl) :
    PE X (.Call (.Name x p) [e] [] pos) (tMkX C f te) := by
  refine ⟨fun pins s σ H Q I h => ?_⟩
  obtain ⟨nm, q, N, bs, bm, sn, sub, ab, col, dd, k0, k1, k2, k3, k5, B, newId, initId, bmB, hC, FB, BB, hps⟩ := T.cls
  refine wpAny_Call_Name_kw (ld_glob I hg hm ?_ hdb)
  have hA : PA X [e] (tCons te tNil) := pa_cons ha pa_nil he
  refine PySem.W.callWith_K (h₀ := X.base) I.ok.mod.kin T.kC (thn (hA.run pos pins s σ H (fun vs H1 => match vs with | [v] => (∀ a dx, H1 a = none → H1 dx = none → dx ≠ a → Q (.ref a) (upd (upd (upd H1 a (exo a C none)) dx (exd dx [(f, v)])) a (exo a C (some dx)))) | _ => False) I h) fun us s1 ⟨vs, H1, I1, r1, q1⟩ => ⟨I1.kIn, ?_⟩) he hpl
  show wpAny _ _ (call (.ref C) us) _ _ _
  obtain ⟨v, rfl⟩ : ∃ v, vs = [v] := by
    rcases vs with _ | ⟨v, _ | ⟨v2, vs⟩⟩
    · exact q1.elim
    · exact ⟨v, rfl⟩
    · exact q1.elim
  replace q1 : ∀ a dx, H1 a = none → H1 dx = none → dx ≠ a → Q (.ref a) (upd (upd (upd H1 a (exo a C none)) dx (exd dx [(f, v)])) a (exo a C (some dx))) := q1
  obtain ⟨hp, g, dr, tk, os⟩ := s1
  have hsz : hp.objs.size ≤ hp.objs.size + 1 := Nat.le_succ _
  have hn : H1 (hp.objs.size + 1) = none := I1.hok.fresh hsz
  have hq : SpXI X.K f [.ref (hp.objs.size + 1), v] (upd H1 (hp.objs.size + 1) (exo (hp.objs.size + 1) C none)) (fun r H2 => r = .non ∧ Q (.ref (hp.objs.size + 1)) H2) (fun _ _ _ => False) :=
    ⟨_, v, C, rfl, T, hno, upd_same, fun dx hd hda => ⟨rfl, q1 _ dx hn (by rw [upd_ne hda] at hd; exact hd) hda⟩⟩
  have kk : ∀ b o, hp.get? b = some o → ((hp.push (PySem.W.kdv_tup us)).push (PySem.HandSPX.excO C hp.objs.size)).get? b = some o := fun b o e => Heap.get?_push_of_some _ (Heap.get?_push_of_some _ e)
  have hget : ((hp.push (PySem.W.kdv_tup us)).push (PySem.HandSPX.excO C hp.objs.size)).get? (hp.objs.size + 1) = some (PySem.HandSPX.excO C hp.objs.size) := by heap_get
  have I2 : Inv X pins σ (upd H1 (hp.objs.size + 1) (exo (hp.objs.size + 1) C none)) ⟨(hp.push (PySem.W.kdv_tup us)).push (PySem.HandSPX.excO C hp.objs.size), g, dr, tk, os⟩ :=
    I1.laid (t' := tk) (a := hp.objs.size + 1) (o := exo (hp.objs.size + 1) C none) (h' := (hp.push (PySem.W.kdv_tup us)).push (PySem.HandSPX.excO C hp.objs.size)) kk hsz (exo_ok hget)
  have r2 : Vals (V.ref (hp.objs.size + 1) :: ([v] ++ [])) (Value.ref (hp.objs.size + 1) :: (us ++ [])) := .cons rfl (r1.append .nil)
  have hl : (Value.ref (hp.objs.size + 1) :: us ++ []).length = ps.length := by
    have e := r2.length
    have e3 := F1.len _ _ _ _ hq
    simp only [List.length_cons, List.length_append, List.length_nil] at e e3 ⊢
    omega
  have hus : us.length ≤ sizeLine := by
    rw [← Paired.length r1, sizeLine_eq]
    simp
  refine wpAny_call (PySem.OXX.call_x FB BB (I1.kIn _ _ hC) (PySem.W.looks_findIn I1.kIn iC) (fun self => PySem.W.bind_fn I1.kIn self tI) hus
    (codeAny_mono (F1.run _ X.stack _ _ ⟨Value.ref (hp.objs.size + 1) :: us, []⟩ (Value.ref (hp.objs.size + 1) :: us ++ []) _ _ (fun _ _ _ => False) (hr.make C us []) (I2.env0.make C us []) (hb _ (Value.ref (hp.objs.size + 1) :: us) I2.kIn hl) r2 hq) fun r s' hq' => ?_))
  cases r with
  | error er => exact hx pins σ _ _ er s' I2 hq'
  | ok fl =>
    cases fl with
    | ret u =>
      obtain ⟨w, H2, os2, bare2, un2, hok2, rv, ev, q2⟩ := hq'
      subst ev
      exact ⟨rv, .ref (hp.objs.size + 1), H2, I2.call' (ch := []) os2 un2 hok2 bare2 (fun b z => absurd z (by simp)), rfl, q2⟩
    | next => exact False.elim hq'
    | brk => exact False.elim hq'
    | cont => exact False.elim hq'
/-- err.f -/
def tXfl (K : PySem.W.Frag) (n : Str) (te : TE) : TE := fun σ H Q => te σ H fun x H1 => ∃ (a C d : Addr) (fs : List (Str × V)) (v : V), x = .ref a ∧ XfC K C ∧ PySem.W.findIn K (.ref C) n = some none ∧ H1 a = some (exo a C (some d)) ∧ H1 d = some (exd d fs) ∧ fs.lookup n = some v ∧ Q v H1
theorem pe_xfl (he : PE X e te) (hb : attributeBase e n X.env (eval e X.env) = eval e X.env := by rfl) : PE X (.Attribute e n pos) (tXfl X.K n te) := by
  refine ⟨fun pins s σ H Q I h => ?_⟩
  refine attr_of hb (thn (he.run pins s σ H _ I h) fun u s1 hh => ?_)
  obtain ⟨x, H1, I1, rx, a, C, d, fs, v, ex, T, hno, ea, ed, l, q⟩ := hh
  subst ex
  obtain rfl : u = Value.ref a := rx
  obtain ⟨t1, ho⟩ := exo_at I1.hok ea
  obtain ⟨mA, hns, hr⟩ := exd_at I1.hok ed
  obtain ⟨od, ho2, hl⟩ := lookIn_ns hns
  obtain ⟨u, hu, ru⟩ := RelO.some_of (v := v) (o := mA n) (by rw [← l]; exact hr n)
  have J : PySem.W.InstAt s1.heap a { cls := .ref C, dict := some d, data := .fields #[.ref t1, .none, .none, .none, .bool false, .none] } C (some od) := ⟨ho, rfl, rfl, ho2⟩
  exact HandSPX.exc_get I1.kIn J T.ga T.gg T.exC (PySem.W.findObj_own T.hdC hno rfl (by rw [hl, hu])) (handed_of ru) ⟨v, H1, I1.tok _, ru, q⟩
/-- isinstance(err, c) -/
def rIsX (K : PySem.W.Frag) : List V → Hp → VK → Prop := fun xs H Q => ∃ (a C : Addr) (d : Option Addr) (c : V) (u : Value) (b : Bool), xs = [.ref a, c] ∧ H a = some (exo a C d) ∧ (∀ dx, d = some dx → ∃ fs, H dx = some (exd dx fs)) ∧ ExcC K C ∧ ClsV c u ∧ PySem.W.kitOne K (.ref C) u = some b ∧ Q (.bl b) H
theorem call_isX : CallR X (.builtin "isinstance") (rIsX X.K) := by
  intro pins s σ H xs us Q I r h
  obtain ⟨a, C, d, c, cv, b, rfl, ea, hd, T, k, e, q⟩ := h
  obtain ⟨u1, u2, rfl, r1, r2⟩ := vals2 r
  have e2 := k.eq r2
  subst e2
  cases (show u1 = Value.ref a from r1)
  obtain ⟨t1, ho⟩ := exo_at I.hok ea
  have hod : ∃ od : Option Obj, PySem.W.InstAt s.heap a { cls := .ref C, dict := d, data := .fields #[.ref t1, .none, .none, .none, .bool false, .none] } C od := by
    cases d with
    | none => exact ⟨none, ho, rfl, rfl, trivial⟩
    | some dx =>
      obtain ⟨fs, ed⟩ := hd dx rfl
      obtain ⟨mA, hns, hr⟩ := exd_at I.hok ed
      obtain ⟨od, ho2, hl⟩ := lookIn_ns hns
      exact ⟨some od, ho, rfl, rfl, ho2⟩
  obtain ⟨od, J⟩ := hod
  exact PySem.W.kia_one (PySem.W.kitx_excD T.hg T.hk T.hs T.hd T.ha T.hn T.ht T.hm) I.kIn J e (fun z => nomatch z) fun tk => ⟨.bl b, H, I.tok tk, rfl, q⟩
end
end L2

namespace Un
open PySem PySem.Spec PyProof.Rows L2

/-! ### defs as they stand, and as they keep a promise -/
def At (K : PySem.W.Frag) (mg : Str → Option Value) (nm : Str) (st : Stmt) (ps : List Str) : Prop :=
  ∃ (f : Addr) (fd : FuncData), Fun K nm nm st f fd ∧ mg nm = some (.ref f) ∧ Binds K fd ps []
def Cl (P : Program) (w : World) (K : PySem.W.Frag) (mg : Str → Option Value) (base : Heap) (nm : Str) (ps : List Str) (k : Nat) (sp : Sp) : Prop :=
  ∃ (f : Addr) (fd : FuncData), mg nm = some (.ref f) ∧ FnOk P w K mg base CX0 k f fd ps sp ∧ PySem.W.keepIn K (.ref f) = true ∧ Binds K fd ps []
theorem cl_of {P : Program} {w : World} {K : PySem.W.Frag} {mg : Str → Option Value} {base : Heap} {nm : Str} {st : Stmt} {ps : List Str} {k : Nat} {sp : Sp}
    (a : At K mg nm st ps) (h : ∀ f fd, Fun K nm nm st f fd → FnOk P w K mg base CX0 k f fd ps sp) : Cl P w K mg base nm ps k sp := by
  obtain ⟨f, fd, F, m, b⟩ := a
  exact ⟨f, fd, m, h f fd F, F.kp, b⟩
section
variable {X : Cx} {nm : Str} {ps : List Str} {j k : Nat} {sp : Sp} {e : Expr} {es : List Expr} {t : TA} {p pos : Pos}
theorem pe_cl (c : Cl X.prog X.w X.K X.mg X.base nm ps k sp) (hr : Room k X.A) (hg : Gl X nm) (ha : PA X (e :: es) t)
    (hdb : (nm == ("__debug__" : Str)) = false := by decide) (he : starEach (e :: es) X.env = (false, eval e X.env) :: starEach es X.env := by rfl) (hpl : (backTo pos (starEach es X.env)).any (·.1) = false := by rfl) :
    PE X (.Call (.Name nm p) (e :: es) [] pos) (tCall sp [] E0 t) := by
  obtain ⟨f, fd, m, F, kp, b⟩ := c
  exact pe_call F hr hg m kp b .nil pass0 ha hdb he hpl
theorem pe_cl0 (c : Cl X.prog X.w X.K X.mg X.base nm ps k sp) (hr : Room k X.A) (hg : Gl X nm)
    (hdb : (nm == ("__debug__" : Str)) = false := by decide) : PE X (.Call (.Name nm p) [] [] pos) (tCall sp [] E0 tNil) := by
  obtain ⟨f, fd, m, F, kp, b⟩ := c
  exact pe_call0 F hr hg m kp b .nil pass0 hdb
end

/-! ### texts as lists of sgs -/
def tx (l : List Nat) : Str := ⟨l.toArray⟩
theorem tx_cps (l : List Nat) : (tx l).cps.toList = l := by simp [tx]
theorem tx_len (l : List Nat) : (tx l).length = l.length := by simp [tx, Str.length]
theorem tx_inj {a b : List Nat} (h : tx a = tx b) : a = b := by
  have := congrArg (fun s : Str => s.cps.toList) h
  simpa [tx] using this
theorem tx_eq {a b : List Nat} : tx a = tx b ↔ a = b := ⟨tx_inj, fun h => by rw [h]⟩
theorem tx_of (s : Str) : tx s.cps.toList = s := by
  cases s with
  | mk c => simp [tx]
theorem tx_app (a b : List Nat) : tx a ++ tx b = tx (a ++ b) := by
  have e : (tx a ++ tx b) = (⟨(tx a).cps ++ (tx b).cps⟩ : Str) := rfl
  rw [e]
  simp [tx]
theorem tx_one (c : Nat) : (⟨#[c]⟩ : Str) = tx [c] := rfl

/-! ### rules for built-ins -/
def scalR : V → Prop
  | .non => True
  | .bl _ => True
  | .int i => i.natAbs.log2 < 1920
  | .str x => (reprText x).length ≤ sizeLine
  | _ => False
def reprS : V → Str
  | .non => "None"
  | .bl b => if b then "True" else "False"
  | .int i => toString i
  | .str x => reprText x
  | _ => ""
def rRepr : List V → Hp → VK → Prop := fun xs H Q => ∃ x, xs = [x] ∧ scalR x ∧ Q (.str (reprS x)) H
section
variable {X : Cx}
theorem call_reprS : CallR X (.builtin "repr") rRepr := by
  intro pins s σ H xs us Q I r h
  obtain ⟨x, rfl, hx, q⟩ := h
  obtain ⟨u, rfl, rx⟩ := vals1 r
  cases x with
  | non => cases rx; exact PySem.P.repr_of_none ⟨.str _, H, I.tok _, ⟨_, rfl⟩, q⟩
  | bl b => cases rx; exact PySem.P.repr_of_bool ⟨.str _, H, I.tok _, ⟨_, rfl⟩, q⟩
  | int i => obtain ⟨t, rfl⟩ := rx; exact PySem.P.repr_of_int hx ⟨.str _, H, I.tok _, ⟨_, rfl⟩, q⟩
  | str y => obtain ⟨t, rfl⟩ := rx; exact PySem.P.repr_of_str ⟨.str _, H, I.tok _, ⟨_, rfl⟩, q⟩ (hsz := hx)
  | _ => exact hx.elim
def sgs (l : List Nat) : List V := l.map fun c => V.str (tx [c])
theorem vals_of_get : ∀ {xs : List V} {us : List Value}, xs.length = us.length → (∀ (i : Nat) (x : V) (u : Value), xs[i]? = some x → us[i]? = some u → RelV x u) → Vals xs us
  | [], [], _, _ => .nil
  | [], _ :: _, h, _ => by simp at h
  | _ :: _, [], h, _ => by simp at h
  | x :: xs, u :: us, h, f => .cons (f 0 x u rfl rfl) (vals_of_get (by simpa using h) fun i a b ha hb => f (i + 1) a b (by simpa using ha) (by simpa using hb))
theorem call_list_strR (hc : X.calm = true) : CallR X (.type "list") (fun xs H Q => ∃ l : List Nat, xs = [.str (tx l)] ∧ l.length ≤ sizeLine ∧ ∀ p, H p = none → Q (.ref p) (upd H p (.lst (sgs l)))) := by
  intro pins s σ H xs us Q I r h
  obtain ⟨l, rfl, hl, q⟩ := h
  obtain ⟨u, rfl, t, rfl⟩ := vals1 r
  have hs : (tx l).cps.size = l.length := by simp [tx]
  refine PySem.call_list_str (I.ok.hd hc) (tx l) t (fun h' tk acc' c' hk hS hacc => ?_) (hn := by rw [hs]; exact hl)
  obtain ⟨hsz, hget⟩ := hacc
  have hv : Vals (sgs l) acc'.toList := vals_of_get (show (sgs l).length = acc'.toList.length by rw [Array.length_toList (xs := acc'), hsz, hs]; simp [sgs]) fun i x u hx hu => by
    have hu' : acc'[i]? = some u := by rw [← Array.getElem?_toList]; exact hu
    obtain ⟨c, tk', hc', rfl⟩ := hget i u hu'
    have hc2 : l[i]? = some c := by
      have : (tx l).cps[i]? = l[i]? := by simp [tx]
      rw [← this]; exact hc'
    have : x = V.str (tx [c]) := by
      unfold sgs at hx
      rw [List.getElem?_map, hc2] at hx
      exact (Option.some.inj hx).symm
    subst this
    exact ⟨tk', rfl⟩
  exact ⟨.ref s.heap.objs.size, _, I.laid (t' := tk) hk (Nat.le_refl _) (show ObjOk X.prog X.w _ h' _ (.lst (sgs l)) from ⟨by simpa [sgs] using hl, acc'.toList, c', hv, by simpa using hS⟩), rfl, q _ (I.hok.fresh (Nat.le_refl _))⟩
def reps (n : Nat) (l : List Nat) : List Nat := (List.replicate n l).flatten
theorem reps_len (n : Nat) (l : List Nat) : (reps n l).length = n * l.length := by
  unfold reps
  induction n with
  | zero => simp
  | succ n ih =>
    rw [List.replicate_succ, List.flatten_cons, List.length_append, ih, Nat.add_mul, Nat.one_mul, Nat.add_comm]
theorem foldl_app (l : List Nat) : ∀ (n : Nat) (a : Array Nat), ((List.replicate n l.toArray).foldl (· ++ ·) a).toList = a.toList ++ (List.replicate n l).flatten
  | 0, a => by simp
  | n + 1, a => by
    rw [List.replicate_succ, List.foldl_cons, foldl_app l n, List.replicate_succ, List.flatten_cons]
    simp
theorem txt_mul (l : List Nat) (n : Int) : Txt.mul (tx l) n = tx (reps n.toNat l) := by
  unfold Txt.mul
  by_cases h : n < 1
  · rw [if_pos h]
    have : n.toNat = 0 := by omega
    rw [this]
    rfl
  · rw [if_neg h]
    by_cases h1 : (n == 1 || (tx l).length == 0) = true
    · rw [if_pos h1]
      rw [Bool.or_eq_true] at h1
      rcases h1 with h1 | h1
      · have : n = 1 := by simpa using h1
        subst this
        simp [reps]
      · have : l = [] := by simpa [tx, Str.length] using h1
        subst this
        simp [reps]
    · rw [if_neg h1]
      have e := foldl_app l n.toNat #[]
      have e2 : (List.replicate n.toNat (tx l).cps) = List.replicate n.toNat l.toArray := rfl
      rw [e2]
      generalize hg : List.foldl (fun x1 x2 => x1 ++ x2) #[] (List.replicate n.toNat l.toArray) = z at *
      unfold tx reps
      congr 1
      apply Array.ext'
      rw [e]
      simp
theorem op_mul_str : OpR X (binaryOp .Mult) (fun x y H Q => ∃ (l : List Nat) (n : Int), x = .str (tx l) ∧ y = .int n ∧ -100000 ≤ n ∧ n ≤ 100000 ∧ l.length * n.toNat ≤ 100000 ∧ Q (.str (tx (reps n.toNat l))) H) := by
  intro pins s σ H x y v u Q I rx ry h
  obtain ⟨l, n, rfl, rfl, hn0, hn, hl, q⟩ := h
  obtain ⟨t, rfl⟩ := rx
  obtain ⟨t', rfl⟩ := ry
  have hk : (tx l).length = l.length := tx_len l
  refine SB.mul (n := n) ⟨?_, fun h1 _ => ?_, fun h1 _ => ?_⟩ (fun t2 k => ⟨.str (tx (reps n.toNat l)), H, I.tok _, ⟨t2, by rw [txt_mul]⟩, q⟩)
  · simp only [Bool.or_eq_false_iff, decide_eq_false_iff_not]
    constructor <;> omega
  · rw [hk]
    have h2 : (l.length : Int) ≤ 100000 := by
      have : l.length * 1 ≤ l.length * n.toNat := Nat.mul_le_mul_left _ (by omega)
      omega
    have h3 : (100000 : Int) ≤ (2 ^ 63 - 1) / n := by
      refine (Int.le_ediv_iff_mul_le (by omega)).mpr ?_
      omega
    omega
  · rw [hk]
    unfold Builtin.Str.tooLong
    have : (100000 : Nat) ≤ sizeLine := by decide
    simp only [decide_eq_false_iff_not]
    omega

/-! ### rules for texts as lists of sgs -/
theorem pe_strX {x : Str} {j : Nat} {pos : Pos} (l : List Nat) (h : x = tx l) : PE X (.Constant (.str x) j pos) (tC (.str (tx l))) := by
  subst h
  exact pe_str
def rAddX : R2 := fun x y H Q => ∃ a b, x = .str (tx a) ∧ y = .str (tx b) ∧ a.length + b.length ≤ sizeLine ∧ Q (.str (tx (a ++ b))) H
theorem op_addX : OpR X (binaryOp .Add) rAddX := by
  intro pins s σ H x y v u Q I rx ry h
  obtain ⟨a, b, rfl, rfl, hz, q⟩ := h
  exact op_add_str pins s σ H _ _ v u Q I rx ry ⟨_, _, rfl, rfl, by rw [tx_len, tx_len]; exact hz, by rw [tx_app]; exact q⟩
def rMulX : R2 := fun x y H Q => ∃ (l : List Nat) (n : Int), x = .str (tx l) ∧ y = .int n ∧ -100000 ≤ n ∧ n ≤ 100000 ∧ l.length * n.toNat ≤ 100000 ∧ Q (.str (tx (reps n.toNat l))) H
theorem op_mulT : OpR X (binaryOp .Mult) rMulX := op_mul_str
def rInX (neg : Bool) : R2 := fun x y H Q => ∃ (c : Nat) (z : List Nat), x = .str (tx [c]) ∧ y = .str (tx z) ∧ Q (.bl (if neg then !decide (c ∈ z) else decide (c ∈ z))) H
theorem op_inX : OpR X (compareOp .In) (rInX false) := by
  intro pins s σ H x y v u Q I rx ry h
  obtain ⟨c, z, rfl, rfl, q⟩ := h
  exact op_in_sign pins s σ H _ _ v u Q I rx ry ⟨c, tx z, rfl, rfl, by rw [tx_cps]; exact q⟩
theorem op_notInX : OpR X (compareOp .NotIn) (rInX true) := by
  intro pins s σ H x y v u Q I rx ry h
  obtain ⟨c, z, rfl, rfl, q⟩ := h
  exact op_notIn_sign pins s σ H _ _ v u Q I rx ry ⟨c, tx z, rfl, rfl, by rw [tx_cps]; exact q⟩
def rLtX : R2 := fun x y H Q => ∃ a b, x = .str (tx a) ∧ y = .str (tx b) ∧ Q (.bl (decide (a < b))) H
theorem op_ltX : OpR X (compareOp .Lt) rLtX := by
  intro pins s σ H x y v u Q I rx ry h
  obtain ⟨a, b, rfl, rfl, q⟩ := h
  exact op_lt_str pins s σ H _ _ v u Q I rx ry ⟨_, _, rfl, rfl, by rw [tx_cps, tx_cps]; exact q⟩
def rLeX : R2 := fun x y H Q => ∃ a b, x = .str (tx a) ∧ y = .str (tx b) ∧ Q (.bl (!decide (b < a))) H
theorem rLenX_aux (l : List Nat) : ((tx l).length : Int) = (l.length : Int) := by rw [tx_len]
def rLenX : List V → Hp → VK → Prop := fun xs H Q => ∃ l, xs = [.str (tx l)] ∧ l.length ≤ sizeLine ∧ Q (.int (l.length : Nat)) H
theorem call_lenX : CallR X (.builtin "len") rLenX := by
  intro pins s σ H xs us Q I r h
  obtain ⟨l, rfl, hz, q⟩ := h
  exact call_len_str pins s σ H _ us Q I r ⟨tx l, rfl, by rw [tx_len]; exact hz, by rw [tx_len]; exact q⟩
def rIxX : R2 := fun x y H Q => ∃ (l : List Nat) (i : Int) (c : Nat), x = .str (tx l) ∧ y = .int i ∧ l.length ≤ sizeLine ∧ atI l i = some c ∧ Q (.str (tx [c])) H
theorem ix_strX : IxR X rIxX := by
  intro value slice pins s σ H x y v u Q I rx ry h hs
  obtain ⟨l, i, c, rfl, rfl, hz, ha, q⟩ := h
  exact ix_str value slice pins s σ H _ _ v u Q I rx ry ⟨tx l, i, c, rfl, rfl, by rw [tx_len]; exact hz, by rw [tx_cps]; exact ha, q⟩ hs
def cutL (l : List Nat) (lo hi : Option Int) : List Nat := (l.drop (HT.sIx l.length 0 lo)).take (HT.sIx l.length l.length hi - HT.sIx l.length 0 lo)
theorem cutS_tx (l : List Nat) (lo hi : Option Int) : cutS (tx l) lo hi = tx (cutL l lo hi) := by
  unfold cutS cutL
  rw [tx_len, tx_cps]
  rfl
def rSlX : V → Option Int → Option Int → Hp → VK → Prop := fun x lo hi H Q => ∃ l, x = .str (tx l) ∧ l.length ≤ sizeLine ∧ Q (.str (tx (cutL l lo hi))) H
theorem sl_strX : SlR X rSlX := by
  intro pins s σ H x v vl vu l u a Q I rx hsl pl pu h
  obtain ⟨z, rfl, hz, q⟩ := h
  exact sl_str pins s σ H _ v vl vu l u a Q I rx hsl pl pu ⟨tx z, rfl, by rw [tx_len]; exact hz, by rw [cutS_tx]; exact q⟩
/-- letters.index(c), each letter once -/
theorem occ_nodup {z : List Nat} (nd : z.Nodup) {i : Nat} {c : Nat} (h : z[i]? = some c) : ∃ rest, Builtin.Str.occurrences (tx z) (tx [c]) 0 (tx z).length 1 = i :: rest := by
  have hc : c ∈ z := List.mem_of_getElem? h
  have hf := PySem.StrLaws.found_one (tx z) c
  rw [tx_cps, decide_eq_true hc] at hf
  have hsp := PySem.StrLaws.occ_spec (tx z) (tx [c]) 0 (tx z).length 1
  have e1 : (⟨#[c]⟩ : Str) = tx [c] := rfl
  rw [e1] at hf
  cases ho : Builtin.Str.occurrences (tx z) (tx [c]) 0 (tx z).length 1 with
  | nil => rw [ho] at hf; simp at hf
  | cons j rest =>
    obtain ⟨hj, hs⟩ := hsp j (by rw [ho]; exact List.mem_cons_self)
    rw [tx_len, tx_len] at hj
    have hj2 : z[j]? = some c := by
      unfold Builtin.Str.subAt at hs
      have h3 : (tx z).cps.extract j (j + (tx [c]).length) = (tx [c]).cps := by simpa using hs
      have h4 := congrArg Array.toList h3
      rw [tx_len] at h4
      simp only [tx, List.length_cons, List.length_nil, Nat.zero_add, Array.toList_extract, List.extract_eq_take_drop] at h4
      have h5 : (List.take 1 (List.drop j z))[0]? = some c := by
        have : j + 1 - j = 1 := by omega
        rw [this] at h4
        rw [h4]; rfl
      simpa using h5
    have : j = i := by
      have l1 : j < z.length := (List.getElem?_eq_some_iff.mp hj2).1
      have l2 : i < z.length := (List.getElem?_eq_some_iff.mp h).1
      exact (List.getElem_inj (h₀ := l1) (h₁ := l2) nd).mp (by
        rw [List.getElem?_eq_getElem l1] at hj2
        rw [List.getElem?_eq_getElem l2] at h
        exact (Option.some.inj hj2).trans (Option.some.inj h).symm)
    subst this
    exact ⟨rest, rfl⟩
def rIndexX : V → List V → Hp → VK → Prop := fun x xs H Q => ∃ (z : List Nat) (c i : Nat), x = .str (tx z) ∧ xs = [.str (tx [c])] ∧ z.Nodup ∧ z[i]? = some c ∧ Q (.int (i : Nat)) H
theorem mt_indexT : MtR X "str.index" rIndexX := by
  intro pins s σ H x xs v us Q I rx rs h
  obtain ⟨z, c, i, rfl, rfl, nd, hi, q⟩ := h
  obtain ⟨rest, ho⟩ := occ_nodup nd hi
  exact mt_sindex pins s σ H _ _ v us Q I rx rs ⟨_, _, i, rest, rfl, rfl, ho, q⟩
theorem join_tx : ∀ ls : List (List Nat), Str.join ("" : Str) (ls.map tx) = tx ls.flatten
  | [] => rfl
  | [a] => by simp [Str.join]
  | a :: b :: r => by
    have h := join_tx (b :: r)
    rw [List.map_cons] at h
    have e : Str.join ("" : Str) (tx a :: tx b :: r.map tx) = tx a ++ "" ++ Str.join ("" : Str) (tx b :: r.map tx) := rfl
    rw [List.map_cons, List.map_cons, e, h, List.flatten_cons (l := a)]
    have e0 : ("" : Str) = tx [] := rfl
    rw [e0, tx_app, tx_app, List.append_nil]
def rJoinX (K : PySem.W.Frag) : V → List V → Hp → VK → Prop := fun x xs H Q => ∃ (p : Addr) (ls : List (List Nat)), x = .str (tx []) ∧ xs = [.ref p] ∧ SqL K H p (ls.map fun l => V.str (tx l)) ∧ (ls.map List.length).sum ≤ 16777216 ∧ Q (.str (tx ls.flatten)) H
theorem mt_joinX : MtR X "str.join" (rJoinX X.K) := by
  intro pins s σ H x xs v us Q I rx rs h
  obtain ⟨p, ls, rfl, rfl, hp, hz, q⟩ := h
  refine mt_join pins s σ H _ _ v us Q I rx rs ⟨tx [], p, ls.map tx, rfl, rfl, .inl ?_, ?_, ?_⟩
  · rw [List.map_map]; exact hp
  · have : (List.map (fun x => x.length) (List.map tx ls)) = ls.map List.length := by
      rw [List.map_map]; exact List.map_congr_left fun l _ => tx_len l
    rw [this]
    have e0 : (tx []).length = 0 := rfl
    rw [e0]; omega
  · have : Txt.join (tx []) (ls.map tx) = tx ls.flatten := (PySem.StrLaws.glued_eq_join _ _).trans (join_tx ls)
    rw [this]; exact q
end
end Un

namespace Un
open PySem PySem.Spec PyProof.Rows L2
section
variable {K : PySem.W.Frag} {σ : L2.St} {H : Hp} {Q : VK} {D : Ends} {i j : Nat} {v x y : V} {ta tb te : TE} {tr : TA} {t u c : TT} {r : R2} {g : TG} {tu tw : TS} {A B R : Prop}
theorem rd_var (h : σ[i]? = some (some v)) (q : Q v H) : tVar i σ H Q := ⟨v, h, q⟩
theorem rd_c (q : Q v H) : tC v σ H Q := q
theorem rd_op (h : ta σ H fun x H1 => tb σ H1 fun y H2 => r x y H2 Q) : tOp r ta tb σ H Q := h
theorem rd_un {r : V → Hp → VK → Prop} (h : ta σ H fun x H1 => r x H1 Q) : tUn r ta σ H Q := h
theorem rd_I0 {g : Int → Int → V} {a b : Int} (q : Q (g a b) H) : rI0 g (.int a) (.int b) H Q := ⟨a, b, rfl, rfl, q⟩
theorem rd_I {C : Int → Int → Prop} {g : Int → Int → V} {a b : Int} (hc : C a b) (q : Q (g a b) H) : rI C g (.int a) (.int b) H Q := ⟨a, b, rfl, rfl, hc, q⟩
theorem rd_U {g : Int → V} {a : Int} (q : Q (g a) H) : rU g (.int a) H Q := ⟨a, rfl, q⟩
theorem rd_eq (hs : scal x y = true) (q : Q (.bl (decide (x = y))) H) : rEq x y H Q := ⟨hs, q⟩
theorem rd_ne (hs : scal x y = true) (q : Q (.bl (!decide (x = y))) H) : rNe x y H Q := ⟨hs, q⟩
theorem rd_isN (q : Q (.bl (decide (x = .non))) H) : (fun x y H Q => y = V.non ∧ Q (.bl (decide (x = .non))) H : R2) x .non H Q := ⟨rfl, q⟩
theorem rd_test {Q : Bool → Hp → Prop} (h : te σ H fun x H' => ∃ k, x = .bl k ∧ Q k H') : tTest te σ H Q := h
theorem rd_B {Q : Bool → Hp → Prop} (h : te σ H fun x H' => ∃ k, x = .bl k ∧ Q k H') : tB te σ H Q := h
theorem rd_bl {b : Bool} {P : Bool → Prop} (q : P b) : ∃ k, V.bl b = V.bl k ∧ P k := ⟨b, rfl, q⟩
theorem rd_and {Q : Bool → Hp → Prop} (h : t σ H fun c H1 => if c = true then u σ H1 Q else Q false H1) : tAnd t u σ H Q := h
theorem rd_or {Q : Bool → Hp → Prop} (h : t σ H fun c H1 => if c = true then Q true H1 else u σ H1 Q) : tOr t u σ H Q := h
theorem rd_not {Q : Bool → Hp → Prop} (h : t σ H fun c H1 => Q (!c) H1) : tNot t σ H Q := h
theorem rd_andV (h : ta σ H fun x H1 => ∃ c, x = .bl c ∧ if c = true then tb σ H1 Q else Q (.bl false) H1) : tAndV ta tb σ H Q := h
theorem rd_orV (h : ta σ H fun x H1 => ∃ c, x = .bl c ∧ if c = true then Q (.bl true) H1 else tb σ H1 Q) : tOrV ta tb σ H Q := h
theorem rd_notV (h : ta σ H fun x H1 => ∃ c, x = .bl c ∧ Q (.bl (!c)) H1) : tNotV ta σ H Q := h
theorem rd_if (h : t σ H fun c H1 => if c = true then ta σ H1 Q else tb σ H1 Q) : tIf t ta tb σ H Q := h
theorem rd_ite {b : Bool} (h1 : b = true → A) (h2 : b = false → B) : if b = true then A else B := by
  cases b with
  | true => exact h1 rfl
  | false => exact h2 rfl
theorem rd_seq (h : tu { D with nx := tw D } σ H) : tSeq tu tw D σ H := h
theorem rd_asg (h : te σ H fun x H1 => g x σ H1 D.nx) : tAsg te g D σ H := h
theorem rd_gname {Q : L2.St → Hp → Prop} (h : Q (σ.set i (some v)) H) : gName i v σ H Q := h
theorem rd_gsub {to ti : TE} {t : TSet} {Q : L2.St → Hp → Prop} (h : to σ H fun o H1 => ti σ H1 fun i H2 => t o i v H2 fun H3 => Q σ H3) : gSub to ti t v σ H Q := h
theorem rd_gtup {n : Nat} {tt : TGs} {a : Addr} {xs : List V} {Q : L2.St → Hp → Prop} (h : SqT K H a xs) (hn : xs.length = n) (q : tt xs σ H Q) : gTup K n tt (.ref a) σ H Q := ⟨a, xs, rfl, h, hn, q⟩
theorem rd_gcons {t : TG} {u : TGs} {v : V} {vs : List V} {Q : L2.St → Hp → Prop} (h : t v σ H fun σ' H' => u vs σ' H' Q) : gCons t u (v :: vs) σ H Q := ⟨v, vs, rfl, h⟩
theorem rd_gnil {Q : L2.St → Hp → Prop} (h : Q σ H) : gNil [] σ H Q := ⟨rfl, h⟩
theorem rd_ifS (h : c σ H fun b H1 => if b = true then tu D σ H1 else tw D σ H1) : tIfS c tu tw D σ H := h
theorem rd_ret (h : te σ H D.rt) : tRet te D σ H := h
theorem rd_retN (h : D.rt .non H) : tRetN D σ H := h
theorem rd_drop (h : te σ H fun _ H1 => D.nx σ H1) : tDrop te D σ H := h
theorem rd_next (h : D.nx σ H) : tNext D σ H := h
theorem rd_break (h : D.bk σ H) : tBreak D σ H := h
theorem rd_cont (h : D.ct σ H) : tCont D σ H := h
theorem rd_call {sp : Sp} {dvs : List V} {E : XK} (h : tr σ H fun vs H1 => sp (vs ++ dvs) H1 Q E) : tCall sp dvs E tr σ H Q := h
theorem rd_cons {Q : List V → Hp → Prop} (h : te σ H fun x H1 => tr σ H1 fun xs H2 => Q (x :: xs) H2) : tCons te tr σ H Q := h
theorem rd_nil {Q : List V → Hp → Prop} (h : Q [] H) : tNil σ H Q := h
theorem rd_cb {r : List V → Hp → VK → Prop} (h : tr σ H fun vs H1 => r vs H1 Q) : tCB r tr σ H Q := h
theorem rd_bm {T : String} {r : V → List V → Hp → VK → Prop} (h : te σ H fun x H1 => tyV K T x H1 ∧ tr σ H1 fun xs H2 => r x xs H2 Q) : tBM K T r te tr σ H Q := h
theorem rd_bm0 {T : String} {r : V → List V → Hp → VK → Prop} (h : te σ H fun x H1 => tyV K T x H1 ∧ r x [] H1 Q) : tBM0 K T r te σ H Q := h
theorem rd_tyS {z : Str} (q : R) : tyV K "str" (.str z) H ∧ R := ⟨rfl, q⟩
theorem rd_tyL {p : Addr} {xs : List V} (h : SqL K H p xs) (q : R) : tyV K "list" (.ref p) H ∧ R := ⟨.inl ⟨rfl, _, h⟩, q⟩
theorem rd_lst (h : tr σ H fun xs H1 => xs.length ≤ sizeLine ∧ ∀ p, H1 p = none → Q (.ref p) (upd H1 p (.lst xs))) : tLst tr σ H Q := h
theorem rd_tup (h : tr σ H fun xs H1 => xs.length ≤ sizeLine ∧ ∀ p, H1 p = none → Q (.ref p) (upd H1 p (.tup xs))) : tTup tr σ H Q := h
theorem rd_sl {r : V → Option Int → Option Int → Hp → VK → Prop} {tl th : TO} (h : te σ H fun x H1 => tl σ H1 fun l H2 => th σ H2 fun u H3 => r x l u H3 Q) : tSl r te tl th σ H Q := h
theorem rd_part {Q : Option Int → Hp → Prop} (h : te σ H fun x H1 => ∃ i, x = .int i ∧ Q (some i) H1) : tPart te σ H Q := h
theorem rd_some {a : Int} {P : Int → Prop} (q : P a) : ∃ i, V.int a = .int i ∧ P i := ⟨a, rfl, q⟩
theorem rd_strE {z : Str} {P : Str → Prop} (q : P z) : ∃ y, V.str z = .str y ∧ P y := ⟨z, rfl, q⟩
theorem rd_one {a : V} {P : V → Prop} (q : P a) : ∃ x, [a] = [x] ∧ P x := ⟨a, rfl, q⟩
theorem rd_nopart {Q : Option Int → Hp → Prop} (h : Q none H) : tNoPart σ H Q := h
theorem rd_par {ta : TA} (h : ta σ H fun vs H1 => ∃ v w, vs = [v, w] ∧ D.nx ((σ.set i (some v)).set j (some w)) H1) : tPar i j ta D σ H := h
theorem rd_two {P : V → V → Prop} {a b : V} (q : P a b) : ∃ v w, [a, b] = [v, w] ∧ P v w := ⟨a, b, rfl, q⟩
/-- named rules -/
theorem rd_addX {a b : List Nat} (hz : a.length + b.length ≤ sizeLine) (q : Q (.str (tx (a ++ b))) H) : rAddX (.str (tx a)) (.str (tx b)) H Q := ⟨a, b, rfl, rfl, hz, q⟩
theorem rd_mulX {l : List Nat} {n : Int} (h1 : -100000 ≤ n) (h2 : n ≤ 100000) (h3 : l.length * n.toNat ≤ 100000) (q : Q (.str (tx (reps n.toNat l))) H) : rMulX (.str (tx l)) (.int n) H Q := ⟨l, n, rfl, rfl, h1, h2, h3, q⟩
theorem rd_inX {neg : Bool} {n : Nat} {z : List Nat} (q : Q (.bl (if neg then !decide (n ∈ z) else decide (n ∈ z))) H) : rInX neg (.str (tx [n])) (.str (tx z)) H Q := ⟨n, z, rfl, rfl, q⟩
theorem rd_ltX {a b : List Nat} (q : Q (.bl (decide (a < b))) H) : rLtX (.str (tx a)) (.str (tx b)) H Q := ⟨a, b, rfl, rfl, q⟩
theorem rd_lenX {l : List Nat} (hz : l.length ≤ sizeLine) (q : Q (.int (l.length : Nat)) H) : rLenX [.str (tx l)] H Q := ⟨l, rfl, hz, q⟩
theorem rd_ixX {l : List Nat} {a : Int} {n : Nat} (hz : l.length ≤ sizeLine) (h : atI l a = some n) (q : Q (.str (tx [n])) H) : rIxX (.str (tx l)) (.int a) H Q := ⟨l, a, n, rfl, rfl, hz, h, q⟩
theorem rd_slX {l : List Nat} {lo hi : Option Int} (hz : l.length ≤ sizeLine) (q : Q (.str (tx (cutL l lo hi))) H) : rSlX (.str (tx l)) lo hi H Q := ⟨l, rfl, hz, q⟩
theorem rd_indexX {z : List Nat} {n k : Nat} (nd : z.Nodup) (h : z[k]? = some n) (q : Q (.int (k : Nat)) H) : rIndexX (.str (tx z)) [.str (tx [n])] H Q := ⟨z, n, k, rfl, rfl, nd, h, q⟩
theorem rd_repr (hx : scalR x) (q : Q (.str (reprS x)) H) : rRepr [x] H Q := ⟨x, rfl, hx, q⟩
theorem rd_ixL {p : Addr} {xs : List V} {a : Int} (h : SqL K H p xs) (ha : atI xs a = some v) (q : Q v H) : rIxL K (.ref p) (.int a) H Q := ⟨p, xs, a, v, rfl, rfl, h, ha, q⟩
theorem rd_ixT {p : Addr} {xs : List V} {a : Int} (h : SqT K H p xs) (ha : atI xs a = some v) (q : Q v H) : rIxT K (.ref p) (.int a) H Q := ⟨p, xs, a, v, rfl, rfl, h, ha, q⟩
theorem rd_setL {p : Addr} {xs : List V} {a : Int} {n : Nat} {Q : Hp → Prop} (h : H p = some (.lst xs)) (ha : ixN xs.length a = some n) (q : Q (upd H p (.lst (xs.set n v)))) : rSetL (.ref p) (.int a) v H Q := ⟨p, xs, a, n, rfl, rfl, h, ha, q⟩
theorem rd_app {p : Addr} {xs : List V} (h : H p = some (.lst xs)) (hz : xs.length < sizeLine) (q : Q .non (upd H p (.lst (xs ++ [v])))) : rAppend (.ref p) [v] H Q := ⟨p, xs, v, rfl, rfl, h, hz, q⟩
theorem rd_pop {p : Addr} {xs : List V} (h : H p = some (.lst (xs ++ [v]))) (q : Q v (upd H p (.lst xs))) : rPop (.ref p) [] H Q := ⟨p, xs ++ [v], v, rfl, rfl, h, by simp, by rw [List.dropLast_concat]; exact q⟩
end
/-! ### heaps: what stays when two objects D and L change -/
def Keep (D L : Addr) (H H' : Hp) : Prop := ∀ a o, H a = some o → a ≠ D → a ≠ L → H' a = some o
theorem Keep.refl {D L : Addr} (H : Hp) : Keep D L H H := fun _ _ h _ _ => h
theorem Keep.trans {D L : Addr} {H H1 H2 : Hp} (a : Keep D L H H1) (b : Keep D L H1 H2) : Keep D L H H2 := fun c o h h1 h2 => b c o (a c o h h1 h2) h1 h2
theorem Keep.new {D L p : Addr} {H : Hp} {o : HO} (h : H p = none) : Keep D L H (upd H p o) := fun a u e _ _ => by
  rw [upd_ne (ne_of_none e h)]
  exact e
theorem Keep.own {D L p : Addr} {H : Hp} {o : HO} (h : p = D ∨ p = L) : Keep D L H (upd H p o) := fun a u e h1 h2 => by
  rw [upd_ne (by rcases h with h | h <;> (rw [h]; assumption))]
  exact e
theorem Keep.of_same {D L : Addr} {H H' : Hp} (h : Same H H') : Keep D L H H' := fun a o e _ _ => h a o e
theorem same_upd {H : Hp} {p : Addr} {o : HO} (h : H p = none) : Same H (upd H p o) := fun b x e => by
  rw [upd_ne (ne_of_none e h)]
  exact e
theorem mulW_of {i j : Int} (h1 : i.natAbs < 2 ^ 250) (h2 : j.natAbs < 2 ^ 250) : CMulW i j := wide_mul h1 h2 (by decide) (by decide) (by decide)

/-! ### flat lists as data -/
theorem dpAll_ints {K : PySem.W.Frag} {H : Hp} : ∀ ns : List Int, DpAll K H (ns.map V.int) (ns.map PyData.int)
  | [] => .nil
  | n :: r => .cons (.int n) (dpAll_ints r)
theorem canLay_ints : ∀ ns : List Int, PyData.canLayAll0 (ns.map PyData.int) = true
  | [] => by simp [PyData.canLayAll0]
  | n :: r => by
    have h := canLay_ints r
    simp [PyData.canLayAll0, PyData.canLay0, h]
theorem depth_ints : ∀ ns : List Int, PyData.depthAll (ns.map PyData.int) = 0
  | [] => by simp [PyData.depthAll]
  | n :: r => by
    have h := depth_ints r
    simp [PyData.depthAll, PyData.depth, h]
theorem shaped_ints (ns : List Int) : SeqAt.shaped (.list (ns.map PyData.int)) = true := by
  unfold SeqAt.shaped
  simp [PyData.canLay0, canLay_ints, PyData.depth, depth_ints]
theorem eqv_nil_list (ds : List PyData) : PyData.eqv (.list ds) (.list []) = ds.isEmpty := by
  cases ds <;> simp [PyData.eqv, PyData.eqvAll]
section
variable {K : PySem.W.Frag} {H : Hp} {Q : VK}
theorem rd_neNil {p e : Addr} {ns : List Int} (h1 : SqL K H p (ns.map V.int)) (h2 : SqL K H e []) (q : Q (.bl (!ns.isEmpty)) H) : rNeD K (.ref p) (.ref e) H Q :=
  ⟨.list (ns.map PyData.int), .list [], .lst h1 (dpAll_ints ns), .lst h2 .nil, shaped_ints ns, shaped_ints [], by
    rw [eqv_nil_list]
    cases ns <;> exact q⟩
theorem rd_int1 {i : Int} {x : List Int} (q : Q (.int i) H) : (∃ j, [V.int i] = [V.int j] ∧ Q (.int j) H) ∨ ∃ k, [V.int i] = [V.bl k] ∧ Q (.int (if k = true then 1 else 0)) H := .inl ⟨i, rfl, q⟩
end
theorem atI_last1 {xs : List V} {v : V} (h : xs.getLast? = some v) : atI xs (-1) = some v := by
  obtain ⟨ys, rfl⟩ : ∃ ys, xs = ys ++ [v] := by
    cases hx : xs with
    | nil => rw [hx] at h; simp at h
    | cons a r =>
      have := List.dropLast_concat_getLast (l := xs) (by rw [hx]; simp)
      rw [List.getLast?_eq_getLast (by rw [hx]; simp)] at h
      exact ⟨xs.dropLast, by rw [← hx, ← Option.some.inj h, this]⟩
  exact atI_last _ _

/-! ### built-ins under names -/
def rIntI : List V → Hp → VK → Prop := fun xs H Q => ∃ i, xs = [.int i] ∧ Q (.int i) H
def rIntB : List V → Hp → VK → Prop := fun xs H Q => ∃ b : Bool, xs = [.bl b] ∧ Q (.int (if b then 1 else 0)) H
def rStrS : List V → Hp → VK → Prop := fun xs H Q => ∃ a, xs = [.str a] ∧ Q (.str a) H
def rListX : List V → Hp → VK → Prop := fun xs H Q => ∃ l : List Nat, xs = [.str (tx l)] ∧ l.length ≤ sizeLine ∧ ∀ p, H p = none → Q (.ref p) (upd H p (.lst (sgs l)))
def rDivmod : List V → Hp → VK → Prop := fun xs H Q => ∃ i j, xs = [.int i, .int j] ∧ 0 < j ∧ j.natAbs.log2 < 9000 ∧ ∀ p, H p = none → Q (.ref p) (upd H p (.tup [.int (i / j), .int (i % j)]))
def rLenQ (K : PySem.W.Frag) : List V → Hp → VK → Prop := fun xs H Q => ∃ p ys, xs = [.ref p] ∧ (SqL K H p ys ∨ SqT K H p ys) ∧ Q (.int (ys.length : Nat)) H
def rSplitW (K : PySem.W.Frag) : List V → Hp → VK → Prop := fun xs H Q => ∃ p ys, xs = [.ref p] ∧ (SqL K H p ys ∨ SqT K H p ys) ∧ ∀ l, H l = none → Q (.ref l) (upd H l (.lst ys))
section
variable {X : Cx}
theorem call_intI : CallR X (.type "int") rIntI := fun pins s σ H xs us Q I r h => call_int1 pins s σ H xs us Q I r (.inl h)
theorem call_intB : CallR X (.type "int") rIntB := fun pins s σ H xs us Q I r h => call_int1 pins s σ H xs us Q I r (.inr h)
theorem call_strS : CallR X (.type "str") rStrS := SkE.call_str_str
theorem call_listX (hc : X.calm = true) : CallR X (.type "list") rListX := call_list_strR hc
theorem call_lenQ : CallR X (.builtin "len") (rLenQ X.K) := call_len_seq
theorem call_listQ : CallR X (.type "list") (rSplitW X.K) := call_list_of
end
section
variable {K : PySem.W.Frag} {H : Hp} {Q : VK}
theorem rd_intI {i : Int} (q : Q (.int i) H) : rIntI [.int i] H Q := ⟨i, rfl, q⟩
theorem rd_intB {b : Bool} (q : Q (.int (if b then 1 else 0)) H) : rIntB [.bl b] H Q := ⟨b, rfl, q⟩
theorem rd_strS {a : Str} (q : Q (.str a) H) : rStrS [.str a] H Q := ⟨a, rfl, q⟩
theorem rd_listX {l : List Nat} (hl : l.length ≤ sizeLine) (q : ∀ p, H p = none → Q (.ref p) (upd H p (.lst (sgs l)))) : rListX [.str (tx l)] H Q := ⟨l, rfl, hl, q⟩
theorem rd_lenL {p : Addr} {ys : List V} (h : SqL K H p ys) (q : Q (.int (ys.length : Nat)) H) : rLenQ K [.ref p] H Q := ⟨p, ys, rfl, .inl h, q⟩
theorem rd_lenT {p : Addr} {ys : List V} (h : SqT K H p ys) (q : Q (.int (ys.length : Nat)) H) : rLenQ K [.ref p] H Q := ⟨p, ys, rfl, .inr h, q⟩
theorem rd_all {p : Addr} {bs : List Bool} (h : SqL K H p (bs.map V.bl)) (q : Q (.bl (bs.all id)) H) : rAll K [.ref p] H Q := ⟨p, bs, rfl, h, q⟩
theorem rd_sortS {p : Addr} {zs : List Str} (h : SqL K H p (zs.map V.str)) (hl : zs.length < 64) (q : ∀ (ys : List Str) (p : Addr), ys.Perm zs → sortedS ys = true → H p = none → Q (.ref p) (upd H p (.lst (ys.map V.str)))) : rSortedS K [.ref p] H Q := ⟨p, zs, rfl, h, hl, q⟩
theorem rd_popAt {p : Addr} {xs : List V} {i : Nat} {y : V} (h : H p = some (.lst xs)) (hi : i < 2 ^ 62) (hy : xs[i]? = some y) (q : Q y (upd H p (.lst (xs.eraseIdx i)))) : rPopAt (.ref p) [.int (i : Nat)] H Q := by
  have hl : i < xs.length := (List.getElem?_eq_some_iff.mp hy).1
  refine ⟨p, xs, (i : Int), i, y, rfl, rfl, h, by omega, by omega, ?_, hy, q⟩
  unfold seqIndex?
  simp
  omega
theorem rd_joinX {p : Addr} {ls : List (List Nat)} (h : SqL K H p (ls.map fun l => V.str (tx l))) (hz : (ls.map List.length).sum ≤ 16777216) (q : Q (.str (tx ls.flatten)) H) : rJoinX K (.str (tx [])) [.ref p] H Q := ⟨p, ls, rfl, rfl, h, hz, q⟩
theorem rd_slL {p : Addr} {xs : List V} {lo hi : Option Int} (h : SqL K H p xs) (q : ∀ n, H n = none → Q (.ref n) (upd H n (.lst (cutV xs lo hi)))) : rSlL K (.ref p) lo hi H Q := ⟨p, xs, rfl, h, q⟩
theorem rd_revL {σ : L2.St} {te : TE} (h : te σ H fun x H1 => ∃ a xs, x = .ref a ∧ SqL K H1 a xs ∧ ∀ p, H1 p = none → Q (.ref p) (upd H1 p (.lst xs.reverse))) : tRevL K te σ H Q := h
end

/-! ### comprehensions and loops -/
theorem same_mut {H H' : Hp} {p : Addr} {o : HO} (e : Same H H') (h : H p = none) : Same H (upd H' p o) := fun a u ha => by
  rw [upd_ne (ne_of_none ha h)]
  exact e a u ha
theorem Keep.mut {D L p : Addr} {H H' : Hp} {o : HO} (e : Keep D L H H') (h : H p = none) : Keep D L H (upd H' p o) := fun a u ha h1 h2 => by
  rw [upd_ne (ne_of_none ha h)]
  exact e a u ha h1 h2
section
variable {K : PySem.W.Frag} {σ : L2.St} {H : Hp} {Q : VK} {D : Ends} {tl te : TE} {tt : TT} {g : TG} {tb : TS} {wi : TI} {vs : List Nat} {R : It → Hp → Prop}
theorem rd_lc (h : wi σ H fun J H1 => ∀ D, H1 D = none → ∃ W : Nat → Nat → Hp → Prop, (∃ m, W 0 m (upd H1 D (.lst []))) ∧ ∀ i m H, W i m H →
  (J.stop i H ∧ Q (.ref D) H) ∨ (J.go i H ∧ ∃ Nx : Hp → Prop, (∀ H', Nx H' → ∃ m', m' < m ∧ W (i + 1) m' H') ∧ ∀ x H', J.yld i H x H' → g x (wipe σ vs) H' fun σ2 H2 => wipe σ2 vs = wipe σ vs ∧ tt σ2 H2 fun b H3 =>
    if b = true then te σ2 H3 fun y H4 => ∃ acc, H4 D = some (.lst acc) ∧ acc.length < sizeLine ∧ Nx (upd H4 D (.lst (acc ++ [y]))) else Nx H3)) : tLc wi g tt te vs σ H Q := h
theorem rd_iList (h : tl σ H fun x H1 => ∃ a, x = .ref a ∧ (∃ xs, SqL K H1 a xs) ∧ R (Itl K a) H1) : iList K tl σ H R := h
theorem rd_iStr (h : tl σ H fun v H1 => ∃ x, v = .str x ∧ R (Its x) H1) : iStr tl σ H R := h
theorem rd_iTup (h : tl σ H fun x H1 => ∃ a, x = .ref a ∧ (∃ xs, SqT K H1 a xs) ∧ R (Itt K a) H1) : iTup K tl σ H R := h
theorem rd_for (h : wi σ H fun J H1 => ∃ W : Nat → Nat → L2.St → Hp → Prop, (∃ m, W 0 m σ H1) ∧ ∀ i m σ H, W i m σ H →
  (J.stop i H ∧ D.nx σ H) ∨ (J.go i H ∧ ∃ N : L2.St → Hp → Prop, (∀ σ' H', N σ' H' → ∃ m', m' < m ∧ W (i + 1) m' σ' H') ∧ ∀ x H', J.yld i H x H' → g x σ H' fun σ2 H2 => tb { D with nx := N, ct := N, bk := D.nx } σ2 H2)) : tFor wi g tb D σ H := h
theorem rd_rng1 {ta : TA} (h : ta σ H fun vs H1 => ∃ j : Int, vs = [.int j] ∧ -(2 ^ 62) ≤ j ∧ j < 2 ^ 62 ∧ R (Itr 0 j.toNat) H1) : iRng1 ta σ H R := h
theorem rd_rng2 {ta : TA} (h : ta σ H fun vs H1 => ∃ i j : Int, vs = [.int i, .int j] ∧ (-(2 ^ 62) ≤ i ∧ i < 2 ^ 62 ∧ -(2 ^ 62) ≤ j ∧ j < 2 ^ 62) ∧ R (Itr i (j - i).toNat) H1) : iRng2 ta σ H R := h
theorem rd_yes {Q : Bool → Hp → Prop} (h : Q true H) : tYes σ H Q := h
theorem rd_cut {t u : TS} (Mid : L2.St → Hp → Prop) (h : t { D with nx := Mid } σ H) (k : ∀ σ' H', Mid σ' H' → u D σ' H') : Evl.tCut t u D σ H := ⟨Mid, h, k⟩
end
theorem cutV_ints (ns : List Int) (lo hi : Option Int) : ∃ zs : List Int, cutV (ns.map V.int) lo hi = zs.map V.int ∧ zs.length ≤ ns.length := by
  refine ⟨(ns.drop (HT.sIx (ns.map V.int).length 0 lo)).take (HT.sIx (ns.map V.int).length (ns.map V.int).length hi - HT.sIx (ns.map V.int).length 0 lo), ?_, ?_⟩
  · unfold cutV
    rw [List.map_take, List.map_drop]
  · rw [List.length_take, List.length_drop]
    omega
theorem take_snoc {α β : Type} {xs : List α} {i : Nat} {x : α} (f : α → β) (h : xs[i]? = some x) : (xs.take (i + 1)).map f = (xs.take i).map f ++ [f x] := by
  rw [List.take_add_one, h, List.map_append]
  rfl
theorem get_map {α : Type} {xs : List α} {f : α → V} {i : Nat} {v : V} (h : (xs.map f)[i]? = some v) : ∃ x, xs[i]? = some x ∧ v = f x := by
  rw [List.getElem?_map] at h
  cases e : xs[i]? with
  | none => rw [e] at h; cases h
  | some x => rw [e] at h; exact ⟨x, rfl, (Option.some.inj h).symm⟩

/-! ### a sequence that is a list or a text -/
def rLenA (K : PySem.W.Frag) : List V → Hp → VK → Prop := fun xs H Q => rLenQ K xs H Q ∨ rLenX xs H Q
def rIxA (K : PySem.W.Frag) : R2 := fun x y H Q => rIxL K x y H Q ∨ rIxX x y H Q
theorem sgs_len (l : List Nat) : (sgs l).length = l.length := by simp [sgs]
section
variable {X : Cx}
theorem call_lenA : CallR X (.builtin "len") (rLenA X.K) := fun pins s σ H xs us Q I r h => h.elim (call_lenQ pins s σ H xs us Q I r) (call_lenX pins s σ H xs us Q I r)
theorem ix_any : IxR X (rIxA X.K) := ix_list.or ix_strX
end
section
variable {K : PySem.W.Frag} {H : Hp} {Q : VK} {v x : V} {ys : List V} {j : Nat}
theorem rd_lenA (h : (∃ a, v = .ref a ∧ SqL K H a ys) ∨ ∃ l, v = .str (tx l) ∧ ys = sgs l ∧ l.length ≤ sizeLine) (q : Q (.int (ys.length : Nat)) H) : rLenA K [v] H Q := by
  rcases h with ⟨a, rfl, h⟩ | ⟨l, rfl, rfl, h⟩
  · exact .inl ⟨a, ys, rfl, .inl h, q⟩
  · exact .inr ⟨l, rfl, h, by rw [sgs_len] at q; exact q⟩
theorem rd_ixA (h : (∃ a, v = .ref a ∧ SqL K H a ys) ∨ ∃ l, v = .str (tx l) ∧ ys = sgs l ∧ l.length ≤ sizeLine) (hj : ys[j]? = some x) (q : Q x H) : rIxA K v (.int (j : Nat)) H Q := by
  rcases h with ⟨a, rfl, h⟩ | ⟨l, rfl, rfl, h⟩
  · exact .inl ⟨a, ys, _, x, rfl, rfl, h, atI_nat hj, q⟩
  · obtain ⟨c, hc, rfl⟩ := get_map hj
    exact .inr ⟨l, _, c, rfl, rfl, h, atI_nat hc, q⟩
end

/-! ### sorted sgs -/
theorem perm_map {α β : Type} {f : α → β} : ∀ {ys : List β} {xs : List α}, ys.Perm (xs.map f) → ∃ zs : List α, zs.Perm xs ∧ ys = zs.map f := by
  intro ys xs h
  generalize hz : xs.map f = zs at h
  induction h generalizing xs with
  | nil => exact ⟨xs, List.Perm.refl _, hz.symm⟩
  | cons x h ih =>
    cases xs with
    | nil => simp at hz
    | cons a r =>
      rw [List.map_cons] at hz
      injection hz with h1 h2
      obtain ⟨zs, p, e⟩ := ih h2
      exact ⟨a :: zs, p.cons a, by rw [List.map_cons, h1, e]⟩
  | swap x y l =>
    cases xs with
    | nil => simp at hz
    | cons a r =>
      cases r with
      | nil => simp at hz
      | cons b t =>
        rw [List.map_cons, List.map_cons] at hz
        injection hz with h1 h2
        injection h2 with h2 h3
        exact ⟨b :: a :: t, List.Perm.swap _ _ _, by rw [List.map_cons, List.map_cons, h1, h2, h3]⟩
  | trans h1 h2 ih1 ih2 =>
    obtain ⟨zs, p, e⟩ := ih2 hz
    obtain ⟨ws, p2, e2⟩ := ih1 e.symm
    exact ⟨ws, p2.trans p, e2⟩
theorem ltCps_one (a b : Nat) : ltCps [a] [b] = decide (a < b) := by
  first | rfl | simp [ltCps]
theorem rising_signs : ∀ (ks : List Nat) (p : Nat), risingS (tx [p]) (ks.map fun c => tx [c]) = true → (p :: ks).Pairwise (· ≤ ·)
  | [], p, _ => by simp
  | k :: r, p, h => by
    rw [List.map_cons] at h
    unfold risingS at h
    rw [Bool.and_eq_true, tx_cps, tx_cps, ltCps_one] at h
    have h1 : p ≤ k := by simpa using h.1
    have h2 := rising_signs r k h.2
    refine List.Pairwise.cons (fun x hx => ?_) h2
    rcases List.mem_cons.mp hx with e | hx
    · omega
    · have := (List.pairwise_cons.mp h2).1 x hx
      omega
theorem sorted_signs {fs : List Nat} {ys : List Str} (hp : ys.Perm (fs.map fun c => tx [c])) (hs : sortedS ys = true) (nd : fs.Nodup) : ∃ ks : List Nat, ys = (ks.map fun c => tx [c]) ∧ ks.Perm fs ∧ ks.Pairwise (· < ·) := by
  obtain ⟨ks, p, rfl⟩ := perm_map hp
  refine ⟨ks, rfl, p, ?_⟩
  have hle : ks.Pairwise (· ≤ ·) := by
    cases ks with
    | nil => exact List.Pairwise.nil
    | cons a r => exact rising_signs r a hs
  have hne : ks.Nodup := p.nodup_iff.mpr nd
  exact (hle.and hne).imp fun h => by omega
theorem flat_ones : ∀ ks : List Nat, (ks.map fun c => [c]).flatten = ks
  | [] => rfl
  | k :: r => by rw [List.map_cons, List.flatten_cons, flat_ones r]; rfl
theorem eraseIdx_perm {α : Type} : ∀ {xs : List α} {i : Nat} {x : α}, xs[i]? = some x → (x :: xs.eraseIdx i).Perm xs
  | [], _, _, h => by simp at h
  | a :: r, 0, x, h => by
    have : a = x := by simpa using h
    subst this
    exact List.Perm.refl _
  | a :: r, i + 1, x, h => by
    have ih := eraseIdx_perm (xs := r) (i := i) (x := x) (by simpa using h)
    rw [List.eraseIdx_cons_succ]
    exact (List.Perm.swap _ _ _).trans (ih.cons a)
theorem sgs_erase (l : List Nat) (i : Nat) : (sgs l).eraseIdx i = sgs (l.eraseIdx i) := by
  unfold sgs
  induction l generalizing i with
  | nil => simp
  | cons a r ih =>
    cases i with
    | zero => simp
    | succ i => simp [ih]

/-! ### walks over a text -/
theorem lc_text {l : List Nat} {g : TG} {tt : TT} {te : TE} {vs : List Nat} {σ : L2.St} {H1 : Hp} {D : Addr} {Qd : Hp → Prop} (Pv : Nat → Hp → Prop) (h0 : Pv 0 (upd H1 D (.lst [])))
    (hs : ∀ (i c : Nat) H, l[i]? = some c → Pv i H → g (.str (tx [c])) (wipe σ vs) H fun σ2 H2 => wipe σ2 vs = wipe σ vs ∧ tt σ2 H2 fun b H3 =>
      if b = true then te σ2 H3 fun y H4 => ∃ acc, H4 D = some (.lst acc) ∧ acc.length < sizeLine ∧ Pv (i + 1) (upd H4 D (.lst (acc ++ [y]))) else Pv (i + 1) H3) (hd : ∀ H, Pv l.length H → Qd H) :
    ∃ W : Nat → Nat → Hp → Prop, (∃ m, W 0 m (upd H1 D (.lst []))) ∧ ∀ i m H, W i m H →
      ((Its (tx l)).stop i H ∧ Qd H) ∨ ((Its (tx l)).go i H ∧ ∃ Nx : Hp → Prop, (∀ H', Nx H' → ∃ m', m' < m ∧ W (i + 1) m' H') ∧ ∀ x H', (Its (tx l)).yld i H x H' → g x (wipe σ vs) H' fun σ2 H2 => wipe σ2 vs = wipe σ vs ∧ tt σ2 H2 fun b H3 =>
        if b = true then te σ2 H3 fun y H4 => ∃ acc, H4 D = some (.lst acc) ∧ acc.length < sizeLine ∧ Nx (upd H4 D (.lst (acc ++ [y]))) else Nx H3) := by
  have hsz : (tx l).cps.size = l.length := by simp [tx]
  refine ⟨fun i m H => m + i = l.length ∧ Pv i H, ⟨l.length, rfl, h0⟩, fun i m H h => ?_⟩
  obtain ⟨hm, p⟩ := h
  by_cases hi : i < l.length
  · refine .inr ⟨show i < (tx l).cps.size by rw [hsz]; exact hi, Pv (i + 1), fun H' p' => ⟨m - 1, by omega, by omega, p'⟩, fun x H' hy => ?_⟩
    obtain ⟨rfl, c, hc, rfl⟩ := hy
    have hc2 : l[i]? = some c := by simpa [tx] using hc
    exact hs i c _ hc2 p
  · have e : i = l.length := by omega
    subst e
    exact .inl ⟨show (tx l).cps.size ≤ l.length by rw [hsz]; exact Nat.le_refl _, hd H p⟩
theorem for_text {l : List Nat} {g : TG} {tb : TS} {D : Ends} {σ : L2.St} {H : Hp} (Pv : Nat → L2.St → Hp → Prop) (h0 : Pv 0 σ H)
    (hs : ∀ (i c : Nat) σ H, l[i]? = some c → Pv i σ H → g (.str (tx [c])) σ H fun σ2 H2 => tb { D with nx := Pv (i + 1), ct := Pv (i + 1), bk := D.nx } σ2 H2) (hd : ∀ σ H, Pv l.length σ H → D.nx σ H) :
    ∃ W : Nat → Nat → L2.St → Hp → Prop, (∃ m, W 0 m σ H) ∧ ∀ i m σ H, W i m σ H →
      ((Its (tx l)).stop i H ∧ D.nx σ H) ∨ ((Its (tx l)).go i H ∧ ∃ N : L2.St → Hp → Prop, (∀ σ' H', N σ' H' → ∃ m', m' < m ∧ W (i + 1) m' σ' H') ∧ ∀ x H', (Its (tx l)).yld i H x H' → g x σ H' fun σ2 H2 => tb { D with nx := N, ct := N, bk := D.nx } σ2 H2) := by
  have hsz : (tx l).cps.size = l.length := by simp [tx]
  refine ⟨fun i m σ H => m + i = l.length ∧ Pv i σ H, ⟨l.length, rfl, h0⟩, fun i m σ H h => ?_⟩
  obtain ⟨hm, p⟩ := h
  by_cases hi : i < l.length
  · refine .inr ⟨show i < (tx l).cps.size by rw [hsz]; exact hi, Pv (i + 1), fun σ' H' p' => ⟨m - 1, by omega, by omega, p'⟩, fun x H' hy => ?_⟩
    obtain ⟨rfl, c, hc, rfl⟩ := hy
    have hc2 : l[i]? = some c := by simpa [tx] using hc
    exact hs i c _ _ hc2 p
  · have e : i = l.length := by omega
    subst e
    exact .inl ⟨show (tx l).cps.size ≤ l.length by rw [hsz]; exact Nat.le_refl _, hd σ H p⟩
def rDivm : List V → Hp → VK → Prop := fun xs H Q => ∃ i j, xs = [.int i, .int j] ∧ 0 < j ∧ j < 1000000000 ∧ ∀ p, H p = none → Q (.ref p) (upd H p (.tup [.int (i / j), .int (i % j)]))
theorem call_divm {X : Cx} : CallR X (.builtin "divmod") rDivm := fun pins s σ H xs us Q I r h => by
  obtain ⟨i, j, e, h1, h2, q⟩ := h
  exact call_divmod pins s σ H xs us Q I r ⟨i, j, e, ⟨h1, by omega⟩, q⟩
theorem rd_divm {H : Hp} {Q : VK} {i j : Int} (h1 : 0 < j) (h2 : j < 1000000000) (q : ∀ p, H p = none → Q (.ref p) (upd H p (.tup [.int (i / j), .int (i % j)]))) : rDivm [.int i, .int j] H Q := ⟨i, j, rfl, h1, h2, q⟩
theorem rd_isiS {K : PySem.W.Frag} {H : Hp} {Q : VK} {z : Str} (q : Q (.bl true) H) : rIsi K [.str z, .ty "str"] H Q := ⟨_, _, _, _, true, rfl, .ty "str", .base (.str z), kit_ty (by decide +kernel), q⟩

theorem scal_int {i : Int} (h : i.natAbs < 2 ^ 250) : scalR (.int i) := Nat.lt_trans (PySem.Flt.log2_lt_of (by decide) h) (by decide)
theorem cut_zero (l : List Nat) (k : Nat) : cutL l none (some (k : Int)) = l.take k := by
  unfold cutL
  rw [HT.sIx_none, HT.sIx_nat, List.drop_zero, Nat.sub_zero]
  rcases Nat.le_total k l.length with h | h
  · rw [Nat.min_eq_left h]
  · rw [Nat.min_eq_right h, List.take_length, List.take_of_length_le h]
theorem mem_reps {n : Nat} {l : List Nat} {c : Nat} (h : c ∈ reps n l) : c ∈ l := by
  unfold reps at h
  rw [List.mem_flatten] at h
  obtain ⟨m, hm, hc⟩ := h
  rw [(List.mem_replicate.mp hm).2] at hc
  exact hc
end Un

namespace Un
open PySem PySem.Spec PyProof.Rows L2
/-! ### rstrip of one sign, startswith, order of texts -/
theorem tail_cut (g : Nat) : ∀ t : List Nat, ∃ p m, t = p ++ List.replicate m g ∧ ∀ c, p.getLast? = some c → c ≠ g := by
  intro t
  induction ht : t.length generalizing t with
  | zero =>
    have : t = [] := List.length_eq_zero_iff.mp ht
    subst this
    exact ⟨[], 0, rfl, fun c h => by cases h⟩
  | succ n ih =>
    have hne : t ≠ [] := by
      rintro rfl
      cases ht
    obtain ⟨q, d, rfl⟩ : ∃ q d, t = q ++ [d] := ⟨t.dropLast, t.getLast hne, (List.dropLast_concat_getLast hne).symm⟩
    by_cases hd : d = g
    · subst hd
      obtain ⟨p, m, e, h⟩ := ih q (by simpa using ht)
      exact ⟨p, m + 1, by rw [e, List.append_assoc, ← List.replicate_succ'], h⟩
    · exact ⟨q ++ [d], 0, by simp, fun c hc => by
        rw [List.getLast?_concat] at hc
        rw [← Option.some.inj hc]
        exact hd⟩
theorem takeWhile_rep (g : Nat) (f : Nat → Bool) (hf : ∀ c, f c = (c == g)) : ∀ (m : Nat) (r : List Nat), (∀ c, r.head? = some c → c ≠ g) → (List.replicate m g ++ r).takeWhile f = List.replicate m g
  | 0, [], _ => rfl
  | 0, c :: r, h => by
    have h1 := h c rfl
    show (c :: r).takeWhile f = []
    rw [List.takeWhile_cons, hf, if_neg (by simpa using h1)]
  | m + 1, r, h => by
    rw [List.replicate_succ, List.cons_append, List.takeWhile_cons, hf, if_pos (by simp), takeWhile_rep g f hf m r h]
theorem rstrip_tx {p : List Nat} {m g : Nat} (h : ∀ c, p.getLast? = some c → c ≠ g) : Txt.rstripChars (tx (p ++ List.replicate m g)) (tx [g]) = tx p := by
  have hlo : stripLo (tx [g]).cps.contains false (tx (p ++ List.replicate m g)) = 0 := rfl
  have hw : ((tx (p ++ List.replicate m g)).cps.toList.drop 0).reverse.takeWhile (tx [g]).cps.contains = List.replicate m g := by
    rw [tx_cps, List.drop_zero, List.reverse_append, List.reverse_replicate]
    refine takeWhile_rep g _ (fun c => ?_) m p.reverse (fun c hc => h c ?_)
    · show (#[g] : Array Nat).contains c = (c == g)
      simp [Array.contains]
    · rw [List.head?_reverse] at hc
      exact hc
  have hhi : stripHi (tx [g]).cps.contains true (tx (p ++ List.replicate m g)) 0 = p.length := by
    unfold stripHi
    rw [if_pos rfl, hw, tx_len, List.length_append, List.length_replicate]
    omega
  unfold Txt.rstripChars Txt.stripBy stripSame
  rw [hlo, hhi, tx_len, List.length_append, List.length_replicate]
  by_cases hm : m = 0
  · subst hm
    simp
  · rw [if_neg (by simp; omega)]
    unfold stripped
    rw [hlo, hhi]
    unfold Builtin.Str.strSub tx
    simp
def rRstX : V → List V → Hp → VK → Prop := fun x xs H Q => ∃ (p : List Nat) (m g : Nat), x = .str (tx (p ++ List.replicate m g)) ∧ xs = [.str (tx [g])] ∧ (∀ c, p.getLast? = some c → c ≠ g) ∧ p.length + m ≤ sizeLine ∧ Q (.str (tx p)) H
section
variable {X : Cx}
theorem mt_rstX : MtR X "str.rstrip" rRstX := by
  intro pins s σ H x xs v us Q I rx rs h
  obtain ⟨p, m, g, rfl, rfl, hp, hz, q⟩ := h
  exact mt_rstripChars pins s σ H _ _ v us Q I rx rs ⟨_, _, rfl, rfl, by rw [tx_len, List.length_append, List.length_replicate]; exact hz, by rw [rstrip_tx hp]; exact q⟩
theorem starts_tx (a b : List Nat) : Txt.startswith (tx a) (tx b) = b.isPrefixOf a := by
  unfold Txt.startswith Builtin.Str.subAt
  rw [tx_len, tx_len, Nat.zero_add, Bool.eq_iff_iff, List.isPrefixOf_iff_prefix, Bool.and_eq_true, decide_eq_true_eq, beq_iff_eq]
  have e : (tx a).cps.extract 0 b.length = (tx b).cps ↔ a.take b.length = b := by
    rw [← Array.toList_inj]
    simp [tx]
  rw [e]
  constructor
  · rintro ⟨h1, h2⟩
    rw [← h2]
    exact List.take_prefix _ _
  · rintro ⟨r, rfl⟩
    simp
def rStartX : V → List V → Hp → VK → Prop := fun x xs H Q => ∃ a b : List Nat, x = .str (tx a) ∧ xs = [.str (tx b)] ∧ Q (.bl (b.isPrefixOf a)) H
theorem mt_startX : MtR X "str.startswith" rStartX := by
  intro pins s σ H x xs v us Q I rx rs h
  obtain ⟨a, b, rfl, rfl, q⟩ := h
  exact mt_startswith pins s σ H _ _ v us Q I rx rs ⟨_, _, rfl, rfl, by rw [starts_tx]; exact q⟩
theorem op_leX : OpR X (compareOp .LtE) rLeX := by
  intro pins s σ H x y v u Q I rx ry h
  obtain ⟨a, b, rfl, rfl, q⟩ := h
  exact op_le_str pins s σ H _ _ v u Q I rx ry ⟨_, _, rfl, rfl, by rw [tx_cps, tx_cps]; exact q⟩
def rIsN1 : R2 := fun x y H Q => y = .non ∧ Q (.bl (decide (x = .non))) H
def rNotN1 : R2 := fun x y H Q => y = .non ∧ Q (.bl (!decide (x = .non))) H
theorem op_isN' : OpR X (compareOp .Is) rIsN1 := op_isN
theorem op_notN' : OpR X (compareOp .IsNot) rNotN1 := op_notN
end
section
variable {K : PySem.W.Frag} {H : Hp} {Q : VK} {x : V}
theorem rd_rstX {p : List Nat} {m g : Nat} (h : ∀ c, p.getLast? = some c → c ≠ g) (hz : p.length + m ≤ sizeLine) (q : Q (.str (tx p)) H) : rRstX (.str (tx (p ++ List.replicate m g))) [.str (tx [g])] H Q := ⟨p, m, g, rfl, rfl, h, hz, q⟩
theorem rd_startX {a b : List Nat} (q : Q (.bl (b.isPrefixOf a)) H) : rStartX (.str (tx a)) [.str (tx b)] H Q := ⟨a, b, rfl, rfl, q⟩
theorem rd_leX {a b : List Nat} (q : Q (.bl (!decide (b < a))) H) : rLeX (.str (tx a)) (.str (tx b)) H Q := ⟨a, b, rfl, rfl, q⟩
theorem rd_isN1 (q : Q (.bl (decide (x = .non))) H) : rIsN1 x .non H Q := ⟨rfl, q⟩
theorem rd_notN1 (q : Q (.bl (!decide (x = .non))) H) : rNotN1 x .non H Q := ⟨rfl, q⟩
theorem rd_eqNilNil {p e : Addr} (h1 : SqL K H p []) (h2 : SqL K H e []) (q : Q (.bl true) H) : rEqD K (.ref p) (.ref e) H Q := ⟨.list [], .list [], .lst h1 .nil, .lst h2 .nil, shaped_ints [], shaped_ints [], by rw [eqv_nil_list]; exact q⟩
theorem rd_neNilNil {p e : Addr} (h1 : SqL K H p []) (h2 : SqL K H e []) (q : Q (.bl false) H) : rNeD K (.ref p) (.ref e) H Q := ⟨.list [], .list [], .lst h1 .nil, .lst h2 .nil, shaped_ints [], shaped_ints [], by rw [eqv_nil_list]; exact q⟩
theorem rd_cat {p q : Addr} {xs ys : List V} (h1 : H p = some (.lst xs)) (h2 : H q = some (.lst ys)) (hz : xs.length + ys.length ≤ sizeLine) (k : ∀ n, H n = none → Q (.ref n) (upd H n (.lst (xs ++ ys)))) : rCat (.ref p) (.ref q) H Q := ⟨p, q, xs, ys, rfl, rfl, h1, h2, hz, k⟩
end
theorem reps_one (n g : Nat) : reps n [g] = List.replicate n g := by
  unfold reps
  induction n with
  | zero => rfl
  | succ n ih => rw [List.replicate_succ, List.flatten_cons, ih]; rfl
theorem atI_m1 {l : List Nat} {c : Nat} (h : l.getLast? = some c) : atI l (-1) = some c := by
  have hne : l ≠ [] := by
    rintro rfl
    cases h
  rw [List.getLast?_eq_getLast hne] at h
  rw [← Option.some.inj h]
  conv => lhs; rw [← List.dropLast_concat_getLast hne]
  exact atI_last _ _
theorem cut_m1 (l : List Nat) (c : Nat) : cutL (l ++ [c]) none (some (-1)) = l := by
  unfold cutL
  have h : HT.sIx (l ++ [c]).length (l ++ [c]).length (some (-1)) = l.length := by
    unfold HT.sIx
    rw [List.length_append]
    simp
    try omega
  rw [HT.sIx_none, h]
  simp
end Un

set_option maxHeartbeats 2000000
/-! UnZip: zip of two texts, the signs in new pairs. -/
namespace Un
open PySem PySem.Spec PyProof.Rows L2
def ItzS (x y : Str) : It :=
  ⟨fun i _ => i < x.cps.size ∧ i < y.cps.size,
    fun i H v H' => ∃ T c d, v = .ref T ∧ H T = none ∧ H' = upd H T (.tup [.str ⟨#[c]⟩, .str ⟨#[d]⟩]) ∧ x.cps[i]? = some c ∧ y.cps[i]? = some d,
    fun i _ => i ≤ x.cps.size ∧ i ≤ y.cps.size ∧ (i = x.cps.size ∨ i = y.cps.size)⟩
theorem turn_zipS {P : Program} {w : World} {K : PySem.W.Frag} {elts : List Expr} {kk : Nat} {tpos : Pos} {z TI TO i1 i2 : Addr} {x y : Str} {t u : Tok} (D : ZipSep2 z TI TO i1 i2 [i1] [i2]) :
    Turn P w K (.Tuple elts kk tpos) (ItzS x y) [z, TI, TO, i1, i2] z (fun i h => IsZip h z TI TO .none ∧ IsTupOf2 h TI (.ref i1) (.ref i2) ∧ (∃ a b, IsTupOf2 h TO a b) ∧ h.IsStrIter i1 (strIterType x) x t i ∧ h.IsStrIter i2 (strIterType y) y u i) where
  mem := by simp
  obj := fun i h st c hc => by
    obtain ⟨hz, hTI, ⟨a, b, hTO⟩, ⟨o1, e1, _, d1⟩, ⟨o2, e2, _, d2⟩⟩ := st
    have e' : c = z ∨ c = TI ∨ c = TO ∨ c = i1 ∨ c = i2 := by simpa using hc
    rcases e' with q | q | q | q | q
    · rw [q]; exact ⟨_, hz, fun v q => nomatch q⟩
    · rw [q]; exact ⟨_, hTI, fun v q => nomatch q⟩
    · rw [q]; exact ⟨_, hTO, fun v q => nomatch q⟩
    · rw [q]; exact ⟨o1, e1, fun v q => by rw [d1] at q; cases q⟩
    · rw [q]; exact ⟨o2, e2, fun v q => by rw [d2] at q; cases q⟩
  keep := fun i h h' st k => by
    obtain ⟨hz, hTI, ⟨a, b, hTO⟩, ⟨o1, e1, r1⟩, ⟨o2, e2, r2⟩⟩ := st
    exact ⟨k z (by simp) _ hz, k TI (by simp) _ hTI, ⟨a, b, k TO (by simp) _ hTO⟩, ⟨o1, k i1 (by simp) o1 e1, r1⟩, ⟨o2, k i2 (by simp) o2 e2, r2⟩⟩
  item := by
    intro X hP hw hK hc i pins s σ H E I hf st hg
    subst hP hw hK
    obtain ⟨hz, hTI, ⟨a, b, hTO⟩, h1, h2⟩ := st
    have hzl : z < s.heap.objs.size := Heap.lt_size hz
    have hd : X.A.in1.handled = none := I.ok.hd hc
    refine wpAny_pyNext_zipD2_item D (Draws.text hd i1 x t) (Draws.text hd i2 y u) hz hTI hTO h1 h2 hg.1 hg.2 fun x1 x2 h' tk p1 p2 z' TO' h1' h2' hT hsz hk => ?_
    obtain ⟨c, tc, hcx, rfl⟩ := p1
    obtain ⟨d, td, hdy, rfl⟩ := p2
    refine ⟨_, rfl, wpAny_letOwnedTupleGo_zip (s := { s with heap := h', toks := tk }) z' fun h'' z'' sb => ?_⟩
    have hT2 : h''.get? s.heap.objs.size = some { cls := .type "tuple", data := .seq #[.str ⟨#[c]⟩ tc, .str ⟨#[d]⟩ td] } := (sb.2 _ (Nat.ne_of_gt hzl)).trans hT
    have new : ObjOk X.prog X.w (upd H s.heap.objs.size (.tup [.str ⟨#[c]⟩, .str ⟨#[d]⟩])) h'' s.heap.objs.size (.tup [.str ⟨#[c]⟩, .str ⟨#[d]⟩]) :=
      ⟨by show 2 ≤ sizeLine; decide, [.str ⟨#[c]⟩ tc, .str ⟨#[d]⟩ td], .cons ⟨tc, rfl⟩ (.cons ⟨td, rfl⟩ .nil), ⟨_, hT2, rfl, _, rfl⟩⟩
    have I1 : Inv X pins σ (upd H s.heap.objs.size (.tup [.str ⟨#[c]⟩, .str ⟨#[d]⟩])) { s with heap := h'', toks := tk } :=
      I.turnedNew (t' := tk) (ch := [z, TI, TO, i1, i2]) (fun c o hb q => (sb.2 c (fun q' => hb (by simp [q']))).trans (hk c o (fun q' => hb (by simp [q'])) (fun q' => hb (by simp [q'])) (fun q' => hb (by simp [q'])) (fun q' => hb (by simp [q'])) q)) hf (Nat.le_refl _) new
    have l1 : i1 < s.heap.objs.size := by obtain ⟨_, e1, _⟩ := h1; exact Heap.lt_size e1
    have l2 : i2 < s.heap.objs.size := by obtain ⟨_, e1, _⟩ := h2; exact Heap.lt_size e1
    refine ⟨.ref s.heap.objs.size, _, I1, rfl, ⟨_, c, d, rfl, I.hok.fresh (Nat.le_refl _), rfl, hcx, hdy⟩, ⟨z'', ?_, ⟨.str ⟨#[c]⟩ tc, .str ⟨#[d]⟩ td, ?_⟩, ?_, ?_⟩, fun c hcm => ?_⟩
    · exact (sb.2 _ D.TIz).trans (hk _ _ D.TIz D.TITO D.TIi1 D.TIi2 hTI)
    · exact (sb.2 _ D.TOz).trans TO'
    · obtain ⟨o, e, r⟩ := h1'
      exact ⟨o, (sb.2 _ D.zi1.symm).trans e, r⟩
    · obtain ⟨o, e, r⟩ := h2'
      exact ⟨o, (sb.2 _ D.zi2.symm).trans e, r⟩
    · have hlt : c < s.heap.objs.size := by
        have e' : c = z ∨ c = TI ∨ c = TO ∨ c = i1 ∨ c = i2 := by simpa using hcm
        rcases e' with q | q | q | q | q
        · rw [q]; exact hzl
        · rw [q]; exact Heap.lt_size hTI
        · rw [q]; exact Heap.lt_size hTO
        · rw [q]; exact l1
        · rw [q]; exact l2
      rw [upd_ne (Nat.ne_of_lt hlt)]
      exact (hf c hcm).1
  done := by
    intro X hP hw hK hc i pins s σ H E I hf st hg
    subst hP hw hK
    obtain ⟨hz, hTI, ⟨a, b, hTO⟩, h1, h2⟩ := st
    have hd : X.A.in1.handled = none := I.ok.hd hc
    exact wpAny_pyNext_zipD2_end D (Draws.text hd i1 x t) (Draws.text hd i2 y u) hz hTI hTO h1 h2 hg.1 hg.2.1 hg.2.2 fun h' tk hk => ⟨rfl, I.turnedL (t' := tk) (ch := [z, TI, TO, i1, i2]) (fun c o hb q =>
      hk c o (fun q' => hb (by simp [q'])) (fun q' => hb (by simp [q'])) (fun q' => hb (by simp [q'])) (fun q' => hb (by simp [q'])) q) hf⟩
  self := fun A i s Q E st h => wpAny_pyIter_zip st.1 h
def iZipS (ta : TA) : TI := fun σ H R => ta σ H fun vs H1 => ∃ x y, vs = [.str x, .str y] ∧ R (ItzS x y) H1
theorem sep5 (n : Addr) : ZipSep2 (n + 4) (n + 2) (n + 3) n (n + 1) [n] [n + 1] where
  TIz := Nat.ne_of_lt (Nat.add_lt_add_left (by decide) n)
  TOz := Nat.ne_of_lt (Nat.add_lt_add_left (by decide) n)
  TITO := Nat.ne_of_lt (Nat.add_lt_add_left (by decide) n)
  TIi1 := Nat.ne_of_gt (Nat.lt_add_of_pos_right (by decide))
  mem1 := List.mem_singleton.mpr rfl
  zf1 := fun h => absurd (List.mem_singleton.mp h) (Nat.ne_of_gt (Nat.lt_add_of_pos_right (by decide)))
  Tf1 := fun h => absurd (List.mem_singleton.mp h) (Nat.ne_of_gt (Nat.lt_add_of_pos_right (by decide)))
  TIi2 := Nat.ne_of_gt (Nat.add_lt_add_left (by decide) n)
  mem2 := List.mem_singleton.mpr rfl
  zf2 := fun h => absurd (List.mem_singleton.mp h) (Nat.ne_of_gt (Nat.add_lt_add_left (by decide) n))
  Tf2 := fun h => absurd (List.mem_singleton.mp h) (Nat.ne_of_gt (Nat.add_lt_add_left (by decide) n))
  sep1_2 := fun h => absurd (List.mem_singleton.mp h) (Nat.ne_of_lt (Nat.lt_add_of_pos_right (by decide)))
  sep2_1 := fun h => absurd (List.mem_singleton.mp h) (Nat.ne_of_gt (Nat.lt_add_of_pos_right (by decide)))
theorem pi_zipS {X : Cx} {e e2 : Expr} {ta : TA} {p pos tpos : Pos} {elts : List Expr} {kk : Nat} (hg : Gl X "zip") (hm : X.mg "zip" = none) (ha : PA X [e, e2] ta)
    (hs : starEach [e, e2] X.env = (false, eval e X.env) :: starEach [e2] X.env := by rfl) (hpl : (backTo pos (starEach [e2] X.env)).any (·.1) = false := by rfl) :
    PI X (.Tuple elts kk tpos) (.Call (.Name "zip" p) [e, e2] [] pos) (iZipS ta) := by
  refine ⟨fun pins s σ H R I h => ?_⟩
  refine Call_ (ld_blt I hg hm PyProof.Rows.boot_zip (PyProof.Rows.callWith_type1 (thn (ha.run pos pins s σ H _ I h) fun us s1 ⟨vs, H1, I1, r1, q1⟩ => ?_) hs hpl))
  obtain ⟨x, y, ex, q⟩ := q1
  subst ex
  cases r1 with
  | cons r rr =>
    cases rr with
    | cons r' rr =>
      cases rr
      obtain ⟨t, rfl⟩ := r
      obtain ⟨u, rfl⟩ := r'
      have fresh5 : ∀ c, c ∈ [s1.heap.objs.size + 4, s1.heap.objs.size + 2, s1.heap.objs.size + 3, s1.heap.objs.size, s1.heap.objs.size + 1] → FpOk X pins H1 c := fun c hcm => by
        have e' : c = s1.heap.objs.size + 4 ∨ c = s1.heap.objs.size + 2 ∨ c = s1.heap.objs.size + 3 ∨ c = s1.heap.objs.size ∨ c = s1.heap.objs.size + 1 := by simpa using hcm
        have hle : s1.heap.objs.size ≤ c := by
          rcases e' with z | z | z | z | z
          · rw [z]; exact Nat.le_add_right _ _
          · rw [z]; exact Nat.le_add_right _ _
          · rw [z]; exact Nat.le_add_right _ _
          · rw [z]; exact Nat.le_refl _
          · rw [z]; exact Nat.le_add_right _ _
        exact I1.fpOk hle (I1.hok.fresh hle)
      refine zip_begins2 (begins_text x t) (begins_text y u) trivial trivial fun h' hz hTI hTO h1 h2 hsz hk => wpAny_pyIter_zip hz ?_
      have I2 : Inv X pins σ H1 { s1 with heap := h' } := I1.kept (t' := s1.toks) hk
      exact ⟨s1.heap.objs.size + 4, [s1.heap.objs.size + 4, s1.heap.objs.size + 2, s1.heap.objs.size + 3, s1.heap.objs.size, s1.heap.objs.size + 1], _, _, H1, rfl, I2,
        turn_zipS (sep5 _), ⟨hz, hTI, ⟨_, _, hTO⟩, ⟨_, h1, rfl, rfl⟩, ⟨_, h2, rfl, rfl⟩⟩, fresh5, q⟩
theorem rd_zipS {x y : Str} {H : Hp} {R : It → Hp → Prop} (q : R (ItzS x y) H) : ∃ x' y', [V.str x, V.str y] = [.str x', .str y'] ∧ R (ItzS x' y') H := ⟨x, y, rfl, q⟩
end Un

/-! Defs whose promise is kept where no guard of a repr stands around the call: the same three steps as for a plain def (entry, body, call), each with one premise more. -/
namespace Un
open PySem PySem.Spec PyProof.Rows L2
structure FnG (P : Program) (w : World) (K : PySem.W.Frag) (mg : Str → Option Value) (base : Heap) (k : Nat) (f : Addr) (fd : FuncData) (ps : List Str) (sp : Sp) : Prop where
  len : ∀ vs H Q E, sp vs H Q E → vs.length = ps.length
  run : ∀ (A : Around) (outer : List Env) (s : Shared) (H : Hp) (args : Args) (us : List Value) (vs : List V) (Q : VK) (E : XK), A.guards = some [] → Room k A → Env0 P w K mg base A outer s H → BindsTo s fd args (ps.zip us) →
    Vals vs us → sp vs H Q E → codeAny (model P w) A (.call (.ref f) args) (CR CX0 outer P w H s Q E) s
section
variable {P : Program} {w : World} {K : PySem.W.Frag} {mg : Str → Option Value} {base : Heap}
theorem okG {nm qual : Str} {st : Stmt} {f : Addr} {fd : FuncData} {N ps : List Str} {k : Nat} {sp : Sp} (F : Fun K nm qual st f fd) (S : FnScope N ps (defScope st)) (hlen : ∀ vs H Q E, sp vs H Q E → vs.length = ps.length)
    (hb : ∀ (cdv : Value) (A : Around) (outer : List Env) (s : Shared) (H : Hp) (vs : List V) (Q : VK) (E : XK), A.guards = some [] → Room k (A.deeper (envOfC qual (defScope st) s.heap.objs.size f cdv)) → sp vs H Q E →
      ∃ t, PSs (cxOf CX0 P w K mg base N qual (defScope st) f cdv A outer s H E).nox (defBody st) t ∧ t { nx := fun _ H' => Q .non H', rt := Q } (start N vs) H) : FnG P w K mg base (k + 1) f fd ps sp := by
  obtain ⟨c1, c2, c3, c4, c5, c6, cdv, c7, c8, rfl, look, code⟩ := F.ex
  constructor
  · exact hlen
  · intro A outer s H args us vs Q E gA room e0 bd rel asked
    have same := hlen _ _ _ _ asked
    have inHeap : K.In s.heap := e0.mod.kin.keeps fun b o hbo => (e0.bs b o hbo).1
    have free := e0.mod.nolimit.keeps (h' := s.heap) fun b o hbo => (e0.bs b o hbo).1
    have kinds : ∀ y ∈ ps.zip us, (defScope st).names.lookup y.1 = some .local ∨ ((defScope st).names.lookup y.1 = some .cell ∧ ((cellsFrom (s.heap.objs.size + 1) (defScope st).names []).lookup y.1).isSome = true) := by
      rintro ⟨n, v⟩ hy
      exact (S.par n (List.of_mem_zip hy).1).imp id fun hc => ⟨hc, PySem.W.cellsFrom_some _ _ _ (.inl hc)⟩
    refine codeAny_call_function room.depth (inHeap _ _ look) rfl S.co S.gen rfl (PySem.W.codeRec_of inHeap code) (bd _ _ _ _ ?_)
    refine wpAny_newFunctionEnv_cells S.kind kinds fun env henv s1 entry => ?_
    subst henv
    obtain ⟨t, ht, hq⟩ := hb cdv A outer s H vs Q E gA (room.deeper _) asked
    have I0 : Inv (cxOf CX0 P w K mg base N qual (defScope st) f cdv A outer s H E) [] (start N vs) H s1 := inv_start S room.hd e0 same rel entry
    refine ⟨free.keeps entry.toInCall.keep, codeAny_func (wpAny_mono (ht.nox.run [] s1 (start N vs) H _ I0 hq) (fun flow s' hs => ?_) fun e s' hs => hs)⟩
    cases flow with
    | ret u => exact match hs with | ⟨v, σ', H', J, rv, q⟩ => ⟨v, H', J.os, J.bare, J.base, J.hok, rv, q⟩
    | next => exact match hs with | ⟨σ', H', J, q⟩ => ⟨V.non, H', J.os, J.bare, J.base, J.hok, rfl, q⟩
    | brk => exact match hs with | ⟨_, _, _, q⟩ => False.elim q
    | cont => exact match hs with | ⟨_, _, _, q⟩ => False.elim q
/-- a def under its name, of that kind -/
def ClG (P : Program) (w : World) (K : PySem.W.Frag) (mg : Str → Option Value) (base : Heap) (nm : Str) (ps : List Str) (k : Nat) (sp : Sp) : Prop :=
  ∃ (f : Addr) (fd : FuncData), mg nm = some (.ref f) ∧ FnG P w K mg base k f fd ps sp ∧ PySem.W.keepIn K (.ref f) = true ∧ Binds K fd ps []
theorem clG_of {nm : Str} {st : Stmt} {ps : List Str} {k : Nat} {sp : Sp} (a : At K mg nm st ps) (h : ∀ f fd, Fun K nm nm st f fd → FnG P w K mg base k f fd ps sp) : ClG P w K mg base nm ps k sp := by
  obtain ⟨f, fd, F, m, b⟩ := a
  exact ⟨f, fd, m, h f fd F, F.kp, b⟩
end
section
variable {X : Cx} {nm : Str} {ps : List Str} {k : Nat} {sp : Sp} {e : Expr} {es : List Expr} {t : TA} {p pos : Pos}
theorem pe_clG (c : ClG X.prog X.w X.K X.mg X.base nm ps k sp) (hgd : X.A.guards = some []) (hr : Room k X.A) (hg : Gl X nm) (ha : PA X (e :: es) t)
    (hdb : (nm == ("__debug__" : Str)) = false := by decide) (he : starEach (e :: es) X.env = (false, eval e X.env) :: starEach es X.env := by rfl) (hpl : (backTo pos (starEach es X.env)).any (·.1) = false := by rfl) :
    PE X (.Call (.Name nm p) (e :: es) [] pos) (tCall sp [] E0 t) := by
  obtain ⟨f, fd, m, F, kp, b⟩ := c
  constructor
  intro pins s σ H Q I h
  refine wpAny_Call_Name_kw (ld_glob I hg m (PySem.W.callWith_K (h₀ := X.base) I.ok.mod.kin kp (thn (ha.run pos pins s σ H _ I h) fun us s1 hx => ?_) he hpl) hdb)
  obtain ⟨vs, H1, I1, r, q⟩ := hx
  refine ⟨I1.kIn, ?_⟩
  rw [List.append_nil] at q
  have n1 : us.length = ps.length := by
    rw [← r.length]
    exact F.len _ _ _ _ q
  have bd := b s1 us I1.kIn (by rw [List.append_nil]; exact n1)
  rw [List.append_nil] at bd
  refine wpAny_call (codeAny_mono (F.run X.A X.stack s1 H1 ⟨us, []⟩ us vs Q E0 hgd hr I1.env0 bd r q) fun res s' hres => ?_)
  match res, hres with
  | .error e, hres => exact (show False from hres).elim
  | .ok (.ret u), hres => exact I1.after hres
  | .ok .next, hres => exact (show False from hres).elim
  | .ok .brk, hres => exact (show False from hres).elim
  | .ok .cont, hres => exact (show False from hres).elim
end
/-! ### repr of data -/
def rReprD (K : PySem.W.Frag) : List V → Hp → VK → Prop := fun xs H Q => ∃ (a : Addr) (d : PyData), xs = [.ref a] ∧ Dp K H (.ref a) d ∧ d.showable = true ∧ d.hasDict = false ∧ d.depth ≤ 60 ∧ d.shown.length ≤ sizeLine ∧ Q (.str d.shown) H
theorem call_reprD {X : Cx} {k : Nat} (hgd : X.A.guards = some []) (hr : Room k X.A) : CallR X (.builtin "repr") (rReprD X.K) := by
  intro pins s σ H xs us Q I r h
  obtain ⟨a, d, rfl, hd, hs, hn, hz, hl, q⟩ := h
  obtain ⟨u, rfl, rx⟩ := vals1 r
  obtain ⟨as, rd⟩ := Dp.reads I d _ u hd rx
  cases rx
  have hu := hr.units
  refine repr_of_reads' rd hs (PyData.noDict_hsm hn) hgd (by omega) (fun _ _ e => e) (fun h' u tk hk => ?_) hl
  exact ⟨.str d.shown, H, I.kept (t' := tk) hk, ⟨u, rfl⟩, q⟩

/-! ### the end of a law whose def is of that kind -/
theorem runG {P : Program} {w : World} {K : PySem.W.Frag} {mg mb : Str → Option Value} {k : Nat} {fa a : Addr} {fd : FuncData} {x : Str} {sp : Sp} {s₁ : Shared} {vs : List Value} {ns : List Int}
    (KX : K.In s₁.heap) (hns : s₁.heap.Ns mainGlobals mg) (hb : s₁.heap.Ns builtinsNs mb) (hbb : ∀ x : Str, x ≠ "__name__" → mb x = bootBuiltins x) (hlim : s₁.heap.NoLimit) (hg : s₁.gens = #[])
    (ha : s₁.heap.get? a = some { cls := .type "list", data := .seq vs.toArray }) (hi : IntsAre vs ns) (hl : ns.length ≤ sizeLine) (room : Room k callerA)
    (F : ∀ base : Heap, K.In base → base.Ns mainGlobals mg → FnG P w K mg base k fa fd [x] sp) (bind1 : ∀ (s : Shared) (u : Value), BindsTo s fd ⟨[u], []⟩ [(x, u)])
    (told : ∀ H : Hp, Only H → SqL K H a (ns.map V.int) → sp [.ref a] H (fun v _ => v = .bl true) fun _ _ _ => False) :
    codeAny (model P w) callerA (.call (.ref fa) ⟨[.ref a], []⟩) (fun r s' => r = .ok (.ret (.bool true)) ∧ OldK s₁.heap s'.heap ∧ s'.os = s₁.os ∧ AllBare s'.gens) s₁ := by
  have relV := vals_ints hi
  have sizes := hi.length
  suffices from_ : ∀ H : Hp, (∀ b u, H b = some u → b = a ∧ K.lookup a = none ∧ u = .frz { cls := .type "list", data := .seq vs.toArray } (.lst (ns.map V.int))) → SqL K H a (ns.map V.int) →
      codeAny (model P w) callerA (.call (.ref fa) ⟨[.ref a], []⟩) (fun r s' => r = .ok (.ret (.bool true)) ∧ OldK s₁.heap s'.heap ∧ s'.os = s₁.os ∧ AllBare s'.gens) s₁ by
    cases look : K.lookup a with
    | some o =>
      have there := KX a o look
      rw [ha] at there
      obtain rfl := Option.some.inj there
      exact from_ (fun _ => none) (fun b u z => by cases z) (.inr ⟨_, vs.toArray, _, look, rfl, rfl, rfl, by rw [List.size_toArray, sizes]; exact hl, by simpa using relV⟩)
    | none =>
      refine from_ (fun b => if b = a then some (.frz { cls := .type "list", data := .seq vs.toArray } (.lst (ns.map V.int))) else none) (fun b u z => ?_) (.inl (.inr ⟨_, if_pos rfl⟩))
      by_cases e : b = a
      · rw [if_pos e] at z
        exact ⟨e, look, (Option.some.inj z).symm⟩
      · rw [if_neg e] at z
        cases z
  intro H hH hS
  have only1 : Only H := fun b => by
    cases z : H b with
    | none => exact .inl rfl
    | some u => exact .inr ⟨_, _, by rw [(hH b u z).2.2]⟩
  have held : HOk P w H s₁.heap := fun b u z => by
    obtain ⟨rfl, _, rfl⟩ := hH b u z
    exact ⟨ha, by rw [List.length_map]; exact hl, vs, _, relV, ha⟩
  have not_dict : ∀ {b : Addr} {o : Obj} {es : Array DictEntry} {ep : Nat}, s₁.heap.get? b = some o → o.data = .dict es ep → H b = none := fun {b o es ep} e d => by
    cases z : H b with
    | none => rfl
    | some u =>
      obtain ⟨rfl, _, _⟩ := hH b u z
      rw [ha] at e
      obtain rfl := Option.some.inj e
      cases (show Data.seq vs.toArray _ = Data.dict es ep from d)
  have hidden : ∀ {b : Addr} {m : Str → Option Value}, s₁.heap.Ns b m → (hidT s₁.heap H).Ns b m := by
    rintro b m ⟨o, es, ep, e, d, r⟩
    exact ⟨o, es, ep, hidT_get e (not_dict e d), d, r⟩
  have kIn : K.In (hidT s₁.heap H) := fun b o e => hidT_get (KX b o e) (by
    cases z : H b with
    | none => rfl
    | some u =>
      obtain ⟨rfl, n, _⟩ := hH b u z
      rw [n] at e
      cases e)
  have md : Mod K mg (hidT s₁.heap H) := ⟨kIn, hidden hns, ⟨mb, hidden hb, hbb⟩, match hlim with | ⟨mc, h1, h2⟩ => ⟨mc, hidden h1, h2⟩⟩
  have none_in : ∀ b : Addr, b ∈ ([] : List Addr) → False := fun b hb => by cases hb
  have env0 : Env0 P w K mg (hidT s₁.heap H) callerA [] s₁ H := ⟨rfl, md, fun b o e => of_hidT e, Nat.le_of_eq (hidT_size _ _), trivial, fun b hb => (none_in b hb).elim, held, .of_eq hg⟩
  refine codeAny_mono ((F _ kIn (hidden hns)).run callerA [] s₁ H ⟨[.ref a], []⟩ [.ref a] [.ref a] _ _ rfl room env0 (bind1 s₁ (.ref a)) (.cons rfl .nil) (told H only1 hS)) fun r s' h => ?_
  match r, h with
  | .error e, h => exact (show False from h).elim
  | .ok .next, h => exact (show False from h).elim
  | .ok .brk, h => exact (show False from h).elim
  | .ok .cont, h => exact (show False from h).elim
  | .ok (.ret u), h =>
    obtain ⟨v, H', hos, hbare, un, held', rv, rfl⟩ := h
    obtain rfl : u = Value.bool true := rv
    refine ⟨rfl, OldK.of_keep fun b o e => ?_, hos, hbare⟩
    cases z : H b with
    | none => exact un.keep b o e z (none_in b) (none_in b)
    | some y =>
      obtain ⟨rfl, _, rfl⟩ := hH b y z
      have e1 := (held _ _ z).1
      rw [e] at e1
      rw [Option.some.inj e1]
      exact (held' _ _ (un.frzs _ _ _ z)).1
theorem walk_ofG {l : PySem.W.OpenLaw} {n k : Nat} {q : Program} {loose : List Str} {XP : (Str → Option Value) → Heap → Prop} {YP : World → Heap → Prop} {d : DefRec} {K : Params → PySem.W.Frag} {sp : World → Sp} {x : Str}
    (hn : l.most = some n) (hn2 : n ≤ sizeLine) (hdf : d.params.defaults = []) (room : Room k callerA) (hY : ∀ (w : World) (h : Heap), YP w h → (K w.params).In h)
    (F : ∀ (w : World) (mg : Str → Option Value) (fa : Addr) (h : Heap), (K w.params).In h → h.Ns mainGlobals mg → mg d.name = some (.ref fa) →
      ∃ fd : FuncData, (∀ (s : Shared) (u : Value), BindsTo s fd ⟨[u], []⟩ [(x, u)]) ∧ ∀ base : Heap, (K w.params).In base → base.Ns mainGlobals mg → FnG l.prog w (K w.params) mg base k fa fd [x] (sp w))
    (told : ∀ (w : World) (H : Hp) (a : Addr) (ns : List Int), ns.length ≤ n → Only H → SqL (K w.params) H a (ns.map V.int) → sp w [.ref a] H (fun v _ => v = .bl true) fun _ _ _ => False) :
    PySem.W.WalkO q loose XP YP l.row.toRowW d [] (fun f vs => PySem.call f vs) := by
  refine Att.attach_callB hn hdf fun w s₀ s₁ mg mb fa o pm cd doc a vs ns G Y ho hd hcd hmg hobj hints hlen _ hg => ?_
  obtain ⟨fd, bnd, hF⟩ := F w mg fa _ (hY w _ Y) G.T.g hmg
  exact runG (hY w _ Y) G.T.g G.T.b G.T.builtins G.T.nolimit hg hobj hints (Nat.le_trans hlen hn2) room hF bnd fun H => told w H a ns hlen
end Un

namespace Un
open PySem PySem.Spec PyProof.Rows L2
/-! ### for i, c in enumerate(text) -/
def ItEX (x : Str) : It := ⟨fun i _ => i < x.cps.size, fun i H v H' => ∃ (T : Addr) (c : Nat), v = .ref T ∧ H T = none ∧ x.cps[i]? = some c ∧ H' = upd H T (.tup [.int (i : Nat), .str ⟨#[c]⟩]), fun i _ => i = x.cps.size⟩
theorem turn_enumX {P : Program} {w : World} {K : PySem.W.Frag} {elts : List Expr} {kk : Nat} {tpos : Pos} (x : Str) (t : Tok) (e it : Addr) :
    Turn P w K (.Tuple elts kk tpos) (ItEX x) [e, it] e (fun i h => (∃ old, IsEnum h e it ((i : Nat) : Int) old) ∧ h.IsStrIter it (strIterType x) x t i ∧ e ≠ it) where
  mem := List.mem_cons_self
  obj := by
    rintro i h ⟨⟨old, he⟩, ⟨o, ho, hc, hd⟩, _⟩ b hb
    rcases List.mem_cons.mp hb with rfl | hb
    · exact ⟨_, he, fun v q => nomatch q⟩
    · obtain rfl := List.mem_singleton.mp hb
      exact ⟨o, ho, fun v q => by rw [hd] at q; cases q⟩
  keep := by
    rintro i h h' ⟨⟨old, he⟩, ⟨o, ho, r⟩, hne⟩ k
    exact ⟨⟨old, k e (by simp) _ he⟩, ⟨o, k it (by simp) o ho, r⟩, hne⟩
  item := by
    rintro X rfl rfl rfl hc i pins s σ H E I hf ⟨⟨old, he⟩, hit, hne⟩ hlt
    have he0 : e < s.heap.objs.size := Heap.lt_size he
    have hi0 : it < s.heap.objs.size := by
      obtain ⟨_, q, _⟩ := hit
      exact Heap.lt_size q
    refine wpAny_pyNext_enum_itemD (Draws.text (A := X.A.in1) (I.ok.hd hc) it x t) he hit hlt hne (by simp [hne]) fun v h' tk hv ho hit' hT hsz hk => ?_
    obtain ⟨c, u, hcx, rfl⟩ := hv
    refine ⟨_, rfl, wpAny_letOwnedTupleGo_enum (s := { s with heap := h', toks := tk + 1 }) ho fun h'' he' sb => ?_⟩
    have made : h''.get? s.heap.objs.size = some { cls := .type "tuple", data := .seq #[.int i tk, .str ⟨#[c]⟩ u] } := (sb.2 _ (Nat.ne_of_gt he0)).trans hT
    have new : ObjOk X.prog X.w (upd H s.heap.objs.size (.tup [.int (i : Nat), .str ⟨#[c]⟩])) h'' s.heap.objs.size (.tup [.int (i : Nat), .str ⟨#[c]⟩]) :=
      ⟨by show 2 ≤ sizeLine; decide, [.int i tk, .str ⟨#[c]⟩ u], .cons ⟨_, rfl⟩ (.cons ⟨_, rfl⟩ .nil), ⟨_, made, rfl, _, rfl⟩⟩
    have kept : ∀ b o, b ∉ [e, it] → s.heap.get? b = some o → h''.get? b = some o := fun b o hb q => by
      have h1 : b ≠ e := fun z => hb (by simp [z])
      have h2 : b ≠ it := fun z => hb (by simp [z])
      exact (sb.2 b h1).trans (hk b o h1 h2 q)
    refine ⟨.ref s.heap.objs.size, _, I.turnedNew (ch := [e, it]) kept hf (Nat.le_refl _) new, rfl, ⟨_, c, rfl, I.hok.fresh (Nat.le_refl _), hcx, rfl⟩, ⟨⟨.str ⟨#[c]⟩ u, ?_⟩, ?_, hne⟩, fun b hb => ?_⟩
    · have e1 : ((i + 1 : Nat) : Int) = (i : Int) + 1 := by omega
      rw [e1]
      exact he'
    · obtain ⟨o, q, r⟩ := hit'
      exact ⟨o, (sb.2 it (Ne.symm hne)).trans q, r⟩
    · have hb' : b < s.heap.objs.size := by
        rcases List.mem_cons.mp hb with rfl | hb
        · exact he0
        · rw [List.mem_singleton.mp hb]
          exact hi0
      rw [upd_ne (Nat.ne_of_lt hb')]
      exact (hf b hb).1
  done := by
    rintro X rfl rfl rfl hc i pins s σ H E I hf ⟨⟨old, he⟩, hit, hne⟩ hge
    obtain ⟨f0, f1, f2, f3, f4, f5⟩ := hf it (by simp)
    obtain rfl : i = x.cps.size := hge
    exact wpAny_pyNext_enum_endD (Draws.text (A := X.A.in1) (I.ok.hd hc) it x t) he hit fun h' eb => ⟨rfl, I.turned (t' := s.toks) (fun b o hb q => eb b o hb q) f0 f1 f3 f4 f5⟩
  self := fun A i s Q E st h => by
    obtain ⟨⟨_, he⟩, _⟩ := st
    exact wpAny_pyIter_enum he h

def iEnumX (ta : TA) : TI := fun σ H R => ta σ H fun vs H1 => ∃ l : List Nat, vs = [.str (tx l)] ∧ R (ItEX (tx l)) H1
theorem pi_enumX {X : Cx} {e : Expr} {ta : TA} {p pos tpos : Pos} {elts : List Expr} {kk : Nat} (hg : Gl X "enumerate") (hm : X.mg "enumerate" = none) (ha : PA X [e] ta) (hs : starEach [e] X.env = [(false, eval e X.env)] := by rfl) :
    PI X (.Tuple elts kk tpos) (.Call (.Name "enumerate" p) [e] [] pos) (iEnumX ta) := by
  constructor
  intro pins s σ H R I h
  refine Call_ (ld_blt I hg hm boot_enumerate (PyProof.Rows.callWith_type1 (thn (ha.run pos pins s σ H _ I h) fun us s1 hx => ?_) hs rfl))
  obtain ⟨vs, H1, I1, r1, l, rfl, q⟩ := hx
  obtain ⟨u, rfl, t, rfl⟩ := vals1 r1
  refine call_enumerate_str fun h' he hit hsz hk => wpAny_pyIter_enum he ?_
  have I2 : Inv X pins σ H1 { s1 with heap := h' } := I1.kept (t' := s1.toks) hk
  refine ⟨s1.heap.objs.size + 1, [s1.heap.objs.size + 1, s1.heap.objs.size], _, _, H1, rfl, I2, turn_enumX (tx l) t (s1.heap.objs.size + 1) s1.heap.objs.size, ⟨⟨.none, he⟩, hit, Nat.succ_ne_self _⟩, fun b hb => ?_, q⟩
  have hle : s1.heap.objs.size ≤ b := by
    rcases List.mem_cons.mp hb with rfl | hb
    · exact Nat.le_add_right _ _
    · exact Nat.le_of_eq (List.mem_singleton.mp hb).symm
  exact I1.fpOk hle (I1.hok.fresh hle)
theorem rd_iEnumX {ta : TA} {σ : L2.St} {H : Hp} {R : It → Hp → Prop} {l : List Nat} (h : ta σ H fun vs H1 => ∃ l : List Nat, vs = [.str (tx l)] ∧ R (ItEX (tx l)) H1) : iEnumX ta σ H R := h
theorem for_enumX {l : List Nat} {g : TG} {tb : TS} {D : Ends} {σ : L2.St} {H : Hp} (Pv : Nat → L2.St → Hp → Prop) (h0 : Pv 0 σ H)
    (hs : ∀ (i c : Nat) (σ : L2.St) (H : Hp) (T : Addr), l[i]? = some c → Pv i σ H → H T = none → g (.ref T) σ (upd H T (.tup [.int (i : Nat), .str (tx [c])])) fun σ2 H2 => tb { D with nx := Pv (i + 1), ct := Pv (i + 1), bk := D.nx } σ2 H2) (hd : ∀ σ H, Pv l.length σ H → D.nx σ H) :
    ∃ W : Nat → Nat → L2.St → Hp → Prop, (∃ m, W 0 m σ H) ∧ ∀ i m σ H, W i m σ H →
      ((ItEX (tx l)).stop i H ∧ D.nx σ H) ∨ ((ItEX (tx l)).go i H ∧ ∃ N : L2.St → Hp → Prop, (∀ σ' H', N σ' H' → ∃ m', m' < m ∧ W (i + 1) m' σ' H') ∧ ∀ x H', (ItEX (tx l)).yld i H x H' → g x σ H' fun σ2 H2 => tb { D with nx := N, ct := N, bk := D.nx } σ2 H2) := by
  have hsz : (tx l).cps.size = l.length := by simp [tx]
  refine ⟨fun i m σ H => m + i = l.length ∧ Pv i σ H, ⟨l.length, rfl, h0⟩, fun i m σ H h => ?_⟩
  obtain ⟨hm, p⟩ := h
  by_cases hi : i < l.length
  · refine .inr ⟨show i < (tx l).cps.size by rw [hsz]; exact hi, Pv (i + 1), fun σ' H' p' => ⟨m - 1, by omega, by omega, p'⟩, fun x H' hy => ?_⟩
    obtain ⟨T, c, rfl, hT, hc, rfl⟩ := hy
    exact hs i c σ H T (by simpa [tx] using hc) p hT
  · have e : i = l.length := by omega
    subst e
    exact .inl ⟨show l.length = (tx l).cps.size from hsz.symm, hd σ H p⟩
/-! ### x.find(y, 1): the first place -/
theorem occ_stay (s sub : Str) (hi : Nat) : ∀ (l : List Nat) (k f : Nat), (forIn l ((#[k] : Array Nat), f) (PySem.StrLaws.occBody s sub hi 1)).run.fst = #[k]
  | [], k, f => rfl
  | a :: l, k, f => by
    rw [List.forIn_cons]
    unfold PySem.StrLaws.occBody
    rw [if_neg (by simp)]
    exact occ_stay s sub hi l k f
theorem occ_find (s sub : Str) (hi : Nat) : ∀ (l : List Nat) (f : Nat), (∀ i ∈ l, f ≤ i) →
    (forIn l ((#[] : Array Nat), f) (PySem.StrLaws.occBody s sub hi 1)).run.fst.toList = (l.find? fun i => decide (i + sub.length ≤ hi) && Builtin.Str.subAt s sub i).toList
  | [], f, _ => rfl
  | a :: l, f, hf => by
    rw [List.forIn_cons, List.find?_cons]
    have ha : f ≤ a := hf a List.mem_cons_self
    have hl : ∀ i ∈ l, f ≤ i := fun i h => hf i (List.mem_cons_of_mem _ h)
    unfold PySem.StrLaws.occBody
    cases hc : (decide (a + sub.length ≤ hi) && Builtin.Str.subAt s sub a) with
    | true =>
      rw [Bool.and_eq_true, decide_eq_true_eq] at hc
      rw [if_pos ⟨⟨⟨by simp, ha⟩, hc.1⟩, hc.2⟩]
      have := occ_stay s sub hi l a (a + sub.length)
      show (forIn l ((#[] : Array Nat).push a, a + sub.length) (PySem.StrLaws.occBody s sub hi 1)).run.fst.toList = _
      have e : (#[] : Array Nat).push a = #[a] := rfl
      rw [e, this]
      rfl
    | false =>
      have hn : ¬ (((((#[] : Array Nat), f).fst.size < 1 ∧ ((#[] : Array Nat), f).snd ≤ a) ∧ a + sub.length ≤ hi) ∧ Builtin.Str.subAt s sub a = true) := fun h => by
        rw [decide_eq_true h.1.2, h.2] at hc
        cases hc
      rw [if_neg hn]
      exact occ_find s sub hi l f hl
theorem subAt_tx (x y : List Nat) (i : Nat) : Builtin.Str.subAt (tx x) (tx y) i = decide ((x.drop i).take y.length = y) := by
  unfold Builtin.Str.subAt
  rw [Bool.eq_iff_iff, beq_iff_eq, decide_eq_true_eq, ← Array.toList_inj, tx_len]
  simp [tx, List.extract_eq_take_drop]
def rFind1 : V → List V → Hp → VK → Prop := fun v xs H Q => ∃ (x y : List Nat) (k : Nat), v = .str (tx x) ∧ xs = [.str (tx y), .int 1] ∧ 1 ≤ k ∧ k + y.length ≤ x.length ∧ k ≤ x.length ∧ (x.drop k).take y.length = y ∧
  (∀ j, 1 ≤ j → j < k → (x.drop j).take y.length ≠ y) ∧ Q (.int (k : Nat)) H
theorem mt_find1 {X : Cx} : MtR X "str.find" rFind1 := by
  intro pins s σ H v xs u us Q I rx rs h
  obtain ⟨x, y, k, rfl, rfl, h1, h2, h3, h4, h5, q⟩ := h
  refine mt_find3 pins s σ H _ _ u us Q I rx rs ⟨tx x, tx y, 1, rfl, rfl, ?_⟩
  have e : Txt.find3 (tx x) (tx y) 1 = ((k : Nat) : Int) := by
    unfold Txt.find3
    have hlo : fromIndex (tx x).length 1 = 1 := rfl
    rw [hlo, PySem.StrLaws.occ_eq, occ_find _ _ _ _ _ (fun i hi => (List.mem_range'_1.mp hi).1)]
    have hf : (List.range' 1 ((tx x).length + 1 - 1)).find? (fun i => decide (i + (tx y).length ≤ (tx x).length) && Builtin.Str.subAt (tx x) (tx y) i) = some k := by
      rw [List.find?_range'_eq_some]
      rw [tx_len, tx_len]
      refine ⟨?_, ?_, ?_⟩
      · rw [subAt_tx, decide_eq_true h2, decide_eq_true h4]
        rfl
      · rw [List.mem_range'_1]
        omega
      · intro j hj1 hj2
        rw [subAt_tx, decide_eq_false (h5 j hj1 hj2), Bool.and_false]
        rfl
    rw [hf]
    rfl
  rw [e]
  exact q

def rMaxX : List V → Hp → VK → Prop := fun xs H Q => ∃ i j, xs = [.int i, .int j] ∧ Q (.int (if j > i then j else i)) H
theorem call_max2X {X : Cx} (hc : X.calm = true) : CallR X (.builtin "max") rMaxX := call_max2 hc
theorem rd_maxX {H : Hp} {Q : VK} {i j : Int} (q : Q (.int (if j > i then j else i)) H) : rMaxX [.int i, .int j] H Q := ⟨i, j, rfl, q⟩
theorem rd_find1 {H : Hp} {Q : VK} {x y : List Nat} {k : Nat} (h1 : 1 ≤ k) (h2 : k + y.length ≤ x.length) (h3 : (x.drop k).take y.length = y) (h4 : ∀ j, 1 ≤ j → j < k → (x.drop j).take y.length ≠ y) (q : Q (.int (k : Nat)) H) : rFind1 (.str (tx x)) [.str (tx y), .int 1] H Q :=
  ⟨x, y, k, rfl, rfl, h1, h2, by omega, h3, h4, q⟩
theorem rd_reprD {K : PySem.W.Frag} {H : Hp} {Q : VK} {a : Addr} {d : PyData} (h : Dp K H (.ref a) d) (hs : d.showable = true) (hn : d.hasDict = false) (hz : d.depth ≤ 60) (hl : d.shown.length ≤ sizeLine) (q : Q (.str d.shown) H) : rReprD K [.ref a] H Q := ⟨a, d, rfl, h, hs, hn, hz, hl, q⟩
/-! ### how long a shown pair is -/
theorem str_app_len (a b : Str) : (a ++ b).length = a.length + b.length := by
  show (a.cps ++ b.cps).size = _
  rw [Array.size_append]
  rfl
theorem tup2_len (a b : PyData) : (PyData.tuple [a, b]).shown.length ≤ a.shown.length + b.shown.length + 8 := by
  have e : (PyData.tuple [a, b]).shown = ("(" : Str) ++ (a.shown ++ (", " : Str) ++ b.shown) ++ (")" : Str) := by
    simp only [PyData.shown, PyData.shownAll]
    rfl
  have e1 : ("(" : Str).length = 1 := by decide
  have e2 : (", " : Str).length = 2 := by decide
  have e3 : (")" : Str).length = 1 := by decide
  rw [e, str_app_len, str_app_len, str_app_len, str_app_len, e1, e2, e3]
  omega
theorem shown_int_len {i : Int} (h : i.natAbs < 2 ^ 250) : (PyData.int i).shown.length ≤ 1000 := by
  have h1 : i.natAbs.log2 < 250 := PySem.Flt.log2_lt_of (by decide) h
  have h2 := PySem.int_text_length_le (a := i) (k := 250) (by decide) h1
  simp only [PyData.shown]
  show (Str.ofString (toString i)).length ≤ 1000
  rw [PySem.ofString_length]
  omega
theorem shown_str_len {l : List Nat} (h : ∀ c ∈ l, c < 1000) : (PyData.str (tx l)).shown.length ≤ 10 * l.length + 2 := by
  simp only [PyData.shown]
  have := PySem.StrLaws.reprText_len (tx l) (fun c hc => by
    rw [tx_cps] at hc
    have := h c hc
    have e : (1000 : Nat) < 16 ^ 8 := by decide
    omega)
  rw [tx_len] at this
  exact this
end Un

set_option maxHeartbeats 2000000
/-! UnY: own errors as the law uses them: by name, made, read, told apart; zip in a comprehension; repr of any value. -/
namespace Un
open PySem PySem.Spec PyProof.Rows L2
/-- the address of the class of a name -/
def ca (mg : Str → Option Value) (x : Str) : Addr := match mg x with
  | some (.ref C) => C
  | _ => 0
theorem ca_of {mg : Str → Option Value} {x : Str} {C : Addr} (h : mg x = some (.ref C)) : ca mg x = C := by
  unfold ca
  rw [h]
/-- an own error without an __init__, its class at C -/
def Err0 (K : PySem.W.Frag) (mg : Str → Option Value) (x : Str) (C : Addr) : Prop := mg x = some (.ref C) ∧ OxC K C ∧ PySem.W.excIn K C PySem.HandSPX.veTail "ValueError.__new__" = true
/-- one with an __init__ of one field -/
def ErrI (K : PySem.W.Frag) (mg : Str → Option Value) (x q f : Str) (st : Stmt) (C : Addr) : Prop := mg x = some (.ref C) ∧ OxC K C ∧ PySem.W.findIn K (.ref C) f = some none ∧
  ∃ (fI : Addr) (fd : FuncData), PySem.W.findIn K (.ref C) "__init__" = some (some (.ref fI)) ∧ PySem.W.typeIn K (.ref fI) = some (.type "function") ∧ Fun K "__init__" q st fI fd ∧ Binds K fd ["self", f] []
def Mk (P : Program) (w : World) (K : PySem.W.Frag) (mg : Str → Option Value) (base : Heap) (x f : Str) (C : Addr) : Prop := mg x = some (.ref C) ∧ OxC K C ∧ PySem.W.findIn K (.ref C) f = some none ∧
  ∃ (fI : Addr) (fd : FuncData), PySem.W.findIn K (.ref C) "__init__" = some (some (.ref fI)) ∧ PySem.W.typeIn K (.ref fI) = some (.type "function") ∧ FnOk P w K mg base CX0 1 fI fd ["self", f] (SpXI K f) ∧ Binds K fd ["self", f] []
theorem mk_of {P : Program} {w : World} {K : PySem.W.Frag} {mg : Str → Option Value} {base : Heap} {x q f : Str} {st : Stmt} {C : Addr} (e : ErrI K mg x q f st C)
    (h : ∀ fI fd, Fun K "__init__" q st fI fd → FnOk P w K mg base CX0 1 fI fd ["self", f] (SpXI K f)) : Mk P w K mg base x f C := by
  obtain ⟨g, o, n, fI, fd, i, t, F, b⟩ := e
  exact ⟨g, o, n, fI, fd, i, t, h fI fd F, b⟩
section
variable {X : Cx} {x f : Str} {C : Addr} {e : Expr} {te : TE} {p pos : Pos}
theorem pe_cls (hm : X.mg x = some (.ref C)) (hg : Gl X x) (hdb : (x == ("__debug__" : Str)) = false := by decide) : PE X (.Name x pos) (tC (.ref C)) := pe_glob hg hm rfl hdb
theorem pe_gstr {z : Str} (c : ∃ t, X.mg x = some (.str z t)) (l : List Nat) (h : z = tx l) (hg : Gl X x) (hdb : (x == ("__debug__" : Str)) = false := by decide) : PE X (.Name x pos) (tC (.str (tx l))) := by
  obtain ⟨t, c⟩ := c
  exact pe_glob hg c ⟨t, by rw [h]⟩ hdb
theorem pe_gint {i : Int} (c : ∃ t, X.mg x = some (.int i t)) (hg : Gl X x) (hdb : (x == ("__debug__" : Str)) = false := by decide) : PE X (.Name x pos) (tC (.int i)) := by
  obtain ⟨t, c⟩ := c
  exact pe_glob hg c ⟨t, rfl⟩ hdb
theorem pe_err0 (m : Err0 X.K X.mg x C) (hg : Gl X x) (hdb : (x == ("__debug__" : Str)) = false := by decide) : PE X (.Call (.Name x p) [] [] pos) (tMkN C) := pe_mkN F.excBase_ValueError m.2.2 m.1 m.2.1.kC hg hdb
theorem pe_errI (m : Mk X.prog X.w X.K X.mg X.base x f C) (hr : Room 2 X.A) (hg : Gl X x) (ha : PE X e te) (hdb : (x == ("__debug__" : Str)) = false := by decide)
    (he : starEach (e :: []) X.env = (false, eval e X.env) :: starEach [] X.env := by rfl) (hpl : (backTo pos (starEach [] X.env)).any (·.1) = false := by rfl) : PE X (.Call (.Name x p) [e] [] pos) (tMkX C f te) := by
  obtain ⟨g, o, n, fI, fd, i, t, F, b⟩ := m
  exact pe_mkX o i t n F hr b pass0 hg g ha hdb he hpl
end
theorem pmk_err0 {X : Cx} {x : Str} {C : Addr} {p pos : Pos} (m : Err0 X.K X.mg x C) (hg : Gl X x) (hdb : (x == ("__debug__" : Str)) = false := by decide) : PMk X (.Call (.Name x p) [] [] pos) (fun _ H Q => Q (.ref C) none H) := by
  intro pins s σ H Q I h
  refine wpAny_Call_Name_kw (ld_glob I hg m.1 ?_ hdb)
  refine PySem.W.callWith_K0 (K := X.K) (I.tok _).kIn m.2.1.kC ?_
  show wpAny _ _ (call (.ref C) []) _ _ _
  obtain ⟨bm, N, nm, qn, bs, hdct, sn, sub, ab, col, dd, k0, k1, k2, k3, k5, mN, hC, hN, hni, T⟩ := exc_obj (I.tok _).kIn m.2.2
  refine wpAny_call_exc_subT F.excBase_ValueError T hC hN hni (fun h' e hm => ?_) (by show 0 ≤ sizeLine; omega)
  exact L2.mk_of I hm (raises_own m.2.1.xf.exC m.2.1.ty) h (I.hok.gone hm.new)
/-- a def that may raise, under its name -/
def ClX (P : Program) (w : World) (K : PySem.W.Frag) (mg : Str → Option Value) (base : Heap) (nm : Str) (ps : List Str) (k : Nat) (sp : Sp) : Prop :=
  ∃ (f : Addr) (fd : FuncData), mg nm = some (.ref f) ∧ FnOk P w K mg base (L2.CX P w) k f fd ps sp ∧ PySem.W.keepIn K (.ref f) = true ∧ Binds K fd ps []
theorem clX_of {P : Program} {w : World} {K : PySem.W.Frag} {mg : Str → Option Value} {base : Heap} {nm : Str} {st : Stmt} {ps : List Str} {k : Nat} {sp : Sp}
    (a : At K mg nm st ps) (h : ∀ f fd, Fun K nm nm st f fd → FnOk P w K mg base (L2.CX P w) k f fd ps sp) : ClX P w K mg base nm ps k sp := by
  obtain ⟨f, fd, F, m, b⟩ := a
  exact ⟨f, fd, m, h f fd F, F.kp, b⟩
theorem pe_clX {X : Cx} {nm : Str} {ps : List Str} {k : Nat} {sp : Sp} {e : Expr} {es : List Expr} {t : TA} {p pos : Pos} {W : WX} (c : ClX X.prog X.w X.K X.mg X.base nm ps k sp) (hr : Room k X.A) (hg : Gl X nm) (tk : Takes X W) (ha : PA X (e :: es) t)
    (hdb : (nm == ("__debug__" : Str)) = false := by decide) (he : starEach (e :: es) X.env = (false, eval e X.env) :: starEach es X.env := by rfl) (hpl : (backTo pos (starEach es X.env)).any (·.1) = false := by rfl) :
    PE X (.Call (.Name nm p) (e :: es) [] pos) (tCallS sp (WE W) t) := by
  obtain ⟨f, fd, m, F, kp, b⟩ := c
  exact pe_callS F hr hg m kp b (fun σ => passAt tk σ) ha hdb he hpl
/-- an error stands at a: its class, its one field -/
def ErrAt (H : Hp) (a C : Addr) (f : Str) (v : V) : Prop := ∃ dx, H a = some (exo a C (some dx)) ∧ H dx = some (exd dx [(f, v)])
def IsErr (H : Hp) (a C : Addr) : Prop := ∃ d, H a = some (exo a C d) ∧ ∀ dx, d = some dx → ∃ fs, H dx = some (exd dx fs)
theorem ErrAt.is {H : Hp} {a C : Addr} {f : Str} {v : V} (h : ErrAt H a C f v) : IsErr H a C := by
  obtain ⟨dx, h1, h2⟩ := h
  refine ⟨some dx, h1, fun d e => ?_⟩
  cases e
  exact ⟨_, h2⟩
theorem IsErr.same {H H' : Hp} {a C : Addr} (h : IsErr H a C) (s : Same H H') : IsErr H' a C := by
  obtain ⟨d, h1, h2⟩ := h
  refine ⟨d, s _ _ h1, fun dx e => ?_⟩
  obtain ⟨fs, h3⟩ := h2 dx e
  exact ⟨fs, s _ _ h3⟩
theorem ErrAt.same {H H' : Hp} {a C : Addr} {f : Str} {v : V} (h : ErrAt H a C f v) (s : Same H H') : ErrAt H' a C f v := by
  obtain ⟨dx, h1, h2⟩ := h
  exact ⟨dx, s _ _ h1, s _ _ h2⟩
section
variable {K : PySem.W.Frag} {σ : L2.St} {H : Hp} {Q : VK} {te : TE} {ta : TA} {C : Addr} {f n : Str} {R : It → Hp → Prop}
theorem rd_mkN (q : ∀ a H', H a = none → Same H H' → IsErr H' a C → Q (.ref a) H') : tMkN C σ H Q := fun a ha => q a _ ha (same_upd ha) ⟨none, upd_same, fun _ e => by cases e⟩
theorem rd_mkX (h : te σ H fun v H1 => ∀ a dx, H1 a = none → H1 dx = none → dx ≠ a → Q (.ref a) (upd (upd (upd H1 a (exo a C none)) dx (exd dx [(f, v)])) a (exo a C (some dx)))) : tMkX C f te σ H Q := h
theorem mkX_end {v : V} (q : ∀ a H', H a = none → Same H H' → ErrAt H' a C f v → Q (.ref a) H') : ∀ a dx, H a = none → H dx = none → dx ≠ a → Q (.ref a) (upd (upd (upd H a (exo a C none)) dx (exd dx [(f, v)])) a (exo a C (some dx))) :=
  fun a dx ha hd hne => q a _ ha (same_mut (same_mut (same_upd ha) hd) ha) ⟨dx, upd_same, by rw [upd_ne hne, upd_same]⟩
theorem rd_xfl (h : te σ H fun x H1 => ∃ (a C d : Addr) (fs : List (Str × V)) (v : V), x = .ref a ∧ XfC K C ∧ PySem.W.findIn K (.ref C) n = some none ∧ H1 a = some (exo a C (some d)) ∧ H1 d = some (exd d fs) ∧ fs.lookup n = some v ∧ Q v H1) : tXfl K n te σ H Q := h
theorem xfl_end {a : Addr} {v : V} (T : OxC K C) (hno : PySem.W.findIn K (.ref C) n = some none) (e : ErrAt H a C n v) (q : Q v H) :
    ∃ (b C' d : Addr) (fs : List (Str × V)) (v' : V), V.ref a = .ref b ∧ XfC K C' ∧ PySem.W.findIn K (.ref C') n = some none ∧ H b = some (exo b C' (some d)) ∧ H d = some (exd d fs) ∧ fs.lookup n = some v' ∧ Q v' H := by
  obtain ⟨dx, h1, h2⟩ := e
  exact ⟨a, C, dx, _, v, rfl, T.xf, hno, h1, h2, by simp [List.lookup], q⟩
theorem rd_isX {a D : Addr} {b : Bool} (e : IsErr H a C) (T : OxC K C) (k : PySem.W.kitOne K (.ref C) (.ref D) = some b) (q : Q (.bl b) H) : rIsX K [.ref a, .ref D] H Q := by
  obtain ⟨d, h1, h2⟩ := e
  exact ⟨a, C, d, .ref D, .ref D, b, rfl, h1, h2, T.is, .own D, k, q⟩
theorem rd_isXT {a : Addr} {T' : String} {b : Bool} (e : IsErr H a C) (T : OxC K C) (k : PySem.W.kitOne K (.ref C) (.type T') = some b) (q : Q (.bl b) H) : rIsX K [.ref a, .ty T'] H Q := by
  obtain ⟨d, h1, h2⟩ := e
  exact ⟨a, C, d, .ty T', .type T', b, rfl, h1, h2, T.is, .ty T', k, q⟩
theorem rd_isi {x : V} {t : Value} {b : Bool} (ty : TyX K H x t) (k : PySem.W.kitOne K t (.type "str") = some b) (q : Q (.bl b) H) : rIsi K [x, .ty "str"] H Q := ⟨x, .ty "str", t, .type "str", b, rfl, .ty _, ty, k, q⟩
theorem rd_clX {sp : Sp} {E : L2.St → XK} {t : TA} (h : t σ H fun vs H1 => sp vs H1 Q (E σ)) : tCallS sp E t σ H Q := h
theorem rd_notB {a b : Bool} (q : Q (.bl (!decide (a = b))) H) : rNotB (.bl a) (.bl b) H Q := ⟨a, b, rfl, rfl, q⟩
theorem rd_chain {r r' : R2} {ta tb tc : TE} (h : ta σ H fun x H1 => tb σ H1 fun y H2 => r x y H2 fun z H3 => ∃ k, z = .bl k ∧ (if k = true then tc σ H3 fun w' H4 => r' y w' H4 Q else Q (.bl false) H3)) : tChain r r' ta tb tc σ H Q := h
theorem rd_mkN0 (h : ∀ a, H a = none → Q (.ref a) (upd H a (exo a C none))) : tMkN C σ H Q := h
theorem rd_iEnum (h : ta σ H fun vs H1 => ∃ a xs, vs = [.ref a] ∧ SqL K H1 a xs ∧ R (Ite K a) H1) : iEnum K ta σ H R := h
theorem rd_par3 {i j l : Nat} {D : Ends} (h : ta σ H fun vs H1 => ∃ v w u, vs = [v, w, u] ∧ D.nx (((σ.set i (some v)).set j (some w)).set l (some u)) H1) : tPar3 i j l ta D σ H := h
theorem rd_three {P : V → V → V → Prop} {a b c : V} (q : P a b c) : ∃ v w u, [a, b, c] = [v, w, u] ∧ P v w u := ⟨a, b, c, rfl, q⟩
theorem rd_iZipS (h : ta σ H fun vs H1 => ∃ x y, vs = [.str x, .str y] ∧ R (ItzS x y) H1) : iZipS ta σ H R := h
theorem rd_zipS2 {x y : Str} {P : Str → Str → Prop} (q : P x y) : ∃ x' y', [V.str x, V.str y] = [.str x', .str y'] ∧ P x' y' := ⟨x, y, rfl, q⟩
end
/-- a comprehension over zip of two texts -/
theorem lc_zip {l m : List Nat} {g : TG} {tt : TT} {te : TE} {vs : List Nat} {σ : L2.St} {H1 : Hp} {D : Addr} {Qd : Hp → Prop} (Pv : Nat → Hp → Prop) (h0 : Pv 0 (upd H1 D (.lst [])))
    (hs : ∀ (i c d : Nat) (T : Addr) (H : Hp), l[i]? = some c → m[i]? = some d → Pv i H → H T = none → g (.ref T) (wipe σ vs) (upd H T (.tup [.str (tx [c]), .str (tx [d])])) fun σ2 H2 => wipe σ2 vs = wipe σ vs ∧ tt σ2 H2 fun b H3 =>
      if b = true then te σ2 H3 fun y H4 => ∃ acc, H4 D = some (.lst acc) ∧ acc.length < sizeLine ∧ Pv (i + 1) (upd H4 D (.lst (acc ++ [y]))) else Pv (i + 1) H3) (hd : ∀ H, Pv (min l.length m.length) H → Qd H) :
    ∃ W : Nat → Nat → Hp → Prop, (∃ n, W 0 n (upd H1 D (.lst []))) ∧ ∀ i n H, W i n H →
      ((ItzS (tx l) (tx m)).stop i H ∧ Qd H) ∨ ((ItzS (tx l) (tx m)).go i H ∧ ∃ Nx : Hp → Prop, (∀ H', Nx H' → ∃ m', m' < n ∧ W (i + 1) m' H') ∧ ∀ x H', (ItzS (tx l) (tx m)).yld i H x H' → g x (wipe σ vs) H' fun σ2 H2 => wipe σ2 vs = wipe σ vs ∧ tt σ2 H2 fun b H3 =>
        if b = true then te σ2 H3 fun y H4 => ∃ acc, H4 D = some (.lst acc) ∧ acc.length < sizeLine ∧ Nx (upd H4 D (.lst (acc ++ [y]))) else Nx H3) := by
  have e1 : (tx l).cps.size = l.length := by simp [tx]
  have e2 : (tx m).cps.size = m.length := by simp [tx]
  refine ⟨fun i n H => n = min l.length m.length - i ∧ i ≤ min l.length m.length ∧ Pv i H, ⟨_, rfl, Nat.zero_le _, h0⟩, ?_⟩
  rintro i n H ⟨rfl, hi, p⟩
  by_cases hlt : i < min l.length m.length
  · refine .inr ⟨⟨by omega, by omega⟩, Pv (i + 1), fun H' p' => ⟨min l.length m.length - (i + 1), by omega, rfl, hlt, p'⟩, ?_⟩
    rintro x H' ⟨T, c, d, rfl, hT, rfl, hc, hd'⟩
    exact hs i c d T H (by simpa [tx] using hc) (by simpa [tx] using hd') p hT
  · have e : i = min l.length m.length := by omega
    subst e
    exact .inl ⟨⟨by omega, by omega, by omega⟩, hd H p⟩

/-! ### repr of any value -/
/-- how a value is shown, and that it can be -/
structure Good (d : PyData) : Prop where
  s : d.showable = true
  n : d.hasDict = false
  z : d.depth ≤ 20
  l : d.shown.length ≤ 100000
def rReprA (K : PySem.W.Frag) : List V → Hp → VK → Prop := fun xs H Q => ∃ (x : V) (d : PyData), xs = [x] ∧ Dp K H x d ∧ Good d ∧ Q (.str d.shown) H
theorem call_reprA {X : Cx} {k : Nat} (hgd : X.A.guards = some []) (hr : Room k X.A) : CallR X (.builtin "repr") (rReprA X.K) := by
  intro pins s σ H xs us Q I r h
  obtain ⟨x, d, rfl, hd, g, q⟩ := h
  have hsz : d.shown.length ≤ sizeLine := Nat.le_trans g.l (by decide)
  have base : scalR x → reprS x = d.shown → wpAny (model X.prog X.w) X.A (call (.builtin "repr") us) (EP X pins σ Q) X.xe s := fun h1 h2 => call_reprS pins s σ H [x] us Q I r ⟨x, rfl, h1, by rw [h2]; exact q⟩
  cases hd with
  | non => exact base trivial (by simp only [PyData.shown]; rfl)
  | bl b => exact base trivial (by simp only [PyData.shown]; rfl)
  | int i => exact base (by have h0 := g.s; simp only [PyData.showable, decide_eq_true_eq] at h0; exact h0) (by simp only [PyData.shown]; rfl)
  | str z => exact base (by have := hsz; simp only [PyData.shown] at this; exact this) (by simp only [PyData.shown]; rfl)
  | lst h1 h2 => exact call_reprD hgd hr pins s σ H _ us Q I r ⟨_, _, rfl, .lst h1 h2, g.s, g.n, by have := g.z; omega, hsz, q⟩
  | tup h1 h2 => exact call_reprD hgd hr pins s σ H _ us Q I r ⟨_, _, rfl, .tup h1 h2, g.s, g.n, by have := g.z; omega, hsz, q⟩
theorem rd_reprA {K : PySem.W.Frag} {H : Hp} {Q : VK} {x : V} {d : PyData} (h : Dp K H x d) (g : Good d) (q : Q (.str d.shown) H) : rReprA K [x] H Q := ⟨x, d, rfl, h, g, q⟩
theorem sqL_same {K : PySem.W.Frag} {H H' : Hp} {a : Addr} {ys : List V} (h : SqL K H a ys) (s : Same H H') : SqL K H' a ys := by
  rcases h with (h | ⟨o, h⟩) | h
  · exact .inl (.inl (s _ _ h))
  · exact .inl (.inr ⟨o, s _ _ h⟩)
  · exact .inr h
theorem sqT_same {K : PySem.W.Frag} {H H' : Hp} {a : Addr} {ys : List V} (h : SqT K H a ys) (s : Same H H') : SqT K H' a ys := by
  rcases h with (h | ⟨o, h⟩) | h
  · exact .inl (.inl (s _ _ h))
  · exact .inl (.inr ⟨o, s _ _ h⟩)
  · exact .inr h
mutual
theorem Dp.same {K : PySem.W.Frag} {H H' : Hp} (s : Same H H') : ∀ {v : V} {d : PyData}, Dp K H v d → Dp K H' v d
  | _, _, .non => .non
  | _, _, .bl b => .bl b
  | _, _, .int i => .int i
  | _, _, .str x => .str x
  | _, _, .lst h1 h2 => .lst (sqL_same h1 s) (DpAll.same s h2)
  | _, _, .tup h1 h2 => .tup (sqT_same h1 s) (DpAll.same s h2)
theorem DpAll.same {K : PySem.W.Frag} {H H' : Hp} (s : Same H H') : ∀ {vs : List V} {ds : List PyData}, DpAll K H vs ds → DpAll K H' vs ds
  | _, _, .nil => .nil
  | _, _, .cons h1 h2 => .cons (Dp.same s h1) (DpAll.same s h2)
end
end Un

/-! UnNil: xs == [] and xs != [], whatever stands in xs. -/
namespace Un
open PySem PySem.Spec PyProof.Rows L2
def rEqE (K : PySem.W.Frag) : R2 := fun x y H Q => ∃ a b xs, x = .ref a ∧ y = .ref b ∧ SqL K H a xs ∧ SqL K H b [] ∧ Q (.bl xs.isEmpty) H
def rNeE (K : PySem.W.Frag) : R2 := fun x y H Q => ∃ a b xs, x = .ref a ∧ y = .ref b ∧ SqL K H a xs ∧ SqL K H b [] ∧ Q (.bl (!xs.isEmpty)) H
section
variable {X : Cx}
theorem op_eqE (hu : X.A.units + 64 < cLine) : OpR X (compareOp .Eq) (rEqE X.K) := by
  intro pins s σ H x y v u Q I rx ry h
  obtain ⟨a, b, xs, rfl, rfl, ha, hb, q⟩ := h
  cases (show v = Value.ref a from rx)
  cases (show u = Value.ref b from ry)
  obtain ⟨us, r1, p1, _⟩ := I.list ha
  obtain ⟨ws, r2, p2, _⟩ := I.list hb
  cases r2
  cases r1 with
  | nil => exact (SeqAt.RcAt.lists (e := fun _ => true) p1.isList p2.isList rfl (by omega) (fun j h1 => absurd h1 (Nat.not_lt_zero j))) _ _ _ _ ⟨.bl true, H, I, rfl, q⟩
  | cons r rr => exact (SeqAt.RcAt.lists_lengths p1.isList p2.isList (by simp) (by omega)) _ _ _ _ ⟨.bl false, H, I, rfl, q⟩
theorem op_neE (hu : X.A.units + 64 < cLine) : OpR X (compareOp .NotEq) (rNeE X.K) := by
  intro pins s σ H x y v u Q I rx ry h
  obtain ⟨a, b, xs, rfl, rfl, ha, hb, q⟩ := h
  cases (show v = Value.ref a from rx)
  cases (show u = Value.ref b from ry)
  obtain ⟨us, r1, p1, _⟩ := I.list ha
  obtain ⟨ws, r2, p2, _⟩ := I.list hb
  cases r2
  cases r1 with
  | nil => exact (SeqAt.RcNeAt.lists (e := fun _ => true) p1.isList p2.isList rfl (by omega) (fun j h1 => absurd h1 (Nat.not_lt_zero j))) _ _ _ _ ⟨.bl false, H, I, rfl, q⟩
  | cons r rr => exact (SeqAt.RcNeAt.lists_lengths p1.isList p2.isList (by simp) (by omega)) _ _ _ _ ⟨.bl true, H, I, rfl, q⟩
end
section
variable {K : PySem.W.Frag} {H : Hp} {Q : VK} {p e : Addr} {xs : List V}
theorem rd_eqE (h1 : SqL K H p xs) (h2 : SqL K H e []) (q : Q (.bl xs.isEmpty) H) : rEqE K (.ref p) (.ref e) H Q := ⟨p, e, xs, rfl, rfl, h1, h2, q⟩
theorem rd_neE (h1 : SqL K H p xs) (h2 : SqL K H e []) (q : Q (.bl (!xs.isEmpty)) H) : rNeE K (.ref p) (.ref e) H Q := ⟨p, e, xs, rfl, rfl, h1, h2, q⟩
end
end Un

/-! UnOp: instances of own classes under [ ], in, len, == and !=, by their own methods. -/
namespace Un
open PySem PySem.Spec PyProof.Rows L2
section
variable {X : Cx} {CX : CXT} {k : Nat} {C f : Addr} {fd : FuncData} {ps : List Str} {sp : Sp} {E : XK}
/-- an own method called one level in -/
theorem run_in1 {pins : List (Addr × Obj)} {σ : L2.St} {H : Hp} {s : Shared} {Q : VK} {us : List Value} {vs : List V} (F : FnOk X.prog X.w X.K X.mg X.base CX k f fd ps sp) (hr : Room (k + 1) X.A) (hb : Binds X.K fd ps []) (hx : Passes CX X E)
    (I : Inv X pins σ H s) (r : Vals vs us) (h : sp vs H Q E) : wpAny (model X.prog X.w) X.A.in1 (call (.ref f) us) (EP X pins σ Q) X.xe s := by
  have hl : us.length = ps.length := by
    rw [← r.length]
    exact F.len _ _ _ _ h
  have hbd := hb s us I.kIn (by simpa using hl)
  rw [List.append_nil] at hbd
  refine wpAny_call (codeAny_mono (F.run X.A.in1 X.stack s H ⟨us, []⟩ us vs Q E hr.in1 I.env0.in1 hbd r h) fun q s' hq => ?_)
  match q, hq with
  | .error e, hq => exact hx pins σ H s e s' I hq
  | .ok (.ret u), hq => exact I.after hq
  | .ok .next, hq => exact hq.elim
  | .ok .brk, hq => exact hq.elim
  | .ok .cont, hq => exact hq.elim
theorem run_own {pins : List (Addr × Obj)} {σ : L2.St} {H : Hp} {s : Shared} {Q : VK} {us : List Value} {vs : List V} (F : FnOk X.prog X.w X.K X.mg X.base CX k f fd ps sp) (hr : Room k X.A) (hb : Binds X.K fd ps []) (hx : Passes CX X E)
    (I : Inv X pins σ H s) (r : Vals vs us) (h : sp vs H Q E) : wpAny (model X.prog X.w) X.A (call (.ref f) us) (EP X pins σ Q) X.xe s :=
  run_fn F hr hb .nil hx I r (by rw [List.append_nil]; exact h)
/-- o[i] = v -/
def rSetO (C : Addr) (sp : Sp) (E : XK) : TSet := fun o i v H Q => ∃ a dx fs, o = .ref a ∧ H a = some (.ins C dx fs) ∧ sp [.ref a, i, v] H (fun _ H' => Q H') E
theorem set_own (hm : Meth X.K C "__setitem__" f) (hq : PySem.W.noSeq X.K C = true) (F : FnOk X.prog X.w X.K X.mg X.base CX k f fd ps sp) (hr : Room k X.A) (hb : Binds X.K fd ps []) (hx : Passes CX X E) : PSet X (rSetO C sp E) := by
  intro pins s σ H o i v ov iv u Q I ro ri rv h
  obtain ⟨a, dx, fs, rfl, ha, h⟩ := h
  cases (show ov = Value.ref a from ro)
  obtain ⟨mA, O, _⟩ := ins_get I.hok ha
  obtain ⟨od, J, _⟩ := O.look
  obtain ⟨m, hF⟩ := I.fr
  refine PySem.W.ksp_setItem hF I.ok.mod.kin J hq hm.at_ hm.fn (wpAny_mono (run_own F hr hb hx I (show Vals [V.ref a, i, v] [Value.ref a, iv, u] from .cons rfl (.cons ri (.cons rv .nil))) h) (fun r s' hs => ?_) fun _ _ e => e)
  obtain ⟨z, H', I', rz, q⟩ := hs
  exact ⟨H', I', q⟩
/-- x in o, x not in o -/
def rInO (neg : Bool) (C : Addr) (sp : Sp) (E : XK) : R2 := fun x y H Q => ∃ a dx fs, y = .ref a ∧ H a = some (.ins C dx fs) ∧ sp [.ref a, x] H (fun r H' => ∃ b, r = .bl b ∧ Q (.bl (if neg then !b else b)) H') E
theorem op_inO (hm : Meth X.K C "__contains__" f) (F : FnOk X.prog X.w X.K X.mg X.base CX k f fd ps sp) (hr : Room k X.A) (hb : Binds X.K fd ps []) (hx : Passes CX X E) : OpR X (compareOp .In) (rInO false C sp E) := by
  intro pins s σ H x y v u Q I rx ry h
  obtain ⟨a, dx, fs, rfl, ha, h⟩ := h
  cases (show u = Value.ref a from ry)
  obtain ⟨mA, O, _⟩ := ins_get I.hok ha
  obtain ⟨od, J, _⟩ := O.look
  obtain ⟨m, hF⟩ := I.fr
  refine PySem.W.in_K hF I.ok.mod.kin J hm.at_ hm.fn (wpAny_mono (run_own F hr hb hx I (show Vals [V.ref a, x] [Value.ref a, v] from .cons rfl (.cons rx .nil)) h) (fun r s' hs => ?_) fun _ _ e => e)
  obtain ⟨z, H', I', rz, b, rfl, q⟩ := hs
  cases (show r = Value.bool b from rz)
  exact wpAny_truthy_bool ⟨.bl b, H', I', rfl, q⟩
theorem op_notInO (hm : Meth X.K C "__contains__" f) (F : FnOk X.prog X.w X.K X.mg X.base CX k f fd ps sp) (hr : Room k X.A) (hb : Binds X.K fd ps []) (hx : Passes CX X E) : OpR X (compareOp .NotIn) (rInO true C sp E) := by
  intro pins s σ H x y v u Q I rx ry h
  obtain ⟨a, dx, fs, rfl, ha, h⟩ := h
  cases (show u = Value.ref a from ry)
  obtain ⟨mA, O, _⟩ := ins_get I.hok ha
  obtain ⟨od, J, _⟩ := O.look
  obtain ⟨m, hF⟩ := I.fr
  refine PySem.W.notIn_K hF I.ok.mod.kin J hm.at_ hm.fn (wpAny_mono (run_own F hr hb hx I (show Vals [V.ref a, x] [Value.ref a, v] from .cons rfl (.cons rx .nil)) h) (fun r s' hs => ?_) fun _ _ e => e)
  obtain ⟨z, H', I', rz, b, rfl, q⟩ := hs
  cases (show r = Value.bool b from rz)
  exact wpAny_truthy_bool ⟨.bl (!b), H', I', rfl, q⟩
/-- len(o) -/
def rLenO (C : Addr) (sp : Sp) (E : XK) : List V → Hp → VK → Prop := fun xs H Q => ∃ a dx fs, xs = [.ref a] ∧ H a = some (.ins C dx fs) ∧ sp [.ref a] H (fun r H' => ∃ n : Nat, r = .int (n : Int) ∧ n ≤ 1000000 ∧ Q (.int (n : Int)) H') E
theorem call_lenO (hm : Meth X.K C "__len__" f) (F : FnOk X.prog X.w X.K X.mg X.base CX k f fd ps sp) (hr : Room (k + 1) X.A) (hb : Binds X.K fd ps []) (hx : Passes CX X E) : CallR X (.builtin "len") (rLenO C sp E) := by
  intro pins s σ H xs us Q I r h
  obtain ⟨a, dx, fs, rfl, ha, h⟩ := h
  obtain ⟨u, rfl, ru⟩ := vals1 r
  cases (show u = Value.ref a from ru)
  obtain ⟨mA, O, _⟩ := ins_get I.hok ha
  obtain ⟨od, J, _⟩ := O.look
  obtain ⟨m, hF⟩ := I.fr
  refine PySem.W.len_K hF I.ok.mod.kin J hm.at_ hm.fn (wpAny_mono (run_in1 F hr hb hx I (show Vals [V.ref a] [Value.ref a] from .cons rfl .nil) h) (fun r s' hs => ?_) fun _ _ e => e)
  obtain ⟨z, H', I', rz, n, rfl, hn, q⟩ := hs
  obtain ⟨t, rfl⟩ := rz
  exact ⟨⟨by omega, by omega⟩, .int n, H', I'.tok _, ⟨_, rfl⟩, q⟩
/-- o == y where the own method gives a truth value -/
def rEqO (C : Addr) (sp : Sp) (E : XK) (T : V → Hp → Prop) : R2 := fun x y H Q => ∃ a dx fs, x = .ref a ∧ H a = some (.ins C dx fs) ∧ T y H ∧ sp [.ref a, y] H (fun r H' => ∃ b, r = .bl b ∧ Q (.bl b) H') E
/-- what a right operand's class may be -/
def Right (X : Cx) (C : Addr) (T : V → Hp → Prop) : Prop := ∀ (pins : List (Addr × Obj)) (σ : L2.St) (H : Hp) (s : Shared) (y : V) (u : Value), Inv X pins σ H s → RelV y u → T y H → ∃ t, PySem.W.Looks (model X.prog X.w) s.heap (typeOf u) t ∧ PySem.W.notFirst X.K C t = true
theorem op_eqO {T : V → Hp → Prop} (hT : Right X C T) (hm : Meth X.K C "__eq__" f) (F : FnOk X.prog X.w X.K X.mg X.base CX k f fd ps sp) (hr : Room k X.A) (hb : Binds X.K fd ps []) (hx : Passes CX X E) : OpR X (compareOp .Eq) (rEqO C sp E T) := by
  intro pins s σ H x y v u Q I rx ry h
  obtain ⟨a, dx, fs, rfl, ha, ht, h⟩ := h
  cases (show v = Value.ref a from rx)
  obtain ⟨mA, O, _⟩ := ins_get I.hok ha
  obtain ⟨od, J, _⟩ := O.look
  obtain ⟨m, hF⟩ := I.fr
  obtain ⟨t, hL, hn⟩ := hT pins σ H s y u I ry ht
  refine PySem.W.cmp_K (op := .Eq) hr.units0 hF I.ok.mod.kin J hL hn hm.at_ hm.fn (wpAny_mono (run_own F hr hb hx I (show Vals [V.ref a, y] [Value.ref a, u] from .cons rfl (.cons ry .nil)) h) (fun r s' hs => ?_) fun _ _ e => e)
  obtain ⟨z, H', I', rz, b, rfl, q⟩ := hs
  cases (show r = Value.bool b from rz)
  exact ⟨.bl b, H', I', rfl, q⟩
/-- o[i] -/
def rGetO (C : Addr) (sp : Sp) (E : XK) : R2 := fun x y H Q => ∃ a dx fs, x = .ref a ∧ H a = some (.ins C dx fs) ∧ sp [.ref a, y] H Q E
theorem pe_getO {a b : Expr} {ta tb : TE} {pos : Pos} (hm : Meth X.K C "__getitem__" f) (hfn : PySem.W.fnIn X.K f = true) (F : FnOk X.prog X.w X.K X.mg X.base CX k f fd ps sp) (hr : Room (k + 1) X.A) (hb : Binds X.K fd ps []) (hx : Passes CX X E)
    (pa : PE X a ta) (pb : PE X b tb) (hs : ∀ (x : Addr) (i : Value), subscripted b true (.ref x) i = runValue (.builtin "lifetime.subscript" ⟨[.ref x, i], []⟩) := by exact fun _ _ => by with_unfolding_all rfl) : PE X (.Subscript a b pos) (tOp (rGetO C sp E) ta tb) := by
  refine ⟨fun pins s σ H Q I h => Subscript_ (binT pa pb I h fun v u s2 x y H2 I2 rx ry q => ?_)⟩
  obtain ⟨p, dx, fs, rfl, hp, q⟩ := q
  cases (show v = Value.ref p from rx)
  obtain ⟨mA, O, _⟩ := ins_get I2.hok hp
  obtain ⟨od, J, _⟩ := O.look
  obtain ⟨m, hF⟩ := I2.fr
  exact PySem.W.sub_K hF I2.ok.mod.kin J hm.at_ hfn hm.fn (run_in1 F hr hb hx I2 (show Vals [V.ref p, y] [Value.ref p, u] from .cons rfl (.cons ry .nil)) q) (hs p u)
end
end Un

set_option maxHeartbeats 4000000
/-! UnExc: own errors of one field raised, over any base; dead code; methods called with keywords; sorted texts of any number; a walk over a list or a tuple. -/
namespace Un
open PySem PySem.Spec PyProof.Rows L2
/-- code that is never come to -/
theorem ps_dead {X : Cx} {st : Stmt} : PS X st (fun _ _ _ => False) := ⟨fun _ _ _ _ _ _ h => h.elim⟩
theorem pss_dead {X : Cx} {sts : List Stmt} : PSs X sts (fun _ _ _ => False) := ⟨fun _ _ _ _ _ _ h => h.elim⟩
/-- raise C(e) -/
def tMkR (C : Addr) (f : Str) (te : TE) : L2.St → Hp → XK → Prop := fun σ H Q => te σ H fun v H1 => ∀ d, H1 d = none → Q (.ref C) (some d) (upd H1 d (.xd [(f, v)]))
section
variable {X : Cx} {o e : Expr} {te : TE} {f x : Str} {p pos : Pos} {C fI : Addr} {k : Nat} {fd : FuncData} {ps : List Str} {CX : CXT}
theorem pmk_X (T : OxC X.K C) (iC : PySem.W.findIn X.K (.ref C) "__init__" = some (some (.ref fI))) (tI : PySem.W.typeIn X.K (.ref fI) = some (.type "function")) (hno : PySem.W.findIn X.K (.ref C) f = some none)
    (F1 : FnOk X.prog X.w X.K X.mg X.base CX k fI fd ps (SpXI X.K f)) (hr : Room (k + 1) X.A) (hb : Binds X.K fd ps []) (hx : Passes CX X (fun _ _ _ => False)) (hg : Gl X x) (hm : X.mg x = some (.ref C)) (ha : PE X e te)
    (hdb : (x == ("__debug__" : Str)) = false := by decide) (he : starEach (e :: []) X.env = (false, eval e X.env) :: starEach [] X.env := by rfl) (hpl : (backTo pos (starEach [] X.env)).any (·.1) = false := by rfl) :
    PMk X (.Call (.Name x p) [e] [] pos) (tMkR C f te) := by
  intro pins s σ H Q I h
  obtain ⟨nm, q, N, bs, bm, sn, sub, ab, col, dd, k0, k1, k2, k3, k5, B, newId, initId, bmB, hC, FB, BB, hps⟩ := T.cls
  refine wpAny_Call_Name_kw (ld_glob I hg hm ?_ hdb)
  have hA : PA X [e] (tCons te tNil) := pa_cons ha pa_nil he
  refine PySem.W.callWith_K (h₀ := X.base) I.ok.mod.kin T.kC (thn (hA.run pos pins s σ H (fun vs H1 => match vs with | [v] => (∀ d, H1 d = none → Q (.ref C) (some d) (upd H1 d (.xd [(f, v)]))) | _ => False) I h) fun us s1 ⟨vs, H1, I1, r1, q1⟩ => ⟨I1.kIn, ?_⟩) he hpl
  show wpAny _ _ (call (.ref C) us) _ _ _
  obtain ⟨v, rfl⟩ : ∃ v, vs = [v] := by
    rcases vs with _ | ⟨v, _ | ⟨v2, vs⟩⟩
    · exact q1.elim
    · exact ⟨v, rfl⟩
    · exact q1.elim
  replace q1 : ∀ d, H1 d = none → Q (.ref C) (some d) (upd H1 d (.xd [(f, v)])) := q1
  obtain ⟨hp, g, dr, tk, os⟩ := s1
  have hsz : hp.objs.size ≤ hp.objs.size + 1 := Nat.le_succ _
  have hn : H1 (hp.objs.size + 1) = none := I1.hok.fresh hsz
  have hq : SpXI X.K f [.ref (hp.objs.size + 1), v] (upd H1 (hp.objs.size + 1) (exo (hp.objs.size + 1) C none))
      (fun r H2 => r = .non ∧ ∃ d, H1 d = none ∧ d ≠ hp.objs.size + 1 ∧ H2 = upd (upd (upd H1 (hp.objs.size + 1) (exo (hp.objs.size + 1) C none)) d (exd d [(f, v)])) (hp.objs.size + 1) (exo (hp.objs.size + 1) C (some d))) (fun _ _ _ => False) :=
    ⟨_, v, C, rfl, T, hno, upd_same, fun dx hd hda => ⟨rfl, dx, by rw [upd_ne hda] at hd; exact hd, hda, rfl⟩⟩
  have kk : ∀ b o, hp.get? b = some o → ((hp.push (PySem.W.kdv_tup us)).push (PySem.HandSPX.excO C hp.objs.size)).get? b = some o := fun b o z => Heap.get?_push_of_some _ (Heap.get?_push_of_some _ z)
  have hget : ((hp.push (PySem.W.kdv_tup us)).push (PySem.HandSPX.excO C hp.objs.size)).get? (hp.objs.size + 1) = some (PySem.HandSPX.excO C hp.objs.size) := by heap_get
  have I2 : Inv X pins σ (upd H1 (hp.objs.size + 1) (exo (hp.objs.size + 1) C none)) ⟨(hp.push (PySem.W.kdv_tup us)).push (PySem.HandSPX.excO C hp.objs.size), g, dr, tk, os⟩ :=
    I1.laid (t' := tk) (a := hp.objs.size + 1) (o := exo (hp.objs.size + 1) C none) (h' := (hp.push (PySem.W.kdv_tup us)).push (PySem.HandSPX.excO C hp.objs.size)) kk hsz (exo_ok hget)
  have r2 : Vals (V.ref (hp.objs.size + 1) :: ([v] ++ [])) (Value.ref (hp.objs.size + 1) :: (us ++ [])) := .cons rfl (r1.append .nil)
  have hl : (Value.ref (hp.objs.size + 1) :: us ++ []).length = ps.length := by
    have e1 := r2.length
    have e3 := F1.len _ _ _ _ hq
    simp only [List.length_cons, List.length_append, List.length_nil] at e1 e3 ⊢
    omega
  have hus : us.length ≤ sizeLine := by
    rw [← Paired.length r1, sizeLine_eq]
    simp
  refine wpAny_call (PySem.OXX.call_x FB BB (I1.kIn _ _ hC) (PySem.W.looks_findIn I1.kIn iC) (fun self => PySem.W.bind_fn I1.kIn self tI) hus
    (codeAny_mono (F1.run _ X.stack _ _ ⟨Value.ref (hp.objs.size + 1) :: us, []⟩ (Value.ref (hp.objs.size + 1) :: us ++ []) _ _ (fun _ _ _ => False) (hr.make C us []) (I2.env0.make C us []) (hb _ (Value.ref (hp.objs.size + 1) :: us) I2.kIn hl) r2 hq) fun r s' hq' => ?_))
  match r, hq' with
  | .error er, hq' => exact hx pins σ _ _ er s' I2 hq'
  | .ok .next, hq' => exact hq'.elim
  | .ok .brk, hq' => exact hq'.elim
  | .ok .cont, hq' => exact hq'.elim
  | .ok (.ret u), hq' =>
    obtain ⟨w', H2, os2, bare2, un2, hok2, rv, ev, d, hd1, hda, eH⟩ := hq'
    subst ev
    obtain ⟨h2, g2, d2, t2, os'⟩ := s'
    refine ⟨rv, mk_end (raises_own T.xf.exC T.ty) I1 hsz kk un2 hok2 os2 bare2 (by rw [eH, upd_same]) (by rw [eH, upd_ne hda, upd_same]) hd1 ?_⟩
    have e4 : upd (del H2 (hp.objs.size + 1)) d (.xd [(f, v)]) = upd H1 d (.xd [(f, v)]) := by
      funext b
      by_cases hb1 : b = d
      · subst hb1
        rw [upd_same, upd_same]
      · rw [upd_ne hb1, upd_ne hb1]
        by_cases hb2 : b = hp.objs.size + 1
        · subst hb2
          rw [del_same, hn]
        · rw [del_ne hb2, eH, upd_ne hb2, upd_ne hb1, upd_ne hb2]
    rw [e4]
    exact q1 d hd1
end
/-- sorted(texts), any number of them -/
def rSortedT (K : PySem.W.Frag) : List V → Hp → VK → Prop := fun vs H Q => ∃ (a : Addr) (xs : List Str), vs = [V.ref a] ∧ SqL K H a (xs.map V.str) ∧
  ∀ (ys : List Str) (p : Addr), ys.Perm xs → sortedS ys = true → H p = none → Q (.ref p) (upd H p (.lst (ys.map V.str)))
theorem cr_sortedT {X : Cx} : CallR X (.builtin "sorted") (rSortedT X.K) := by
  intro pins s σ H vs us Q I r h
  obtain ⟨a, xs, rfl, hs, q⟩ := h
  obtain ⟨its, rv, hl, hz⟩ := I.list hs
  rw [Vals.ref1 r]
  have hlen0 := rv.length
  refine PyProof.Rows.sorted_strsAny hl.isList rv.strs (by rw [← hlen0]; exact hz) fun out ys h1 h2 h3 => ?_
  obtain ⟨ep, he'⟩ := PyProof.Rows.sortedAll_at s.heap its out
  have hlen : (ys.map V.str).length ≤ sizeLine := by
    rw [List.length_map, h2.length_eq]
    rw [List.length_map] at hz
    exact hz
  exact ⟨.ref _, upd H (s.heap.objs.size + 1) (.lst (ys.map V.str)), I.laid (t' := s.toks) (fun _ _ => PyProof.Rows.sortedAll_old) (Nat.le_succ _) ⟨hlen, out.toList, ep, vals_of_strs h1, he'⟩, rfl, q ys _ h2 h3 (I.hok.fresh (Nat.le_succ _))⟩
/-- for x in xs, a list or a tuple -/
def iSeq (K : PySem.W.Frag) (tl : TE) : TI := fun σ H R => iList K tl σ H R ∨ iTup K tl σ H R
theorem pi_seq {X : Cx} {tg l : Expr} {tl : TE} (hl : PE X l tl) : PI X tg l (iSeq X.K tl) := ⟨fun pins s σ H R I h => h.elim ((pi_list hl).run pins s σ H R I) ((pi_tup hl).run pins s σ H R I)⟩
/-- o.m(e, .., k = v, ..) -/
def tMethN (C : Addr) (m : Str) (n l : Nat) (sp : Sp) (gV : List V → List V → List V) (E : XK) (ta : TE) (t tk : TA) : TE := fun σ H Q => ta σ H fun x H1 => ∃ a dx fs, x = .ref a ∧ H1 a = some (.ins C dx fs) ∧ fs.lookup m = none ∧
  t σ H1 fun vs H2 => tk σ H2 fun zs H3 => vs.length + 1 = n ∧ zs.length = l ∧ sp (gV (x :: vs) zs) H3 Q E
section
variable {X : Cx} {CX : CXT} {k n : Nat} {C f : Addr} {fd : FuncData} {ps ks : List Str} {sp : Sp} {E : XK} {m : Str} {apos pos : Pos} {o e : Expr} {es : List Expr} {kws : List Keyword} {ta : TE} {t tk : TA} {g : List Value → List Value → List Value} {gV : List V → List V → List V}
theorem pe_methN {pl : Sem Bool} (he : PE X o ta) (c : Cls X.K C) (hm : Meth X.K C m f) (F : FnOk X.prog X.w X.K X.mg X.base CX k f fd ps sp) (hr : Room k X.A) (hb : KBn X.K fd ps n ks g gV) (hx : Passes CX X E) (ha : PA X (e :: es) t) (hkw : PK X kws tk)
    (hall : (backToKw pos (keywordEach kws X.env)).all (·.1.isSome) = true := by rfl) (hks : (backToKw pos (keywordEach kws X.env)).filterMap (·.1) = ks := by rfl)
    (hst : starEach (e :: es) X.env = (false, eval e X.env) :: starEach es X.env := by rfl)
    (hpl : ((backTo pos (starEach (e :: es) X.env)).any (·.1) || (backToKw pos (keywordEach kws X.env)).any (·.1.isNone)) = false := by rfl)
    (ht : eval (.Call (.Attribute o m apos) (e :: es) kws pos) X.env = (do let ov ← eval o X.env; standAt apos.atName; let (f, first) ← holding [ov] (getMethod ov m pl); callWith pos f first (backTo pos (starEach (e :: es) X.env)) (backToKw pos (keywordEach kws X.env))) := by rfl) :
    PE X (.Call (.Attribute o m apos) (e :: es) kws pos) (tMethN C m n ks.length sp gV E ta t tk) := by
  refine ⟨fun pins s σ H Q I h => ?_⟩
  refine PySem.W.methodCall_KW (pl := pl) (thn (he.run pins s σ H _ I h) fun u s1 ⟨x, H1, I1, rx, a, dx, fs, ex, ea, l, q⟩ => ?_) ht
  subst ex
  obtain rfl : u = Value.ref a := rx
  refine getmeth_ok I1 ea c hm l ?_
  refine PySem.W.callWith_KW (first := [.ref a]) (h₀ := X.base) I.ok.mod.kin hm.kp hall (thn (ha.run pos pins s1 σ H1 _ I1 q) fun us s2 ⟨vs, H2, I2, r, q2⟩ => ?_) hpl hst
  refine thn (hkw.run pos pins s2 σ H2 _ I2 q2) fun ws s3 ⟨zs, H3, I3, rz, l1, l2, q3⟩ => ⟨I3.kIn, ?_⟩
  rw [hks]
  exact run_fnN (us := .ref a :: us) (vs := .ref a :: vs) F hr hb hx I3 (.cons rfl r) rz (by rw [List.length_cons]; exact l1) l2 q3
end
end Un

/-! UnM: methods in bundles; texts as keys of dicts. -/
namespace Un
open PySem PySem.Spec PyProof.Rows L2
/-- a method as it stands, no default -/
def AtM (K : PySem.W.Frag) (C : Addr) (m qual : Str) (st : Stmt) (ps : List Str) : Prop := ∃ (f : Addr) (fd : FuncData), Fun K m qual st f fd ∧ Meth K C m f ∧ PySem.W.fnIn K f = true ∧ Binds K fd ps []
/-- the same as a promise -/
def MetG (P : Program) (w : World) (K : PySem.W.Frag) (mg : Str → Option Value) (base : Heap) (CX : CXT) (C : Addr) (m : Str) (ps : List Str) (k : Nat) (sp : Sp) : Prop :=
  ∃ (f : Addr) (fd : FuncData), Cls K C ∧ Meth K C m f ∧ FnOk P w K mg base CX k f fd ps sp ∧ PySem.W.fnIn K f = true ∧ Binds K fd ps []
section
variable {P : Program} {w : World} {K : PySem.W.Frag} {mg : Str → Option Value} {base : Heap} {C : Addr} {m qual : Str} {st : Stmt} {ps : List Str} {k : Nat} {sp : Sp} {CX : CXT}
theorem metG_of (c : Cls K C) (a : AtM K C m qual st ps) (h : ∀ f fd, Fun K m qual st f fd → FnOk P w K mg base CX k f fd ps sp) : MetG P w K mg base CX C m ps k sp := by
  obtain ⟨f, fd, F, M, i, b⟩ := a
  exact ⟨f, fd, c, M, h f fd F, i, b⟩
end
section
variable {X : Cx} {C : Addr} {m : Str} {ps : List Str} {k j : Nat} {sp : Sp} {a b : Expr} {ta tb : TE} {pos : Pos} {CX : CXT} {E : XK}
theorem set_G (g : MetG X.prog X.w X.K X.mg X.base CX0 C "__setitem__" ps k sp) (hq : PySem.W.noSeq X.K C = true) (hr : Room j X.A) (hk : k ≤ j) : PSet X (rSetO C sp E0) := by
  obtain ⟨f, fd, c, M, F, i, b⟩ := g
  exact set_own M hq F (hr.mono hk) b pass0
theorem in_G (g : MetG X.prog X.w X.K X.mg X.base CX0 C "__contains__" ps k sp) (hr : Room j X.A) (hk : k ≤ j) : OpR X (compareOp .In) (rInO false C sp E0) := by
  obtain ⟨f, fd, c, M, F, i, b⟩ := g
  exact op_inO M F (hr.mono hk) b pass0
theorem notIn_G (g : MetG X.prog X.w X.K X.mg X.base CX0 C "__contains__" ps k sp) (hr : Room j X.A) (hk : k ≤ j) : OpR X (compareOp .NotIn) (rInO true C sp E0) := by
  obtain ⟨f, fd, c, M, F, i, b⟩ := g
  exact op_notInO M F (hr.mono hk) b pass0
theorem len_G (g : MetG X.prog X.w X.K X.mg X.base CX0 C "__len__" ps k sp) (hr : Room j X.A) (hk : k + 1 ≤ j) : CallR X (.builtin "len") (rLenO C sp E0) := by
  obtain ⟨f, fd, c, M, F, i, b⟩ := g
  exact call_lenO M F (hr.mono hk) b pass0
theorem eq_G {T : V → Hp → Prop} (hT : Right X C T) (g : MetG X.prog X.w X.K X.mg X.base CX0 C "__eq__" ps k sp) (hr : Room j X.A) (hk : k ≤ j) : OpR X (compareOp .Eq) (rEqO C sp E0 T) := by
  obtain ⟨f, fd, c, M, F, i, b⟩ := g
  exact op_eqO hT M F (hr.mono hk) b pass0
theorem pe_getG (g : MetG X.prog X.w X.K X.mg X.base CX C "__getitem__" ps k sp) (hr : Room j X.A) (hk : k + 1 ≤ j) (hx : Passes CX X E) (pa : PE X a ta) (pb : PE X b tb)
    (hs : ∀ (x : Addr) (i : Value), subscripted b true (.ref x) i = runValue (.builtin "lifetime.subscript" ⟨[.ref x, i], []⟩) := by exact fun _ _ => by with_unfolding_all rfl) : PE X (.Subscript a b pos) (tOp (rGetO C sp E) ta tb) := by
  obtain ⟨f, fd, c, M, F, i, b⟩ := g
  exact pe_getO M i F (hr.mono hk) b hx pa pb hs
end
section
variable {X : Cx} {C : Addr} {m x : Str} {ps : List Str} {k j : Nat} {sp : Sp} {e o : Expr} {es : List Expr} {ta : TE} {t : TA} {p pos apos : Pos} {dvs : List V}
/-- o.m(e, ..) and o.m() -/
theorem pe_mtG {pl : Sem Bool} (g : MetG X.prog X.w X.K X.mg X.base CX0 C m ps k sp) (hr : Room j X.A) (hk : k ≤ j) (he : PE X o ta) (ha : PA X (e :: es) t)
    (hst : starEach (e :: es) X.env = (false, eval e X.env) :: starEach es X.env := by rfl) (hpl : (backTo pos (starEach es X.env)).any (·.1) = false := by rfl)
    (ht : eval (.Call (.Attribute o m apos) (e :: es) [] pos) X.env = (do let ov ← eval o X.env; standAt apos.atName; let (f, first) ← holding [ov] (getMethod ov m pl); callWith pos f first (backTo pos (starEach (e :: es) X.env)) (backToKw pos (keywordEach [] X.env))) := by rfl) :
    PE X (.Call (.Attribute o m apos) (e :: es) [] pos) (tMeth C m sp [] E0 ta t) := by
  obtain ⟨f, fd, c, M, F, i, b⟩ := g
  exact pe_meth (pl := pl) he c M F (hr.mono hk) b .nil pass0 ha hst hpl ht
theorem pe_mtG0 {pl : Sem Bool} (g : MetG X.prog X.w X.K X.mg X.base CX0 C m ps k sp) (hr : Room j X.A) (hk : k ≤ j) (he : PE X o ta)
    (ht : eval (.Call (.Attribute o m apos) [] [] pos) X.env = (do let ov ← eval o X.env; standAt apos.atName; let (f, first) ← holding [ov] (getMethod ov m pl); callWith pos f first (backTo pos (starEach [] X.env)) (backToKw pos (keywordEach [] X.env))) := by rfl) :
    PE X (.Call (.Attribute o m apos) [] [] pos) (tMeth C m sp [] E0 ta tNil) := by
  obtain ⟨f, fd, c, M, F, i, b⟩ := g
  exact pe_meth0 (pl := pl) he c M F (hr.mono hk) b .nil pass0 ht
/-- the same with defaults -/
def MetD (P : Program) (w : World) (K : PySem.W.Frag) (mg : Str → Option Value) (base : Heap) (C : Addr) (m : Str) (k : Nat) (sp : Sp) (dvs : List V) : Prop :=
  ∃ (f : Addr) (fd : FuncData) (ps : List Str) (ds : List Value), Cls K C ∧ Meth K C m f ∧ FnOk P w K mg base CX0 k f fd ps sp ∧ Binds K fd ps ds ∧ Vals dvs ds
theorem pe_mtD {pl : Sem Bool} (g : MetD X.prog X.w X.K X.mg X.base C m k sp dvs) (hr : Room j X.A) (hk : k ≤ j) (he : PE X o ta) (ha : PA X (e :: es) t)
    (hst : starEach (e :: es) X.env = (false, eval e X.env) :: starEach es X.env := by rfl) (hpl : (backTo pos (starEach es X.env)).any (·.1) = false := by rfl)
    (ht : eval (.Call (.Attribute o m apos) (e :: es) [] pos) X.env = (do let ov ← eval o X.env; standAt apos.atName; let (f, first) ← holding [ov] (getMethod ov m pl); callWith pos f first (backTo pos (starEach (e :: es) X.env)) (backToKw pos (keywordEach [] X.env))) := by rfl) :
    PE X (.Call (.Attribute o m apos) (e :: es) [] pos) (tMeth C m sp dvs E0 ta t) := by
  obtain ⟨f, fd, ps, ds, c, M, F, b, d⟩ := g
  exact pe_meth (pl := pl) he c M F (hr.mono hk) b d pass0 ha hst hpl ht
theorem pe_mtD0 {pl : Sem Bool} (g : MetD X.prog X.w X.K X.mg X.base C m k sp dvs) (hr : Room j X.A) (hk : k ≤ j) (he : PE X o ta)
    (ht : eval (.Call (.Attribute o m apos) [] [] pos) X.env = (do let ov ← eval o X.env; standAt apos.atName; let (f, first) ← holding [ov] (getMethod ov m pl); callWith pos f first (backTo pos (starEach [] X.env)) (backToKw pos (keywordEach [] X.env))) := by rfl) :
    PE X (.Call (.Attribute o m apos) [] [] pos) (tMeth C m sp dvs E0 ta tNil) := by
  obtain ⟨f, fd, ps, ds, c, M, F, b, d⟩ := g
  exact pe_meth0 (pl := pl) he c M F (hr.mono hk) b d pass0 ht
/-- C(e, ..) -/
def MakD (P : Program) (w : World) (K : PySem.W.Frag) (mg : Str → Option Value) (base : Heap) (x : Str) (C : Addr) (k : Nat) (sp : Sp) (dvs : List V) : Prop :=
  ∃ (f : Addr) (fd : FuncData) (ps : List Str) (ds : List Value), L2.Mk K C f ∧ FnOk P w K mg base CX0 k f fd ps sp ∧ mg x = some (.ref C) ∧ Binds K fd ps ds ∧ Vals dvs ds
theorem pe_mkD (g : MakD X.prog X.w X.K X.mg X.base x C k sp dvs) (hr : Room j X.A) (hk : k + 1 ≤ j) (hg : Gl X x) (ha : PA X (e :: es) t)
    (hdb : (x == ("__debug__" : Str)) = false := by decide) (he : starEach (e :: es) X.env = (false, eval e X.env) :: starEach es X.env := by rfl) (hpl : (backTo pos (starEach es X.env)).any (·.1) = false := by rfl) :
    PE X (.Call (.Name x p) (e :: es) [] pos) (tMake C sp dvs E0 t) := by
  obtain ⟨f, fd, ps, ds, M, F, hm, b, d⟩ := g
  exact pe_make M F (hr.mono hk) hg hm b d pass0 ha hdb he hpl
end
def rGtX : R2 := fun x y H Q => ∃ a b, x = .str (tx a) ∧ y = .str (tx b) ∧ Q (.bl (decide (b < a))) H
theorem op_gtX {X : Cx} : OpR X (compareOp .Gt) rGtX := by
  intro pins s σ H x y v u Q I rx ry h
  obtain ⟨a, b, rfl, rfl, q⟩ := h
  exact op_gt_str pins s σ H _ _ v u Q I rx ry ⟨_, _, rfl, rfl, by rw [tx_cps, tx_cps]; exact q⟩
/-! ### tables from texts to ints -/
abbrev Tab := List (List Nat × Int)
def encT (m : Tab) : List (Key × V) := m.map fun p => (Sum.inr (tx p.1), V.int p.2)
def getT (m : Tab) (k : List Nat) : Option Int := (m.find? fun p => decide (p.1 = k)).map (·.2)
def putT (m : Tab) (k : List Nat) (v : Int) : Tab := if (m.any fun p => decide (p.1 = k)) = true then m.map (fun p => if p.1 = k then (p.1, v) else p) else m ++ [(k, v)]
def dropT (m : Tab) (k : List Nat) : Tab := m.filter fun p => decide (p.1 ≠ k)
theorem key_eq {a b : List Nat} : ((Sum.inr (tx a) : Key) = Sum.inr (tx b)) ↔ a = b := ⟨fun h => tx_inj (Sum.inr.inj h), fun h => by rw [h]⟩
theorem valV_enc (k : List Nat) : ∀ m : Tab, valV (encT m) (Sum.inr (tx k)) = (getT m k).map V.int
  | [] => rfl
  | (a, v) :: r => by
    by_cases h : a = k
    · subst h
      show valV ((Sum.inr (tx a), V.int v) :: encT r) (Sum.inr (tx a)) = _
      rw [valV_pos rfl]
      simp [getT]
    · show valV ((Sum.inr (tx a), V.int v) :: encT r) (Sum.inr (tx k)) = _
      rw [valV_neg (fun e => h (key_eq.mp e)), valV_enc k r]
      simp [getT, h]
theorem putK_enc (m : Tab) (k : List Nat) (v : Int) : putK (encT m) (Sum.inr (tx k)) (V.int v) = encT (putT m k v) := by
  unfold putK putT
  have e1 : ((encT m).any fun kv => decide (kv.1 = Sum.inr (tx k))) = (m.any fun p => decide (p.1 = k)) := by
    unfold encT
    rw [List.any_map]
    congr 1
    funext p
    show decide ((Sum.inr (tx p.1) : Key) = Sum.inr (tx k)) = decide (p.1 = k)
    rw [decide_eq_decide]
    exact key_eq
  rw [e1]
  split
  · unfold encT
    rw [List.map_map, List.map_map]
    congr 1
    funext p
    show (if (Sum.inr (tx p.1) : Key) = Sum.inr (tx k) then _ else _) = (Sum.inr (tx (if p.1 = k then (p.1, v) else p).1), V.int (if p.1 = k then (p.1, v) else p).2)
    by_cases h : p.1 = k
    · rw [if_pos (key_eq.mpr h), if_pos h]
    · rw [if_neg (fun e => h (key_eq.mp e)), if_neg h]
  · unfold encT
    rw [List.map_append]
    rfl
theorem dropK_enc (m : Tab) (k : List Nat) : dropK (encT m) (Sum.inr (tx k)) = encT (dropT m k) := by
  unfold dropK dropT encT
  rw [List.filter_map]
  congr 1
  congr 1
  funext p
  show decide ((Sum.inr (tx p.1) : Key) ≠ Sum.inr (tx k)) = decide (p.1 ≠ k)
  rw [decide_eq_decide]
  exact not_congr key_eq
theorem encT_len (m : Tab) : (encT m).length = m.length := List.length_map _
def keysT (m : Tab) : List (List Nat) := m.map (·.1)
theorem putT_keys (m : Tab) (k : List Nat) (v : Int) : keysT (putT m k v) = if k ∈ keysT m then keysT m else keysT m ++ [k] := by
  unfold putT
  have e : (m.any fun p => decide (p.1 = k)) = decide (k ∈ keysT m) := by
    rw [Bool.eq_iff_iff, List.any_eq_true, decide_eq_true_eq]
    unfold keysT
    rw [List.mem_map]
    constructor
    · rintro ⟨p, h1, h2⟩
      exact ⟨p, h1, by simpa using h2⟩
    · rintro ⟨p, h1, h2⟩
      exact ⟨p, h1, by simpa using h2⟩
  rw [e]
  by_cases h : k ∈ keysT m
  · rw [if_pos (decide_eq_true h), if_pos h]
    unfold keysT
    rw [List.map_map]
    congr 1
    funext p
    show (if p.1 = k then (p.1, v) else p).1 = p.1
    split <;> rfl
  · rw [if_neg (by simpa using h), if_neg h]
    unfold keysT
    rw [List.map_append]
    rfl
theorem putT_nodup {m : Tab} {k : List Nat} {v : Int} (h : (keysT m).Nodup) : (keysT (putT m k v)).Nodup := by
  rw [putT_keys]
  split
  · exact h
  · rename_i hk
    exact List.nodup_append.mpr ⟨h, by simp, fun a ha b hb => by
      have : b = k := by simpa using hb
      subst this
      rintro rfl
      exact hk ha⟩
theorem dropT_nodup {m : Tab} {k : List Nat} (h : (keysT m).Nodup) : (keysT (dropT m k)).Nodup := by
  unfold keysT dropT at *
  exact h.sublist (List.filter_sublist.map _)
theorem getT_some {m : Tab} {k : List Nat} (h : k ∈ keysT m) : ∃ v, getT m k = some v := by
  unfold getT keysT at *
  obtain ⟨p, hp, rfl⟩ := List.mem_map.mp h
  cases e : m.find? fun q => decide (q.1 = p.1) with
  | none =>
    have := List.find?_eq_none.mp e p hp
    simp at this
  | some q => exact ⟨q.2, rfl⟩
theorem getT_none {m : Tab} {k : List Nat} (h : k ∉ keysT m) : getT m k = none := by
  unfold getT keysT at *
  rw [Option.map_eq_none_iff, List.find?_eq_none]
  intro p hp
  simp only [decide_eq_true_eq]
  intro e
  exact h (List.mem_map.mpr ⟨p, hp, e⟩)
/-! ### sorted texts -/
theorem sortedS_le : ∀ {ys : List (List Nat)}, sortedS (ys.map tx) = true → ys.Pairwise (fun a b => ¬ b < a) := by
  have aux : ∀ (r : List (List Nat)) (p : List Nat), risingS (tx p) (r.map tx) = true → (p :: r).Pairwise (fun a b => ¬ b < a) := by
    intro r
    induction r with
    | nil => intro p _; simp
    | cons k r ih =>
      intro p h
      rw [List.map_cons] at h
      unfold risingS at h
      rw [Bool.and_eq_true, tx_cps, tx_cps, PyProof.Rows.ltCps_eq] at h
      have h1 : ¬ k < p := by simpa using h.1
      have h2 := ih k h.2
      refine List.Pairwise.cons (fun x hx => ?_) h2
      rcases List.mem_cons.mp hx with e | hx
      · rw [e]
        exact h1
      · have h3 := (List.pairwise_cons.mp h2).1 x hx
        intro h4
        rcases Classical.em (p < k) with h5 | h5
        · exact h3 (List.lt_trans h4 h5)
        · exact h3 (by
            have : p = k := List.le_antisymm (List.not_lt.mp h1) (List.not_lt.mp h5)
            rw [← this]
            exact h4)
  intro ys h
  cases ys with
  | nil => exact .nil
  | cons a r => exact aux r a h
theorem sort_unique : ∀ {xs ys : List (List Nat)}, xs.Perm ys → xs.Pairwise (fun a b => ¬ b < a) → ys.Pairwise (fun a b => ¬ b < a) → xs = ys
  | [], ys, h, _, _ => (List.nil_perm.mp h).symm
  | a :: r, ys, h, hx, hy => by
    cases ys with
    | nil => exact absurd h (by simp)
    | cons b t =>
      have hab : a = b := by
        have ha : a ∈ b :: t := h.mem_iff.mp List.mem_cons_self
        have hb : b ∈ a :: r := h.mem_iff.mpr List.mem_cons_self
        rcases List.mem_cons.mp ha with e | ha
        · exact e
        · rcases List.mem_cons.mp hb with e | hb
          · exact e.symm
          · exact List.le_antisymm (List.not_lt.mp ((List.pairwise_cons.mp hx).1 b hb)) (List.not_lt.mp ((List.pairwise_cons.mp hy).1 a ha))
      subst hab
      rw [sort_unique (List.Perm.cons_inv h) (List.pairwise_cons.mp hx).2 (List.pairwise_cons.mp hy).2]
/-! ### two tables compared -/
def eqTab (m n : Tab) : Bool := decide (m.length = n.length) && m.all fun p => decide (getT n p.1 = some p.2)
theorem relO_none {o : Option Value} (h : RelO none o) : o = none := by
  cases o with
  | none => rfl
  | some v => exact h.elim
theorem hits_tab {A : Around} {s : Shared} {n : Tab} {vb : List (Key × Value)} (rb : KV (encT n) vb) : ∀ {m : Tab} {va : List (Key × Value)}, KV (encT m) va → PySem.W.KeqHits A s vb va (m.all fun p => decide (getT n p.1 = some p.2))
  | [], va, ra => by
    cases ra
    exact .nil
  | (k, x) :: r, va, ra => by
    cases ra with
    | @cons _ q _ qs h t =>
      obtain ⟨key, v⟩ := q
      obtain ⟨h1, h2⟩ := h
      have h1' : (Sum.inr (tx k) : Key) = key := h1
      subst h1'
      obtain ⟨tk, rfl⟩ := h2
      have ih := hits_tab (A := A) (s := s) rb (m := r) t
      have rr : RelO ((getT n k).map V.int) (valueAt vb (Sum.inr (tx k))) := by
        rw [← valV_enc]
        exact rb.val _
      rw [List.all_cons]
      cases e : getT n k with
      | none =>
        rw [e] at rr
        have : decide ((none : Option Int) = some x) = false := by simp
        simp only [e, this, Bool.false_and]
        exact .miss (relO_none rr)
      | some y =>
        rw [e] at rr
        obtain ⟨u, hu, ru⟩ := RelO.some_of (v := V.int y) (o := valueAt vb (Sum.inr (tx k))) rr
        obtain ⟨tk2, rfl⟩ := ru
        have e2 : decide (some y = some x) = (x == y) := by
          rw [Bool.eq_iff_iff, decide_eq_true_eq, beq_iff_eq]
          exact ⟨fun h => (Option.some.inj h).symm, fun h => by rw [h]⟩
        simp only [e, e2]
        exact .hit hu (SeqAt.EqAt.int_int x tk y tk2) ih
def rEqT : R2 := fun x y H Q => ∃ a b m n, x = .ref a ∧ y = .ref b ∧ H a = some (.dK (encT m)) ∧ H b = some (.dK (encT n)) ∧ Q (.bl (eqTab m n)) H
theorem op_eqT {X : Cx} (hu : X.A.units + 1 < cLine) : OpR X (compareOp .Eq) rEqT := by
  intro pins s σ H x y v u Q I rx ry h
  obtain ⟨a, b, m, n, rfl, rfl, ea, eb, q⟩ := h
  cases (show v = Value.ref a from rx)
  cases (show u = Value.ref b from ry)
  obtain ⟨_, ya, va, ra, da⟩ := (show ObjOk X.prog X.w H s.heap a (.dK (encT m)) from I.hok a _ ea)
  obtain ⟨_, yb, vb, rb, db⟩ := (show ObjOk X.prog X.w H s.heap b (.dK (encT n)) from I.hok b _ eb)
  have e1 : va.length = m.length := by rw [← Paired.length ra, encT_len]
  have e2 : vb.length = n.length := by rw [← Paired.length rb, encT_len]
  refine PySem.W.keq_eq (knd := mixKind X.prog X.w) ya yb da db (by omega) (fun _ => hits_tab rb ra) (fin_bl I q ?_)
  unfold eqTab
  congr 1
  rw [Bool.eq_iff_iff, decide_eq_true_eq, beq_iff_eq, e1, e2]
theorem rd_eqT {H : Hp} {Q : VK} {a b : Addr} {m n : Tab} (h1 : H a = some (.dK (encT m))) (h2 : H b = some (.dK (encT n))) (q : Q (.bl (eqTab m n)) H) : rEqT (.ref a) (.ref b) H Q := ⟨a, b, m, n, rfl, rfl, h1, h2, q⟩
end Un

/-! UnK: what the end of a proof asks of own exception classes, one Bool a class. -/
namespace Un
open PySem PySem.Spec PyProof.Rows L2
def clB (K : PySem.W.Frag) (C : Addr) : Bool :=
  decide (PySem.W.findIn K (.ref C) "__setattr__" = some (some (.builtin "object.__setattr__"))) && (PySem.W.keepIn K (.ref C) && (xfB K C &&
  (decide (PySem.W.findIn K (.ref C) "__class__" = some (some (.builtin "object.__class__"))) && (decide (PySem.W.specialIn K (.builtin "object.__class__") "__get__" = some (some (.builtin "getset_descriptor.__get__"))) &&
  (decide (PySem.W.takesIn K (.builtin "object.__class__") = some true) && (decide (PySem.W.mroIn K C (.type "object") = some true) && (decide (PySem.W.typeIn K (.ref C) = some (.type "type")) && decide (PySem.W.exmOne K (.ref C) (.ref C) = some true))))))))
section
variable {K : PySem.W.Frag} {C N : Addr} {nm q : Str} {bs bm : List Value} {sn : List Str} {sub : List Value} {ab : Bool} {col : Option Bool} {dd : Option Addr} {k0 k1 k2 k3 k5 : Option Value} {newId : String}
theorem oxc_of (cls : ∃ nm q N bs bm sn sub ab col dd k0 k1 k2 k3 k5 B newId initId bmB, K.lookup C = some (excClassObj nm q C N bs bm true sn sub ab col dd k0 k1 k2 k3 k5 newId) ∧ ExcBaseFacts B newId initId bmB ∧ PySem.OXX.Beh B bm ∧ ∀ self, refuseLoop self "__setattr__" (.ref C :: bm) = pure ())
    (b : clB K C = true) : OxC K C := by
  obtain ⟨h1, b⟩ := Bool.and_eq_true_iff.mp b
  obtain ⟨h2, b⟩ := Bool.and_eq_true_iff.mp b
  obtain ⟨h3, b⟩ := Bool.and_eq_true_iff.mp b
  obtain ⟨h4, b⟩ := Bool.and_eq_true_iff.mp b
  obtain ⟨h5, b⟩ := Bool.and_eq_true_iff.mp b
  obtain ⟨h6, b⟩ := Bool.and_eq_true_iff.mp b
  obtain ⟨h7, b⟩ := Bool.and_eq_true_iff.mp b
  obtain ⟨h8, h9⟩ := Bool.and_eq_true_iff.mp b
  have x := xfB_ok h3
  exact ⟨cls, of_decide_eq_true h1, h2, x, ⟨x.ga, x.gg, x.exC, x.hdC, of_decide_eq_true h4, of_decide_eq_true h5, of_decide_eq_true h6, of_decide_eq_true h7⟩, of_decide_eq_true h8, of_decide_eq_true h9⟩
theorem oxc_ve (xL : K.lookup C = some (excClassObj nm q C N bs [.type "ValueError", .type "Exception", .type "BaseException", .type "object"] true sn sub ab col dd k0 k1 k2 k3 k5 "ValueError.__new__")) (b : clB K C = true) : OxC K C :=
  oxc_of ⟨nm, q, N, bs, _, sn, sub, ab, col, dd, k0, k1, k2, k3, k5, _, _, _, _, xL, PySem.F.excBase_ValueError, ⟨by decide +kernel, by decide +kernel, by decide +kernel, by decide +kernel⟩, fun self => by rw [refuseLoop_ref]; exact F.store_ValueError.passes self⟩ b
theorem oxc_vs {U : Addr} (xL : K.lookup C = some (excClassObj nm q C N bs [.ref U, .type "ValueError", .type "Exception", .type "BaseException", .type "object"] true sn sub ab col dd k0 k1 k2 k3 k5 "ValueError.__new__")) (b : clB K C = true) : OxC K C :=
  oxc_of ⟨nm, q, N, bs, _, sn, sub, ab, col, dd, k0, k1, k2, k3, k5, _, _, _, _, xL, PySem.F.excBase_ValueError, ⟨by rfl, by rfl, by rfl, by rfl⟩, fun self => by rw [refuseLoop_ref, refuseLoop_ref]; exact F.store_ValueError.passes self⟩ b
theorem oxc_ke (xL : K.lookup C = some (excClassObj nm q C N bs [.type "KeyError", .type "LookupError", .type "Exception", .type "BaseException", .type "object"] true sn sub ab col dd k0 k1 k2 k3 k5 "LookupError.__new__")) (b : clB K C = true) : OxC K C :=
  oxc_of ⟨nm, q, N, bs, _, sn, sub, ab, col, dd, k0, k1, k2, k3, k5, _, _, _, _, xL, PySem.F.excBase_LookupError, ⟨by decide +kernel, by decide +kernel, by decide +kernel, by decide +kernel⟩, fun self => by rw [refuseLoop_ref]; kernel_rfl⟩ b
end
end Un

/-! UnSt: defs with defaults as they stand; isinstance of own classes; an own error raised. -/
namespace Un
open PySem PySem.Spec PyProof.Rows L2
def AtD (K : PySem.W.Frag) (C : Addr) (m qual : Str) (st : Stmt) (dvs : List V) (kws : List (Str × V)) : Prop :=
  ∃ (f : Addr) (fd : FuncData), FunD K m qual (defArgs st) (defBody st) (defScope st) dvs kws f fd ∧ Meth K C m f ∧ PySem.W.fnIn K f = true
/-- an __init__ whose one default is the empty tuple of the text -/
def AtI (K : PySem.W.Frag) (C : Addr) (m qual : Str) (st : Stmt) : Prop :=
  ∃ (f T : Addr) (fd : FuncData), FunD K m qual (defArgs st) (defBody st) (defScope st) [.ref T] [] f fd ∧ L2.Mk K C f ∧ ∃ o : Obj, K.lookup T = some o ∧ o.cls = .type "tuple" ∧ o.data = .seq #[] 0 ∧ o.dict = none
/-- isinstance of instances of the class at C, and of other things -/
structure InsK (K : PySem.W.Frag) (C : Addr) : Prop where
  ha : PySem.W.findIn K (.ref C) "__class__" = some (some (.builtin "object.__class__"))
  hn : PySem.W.specialIn K (.builtin "object.__class__") "__get__" = some (some (.builtin "getset_descriptor.__get__"))
  htk : PySem.W.takesIn K (.builtin "object.__class__") = some true
  hm : PySem.W.mroIn K C (.type "object") = some true
  me : PySem.W.kitOne K (.ref C) (.ref C) = some true
  no : ∀ T, T ∈ ["list", "dict", "tuple", "str", "int", "bool", "NoneType"] → PySem.W.kitOne K (.type T) (.ref C) = some false ∧ PySem.W.notFirst K C (.type T) = true
  nf : PySem.W.notFirst K C (.ref C) = true
def insB (K : PySem.W.Frag) (C : Addr) : Bool :=
  decide (PySem.W.findIn K (.ref C) "__class__" = some (some (.builtin "object.__class__"))) && (decide (PySem.W.specialIn K (.builtin "object.__class__") "__get__" = some (some (.builtin "getset_descriptor.__get__"))) && (decide (PySem.W.takesIn K (.builtin "object.__class__") = some true) &&
  (decide (PySem.W.mroIn K C (.type "object") = some true) && (decide (PySem.W.kitOne K (.ref C) (.ref C) = some true) && ((["list", "dict", "tuple", "str", "int", "bool", "NoneType"].all fun T => decide (PySem.W.kitOne K (.type T) (.ref C) = some false) && PySem.W.notFirst K C (.type T)) && PySem.W.notFirst K C (.ref C))))))
theorem insB_ok {K : PySem.W.Frag} {C : Addr} (b : insB K C = true) : InsK K C := by
  obtain ⟨h1, b⟩ := Bool.and_eq_true_iff.mp b
  obtain ⟨h2, b⟩ := Bool.and_eq_true_iff.mp b
  obtain ⟨h3, b⟩ := Bool.and_eq_true_iff.mp b
  obtain ⟨h4, b⟩ := Bool.and_eq_true_iff.mp b
  obtain ⟨h5, b⟩ := Bool.and_eq_true_iff.mp b
  obtain ⟨h6, h7⟩ := Bool.and_eq_true_iff.mp b
  refine ⟨of_decide_eq_true h1, of_decide_eq_true h2, of_decide_eq_true h3, of_decide_eq_true h4, of_decide_eq_true h5, fun T hT => ?_, h7⟩
  have := List.all_eq_true.mp h6 T hT
  obtain ⟨a, c⟩ := Bool.and_eq_true_iff.mp this
  exact ⟨of_decide_eq_true a, c⟩
section
variable {K : PySem.W.Frag} {H : Hp} {Q : VK} {a C dx : Addr} {fs : List (Str × V)}
theorem rd_isO (h : H a = some (.ins C dx fs)) (c : Cls K C) (i : InsK K C) (q : Q (.bl true) H) : rIsi K [.ref a, .ref C] H Q := ⟨.ref a, .ref C, .ref C, .ref C, true, rfl, .own C, .base (.ins h c i.ha i.hn i.htk i.hm), i.me, q⟩
theorem rd_isNo {x : V} {T : String} (h : TyX K H x (.type T)) (i : InsK K C) (hT : T ∈ ["list", "dict", "tuple", "str", "int", "bool", "NoneType"]) (q : Q (.bl false) H) : rIsi K [x, .ref C] H Q := ⟨x, .ref C, .type T, .ref C, false, rfl, .own C, h, (i.no T hT).1, q⟩
end
section
variable {X : Cx} {x f : Str} {C : Addr} {k j : Nat} {e : Expr} {te : TE} {p pos : Pos}
/-- raise C(e), the class under its name -/
theorem pmk_G (g : Un.Mk X.prog X.w X.K X.mg X.base x f C) (hr : Room j X.A) (hk : 2 ≤ j) (hg : Gl X x) (ha : PE X e te)
    (hdb : (x == ("__debug__" : Str)) = false := by decide) (he : starEach (e :: []) X.env = (false, eval e X.env) :: starEach [] X.env := by rfl) (hpl : (backTo pos (starEach [] X.env)).any (·.1) = false := by rfl) :
    PMk X (.Call (.Name x p) [e] [] pos) (tMkR C f te) := by
  obtain ⟨m, o, n, fI, fd, i, t, F, b⟩ := g
  exact pmk_X o i t n F (hr.mono hk) b pass0 hg m ha hdb he hpl
end
section
variable {X : Cx} {CX : CXT} {k j n : Nat} {C : Addr} {ks : List Str} {sp : Sp} {m : Str} {apos pos : Pos} {o e : Expr} {es : List Expr} {kws : List Keyword} {ta : TE} {t tk : TA} {gV : List V → List V → List V}
/-- a method called with keywords, bundled -/
def MetK (P : Program) (w : World) (K : PySem.W.Frag) (mg : Str → Option Value) (base : Heap) (C : Addr) (m : Str) (n : Nat) (ks : List Str) (k : Nat) (sp : Sp) (gV : List V → List V → List V) : Prop :=
  ∃ (f : Addr) (fd : FuncData) (ps : List Str) (g : List Value → List Value → List Value), Cls K C ∧ Meth K C m f ∧ FnOk P w K mg base CX0 k f fd ps sp ∧ KBn K fd ps n ks g gV
theorem methN_G {pl : Sem Bool} (q : MetK X.prog X.w X.K X.mg X.base C m n ks k sp gV) (hr : Room j X.A) (hk : k ≤ j) (he : PE X o ta) (ha : PA X (e :: es) t) (hkw : PK X kws tk)
    (hall : (backToKw pos (keywordEach kws X.env)).all (·.1.isSome) = true := by rfl) (hks : (backToKw pos (keywordEach kws X.env)).filterMap (·.1) = ks := by rfl)
    (hst : starEach (e :: es) X.env = (false, eval e X.env) :: starEach es X.env := by rfl)
    (hpl : ((backTo pos (starEach (e :: es) X.env)).any (·.1) || (backToKw pos (keywordEach kws X.env)).any (·.1.isNone)) = false := by rfl)
    (ht : eval (.Call (.Attribute o m apos) (e :: es) kws pos) X.env = (do let ov ← eval o X.env; standAt apos.atName; let (f, first) ← holding [ov] (getMethod ov m pl); callWith pos f first (backTo pos (starEach (e :: es) X.env)) (backToKw pos (keywordEach kws X.env))) := by rfl) :
    PE X (.Call (.Attribute o m apos) (e :: es) kws pos) (tMethN C m n ks.length sp gV E0 ta t tk) := by
  obtain ⟨f, fd, ps, g, c, M, F, b⟩ := q
  exact pe_methN (pl := pl) he c M F (hr.mono hk) b pass0 ha hkw hall hks hst hpl ht
end
end Un

/-! UnRdM: readings of instances and dicts, step by step. -/
namespace Un
open PySem PySem.Spec PyProof.Rows L2
section
variable {K : PySem.W.Frag} {σ : L2.St} {H : Hp} {Q : VK} {D : Ends} {ta tb te td ty tv tz : TE} {t tk : TA} {f m : Str} {C : Addr} {sp : Sp} {dvs : List V} {E : XK} {n l : Nat} {gV : List V → List V → List V}
theorem rd_fld (h : ta σ H fun x H1 => ∃ a C dx fs v, x = .ref a ∧ H1 a = some (.ins C dx fs) ∧ Cls K C ∧ NoAttr K C f ∧ fs.lookup f = some v ∧ Q v H1) : tFld K ta f σ H Q := h
theorem rd_sfld (h : tv σ H fun y H1 => ta σ H1 fun x H2 => ∃ a C dx fs, x = .ref a ∧ H2 a = some (.ins C dx fs) ∧ Cls K C ∧ NoAttr K C f ∧ fs.length < 1000 ∧ D.nx σ (upd H2 a (.ins C dx (putF f y fs)))) : sFld K ta tv f D σ H := h
theorem rd_dput (h : tv σ H fun v H1 => td σ H1 fun x H2 => ty σ H2 fun y H3 => ∃ a H4, x = .ref a ∧ DPut H3 a y v H4 ∧ D.nx σ H4) : sDPut td ty tv D σ H := h
theorem rd_dget (h : td σ H fun x H1 => ty σ H1 fun y H2 => ∃ a v, x = .ref a ∧ DGet H2 a y (some v) ∧ Q v H2) : tDGet td ty σ H Q := h
theorem rd_din (h : ty σ H fun y H1 => td σ H1 fun x H2 => ∃ a o, x = .ref a ∧ DGet H2 a y o ∧ Q (.bl o.isSome) H2) : tDIn ty td σ H Q := h
theorem rd_dnotin (h : ty σ H fun y H1 => td σ H1 fun x H2 => ∃ a o, x = .ref a ∧ DGet H2 a y o ∧ Q (.bl (!o.isSome)) H2) : tDNotIn ty td σ H Q := h
theorem rd_ddel (h : td σ H fun x H1 => ty σ H1 fun y H2 => ∃ a kvs k, x = .ref a ∧ H2 a = some (.dK kvs) ∧ y = kV k ∧ (valV kvs k).isSome = true ∧ D.nx σ (upd H2 a (.dK (dropK kvs k)))) : sDDel td ty D σ H := h
theorem rd_dnew (h : ∀ p, H p = none → Q (.ref p) (upd H p (.dK []))) : tDNewK σ H Q := h
theorem rd_make (h : t σ H fun vs H1 => ∀ x dx, H1 x = none → H1 dx = none → dx ≠ x → sp (.ref x :: (vs ++ dvs)) (upd (upd H1 dx (.own x)) x (.ins C dx [])) (fun v H2 => v = .non ∧ Q (.ref x) H2) E) : tMake C sp dvs E t σ H Q := h
theorem rd_meth (h : ta σ H fun x H1 => ∃ a dx fs, x = .ref a ∧ H1 a = some (.ins C dx fs) ∧ fs.lookup m = none ∧ t σ H1 fun vs H2 => sp (x :: (vs ++ dvs)) H2 Q E) : tMeth C m sp dvs E ta t σ H Q := h
theorem rd_methN (h : ta σ H fun x H1 => ∃ a dx fs, x = .ref a ∧ H1 a = some (.ins C dx fs) ∧ fs.lookup m = none ∧ t σ H1 fun vs H2 => tk σ H2 fun zs H3 => vs.length + 1 = n ∧ zs.length = l ∧ sp (gV (x :: vs) zs) H3 Q E) : tMethN C m n l sp gV E ta t tk σ H Q := h
theorem rd_iKeys {R : It → Hp → Prop} (h : td σ H fun x H1 => ∃ d o, x = .ref d ∧ ((∃ kvs, H1 d = some (.frz o (.dK kvs)) ∧ R (Itk d o kvs) H1) ∨ ∃ kvs, H1 d = some (.frz o (.dT kvs)) ∧ R (Itkt d o kvs) H1)) : iKeys td σ H R := h
theorem rd_items (h : te σ H fun x H1 => LiI.rItemsL x H1 Q) : LiI.tListItems te σ H Q := h
theorem rd_mkR {Q : XK} (h : te σ H fun v H1 => ∀ d, H1 d = none → Q (.ref C) (some d) (upd H1 d (.xd [(f, v)]))) : tMkR C f te σ H Q := h
theorem rd_pop1 (h : td σ H fun x H1 => ∃ a, x = .ref a ∧ IsD H1 a ∧ ty σ H1 fun y H2 => ∃ kvs k v, H2 a = some (.dK kvs) ∧ y = kV k ∧ valV kvs k = some v ∧ Q v (upd H2 a (.dK (dropK kvs k)))) : tDPop1 td ty σ H Q := h
theorem rd_get2 (h : td σ H fun x H1 => ∃ a, x = .ref a ∧ IsD H1 a ∧ ty σ H1 fun y H2 => tz σ H2 fun z H3 => ∃ o, DGet H3 a y o ∧ Q (o.getD z) H3) : tDGet2 td ty tz σ H Q := h
theorem rd_fldS {a dx : Addr} {fs : List (Str × V)} {v : V} (h : H a = some (.ins C dx fs)) (c : Cls K C) (n : NoAttr K C f) (l : fs.lookup f = some v) (q : Q v H) : ∃ a' C' dx' fs' v', V.ref a = .ref a' ∧ H a' = some (.ins C' dx' fs') ∧ Cls K C' ∧ NoAttr K C' f ∧ fs'.lookup f = some v' ∧ Q v' H := ⟨a, C, dx, fs, v, rfl, h, c, n, l, q⟩
theorem rd_isB {x : V} {T T' : String} {b : Bool} (h : TyX K H x (.type T)) (k : PySem.W.kitOne K (.type T) (.type T') = some b) (q : Q (.bl b) H) : rIsi K [x, .ty T'] H Q := ⟨x, .ty T', .type T, .type T', b, rfl, .ty _, h, k, q⟩
theorem rd_gtX {a b : List Nat} (q : Q (.bl (decide (b < a))) H) : rGtX (.str (tx a)) (.str (tx b)) H Q := ⟨a, b, rfl, rfl, q⟩
end
end Un

/-! UnPr: stretches of keys, lists of pairs. -/
namespace Un
open PySem PySem.Spec PyProof.Rows L2
theorem okN {P : Program} {w : World} {K : PySem.W.Frag} {mg : Str → Option Value} {base : Heap} {x qual : Str} {params : Arguments} {body : List Stmt} {scope : Scope} {dvs : List V} {kws : List (Str × V)} {f : Addr} {fd : FuncData} {CX : CXT} {N ps : List Str} {k : Nat} {sp : Sp}
    (F : FunD K x qual params body scope dvs kws f fd) (S : FnScope N ps scope) (len : ∀ vs H Q E, sp vs H Q E → vs.length = ps.length)
    (hbody : ∀ (cdv : Value) (A : Around) (outer : List Env) (s : Shared) (H : Hp) (vs : List V) (Q : VK) (E : XK), Room k (A.deeper (envOfC qual scope s.heap.objs.size f cdv)) → sp vs H Q E →
      ∃ t, PSs (cxOf CX P w K mg base N qual scope f cdv A outer s H E).nox body t ∧ t { nx := fun _ H' => Q .non H', rt := Q } (start N vs) H) : FnOk P w K mg base CX (k + 1) f fd ps sp :=
  F.ok S len fun cdv A outer s H vs Q E hr h => by
    obtain ⟨t, ht, q⟩ := hbody cdv A outer s H vs Q E hr h
    exact ⟨t, ht.nox, q⟩
def bnd : Option (List Nat) → V
  | none => .non
  | some u => .str (tx u)
def upB (hi : Option (List Nat)) (k : List Nat) : Bool := match hi with | none => true | some h => decide (k < h)
def afB (af : Option (List Nat)) (k : List Nat) : Bool := match af with | none => true | some a => decide (a < k)
def inR (lo : List Nat) (hi af : Option (List Nat)) (k : List Nat) : Bool := !decide (k < lo) && (upB hi k && afB af k)
/-- the keys of a stretch, ascending -/
def KR (m : Tab) (lo : List Nat) (hi af : Option (List Nat)) (ks : List (List Nat)) : Prop := ks.Perm ((keysT m).filter (inR lo hi af)) ∧ ks.Pairwise fun a b => ¬ b < a
theorem KR.uniq {m : Tab} {lo : List Nat} {hi af : Option (List Nat)} {ks js : List (List Nat)} (a : KR m lo hi af ks) (b : KR m lo hi af js) : ks = js := sort_unique (a.1.trans b.1.symm) a.2 b.2
theorem KR.mem {m : Tab} {lo : List Nat} {hi af : Option (List Nat)} {ks : List (List Nat)} (a : KR m lo hi af ks) {k : List Nat} (h : k ∈ ks) : k ∈ keysT m := (List.mem_filter.mp (a.1.mem_iff.mp h)).1
theorem KR.len {m : Tab} {lo : List Nat} {hi af : Option (List Nat)} {ks : List (List Nat)} (a : KR m lo hi af ks) : ks.length ≤ m.length := by
  rw [a.1.length_eq]
  have := List.length_filter_le (inR lo hi af) (keysT m)
  unfold keysT at this
  rw [List.length_map] at this
  exact this
/-- the pairs of some keys -/
def prT (m : Tab) (ks : List (List Nat)) : Tab := ks.map fun k => (k, (getT m k).getD 0)
theorem prT_len (m : Tab) (ks : List (List Nat)) : (prT m ks).length = ks.length := List.length_map _
/-- tuples of a key and a value -/
def PrV (H : Hp) (p : List Nat × Int) (v : V) : Prop := ∃ T, v = .ref T ∧ H T = some (.tup [.str (tx p.1), .int p.2])
def Prs (H : Hp) (m : Tab) (vs : List V) : Prop := Paired (PrV H) m vs
theorem PrV.keep {H H' : Hp} {p : List Nat × Int} {v : V} (h : PrV H p v) (s : ∀ T, v = .ref T → H T = some (.tup [.str (tx p.1), .int p.2]) → H' T = some (.tup [.str (tx p.1), .int p.2])) : PrV H' p v := by
  obtain ⟨T, rfl, h⟩ := h
  exact ⟨T, rfl, s T rfl h⟩
theorem Prs.keep {H H' : Hp} (s : ∀ T l, H T = some (.tup l) → H' T = some (.tup l)) : ∀ {m : Tab} {vs : List V}, Prs H m vs → Prs H' m vs
  | _, _, .nil => .nil
  | _, _, .cons h t => .cons (h.keep fun T _ e => s T _ e) (Prs.keep s t)
theorem Prs.same {H H' : Hp} {m : Tab} {vs : List V} (h : Prs H m vs) (s : Same H H') : Prs H' m vs := h.keep fun T l e => s _ _ e
theorem Prs.len {H : Hp} {m : Tab} {vs : List V} (h : Prs H m vs) : m.length = vs.length := Paired.length h
theorem Prs.app {H : Hp} : ∀ {m n : Tab} {vs ws : List V}, Prs H m vs → Prs H n ws → Prs H (m ++ n) (vs ++ ws)
  | _, _, _, _, .nil, b => b
  | _, _, _, _, .cons h t, b => .cons h (Prs.app t b)
theorem Prs.one {H : Hp} {p : List Nat × Int} {T : Addr} (h : H T = some (.tup [.str (tx p.1), .int p.2])) : Prs H [p] [.ref T] := .cons ⟨T, rfl, h⟩ .nil
theorem Prs.take {H : Hp} : ∀ {m : Tab} {vs : List V} (n : Nat), Prs H m vs → Prs H (m.take n) (vs.take n)
  | _, _, 0, _ => .nil
  | _, _, n + 1, .nil => .nil
  | _, _, n + 1, .cons h t => .cons h (Prs.take n t)
theorem Prs.get {H : Hp} : ∀ {m : Tab} {vs : List V} {i : Nat} {v : V}, Prs H m vs → vs[i]? = some v → ∃ p, m[i]? = some p ∧ PrV H p v
  | _, _, 0, _, .cons h t, e => ⟨_, rfl, by cases e; exact h⟩
  | _, _, i + 1, _, .cons h t, e => by
    obtain ⟨p, e1, e2⟩ := Prs.get (i := i) t (by simpa using e)
    exact ⟨p, by simpa using e1, e2⟩
/-- what stands where a sequence is read -/
def SeqO (us : List V) (o : HO) : Prop := o = .lst us ∨ o = .tup us ∨ (∃ x, o = .frz x (.lst us)) ∨ ∃ x, o = .frz x (.tup us)
def Seq1 (K : PySem.W.Frag) (H : Hp) (p : Addr) (us : List V) : Prop := SqL K H p us ∨ SqT K H p us
theorem SeqL.keep {K : PySem.W.Frag} {H H' : Hp} {p : Addr} {us : List V} (hp : SqL K H p us) (k : ∀ o, SeqO us o → H p = some o → H' p = some o) : SqL K H' p us := by
  rcases hp with (h | ⟨o, h⟩) | h
  · exact .inl (.inl (k _ (.inl rfl) h))
  · exact .inl (.inr ⟨o, k _ (.inr (.inr (.inl ⟨_, rfl⟩))) h⟩)
  · exact .inr h
theorem SeqT.keep {K : PySem.W.Frag} {H H' : Hp} {p : Addr} {us : List V} (hp : SqT K H p us) (k : ∀ o, SeqO us o → H p = some o → H' p = some o) : SqT K H' p us := by
  rcases hp with (h | ⟨o, h⟩) | h
  · exact .inl (.inl (k _ (.inr (.inl rfl)) h))
  · exact .inl (.inr ⟨o, k _ (.inr (.inr (.inr ⟨_, rfl⟩))) h⟩)
  · exact .inr h
theorem Seq1.keep {K : PySem.W.Frag} {H H' : Hp} {p : Addr} {us : List V} (hp : Seq1 K H p us) (k : ∀ o, SeqO us o → H p = some o → H' p = some o) : Seq1 K H' p us := hp.elim (fun h => .inl (SeqL.keep h k)) (fun h => .inr (SeqT.keep h k))
theorem SeqO.ndK {us : List V} {kvs : List (Key × V)} : ¬ SeqO us (.dK kvs) := by
  rintro (h | h | ⟨_, h⟩ | ⟨_, h⟩) <;> cases h
theorem SeqO.nins {us : List V} {C dx : Addr} {fs : List (Str × V)} : ¬ SeqO us (.ins C dx fs) := by
  rintro (h | h | ⟨_, h⟩ | ⟨_, h⟩) <;> cases h
/-- a walk over a list or a tuple -/
theorem rd_iSeqF {K : PySem.W.Frag} {tl : TE} {σ : L2.St} {H : Hp} {R : It → Hp → Prop} {p : Addr} {us : List V} (hv : ∀ Q : VK, Q (.ref p) H → tl σ H Q) (hp : Seq1 K H p us)
    (q : ∀ (J : It) (G : Hp → Prop), Walk J us.length G (YAt us) → (∀ H', (∀ o, SeqO us o → H p = some o → H' p = some o) → G H') → R J H) : iSeq K tl σ H R := by
  rcases hp with hp | hp
  · exact .inl (rd_iList (hv _ ⟨p, rfl, ⟨us, hp⟩, q _ _ walk_list fun H' k => SeqL.keep hp k⟩))
  · exact .inr (rd_iTup (hv _ ⟨p, rfl, ⟨us, hp⟩, q _ _ walk_tup fun H' k => SeqT.keep hp k⟩))
/-! ### many keys taken away, or put -/
def dropsT (m : Tab) (ks : List (List Nat)) : Tab := ks.foldl dropT m
def putsT (m : Tab) (ks : List (List Nat)) (v : Int) : Tab := ks.foldl (fun m k => putT m k v) m
theorem drops_snoc {m : Tab} {ks : List (List Nat)} {i : Nat} {k : List Nat} (h : ks[i]? = some k) : dropsT m (ks.take (i + 1)) = dropT (dropsT m (ks.take i)) k := by
  unfold dropsT
  rw [List.take_add_one, h, Option.toList_some, List.foldl_append]
  rfl
theorem puts_snoc {m : Tab} {ks : List (List Nat)} {i : Nat} {k : List Nat} {v : Int} (h : ks[i]? = some k) : putsT m (ks.take (i + 1)) v = putT (putsT m (ks.take i) v) k v := by
  unfold putsT
  rw [List.take_add_one, h, Option.toList_some, List.foldl_append]
  rfl
theorem mem_drop {m : Tab} {j k : List Nat} : k ∈ keysT (dropT m j) ↔ k ∈ keysT m ∧ k ≠ j := by
  unfold keysT dropT
  rw [List.mem_map, List.mem_map]
  constructor
  · rintro ⟨p, hp, rfl⟩
    obtain ⟨h1, h2⟩ := List.mem_filter.mp hp
    exact ⟨⟨p, h1, rfl⟩, of_decide_eq_true h2⟩
  · rintro ⟨⟨p, hp, rfl⟩, h⟩
    exact ⟨p, List.mem_filter.mpr ⟨hp, decide_eq_true h⟩, rfl⟩
theorem mem_drops {k : List Nat} : ∀ {ks : List (List Nat)} {m : Tab}, k ∈ keysT (dropsT m ks) ↔ k ∈ keysT m ∧ k ∉ ks
  | [], m => by simp [dropsT]
  | j :: r, m => by
    have h := mem_drops (k := k) (ks := r) (m := dropT m j)
    show k ∈ keysT (dropsT (dropT m j) r) ↔ _
    rw [h, mem_drop, List.mem_cons]
    constructor
    · rintro ⟨⟨a, b⟩, c⟩
      exact ⟨a, fun e => e.elim b c⟩
    · rintro ⟨a, b⟩
      exact ⟨⟨a, fun e => b (.inl e)⟩, fun e => b (.inr e)⟩
theorem drops_nodup : ∀ {ks : List (List Nat)} {m : Tab}, (keysT m).Nodup → (keysT (dropsT m ks)).Nodup
  | [], _, h => h
  | _ :: r, _, h => drops_nodup (ks := r) (dropT_nodup h)
theorem drops_len : ∀ {ks : List (List Nat)} {m : Tab}, (dropsT m ks).length ≤ m.length
  | [], _ => Nat.le_refl _
  | j :: r, m => Nat.le_trans (drops_len (ks := r) (m := dropT m j)) (List.length_filter_le _ _)
theorem puts_keys {v : Int} : ∀ {ks : List (List Nat)} {m : Tab}, (∀ k ∈ ks, k ∈ keysT m) → keysT (putsT m ks v) = keysT m
  | [], _, _ => rfl
  | j :: r, m, h => by
    have e : keysT (putT m j v) = keysT m := by rw [putT_keys, if_pos (h j List.mem_cons_self)]
    show keysT (putsT (putT m j v) r v) = _
    rw [puts_keys (ks := r) (fun k hk => by rw [e]; exact h k (List.mem_cons_of_mem _ hk)), e]
theorem keys_len (m : Tab) : (keysT m).length = m.length := List.length_map _
theorem KR.nodup {m : Tab} {lo : List Nat} {hi af : Option (List Nat)} {ks : List (List Nat)} (a : KR m lo hi af ks) (h : (keysT m).Nodup) : ks.Nodup := (a.1.nodup_iff).mpr (h.sublist List.filter_sublist)
theorem not_before {α : Type} {l : List α} {i : Nat} {x : α} (h : l.Nodup) (hx : l[i]? = some x) : x ∉ l.take i := by
  intro hm
  obtain ⟨j, hj⟩ := List.mem_iff_getElem?.mp hm
  rw [List.getElem?_take] at hj
  split at hj
  · rename_i hji
    have e : l[i]? = l[j]? := by rw [hx, hj]
    have hil : i < l.length := (List.getElem?_eq_some_iff.mp hx).1
    have := (List.getElem?_inj hil h).mp e
    omega
  · cases hj
/-- pairs put one behind another -/
def putsP (m : Tab) (ps : Tab) : Tab := ps.foldl (fun m p => putT m p.1 p.2) m
theorem putsP_snoc {m ps : Tab} {i : Nat} {p : List Nat × Int} (h : ps[i]? = some p) : putsP m (ps.take (i + 1)) = putT (putsP m (ps.take i)) p.1 p.2 := by
  unfold putsP
  rw [List.take_add_one, h, Option.toList_some, List.foldl_append]
  rfl
theorem putT_len (m : Tab) (k : List Nat) (v : Int) : (putT m k v).length ≤ m.length + 1 := by
  rw [← keys_len, ← keys_len, putT_keys]
  split
  · omega
  · simp
theorem putsP_len : ∀ (ps m : Tab), (putsP m ps).length ≤ m.length + ps.length
  | [], _ => Nat.le_refl _
  | p :: r, m => by
    have h1 := putsP_len r (putT m p.1 p.2)
    have h2 := putT_len m p.1 p.2
    show (putsP (putT m p.1 p.2) r).length ≤ _
    rw [List.length_cons]
    omega
theorem putsP_nodup : ∀ {ps m : Tab}, (keysT m).Nodup → (keysT (putsP m ps)).Nodup
  | [], _, h => h
  | _ :: r, _, h => putsP_nodup (ps := r) (putT_nodup h)
theorem prs_of_items {H : Hp} : ∀ {m : Tab} {ts : List Addr}, Paired (fun (t : Addr) (q : Key × V) => H t = some (.tup [kV q.1, q.2])) ts (encT m) → Prs H m (ts.map V.ref)
  | [], _, h => by
    cases h
    exact .nil
  | _ :: _, _, h => by
    cases h with
    | cons a b => exact .cons ⟨_, rfl, a⟩ (prs_of_items b)
theorem putT_new {m : Tab} {k : List Nat} {v : Int} (h : k ∉ keysT m) : putT m k v = m ++ [(k, v)] := by
  unfold putT
  rw [if_neg]
  rw [List.any_eq_true]
  rintro ⟨p, hp, e⟩
  exact h (List.mem_map.mpr ⟨p, hp, of_decide_eq_true e⟩)
theorem putsP_same : ∀ (m acc : Tab), (keysT (acc ++ m)).Nodup → putsP acc m = acc ++ m
  | [], acc, _ => (List.append_nil acc).symm
  | p :: r, acc, h => by
    have h1 : p.1 ∉ keysT acc := fun hm => by
      unfold keysT at h hm
      rw [List.map_append] at h
      exact (List.nodup_append.mp h).2.2 p.1 hm p.1 List.mem_cons_self rfl
    show putsP (putT acc p.1 p.2) r = _
    rw [putT_new h1]
    have e : acc ++ p :: r = (acc ++ [(p.1, p.2)]) ++ r := by simp
    rw [e] at h ⊢
    exact putsP_same r _ h
theorem cutL_take (xs : List Nat) (n : Nat) : cutL xs none (some (n : Int)) = xs.take n := by
  unfold cutL
  rw [HT.sIx_none, HT.sIx_nat, List.drop_zero, Nat.sub_zero]
  by_cases h : n ≤ xs.length
  · rw [Nat.min_eq_left h]
  · rw [Nat.min_eq_right (by omega), List.take_length, List.take_of_length_le (by omega)]
theorem reps_mem {l : List Nat} {c n : Nat} (h : c ∈ reps n l) : c ∈ l := by
  unfold reps at h
  obtain ⟨x, h1, h2⟩ := List.mem_flatten.mp h
  rw [(List.mem_replicate.mp h1).2] at h2
  exact h2
/-- as data -/
def pD (p : List Nat × Int) : PyData := .tuple [.str (tx p.1), .int p.2]
theorem rd_lock {t : TE} {σ : L2.St} {H : Hp} {Q : VK} {d : Addr} {u : HO} (h : H d = some u) (mt : Mut (some u)) (q : ∀ od, t σ (upd H d (.frz od u)) fun v H' => H' d = some (.frz od u) ∧ Q v (upd H' d u)) : tLockE t σ H Q := ⟨d, u, h, mt, q⟩
theorem txs_of : ∀ (ys : List Str), ∃ ks : List (List Nat), ys = ks.map tx
  | [] => ⟨[], rfl⟩
  | z :: r => by
    obtain ⟨ks, e⟩ := txs_of r
    exact ⟨z.cps.toList :: ks, by rw [List.map_cons, tx_of, ← e]⟩
theorem rd_sortT {K : PySem.W.Frag} {H : Hp} {Q : VK} {a : Addr} {ks : List (List Nat)} (hs : SqL K H a (ks.map fun k => V.str (tx k)))
    (q : ∀ (js : List (List Nat)) (p : Addr), js.Perm ks → js.Pairwise (fun a b => ¬ b < a) → H p = none → Q (.ref p) (upd H p (.lst (js.map fun k => V.str (tx k))))) : rSortedT K [.ref a] H Q := by
  refine ⟨a, ks.map tx, rfl, by rw [List.map_map]; exact hs, fun ys p hp hss hn => ?_⟩
  obtain ⟨js, rfl⟩ := txs_of ys
  rw [List.map_map]
  exact q js p (by
    have h := hp.map fun z => z.cps.toList
    rw [List.map_map, List.map_map] at h
    have e : ∀ l : List (List Nat), l.map ((fun z => z.cps.toList) ∘ tx) = l := fun l => by
      conv => rhs; rw [← List.map_id l]
      congr 1
    rw [e, e] at h
    exact h) (sortedS_le hss) hn
theorem pe_fldK {X : Cx} {e : Expr} {ta : TE} {f : Str} {pos : Pos} {K : PySem.W.Frag} (hK : X.K = K) (he : PE X e ta) (hb : attributeBase e f X.env (eval e X.env) = eval e X.env) : PE X (.Attribute e f pos) (tFld K ta f) := by
  subst hK
  exact pe_fld he hb
theorem same_none {H H' : Hp} {p : Addr} (s : Same H H') (h : H' p = none) : H p = none := by
  cases z : H p with
  | none => rfl
  | some o =>
    rw [s _ _ z] at h
    cases h
theorem cutV_take (xs : List V) (n : Nat) : cutV xs none (some (n : Int)) = xs.take n := by
  unfold cutV
  rw [HT.sIx_none, HT.sIx_nat, List.drop_zero, Nat.sub_zero]
  by_cases h : n ≤ xs.length
  · rw [Nat.min_eq_left h]
  · rw [Nat.min_eq_right (by omega), List.take_length, List.take_of_length_le (by omega)]
/-- low <= key and (high is None or key < high) and (after is None or key > after) -/
theorem rd_up {σ : L2.St} {H : Hp} {Q : Bool → Hp → Prop} {h j : Nat} {k : List Nat} {hi : Option (List Nat)} (e2 : σ[h]? = some (some (bnd hi))) (e1 : σ[j]? = some (some (.str (tx k)))) (q : Q (upB hi k) H) :
    tOr (tTest (tOp rIsN1 (tVar h) (tC V.non))) (tTest (tOp rLtX (tVar j) (tVar h))) σ H Q := by
  refine rd_or (rd_test (rd_op (rd_var e2 (rd_c (rd_isN1 (rd_bl ?_))))))
  cases hi with
  | none => exact q
  | some u =>
    refine rd_ite (fun h => by cases h) (fun _ => ?_)
    exact rd_test (rd_op (rd_var e1 (rd_var e2 (rd_ltX (rd_bl q)))))
theorem rd_af {σ : L2.St} {H : Hp} {Q : Bool → Hp → Prop} {h j : Nat} {k : List Nat} {af : Option (List Nat)} (e2 : σ[h]? = some (some (bnd af))) (e1 : σ[j]? = some (some (.str (tx k)))) (q : Q (afB af k) H) :
    tOr (tTest (tOp rIsN1 (tVar h) (tC V.non))) (tTest (tOp rGtX (tVar j) (tVar h))) σ H Q := by
  refine rd_or (rd_test (rd_op (rd_var e2 (rd_c (rd_isN1 (rd_bl ?_))))))
  cases af with
  | none => exact q
  | some u =>
    refine rd_ite (fun h => by cases h) (fun _ => ?_)
    exact rd_test (rd_op (rd_var e1 (rd_var e2 (rd_gtX (rd_bl q)))))
theorem rd_stretch {σ : L2.St} {H : Hp} {Q : Bool → Hp → Prop} {l h g j : Nat} {lo k : List Nat} {hi af : Option (List Nat)} (e0 : σ[l]? = some (some (.str (tx lo)))) (e2 : σ[h]? = some (some (bnd hi))) (e3 : σ[g]? = some (some (bnd af)))
    (e1 : σ[j]? = some (some (.str (tx k)))) (q : Q (inR lo hi af k) H) :
    tAnd (tTest (tOp rLeX (tVar l) (tVar j))) (tAnd (tOr (tTest (tOp rIsN1 (tVar h) (tC V.non))) (tTest (tOp rLtX (tVar j) (tVar h)))) (tOr (tTest (tOp rIsN1 (tVar g) (tC V.non))) (tTest (tOp rGtX (tVar j) (tVar g))))) σ H Q := by
  refine rd_and (rd_test (rd_op (rd_var e0 (rd_var e1 (rd_leX (rd_bl ?_))))))
  unfold inR at q
  refine rd_ite (fun h1 => ?_) (fun h1 => ?_)
  · rw [h1, Bool.true_and] at q
    refine rd_and (rd_up e2 e1 ?_)
    refine rd_ite (fun h2 => ?_) (fun h2 => ?_)
    · rw [h2, Bool.true_and] at q
      exact rd_af e3 e1 q
    · rw [h2, Bool.false_and] at q
      exact q
  · rw [h1, Bool.false_and] at q
    exact q
theorem filt_snoc {α : Type} {l : List α} {i : Nat} {x : α} {p : α → Bool} (h : l[i]? = some x) (hp : p x = true) : (l.take (i + 1)).filter p = (l.take i).filter p ++ [x] := by
  rw [List.take_add_one, h, Option.toList_some, List.filter_append]
  simp [hp]
theorem filt_skip {α : Type} {l : List α} {i : Nat} {x : α} {p : α → Bool} (h : l[i]? = some x) (hp : p x = false) : (l.take (i + 1)).filter p = (l.take i).filter p := by
  rw [List.take_add_one, h, Option.toList_some, List.filter_append]
  simp [hp]
theorem filt_len {α : Type} (l : List α) (i : Nat) (p : α → Bool) : ((l.take i).filter p).length ≤ l.length := by
  have := List.length_filter_le p (l.take i)
  rw [List.length_take] at this
  omega
theorem keys_at {m : Tab} {i : Nat} {k : Key} {v : V} (hk : (encT m)[i]? = some (k, v)) : ∃ key, (keysT m)[i]? = some key ∧ k = Sum.inr (tx key) := by
  unfold encT at hk
  rw [List.getElem?_map] at hk
  cases hmi : m[i]? with
  | none => rw [hmi] at hk; cases hk
  | some p =>
    rw [hmi] at hk
    cases hk
    exact ⟨p.1, by unfold keysT; rw [List.getElem?_map, hmi]; rfl, rfl⟩
end Un

/-! UnZ: repr of lists of pairs. -/
namespace Un
open PySem PySem.Spec PyProof.Rows L2
/-- how a value is shown, and that it can be: depth and weight bounded -/
structure GoodZ (z w : Nat) (d : PyData) : Prop where
  s : d.showable = true
  n : d.hasDict = false
  z : d.depth ≤ z
  l : d.leavesShort 62 = true
  w : d.weight ≤ w
def rReprZ (K : PySem.W.Frag) : List V → Hp → VK → Prop := fun xs H Q => ∃ (x : V) (d : PyData), xs = [x] ∧ Dp K H x d ∧ GoodZ 20 200000 d ∧ Q (.str d.shown) H
theorem call_reprZ {X : Cx} {k : Nat} (hgd : X.A.guards = some []) (hr : Room k X.A) : CallR X (.builtin "repr") (rReprZ X.K) := by
  intro pins s σ H xs us Q I r h
  obtain ⟨x, d, rfl, hd, g, q⟩ := h
  have hsz : d.shown.length ≤ sizeLine := by
    have h1 := PyData.shown_le 62 (by decide) d g.l
    have h2 := g.w
    rw [sizeLine_eq]
    omega
  have base : scalR x → reprS x = d.shown → wpAny (model X.prog X.w) X.A (call (.builtin "repr") us) (EP X pins σ Q) X.xe s := fun h1 h2 => call_reprS pins s σ H [x] us Q I r ⟨x, rfl, h1, by rw [h2]; exact q⟩
  cases hd with
  | non => exact base trivial (by simp only [PyData.shown]; rfl)
  | bl b => exact base trivial (by simp only [PyData.shown]; rfl)
  | int i => exact base (by have h0 := g.s; simp only [PyData.showable, decide_eq_true_eq] at h0; exact h0) (by simp only [PyData.shown]; rfl)
  | str z => exact base (by have := hsz; simp only [PyData.shown] at this; exact this) (by simp only [PyData.shown]; rfl)
  | lst h1 h2 => exact call_reprD hgd hr pins s σ H _ us Q I r ⟨_, _, rfl, .lst h1 h2, g.s, g.n, by have := g.z; omega, hsz, q⟩
  | tup h1 h2 => exact call_reprD hgd hr pins s σ H _ us Q I r ⟨_, _, rfl, .tup h1 h2, g.s, g.n, by have := g.z; omega, hsz, q⟩
theorem rd_reprZ {K : PySem.W.Frag} {H : Hp} {Q : VK} {x : V} {d : PyData} (h : Dp K H x d) (g : GoodZ 20 200000 d) (q : Q (.str d.shown) H) : rReprZ K [x] H Q := ⟨x, d, rfl, h, g, q⟩
theorem GoodZ.mono {z w z' w' : Nat} {d : PyData} (g : GoodZ z w d) (h1 : z ≤ z') (h2 : w ≤ w') : GoodZ z' w' d := ⟨g.s, g.n, Nat.le_trans g.z h1, g.l, Nat.le_trans g.w h2⟩
/-- a pair that may be shown -/
structure OkP (q : List Nat × Int) : Prop where
  k : q.1.length ≤ 300
  c : ∀ c ∈ q.1, c < 1000
  v : q.2.natAbs < 2 ^ 60
theorem int_good {i : Int} (h : i.natAbs < 2 ^ 60) : GoodZ 0 61 (.int i) := by
  have h1 : i.natAbs.log2 < 60 := PySem.Flt.log2_lt_of (by decide) h
  have h2 := PySem.int_text_length_le (a := i) (k := 60) (by decide) h1
  refine ⟨?_, rfl, ?_, ?_, ?_⟩
  · simp only [PyData.showable, decide_eq_true_eq]
    omega
  · simp [PyData.depth]
  · simp only [PyData.leavesShort, PyData.shown]
    refine decide_eq_true ?_
    show (Str.ofString (toString i)).length ≤ 62
    rw [PySem.ofString_length]
    omega
  · simp only [PyData.weight]
    split <;> omega
theorem str_good {l : List Nat} (h : ∀ c ∈ l, c < 1000) : GoodZ 0 l.length (.str (tx l)) := by
  refine ⟨rfl, rfl, by simp [PyData.depth], ?_, ?_⟩
  · simp only [PyData.leavesShort, List.all_eq_true, decide_eq_true_eq]
    intro c hc
    rw [tx_cps] at hc
    have := h c hc
    have e : (1000 : Nat) < 16 ^ 8 := by decide
    omega
  · simp only [PyData.weight]
    simp [tx]
theorem bool_good (b : Bool) : GoodZ 0 0 (.bool b) := by cases b <;> exact ⟨rfl, rfl, by decide +kernel, rfl, by decide +kernel⟩
theorem pair_good {q : List Nat × Int} (o : OkP q) : GoodZ 1 400 (pD q) := by
  have a := str_good o.c
  have b := int_good o.v
  have k := o.k
  unfold pD
  refine ⟨?_, ?_, ?_, ?_, ?_⟩
  · simp only [PyData.showable, PyData.showableAll, Bool.and_eq_true]
    exact ⟨trivial, b.s, trivial⟩
  · simp only [PyData.hasDict, PyData.hasDictAll, Bool.or_false]
  · simp [PyData.depth, PyData.depthAll]
  · simp only [PyData.leavesShort, PyData.leavesShortAll, Bool.and_true, Bool.and_eq_true]
    exact ⟨a.l, b.l⟩
  · have h1 := a.w
    have h2 := b.w
    simp only [PyData.weight, PyData.weightAll] at h1 h2 ⊢
    omega
/-- a list of pairs -/
def plD (m : Tab) : PyData := .list (m.map pD)
theorem plD_all : ∀ {m : Tab}, (∀ q ∈ m, OkP q) → PyData.showableAll (m.map pD) = true ∧ PyData.hasDictAll (m.map pD) = false ∧ PyData.depthAll (m.map pD) ≤ 1 ∧ PyData.leavesShortAll 62 (m.map pD) = true ∧ PyData.weightAll (m.map pD) ≤ 401 * m.length
  | [], _ => by simp [PyData.showableAll, PyData.hasDictAll, PyData.depthAll, PyData.leavesShortAll, PyData.weightAll]
  | q :: r, h => by
    obtain ⟨h1, h2, h3, h4, h5⟩ := plD_all (m := r) fun x hx => h x (List.mem_cons_of_mem _ hx)
    have g := pair_good (h q List.mem_cons_self)
    have gz := g.z
    have gw := g.w
    rw [List.map_cons]
    refine ⟨?_, ?_, ?_, ?_, ?_⟩
    · simp only [PyData.showableAll, g.s, h1, Bool.and_true]
    · simp only [PyData.hasDictAll, g.n, h2, Bool.or_false]
    · simp only [PyData.depthAll]
      omega
    · simp only [PyData.leavesShortAll, g.l, h4, Bool.and_true]
    · simp only [PyData.weightAll, List.length_cons]
      omega
theorem plD_good {m : Tab} (h : ∀ q ∈ m, OkP q) (hm : m.length ≤ 200) : GoodZ 2 80200 (plD m) := by
  obtain ⟨h1, h2, h3, h4, h5⟩ := plD_all h
  unfold plD
  refine ⟨?_, ?_, ?_, ?_, ?_⟩
  · simp only [PyData.showable, h1]
  · simp only [PyData.hasDict, h2]
  · simp only [PyData.depth]
    omega
  · simp only [PyData.leavesShort, h4]
  · simp only [PyData.weight]
    omega
theorem two_good {z w : Nat} {a b : PyData} (g : GoodZ z w a) (k : GoodZ z w b) : GoodZ (z + 1) (2 * w + 2) (.list [a, b]) := by
  have gz := g.z
  have kz := k.z
  have gw := g.w
  have kw := k.w
  refine ⟨?_, ?_, ?_, ?_, ?_⟩
  · simp only [PyData.showable, PyData.showableAll, g.s, k.s, Bool.and_true]
  · simp only [PyData.hasDict, PyData.hasDictAll, g.n, k.n, Bool.or_false]
  · simp only [PyData.depth, PyData.depthAll]
    omega
  · simp only [PyData.leavesShort, PyData.leavesShortAll, g.l, k.l, Bool.and_true]
  · simp only [PyData.weight, PyData.weightAll]
    omega
theorem Prs.dp {K : PySem.W.Frag} {H : Hp} : ∀ {m : Tab} {us : List V}, Prs H m us → DpAll K H us (m.map pD)
  | _, _, .nil => .nil
  | _, _, .cons ⟨T, e, h⟩ t => by
    subst e
    exact .cons (.tup (SqT.of h) (.cons (.str _) (.cons (.int _) .nil))) (Prs.dp t)
theorem Prs.list {K : PySem.W.Frag} {H : Hp} {a : Addr} {m : Tab} {us : List V} (h : H a = some (.lst us)) (p : Prs H m us) : Dp K H (.ref a) (plD m) := .lst (SqL.of h) p.dp
/-- [(key, table[key]) for key in keys] -/
theorem lc_prs {K : PySem.W.Frag} {g : TG} {tt : TT} {te : TE} {vs : List Nat} {σ : L2.St} {H1 : Hp} {r e : Addr} {m : Tab} {js : List (List Nat)} {Qd : Hp → Prop} (er : H1 r = some (.lst (js.map fun k => V.str (tx k)))) (ne : H1 e = none) (hin : ∀ k ∈ js, k ∈ keysT m) (hl : js.length ≤ 1000)
    (hs : ∀ (key : List Nat) (v : Int) (H2 : Hp) (Q' : VK) (B : Hp → Prop), key ∈ js → getT m key = some v → Same H1 H2 → (∀ p, H2 p = none → Q' (.ref p) (upd H2 p (.tup [.str (tx key), .int v]))) →
      g (.str (tx key)) (wipe σ vs) H2 fun σ2 H3 => wipe σ2 vs = wipe σ vs ∧ tt σ2 H3 fun b H4 => if b = true then te σ2 H4 Q' else B H4)
    (hd : ∀ us H, Same H1 H → H e = some (.lst us) → Prs H (prT m js) us → Qd H) :
    ∃ W : Nat → Nat → Hp → Prop, (∃ n, W 0 n (upd H1 e (.lst []))) ∧ ∀ i n H, W i n H →
      ((Itl K r).stop i H ∧ Qd H) ∨ ((Itl K r).go i H ∧ ∃ Nx : Hp → Prop, (∀ H', Nx H' → ∃ m', m' < n ∧ W (i + 1) m' H') ∧ ∀ x H', (Itl K r).yld i H x H' → g x (wipe σ vs) H' fun σ2 H2 => wipe σ2 vs = wipe σ vs ∧ tt σ2 H2 fun b H3 =>
        if b = true then te σ2 H3 fun y H4 => ∃ acc, H4 e = some (.lst acc) ∧ acc.length < sizeLine ∧ Nx (upd H4 e (.lst (acc ++ [y]))) else Nx H3) := by
  refine lc_it (walk_list (K := K) (a := r) (xs := js.map fun k => V.str (tx k))) (fun i H' => Same H1 H' ∧ ∃ us, H' e = some (.lst us) ∧ Prs H' (prT m (js.take i)) us) ⟨same_upd ne, [], upd_same, .nil⟩ (fun i H' _ h => SqL.of (h.1 _ _ er)) ?_ ?_
  · rintro i x H2 H2' hi ⟨s2, us, eu, pu⟩ ⟨rfl, hx⟩
    obtain ⟨key, hk, rfl⟩ := get_map hx
    have hkj := List.mem_of_getElem? hk
    obtain ⟨v, hv⟩ := getT_some (hin key hkj)
    refine hs key v _ _ _ hkj hv s2 (fun p hp => ?_)
    have hpe : e ≠ p := fun z => by
      rw [← z, eu] at hp
      cases hp
    have hz : us.length < sizeLine := by
      rw [← pu.len, prT_len, List.length_take]
      exact small1000 (by omega)
    refine ⟨us, by rw [upd_ne hpe]; exact eu, hz, same_mut (same_mut s2 (same_none s2 hp)) ne, _, upd_same, ?_⟩
    have e1 : prT m (js.take (i + 1)) = prT m (js.take i) ++ [(key, v)] := by
      unfold prT
      rw [List.take_add_one, hk, Option.toList_some, List.map_append]
      show _ ++ [(key, (getT m key).getD 0)] = _
      rw [hv]
      rfl
    rw [e1]
    refine (pu.keep fun T l h => ?_).app (Prs.one ?_)
    · have h1 : T ≠ e := fun z => by
        rw [z, eu] at h
        cases h
      have h2 : T ≠ p := fun z => by
        rw [z, hp] at h
        cases h
      rw [upd_ne h1, upd_ne h2]
      exact h
    · rw [upd_ne hpe.symm, upd_same]
  · rintro H2 ⟨s2, us, eu, pu⟩
    rw [List.length_map, List.take_length] at pu
    exact hd us H2 s2 eu pu
theorem prT_ok {m : Tab} {ks : List (List Nat)} (h : ∀ q ∈ m, OkP q) (hk : ∀ k ∈ ks, k ∈ keysT m) : ∀ q ∈ prT m ks, OkP q := by
  intro q hq
  obtain ⟨k, hk1, rfl⟩ := List.mem_map.mp hq
  obtain ⟨v, hv⟩ := getT_some (hk k hk1)
  rw [hv]
  unfold getT at hv
  cases e : m.find? fun p => decide (p.1 = k) with
  | none => rw [e] at hv; cases hv
  | some p =>
    rw [e] at hv
    cases hv
    have h1 := List.find?_some e
    have h2 := h p (List.mem_of_find?_eq_some e)
    have h3 : p.1 = k := of_decide_eq_true h1
    rw [← h3]
    exact h2
end Un

/-! UnTry: o[i] of an own class within try; isinstance of a caught error with a field. -/
namespace Un
open PySem PySem.Spec PyProof.Rows L2
section
variable {X : Cx} {CX : CXT} {k : Nat} {C f : Addr} {fd : FuncData} {ps : List Str} {sp : Sp} {E : XK}
theorem run_in1S {pins : List (Addr × Obj)} {σ : L2.St} {H : Hp} {s : Shared} {Q : VK} {us : List Value} {vs : List V} (F : FnOk X.prog X.w X.K X.mg X.base CX k f fd ps sp) (hr : Room (k + 1) X.A) (hb : Binds X.K fd ps []) (hx : PassesAt CX X σ E)
    (I : Inv X pins σ H s) (r : Vals vs us) (h : sp vs H Q E) : wpAny (model X.prog X.w) X.A.in1 (call (.ref f) us) (EP X pins σ Q) X.xe s := by
  have hl : us.length = ps.length := by
    rw [← r.length]
    exact F.len _ _ _ _ h
  have hbd := hb s us I.kIn (by simpa using hl)
  rw [List.append_nil] at hbd
  refine wpAny_call (codeAny_mono (F.run X.A.in1 X.stack s H ⟨us, []⟩ us vs Q E hr.in1 I.env0.in1 hbd r h) fun q s' hq => ?_)
  match q, hq with
  | .error e, hq => exact hx pins H s e s' I hq
  | .ok (.ret u), hq => exact I.after hq
  | .ok .next, hq => exact hq.elim
  | .ok .brk, hq => exact hq.elim
  | .ok .cont, hq => exact hq.elim
def tGetS (C : Addr) (sp : Sp) (E : L2.St → XK) (ta tb : TE) : TE := fun σ H Q => ta σ H fun x H1 => tb σ H1 fun y H2 => rGetO C sp (E σ) x y H2 Q
theorem pe_getGS {a b : Expr} {ta tb : TE} {pos : Pos} {j : Nat} {E : L2.St → XK} (g : MetG X.prog X.w X.K X.mg X.base CX C "__getitem__" ps k sp) (hr : Room j X.A) (hk : k + 1 ≤ j) (hx : ∀ σ, PassesAt CX X σ (E σ)) (pa : PE X a ta) (pb : PE X b tb)
    (hs : ∀ (x : Addr) (i : Value), subscripted b true (.ref x) i = runValue (.builtin "lifetime.subscript" ⟨[.ref x, i], []⟩) := by exact fun _ _ => by with_unfolding_all rfl) : PE X (.Subscript a b pos) (tGetS C sp E ta tb) := by
  obtain ⟨f, fd, c, hm, F, hfn, hb⟩ := g
  refine ⟨fun pins s σ H Q I h => Subscript_ (binT pa pb I h fun v u s2 x y H2 I2 rx ry q => ?_)⟩
  obtain ⟨p, dx, fs, rfl, hp, q⟩ := q
  cases (show v = Value.ref p from rx)
  obtain ⟨mA, O, _⟩ := ins_get I2.hok hp
  obtain ⟨od, J, _⟩ := O.look
  obtain ⟨m, hF⟩ := I2.fr
  exact PySem.W.sub_K hF I2.ok.mod.kin J hm.at_ hfn hm.fn (run_in1S F (hr.mono hk) hb (hx σ) I2 (show Vals [V.ref p, y] [Value.ref p, u] from .cons rfl (.cons ry .nil)) q) (hs p u)
end
theorem rd_getS {C : Addr} {sp : Sp} {E : L2.St → XK} {ta tb : TE} {σ : L2.St} {H : Hp} {Q : VK} (h : ta σ H fun x H1 => tb σ H1 fun y H2 => rGetO C sp (E σ) x y H2 Q) : tGetS C sp E ta tb σ H Q := h
/-- repr within a suite -/
theorem call_reprU {X : Cx} (hgd : X.A.guards = some []) (hu : X.A.units + 64 < cLine) : CallR X (.builtin "repr") (rReprZ X.K) := by
  intro pins s σ H xs us Q I r h
  obtain ⟨x, d, rfl, hd, g, q⟩ := h
  have hsz : d.shown.length ≤ sizeLine := by
    have h1 := PyData.shown_le 62 (by decide) d g.l
    have h2 := g.w
    rw [sizeLine_eq]
    omega
  have base : scalR x → reprS x = d.shown → wpAny (model X.prog X.w) X.A (call (.builtin "repr") us) (EP X pins σ Q) X.xe s := fun h1 h2 => call_reprS pins s σ H [x] us Q I r ⟨x, rfl, h1, by rw [h2]; exact q⟩
  have deep : ∀ a, x = .ref a → wpAny (model X.prog X.w) X.A (call (.builtin "repr") us) (EP X pins σ Q) X.xe s := by
    rintro a rfl
    obtain ⟨u, rfl, rx⟩ := vals1 r
    obtain ⟨as, rd⟩ := Dp.reads I d _ u hd rx
    cases rx
    have hz := g.z
    refine repr_of_reads' rd g.s (PyData.noDict_hsm g.n) hgd (by omega) (fun _ _ e => e) (fun h' u tk hk => ?_) hsz
    exact ⟨.str d.shown, H, I.kept (t' := tk) hk, ⟨u, rfl⟩, q⟩
  cases hd with
  | non => exact base trivial (by simp only [PyData.shown]; rfl)
  | bl b => exact base trivial (by simp only [PyData.shown]; rfl)
  | int i => exact base (by have h0 := g.s; simp only [PyData.showable, decide_eq_true_eq] at h0; exact h0) (by simp only [PyData.shown]; rfl)
  | str z => exact base (by have := hsz; simp only [PyData.shown] at this; exact this) (by simp only [PyData.shown]; rfl)
  | lst h1 h2 => exact deep _ rfl
  | tup h1 h2 => exact deep _ rfl
/-- isinstance(e, T): e just caught, of an own class, with its fields -/
def rIsS (K : PySem.W.Frag) (a : Addr) (cls : Value) (d : Option Addr) : List V → Hp → VK → Prop := fun xs H Q => ∃ (D : Addr) (T : String) (b : Bool) (dd : Addr) (fs : List (Str × V)), xs = [.ref a, .ty T] ∧ cls = .ref D ∧ d = some dd ∧ H dd = some (.xd fs) ∧ ExcC K D ∧
  PySem.W.kitOne K (.ref D) (.type T) = some b ∧ Q (.bl b) H
theorem call_isS {X : Cx} {a : Addr} {oe : Obj} {cls : Value} {d : Option Addr} {pn : List (Addr × Obj)} (hz : Zc cls d oe) (hf : ∃ vs, oe.data = .fields vs) : CallR (X.suite a ((a, oe) :: pn)) (.builtin "isinstance") (rIsS X.K a cls d) := by
  intro pins s σ H xs us Q I r h
  obtain ⟨D, T', b, dd, fs, rfl, rfl, rfl, ea, T, e, q⟩ := h
  obtain ⟨u1, u2, rfl, r1, r2⟩ := vals2 r
  cases (show u1 = Value.ref a from r1)
  cases (show u2 = Value.type T' from r2)
  obtain ⟨ha, _⟩ := I.pin (a, oe) (List.mem_append_left _ List.mem_cons_self)
  obtain ⟨vs, hd⟩ := hf
  have hx : ObjOk X.prog X.w H s.heap dd (.xd fs) := I.hok dd _ ea
  obtain ⟨mA, hns, hr⟩ := hx
  obtain ⟨od, ho, hl⟩ := lookIn_ns hns
  have J : PySem.W.InstAt s.heap a oe D (some od) := ⟨ha, hz.1, by unfold PySem.W.notCls; rw [hd] <;> rfl, by rw [hz.2]; exact ho⟩
  exact PySem.W.kia_one (PySem.W.kitx_excD T.hg T.hk T.hs T.hd T.ha T.hn T.ht T.hm) I.kIn J e (fun z => nomatch z) fun tk => ⟨.bl b, H, I.tok tk, rfl, q⟩
end Un

/-! UnNe: x != y where x's own class has __eq__ and no __ne__. -/
namespace Un
open PySem PySem.Spec PyProof.Rows L2
section
variable {prog : Program} {w : World} {A : Around} {E : Value → Shared → Prop} {s : Shared} {K : PySem.W.Frag} {x C f L : Addr} {ox : Obj} {od : Option Obj} {b tb : Value} {h₀ : Heap} {m : Str → Option Value}
theorem ne_entry (X : K.In s.heap) (I : PySem.W.InstAt s.heap x ox C od) (hs : PySem.W.findIn K (.ref C) "__eq__" = some (some (.ref f))) (hf : PySem.W.isFn K (.ref f) = true) (hu : A.units < cLine) {Q : Fin → Shared → Prop}
    (hcall : wpAny (model prog w) A (call (.ref f) [.ref x, b]) (fun v s' => ∃ c, v = .bool c ∧ Q (.done (.ret (.bool (!c)))) s') E s) :
    wpAny (model prog w) A (Builtin.«object.__ne__» ⟨[.ref x, b], []⟩) Q E s := by
  unfold Builtin.«object.__ne__»
  repeat (first
    | with_reducible refine wpAny_cRoomFor hu ?_
    | (refine wpAny_bind (m := callSpecialIfBound? (.ref x) (Str.ofString "__eq__") [b])
        (PySem.W.ifBound_K X I hs hf (wpAny_mono hcall (fun r s' hr => by
          obtain ⟨c, rfl, hq⟩ := hr
          repeat (first | exact hq | exact wpAny_pure hq | exact wpAny_truthy_bool hq | (refine wpAny_bind (m := truthy (.bool _)) (wpAny_truthy_bool ?_)) | wp_step)) fun _ _ e => e)))
    | wp_step)
theorem ifBound_ne {M : Model} {args : List Value} {Q : Option Value → Shared → Prop} (X : K.In s.heap) (I : PySem.W.InstAt s.heap x ox C od) (hs : PySem.W.findIn K (.ref C) "__ne__" = some (some (.builtin "object.__ne__")))
    (h : wpAny M A (call (.builtin "object.__ne__") (.ref x :: args)) (fun v => Q (some v)) E s) : wpAny M A (callSpecialIfBound? (.ref x) "__ne__" args) Q E s := by
  simp only [callSpecialIfBound?, bindSpecialIfBound?]
  refine wpAny_holding (wpAny_bind (wpAny_bind (wpAny_bind (I.type.here ((PySem.W.looks_findIn X hs).here ?_)))))
  refine wpAny_bind (wpAny_askSetting (wpAny_ite ?_))
  have fin : wpAny M A (call (.builtin "object.__ne__") ([.ref x] ++ args) >>= fun v => pure (some v)) Q E s := wpAny_bind (wpAny_mono h (fun v s' h' => wpAny_pure h') fun _ _ h' => h')
  split
  · exact wpAny_bind (wpAny_of_eq (PySem.F.cmp_object.ne.bind _) (wpAny_pure (by exact fin)))
  · exact wpAny_tryCatch (wpAny_bind (wpAny_of_eq (PySem.F.cmp_object.ne.bind _) (wpAny_pure (by exact fin))))
theorem ne_K {Q : Value → Shared → Prop} (hu : A.units + 1 < cLine) (X : K.In s.heap) (I : PySem.W.InstAt s.heap x ox C od) (hb : PySem.W.Looks (model prog w) s.heap (typeOf b) tb) (hn : PySem.W.notFirst K C tb = true)
    (he : PySem.W.findIn K (.ref C) "__eq__" = some (some (.ref f))) (hf : PySem.W.isFn K (.ref f) = true) (hne : PySem.W.findIn K (.ref C) "__ne__" = some (some (.builtin "object.__ne__"))) (hm : PySem.W.mroIn K C (.type "object") = some true)
    (h : wpAny (model prog w) A.in1 (call (.ref f) [.ref x, b]) (fun v s' => ∃ c, v = .bool c ∧ Q (.bool (!c)) s') E s) : wpAny (model prog w) A (richCompare .NotEq (.ref x) b) Q E s := by
  have one : wpAny (model prog w) A (tryCompare (.ref x) "__ne__" b) (fun r s' => ∃ v, r = some v ∧ Q v s') E s := by
    unfold tryCompare
    refine wpAny_bind (ifBound_ne X I hne (wpAny_call (codeAny_call_builtin PySem.F.cmp_object.ne.plain PySem.F.cmpEntry_ne (PySem.W.check_slot PySem.F.cmpKind_ne PySem.F.cmpSplit_ne (I.type.andThen (PySem.W.looks_mroIn X hm)) (PySem.F.cmpArgs_ne _ _)
      (ne_entry (A := A.in1) X I he hf hu (wpAny_mono h (fun v s' hv => ?_) fun _ _ e => e))))))
    obtain ⟨c, rfl, hq⟩ := hv
    refine ⟨c, rfl, ?_⟩
    first | exact wpAny_pure ⟨_, rfl, hq⟩ | exact wpAny_pure (wpAny_pure ⟨_, rfl, hq⟩) | exact ⟨_, rfl, hq⟩
  unfold richCompare
  simp only [oneThing_ref]
  refine wpAny_holding (wpAny_bind (wpAny_cRoomFor (Nat.lt_of_succ_lt hu) ?_))
  rw [cmpInfo_NotEq]
  dsimp only
  refine wpAny_bind (I.type.here (wpAny_bind (hb.here ?_)))
  split
  · rename_i q
    have e : PySem.W.subIn K tb (.ref C) = some false := by
      rcases Bool.or_eq_true_iff.mp hn with e | e
      · rw [beq_iff_eq.mp e] at q; simp at q
      · exact beq_iff_eq.mp e
    refine wpAny_bind ((PySem.W.looks_subIn X e).here ?_)
    simp only [Bool.false_eq_true, if_false]
    refine wpAny_bind (wpAny_mono one (fun r s' z => ?_) fun _ _ e => e)
    obtain ⟨v, rfl, hq⟩ := z
    exact wpAny_pure hq
  · refine wpAny_bind (wpAny_pure ?_)
    simp only [Bool.false_eq_true, if_false]
    refine wpAny_bind (wpAny_mono one (fun r s' z => ?_) fun _ _ e => e)
    obtain ⟨v, rfl, hq⟩ := z
    exact wpAny_pure hq
end
section
variable {X : Cx} {CX : CXT} {k : Nat} {C f : Addr} {fd : FuncData} {ps : List Str} {sp : Sp} {E : XK}
/-- o != y -/
def rNeO (C : Addr) (sp : Sp) (E : XK) (T : V → Hp → Prop) : R2 := fun x y H Q => ∃ a dx fs, x = .ref a ∧ H a = some (.ins C dx fs) ∧ T y H ∧ sp [.ref a, y] H (fun r H' => ∃ b, r = .bl b ∧ Q (.bl (!b)) H') E
/-- no __ne__ of its own -/
structure NeK (K : PySem.W.Frag) (C : Addr) : Prop where
  ne : PySem.W.findIn K (.ref C) "__ne__" = some (some (.builtin "object.__ne__"))
  mr : PySem.W.mroIn K C (.type "object") = some true
theorem op_neO {T : V → Hp → Prop} (hT : Right X C T) (hN : NeK X.K C) (hm : Meth X.K C "__eq__" f) (F : FnOk X.prog X.w X.K X.mg X.base CX k f fd ps sp) (hr : Room (k + 1) X.A) (hb : Binds X.K fd ps []) (hx : Passes CX X E) : OpR X (compareOp .NotEq) (rNeO C sp E T) := by
  intro pins s σ H x y v u Q I rx ry h
  obtain ⟨a, dx, fs, rfl, ha, ht, h⟩ := h
  cases (show v = Value.ref a from rx)
  obtain ⟨mA, O, _⟩ := ins_get I.hok ha
  obtain ⟨od, J, _⟩ := O.look
  obtain ⟨t, hL, hn⟩ := hT pins σ H s y u I ry ht
  have hu : X.A.units + 1 < cLine := by have := hr.units; omega
  unfold compareOp
  refine ne_K hu I.kIn J hL hn hm.at_ hm.fn hN.ne hN.mr (wpAny_mono (run_in1 F hr hb hx I (show Vals [V.ref a, y] [Value.ref a, u] from .cons rfl (.cons ry .nil)) h) (fun r s' hs => ?_) fun _ _ e => e)
  obtain ⟨z, H', I', rz, b, rfl, q⟩ := hs
  cases (show r = Value.bool b from rz)
  exact ⟨b, rfl, .bl (!b), H', I', rfl, q⟩
theorem ne_G {j : Nat} {T : V → Hp → Prop} (hT : Right X C T) (hN : NeK X.K C) (g : MetG X.prog X.w X.K X.mg X.base CX0 C "__eq__" ps k sp) (hr : Room j X.A) (hk : k + 1 ≤ j) : OpR X (compareOp .NotEq) (rNeO C sp E0 T) := by
  obtain ⟨f, fd, c, M, F, i, b⟩ := g
  exact op_neO hT hN M F (hr.mono hk) b pass0
end
/-- what may stand on the right of == and != : a store, a list, a dict -/
def RightO (C : Addr) (y : V) (H : Hp) : Prop := ∃ a, y = .ref a ∧ ((∃ dx fs, H a = some (.ins C dx fs)) ∨ (∃ xs, H a = some (.lst xs)) ∨ ∃ kvs, H a = some (.dK kvs))
theorem right_o {X : Cx} {C : Addr} (hi : InsK X.K C) : Right X C (RightO C) := by
  rintro pins σ H s y u I ry ⟨a, rfl, h⟩
  cases (show u = Value.ref a from ry)
  rcases h with ⟨dx, fs, h⟩ | ⟨xs, h⟩ | ⟨kvs, h⟩
  · obtain ⟨mA, O, _⟩ := ins_get I.hok h
    obtain ⟨od, J, _⟩ := O.look
    exact ⟨.ref C, J.type, hi.nf⟩
  · obtain ⟨_, its, n, _, e⟩ := (show ObjOk X.prog X.w H s.heap a (.lst xs) from I.hok a _ h)
    exact ⟨.type "list", (PySem.W.Looks.ld e).andThen .now, (hi.no "list" (by decide)).2⟩
  · obtain ⟨_, _, vs, _, o, es, ep, e, x, _⟩ := (show ObjOk X.prog X.w H s.heap a (.dK kvs) from I.hok a _ h)
    have hc : o.cls = .type "dict" := x.1
    exact ⟨.type "dict", hc ▸ (PySem.W.Looks.ld e).andThen .now, (hi.no "dict" (by decide)).2⟩
end Un

/-! UnMin: min of two texts. -/
namespace Un
open PySem PySem.Spec PyProof.Rows L2
theorem cmp_txt {prog : Program} {w : World} {A : Around} {its : Array Value} (z : Nat → Str) (hz : ∀ (i : Nat) (v : Value), its[i]? = some v → ∃ t, v = Value.str (z i) t) :
    CmpOf prog w A .Lt (fun i v => its[i]? = some v) (fun i j => decide ((z i).cps.toList < (z j).cps.toList)) := by
  intro i j a b s Q E ha hb q
  obtain ⟨t, rfl⟩ := hz i a ha
  obtain ⟨u, rfl⟩ := hz j b hb
  exact P.lt_str q
theorem min_txt {prog : Program} {w : World} {A : Around} {E : Value → Shared → Prop} {s : Shared} {x y : Str} {t u : Tok} {Q : Value → Shared → Prop} (hh : A.handled = none)
    (q : ∀ g tk (v : Value), (v = Value.str x t ∨ v = Value.str y u) → (∀ d o, s.heap.get? d = some o → g.get? d = some o) → Q v { s with heap := g, toks := tk }) : wpAny (model prog w) A (call (.builtin "min") [.str x t, .str y u]) Q E s := by
  have sz : (s.heap.push { cls := .type "tuple", data := .seq #[.str x t, .str y u] }).objs.size = s.heap.objs.size + 1 := by rw [Heap.size_push]
  have tp : (s.heap.push { cls := .type "tuple", data := .seq #[.str x t, .str y u] }).IsTuple s.heap.objs.size #[.str x t, .str y u] := ⟨_, Heap.get?_push_size _ rfl, rfl, 0, rfl⟩
  have two : ∀ (i : Nat) (v : Value), (#[Value.str x t, Value.str y u])[i]? = some v → v = .str x t ∧ i = 0 ∨ v = .str y u ∧ i = 1 := fun i v e => by
    match i, e with
    | 0, e => exact .inl ⟨(Option.some.inj e).symm, rfl⟩
    | 1, e => exact .inr ⟨(Option.some.inj e).symm, rfl⟩
    | i + 2, e => simp at e
  refine call_min_two (wpAny_pyIter_tuple tp ?_)
  refine ⟨_, _, [_], _, _, _, _, rfl, Walks.tuple (A := A.in1) hh _ s.heap.objs.size (by rw [sz]; exact (Nat.succ_ne_self _).symm) #[.str x t, .str y u], ⟨⟨_, Heap.get?_push_size _ rfl, rfl, rfl⟩, tp.push _⟩, fun d hd => ?_, by simp, cmp_txt (fun i => if i = 0 then x else y) (fun i v e => ?_), fun v g tk hp hk => ?_⟩
  · show d < ((s.heap.push _).push _).objs.size
    rw [Heap.size_push, sz]
    simp only [List.mem_cons, List.not_mem_nil, or_false] at hd
    rcases hd with rfl | rfl
    · rw [sz]; exact Nat.lt_succ_self _
    · exact Nat.lt_succ_of_lt (Nat.lt_succ_self _)
  · rcases two i v e with ⟨rfl, rfl⟩ | ⟨rfl, rfl⟩
    · exact ⟨t, rfl⟩
    · exact ⟨u, rfl⟩
  · refine q g tk v ?_ fun d o e => ?_
    · rcases two _ v hp with h | h
      · exact .inl h.1
      · exact .inr h.1
    · refine hk d o (fun hm => ?_) (Heap.get?_push_of_some _ (Heap.get?_push_of_some _ e))
      have l := Heap.lt_size e
      rw [List.mem_singleton.mp hm, sz] at l
      exact absurd l (Nat.not_lt_of_le (Nat.le_succ _))
def rMinX : List V → Hp → VK → Prop := fun xs H Q => ∃ a b, xs = [.str (tx a), .str (tx b)] ∧ ∀ c, (c = a ∨ c = b) → Q (.str (tx c)) H
theorem call_minX {X : Cx} (hc : X.calm = true) : CallR X (.builtin "min") rMinX := by
  intro pins s σ H xs us Q I r h
  obtain ⟨a, b, rfl, q⟩ := h
  obtain ⟨u1, u2, rfl, ⟨t1, rfl⟩, ⟨t2, rfl⟩⟩ := vals2 r
  refine min_txt (I.ok.hd hc) fun g tk v hv hk => ?_
  rcases hv with rfl | rfl
  · exact ⟨.str (tx a), H, I.kept hk, ⟨t1, rfl⟩, q a (.inl rfl)⟩
  · exact ⟨.str (tx b), H, I.kept hk, ⟨t2, rfl⟩, q b (.inr rfl)⟩
theorem rd_minX {H : Hp} {Q : VK} {a b : List Nat} (q : ∀ c, (c = a ∨ c = b) → Q (.str (tx c)) H) : rMinX [.str (tx a), .str (tx b)] H Q := ⟨a, b, rfl, q⟩
def rMinI : List V → Hp → VK → Prop := fun xs H Q => ∃ i j, xs = [.int i, .int j] ∧ Q (.int (if j < i then j else i)) H
theorem call_min2X {X : Cx} (hc : X.calm = true) : CallR X (.builtin "min") rMinI := call_min2 hc
theorem rd_minI {H : Hp} {Q : VK} {i j : Int} (q : Q (.int (if j < i then j else i)) H) : rMinI [.int i, .int j] H Q := ⟨i, j, rfl, q⟩
end Un

local macro_rules | `(tactic| walk_at "rd") => `(tactic| first
  | with_reducible refine' Un.rd_seq ?_
  | with_reducible refine' Un.rd_asg ?_
  | with_reducible refine' Un.rd_gname ?_
  | ((with_reducible refine' Un.rd_var ?k1 ?_); (case k1 => rfl))
  | with_reducible refine' Un.rd_c ?_
  | with_reducible refine' Un.rd_op ?_
  | with_reducible refine' Un.rd_I0 ?_
  | with_reducible refine' Un.rd_test ?_
  | with_reducible refine' Un.rd_bl ?_
  | with_reducible refine' Un.rd_ifS ?_
  | with_reducible refine' Un.rd_call ?_
  | with_reducible refine' Un.rd_cons ?_
  | with_reducible refine' Un.rd_nil ?_
  | with_reducible refine' Un.rd_ret ?_
  | with_reducible refine' Un.rd_retN ?_
  | with_reducible refine' Un.rd_drop ?_
  | with_reducible refine' Un.rd_next ?_
  | with_reducible refine' Un.rd_break ?_
  | with_reducible refine' Un.rd_cont ?_
  | with_reducible refine' Un.rd_cb ?_
  | with_reducible refine' Un.rd_bm ?_
  | with_reducible refine' Un.rd_bm0 ?_
  | with_reducible refine' Un.rd_tyS ?_
  | with_reducible refine' Un.rd_lst ?_
  | with_reducible refine' Un.rd_tup ?_
  | with_reducible refine' Un.rd_sl ?_
  | with_reducible refine' Un.rd_part ?_
  | with_reducible refine' Un.rd_some ?_
  | with_reducible refine' Un.rd_nopart ?_
  | with_reducible refine' Un.rd_un ?_
  | with_reducible refine' Un.rd_U ?_
  | with_reducible refine' Un.rd_B ?_
  | with_reducible refine' Un.rd_and ?_
  | with_reducible refine' Un.rd_or ?_
  | with_reducible refine' Un.rd_not ?_
  | with_reducible refine' Un.rd_andV ?_
  | with_reducible refine' Un.rd_orV ?_
  | with_reducible refine' Un.rd_notV ?_
  | with_reducible refine' Un.rd_if ?_
  | with_reducible refine' Un.rd_gsub ?_
  | with_reducible refine' Un.rd_gnil ?_
  | with_reducible refine' Un.rd_gcons ?_
  | with_reducible refine' Un.rd_two ?_
  | with_reducible refine' Un.rd_ltX ?_
  | with_reducible refine' Un.rd_inX ?_
  | ((with_reducible refine' Un.rd_eq ?k1 ?_); (case k1 => rfl))
  | ((with_reducible refine' Un.rd_ne ?k1 ?_); (case k1 => rfl))
  | with_reducible refine' Un.rd_intI ?_
  | with_reducible refine' Un.rd_intB ?_
  | with_reducible refine' Un.rd_strS ?_
  | with_reducible refine' Un.rd_strE ?_
  | with_reducible refine' Un.rd_one ?_
  | with_reducible refine' Un.rd_par ?_
  | with_reducible refine' Un.rd_revL ?_
  | with_reducible refine' Un.rd_lc ?_
  | with_reducible refine' Un.rd_iList ?_
  | with_reducible refine' Un.rd_iStr ?_
  | with_reducible refine' Un.rd_iTup ?_
  | with_reducible refine' Un.rd_for ?_
  | with_reducible refine' Un.rd_rng1 ?_
  | with_reducible refine' Un.rd_rng2 ?_
  | with_reducible refine' Un.rd_yes ?_
  | with_reducible refine' Un.rd_startX ?_
  | with_reducible refine' Un.rd_leX ?_
  | with_reducible refine' Un.rd_isN1 ?_
  | with_reducible refine' Un.rd_notN1 ?_
  | with_reducible refine' Un.rd_maxX ?_
  | with_reducible refine' Un.rd_iEnumX (l := []) ?_)
local macro_rules | `(tactic| walk_at "rds") => `(tactic| repeat walk_at "rd")

local macro_rules | `(tactic| walk_at "rd") => `(tactic| first
  | with_reducible refine' Un.rd_fld ?_
  | with_reducible refine' Un.rd_sfld ?_
  | with_reducible refine' Un.rd_dput ?_
  | with_reducible refine' Un.rd_dget ?_
  | with_reducible refine' Un.rd_din ?_
  | with_reducible refine' Un.rd_dnotin ?_
  | with_reducible refine' Un.rd_ddel ?_
  | with_reducible refine' Un.rd_dnew ?_
  | with_reducible refine' Un.rd_make ?_
  | with_reducible refine' Un.rd_meth ?_
  | with_reducible refine' Un.rd_methN ?_
  | with_reducible refine' Un.rd_iKeys ?_
  | with_reducible refine' Un.rd_items ?_
  | with_reducible refine' Un.rd_mkR ?_
  | with_reducible refine' Un.rd_pop1 ?_
  | with_reducible refine' Un.rd_get2 ?_
  | with_reducible refine' Un.rd_gtX ?_)

local macro_rules | `(tactic| walk_at "rd") => `(tactic| first
  | with_reducible refine' Un.rd_mkX ?_
  | with_reducible refine' Un.rd_xfl ?_
  | with_reducible refine' Un.rd_clX ?_
  | with_reducible refine' Un.rd_iZipS ?_
  | with_reducible refine' Un.rd_chain ?_
  | with_reducible refine' Un.rd_zipS2 ?_
  | with_reducible refine' Un.rd_mkN0 ?_
  | with_reducible refine' Un.rd_iEnum ?_
  | with_reducible refine' Un.rd_par3 ?_
  | with_reducible refine' Un.rd_three ?_)
namespace Zk46
open PySem PySem.Spec PyProof.Rows L2 Un
--T
--U NoKey
--S _wall
--F Store letters
--F Store table
--M Store.__init__
--M Store.__setitem__
--M Store.__getitem__
--M Store.__contains__
--M Store.__len__
--M Store.__eq__
--M Store.pairs
--M Store.page
--M Store.take
--M Store.fill
--M Store.copied
--D Store.__setitem__
--D check_value
--D check_letters
def topS (i : Nat) : Stmt := PySem.Challenge.pw_undername_k46_whole_stores_over_long_scr.main.body.getD i (.Pass ⟨0, 0, 0, 0⟩)
abbrev s__wall : Stmt := topS 0
abbrev n__wall : List Str := ["k"]
theorem sc__wall : FnScope n__wall ["k"] (defScope s__wall) := ⟨rfl, rfl, rfl, by decide +kernel, rfl, by decide +kernel, by decide +kernel⟩
abbrev s_check_letters : Stmt := topS 11
abbrev n_check_letters : List Str := ["letters"]
theorem sc_check_letters : FnScope n_check_letters ["letters"] (defScope s_check_letters) := ⟨rfl, rfl, rfl, by decide +kernel, rfl, by decide +kernel, by decide +kernel⟩
abbrev s__are_letters : Stmt := topS 12
abbrev n__are_letters : List Str := ["value"]
theorem sc__are_letters : FnScope n__are_letters ["value"] (defScope s__are_letters) := ⟨rfl, rfl, rfl, by decide +kernel, rfl, by decide +kernel, by decide +kernel⟩
abbrev s__consists_of : Stmt := topS 13
abbrev n__consists_of : List Str := ["characters", "text", "character"]
theorem sc__consists_of : FnScope n__consists_of ["characters", "text"] (defScope s__consists_of) := ⟨rfl, rfl, rfl, by decide +kernel, rfl, by decide +kernel, by decide +kernel⟩
abbrev s__ascends : Stmt := topS 14
abbrev n__ascends : List Str := ["text", "one", "other"]
theorem sc__ascends : FnScope n__ascends ["text"] (defScope s__ascends) := ⟨rfl, rfl, rfl, by decide +kernel, rfl, by decide +kernel, by decide +kernel⟩
abbrev s_is_text : Stmt := topS 15
abbrev n_is_text : List Str := ["letters", "value"]
theorem sc_is_text : FnScope n_is_text ["letters", "value"] (defScope s_is_text) := ⟨rfl, rfl, rfl, by decide +kernel, rfl, by decide +kernel, by decide +kernel⟩
abbrev s_is_number : Stmt := topS 16
abbrev n_is_number : List Str := ["value"]
theorem sc_is_number : FnScope n_is_number ["value"] (defScope s_is_number) := ⟨rfl, rfl, rfl, by decide +kernel, rfl, by decide +kernel, by decide +kernel⟩
abbrev s_Store___init__ : Stmt := inClass (topS 18) 0
abbrev n_Store___init__ : List Str := ["self", "letters", "pairs", "key", "value"]
theorem sc_Store___init__ : FnScope n_Store___init__ ["self", "letters", "pairs"] (defScope s_Store___init__) := ⟨rfl, rfl, rfl, by decide +kernel, rfl, by decide +kernel, by decide +kernel⟩
abbrev s_Store___setitem__ : Stmt := inClass (topS 18) 1
abbrev n_Store___setitem__ : List Str := ["self", "at", "worth"]
theorem sc_Store___setitem__ : FnScope n_Store___setitem__ ["self", "at", "worth"] (defScope s_Store___setitem__) := ⟨rfl, rfl, rfl, by decide +kernel, rfl, by decide +kernel, by decide +kernel⟩
abbrev s_Store___getitem__ : Stmt := inClass (topS 18) 2
abbrev n_Store___getitem__ : List Str := ["self", "at"]
theorem sc_Store___getitem__ : FnScope n_Store___getitem__ ["self", "at"] (defScope s_Store___getitem__) := ⟨rfl, rfl, rfl, by decide +kernel, rfl, by decide +kernel, by decide +kernel⟩
abbrev s_Store___iter__ : Stmt := inClass (topS 18) 3
abbrev n_Store___iter__ : List Str := ["self"]
theorem sc_Store___iter__ : FnScope n_Store___iter__ ["self"] (defScope s_Store___iter__) := ⟨rfl, rfl, rfl, by decide +kernel, rfl, by decide +kernel, by decide +kernel⟩
abbrev s_Store___contains__ : Stmt := inClass (topS 18) 4
abbrev n_Store___contains__ : List Str := ["self", "x"]
theorem sc_Store___contains__ : FnScope n_Store___contains__ ["self", "x"] (defScope s_Store___contains__) := ⟨rfl, rfl, rfl, by decide +kernel, rfl, by decide +kernel, by decide +kernel⟩
abbrev s_Store___len__ : Stmt := inClass (topS 18) 5
abbrev n_Store___len__ : List Str := ["self"]
theorem sc_Store___len__ : FnScope n_Store___len__ ["self"] (defScope s_Store___len__) := ⟨rfl, rfl, rfl, by decide +kernel, rfl, by decide +kernel, by decide +kernel⟩
abbrev s_Store___eq__ : Stmt := inClass (topS 18) 6
abbrev n_Store___eq__ : List Str := ["self", "other"]
theorem sc_Store___eq__ : FnScope n_Store___eq__ ["self", "other"] (defScope s_Store___eq__) := ⟨rfl, rfl, rfl, by decide +kernel, rfl, by decide +kernel, by decide +kernel⟩
abbrev s_Store_pairs : Stmt := inClass (topS 18) 7
abbrev n_Store_pairs : List Str := ["self", "low", "high", "after", "key"]
theorem sc_Store_pairs : FnScope n_Store_pairs ["self", "low", "high", "after"] (defScope s_Store_pairs) := ⟨rfl, rfl, rfl, by decide +kernel, rfl, by decide +kernel, by decide +kernel⟩
abbrev s_Store_page : Stmt := inClass (topS 18) 8
abbrev n_Store_page : List Str := ["self", "count", "low", "high", "after", "key"]
theorem sc_Store_page : FnScope n_Store_page ["self", "count", "low", "high", "after"] (defScope s_Store_page) := ⟨rfl, rfl, rfl, by decide +kernel, rfl, by decide +kernel, by decide +kernel⟩
abbrev s_Store_take : Stmt := inClass (topS 18) 9
abbrev n_Store_take : List Str := ["self", "low", "high", "after", "taken", "key"]
theorem sc_Store_take : FnScope n_Store_take ["self", "low", "high", "after"] (defScope s_Store_take) := ⟨rfl, rfl, rfl, by decide +kernel, rfl, by decide +kernel, by decide +kernel⟩
abbrev s_Store_fill : Stmt := inClass (topS 18) 10
abbrev n_Store_fill : List Str := ["self", "value", "low", "high", "after", "filled", "key"]
theorem sc_Store_fill : FnScope n_Store_fill ["self", "value", "low", "high", "after"] (defScope s_Store_fill) := ⟨rfl, rfl, rfl, by decide +kernel, rfl, by decide +kernel, by decide +kernel⟩
abbrev s_Store_copied : Stmt := inClass (topS 18) 11
abbrev n_Store_copied : List Str := ["self"]
theorem sc_Store_copied : FnScope n_Store_copied ["self"] (defScope s_Store_copied) := ⟨rfl, rfl, rfl, by decide +kernel, rfl, by decide +kernel, by decide +kernel⟩
abbrev s_Store_trial : Stmt := inClass (topS 18) 12
abbrev n_Store_trial : List Str := ["self"]
theorem sc_Store_trial : FnScope n_Store_trial ["self"] (defScope s_Store_trial) := ⟨rfl, rfl, rfl, by decide +kernel, rfl, by decide +kernel, by decide +kernel⟩
abbrev s_Store_within : Stmt := inClass (topS 18) 13
abbrev n_Store_within : List Str := ["self", "work"]
theorem sc_Store_within : FnScope n_Store_within ["self", "work"] (defScope s_Store_within) := ⟨rfl, rfl, rfl, by decide +kernel, rfl, by decide +kernel, by decide +kernel⟩
abbrev s_check_value : Stmt := topS 19
abbrev n_check_value : List Str := ["value"]
theorem sc_check_value : FnScope n_check_value ["value"] (defScope s_check_value) := ⟨rfl, rfl, rfl, by decide +kernel, rfl, by decide +kernel, by decide +kernel⟩
abbrev s__keys : Stmt := topS 20
abbrev n__keys : List Str := ["store", "low", "high", "after", "key"]
theorem sc__keys : FnScope n__keys ["store", "low", "high", "after"] (defScope s__keys) := ⟨rfl, rfl, rfl, by decide +kernel, rfl, by decide +kernel, by decide +kernel⟩
abbrev s__law_deal : Stmt := topS 22
abbrev n__law_deal : List Str := ["_law_script", "_law_base", "_law_cell", "_law_cells", "_law_mixed_here"]
theorem sc__law_deal : FnScope n__law_deal ["_law_script", "_law_base"] (defScope s__law_deal) := ⟨rfl, rfl, rfl, by decide +kernel, rfl, by decide +kernel, by decide +kernel⟩
abbrev s__law_draw : Stmt := topS 23
abbrev n__law_draw : List Str := ["_law_deal_here", "_law_many", "_law_left"]
theorem sc__law_draw : FnScope n__law_draw ["_law_deal_here", "_law_many"] (defScope s__law_draw) := ⟨rfl, rfl, rfl, by decide +kernel, rfl, by decide +kernel, by decide +kernel⟩
abbrev s__law_pick : Stmt := topS 24
abbrev n__law_pick : List Str := ["_law_deal_here", "_law_some"]
theorem sc__law_pick : FnScope n__law_pick ["_law_deal_here", "_law_some"] (defScope s__law_pick) := ⟨rfl, rfl, rfl, by decide +kernel, rfl, by decide +kernel, by decide +kernel⟩
abbrev s__law_mixed : Stmt := topS 25
abbrev n__law_mixed : List Str := ["_law_deal_here", "_law_some", "_law_left", "_law_found"]
theorem sc__law_mixed : FnScope n__law_mixed ["_law_deal_here", "_law_some"] (defScope s__law_mixed) := ⟨rfl, rfl, rfl, by decide +kernel, rfl, by decide +kernel, by decide +kernel⟩
abbrev s__law_letters : Stmt := topS 26
abbrev n__law_letters : List Str := ["_law_deal_here", "_law_most", "_law_left", "_law_found", "_law_k", "_law_sign"]
theorem sc__law_letters : FnScope n__law_letters ["_law_deal_here", "_law_most"] (defScope s__law_letters) := ⟨rfl, rfl, rfl, by decide +kernel, rfl, by decide +kernel, by decide +kernel⟩
abbrev s__law_text : Stmt := topS 27
abbrev n__law_text : List Str := ["_law_deal_here", "_law_letters_here", "_law_most", "_law_size", "_law_form", "_law_many", "_law_word", "_law_k"]
theorem sc__law_text : FnScope n__law_text ["_law_deal_here", "_law_letters_here", "_law_most"] (defScope s__law_text) := ⟨rfl, rfl, rfl, by decide +kernel, rfl, by decide +kernel, by decide +kernel⟩
abbrev s__law_value : Stmt := topS 28
abbrev n__law_value : List Str := ["_law_deal_here", "_law_form"]
theorem sc__law_value : FnScope n__law_value ["_law_deal_here"] (defScope s__law_value) := ⟨rfl, rfl, rfl, by decide +kernel, rfl, by decide +kernel, by decide +kernel⟩
abbrev s__law_spots : Stmt := topS 29
abbrev n__law_spots : List Str := ["_law_table", "_law_low", "_law_high", "_law_limit", "_law_keys", "_law_found", "_law_key", "_law_one"]
theorem sc__law_spots : FnScope n__law_spots ["_law_table", "_law_low", "_law_high", "_law_limit"] (defScope s__law_spots) := ⟨rfl, rfl, rfl, by decide +kernel, rfl, by decide +kernel, by decide +kernel⟩
abbrev s__law_any_key : Stmt := topS 30
abbrev n__law_any_key : List Str := ["_law_deal_here", "_law_letters_here", "_law_table", "_law_some", "_law_key", "_law_more", "_law_one"]
theorem sc__law_any_key : FnScope n__law_any_key ["_law_deal_here", "_law_letters_here", "_law_table"] (defScope s__law_any_key) := ⟨rfl, rfl, rfl, by decide +kernel, rfl, by decide +kernel, by decide +kernel⟩
abbrev s__law_asked_right : Stmt := topS 31
abbrev n__law_asked_right : List Str := ["_law_deal_here", "_law_store", "_law_table", "_law_reach", "_law_low", "_law_high", "_law_limit", "_law_pairs", "_law_many", "_law_found", "_law_whole", "_law_key"]
theorem sc__law_asked_right : FnScope n__law_asked_right ["_law_deal_here", "_law_store", "_law_table", "_law_reach"] (defScope s__law_asked_right) := ⟨rfl, rfl, rfl, by decide +kernel, rfl, by decide +kernel, by decide +kernel⟩
abbrev s__law_told : Stmt := topS 32
abbrev n__law_told : List Str := ["_law_store", "_law_key", "_law_found", "e"]
theorem sc__law_told : FnScope n__law_told ["_law_store", "_law_key"] (defScope s__law_told) := ⟨rfl, rfl, rfl, by decide +kernel, rfl, by decide +kernel, by decide +kernel⟩
abbrev s__law_deed : Stmt := topS 33
abbrev n__law_deed : List Str := ["_law_deal_here", "_law_letters_here", "_law_store", "_law_table", "_law_reach", "_law_low", "_law_high", "_law_limit", "_law_form", "_law_key", "_law_value_here", "_law_one", "_law_some"]
theorem sc__law_deed : FnScope n__law_deed ["_law_deal_here", "_law_letters_here", "_law_store", "_law_table", "_law_reach"] (defScope s__law_deed) := ⟨rfl, rfl, rfl, by decide +kernel, rfl, by decide +kernel, by decide +kernel⟩
abbrev s__law_copy_right : Stmt := topS 34
abbrev n__law_copy_right : List Str := ["_law_deal_here", "_law_letters_here", "_law_store", "_law_table", "_law_other", "_law_pairs", "_law_spot", "_law_whole", "_law_strange", "_law_wide", "_law_key", "_law_sign"]
theorem sc__law_copy_right : FnScope n__law_copy_right ["_law_deal_here", "_law_letters_here", "_law_store", "_law_table"] (defScope s__law_copy_right) := ⟨rfl, rfl, rfl, by decide +kernel, rfl, by decide +kernel, by decide +kernel⟩
abbrev s_law : Stmt := topS 35
abbrev n_law : List Str := ["_law_script", "_law_k", "_law_deal_here", "_law_letters_here", "_law_table", "_law_many", "_law_size", "_law_turn", "_law_pairs", "_law_key", "_law_value_here", "_law_store", "_law_limit", "_law_low", "_law_high", "_law_asked", "_law_odd", "_law_has"]
theorem sc_law : FnScope n_law ["_law_script"] (defScope s_law) := ⟨rfl, rfl, rfl, by decide +kernel, rfl, by decide +kernel, by decide +kernel⟩
abbrev s_NoText : Stmt := inClass (topS 4) 0
theorem sc_NoText : FnScope ["self", "value"] ["self", "value"] (defScope s_NoText) := ⟨rfl, rfl, rfl, by decide +kernel, rfl, by decide +kernel, by decide +kernel⟩
abbrev s_NoValue : Stmt := inClass (topS 5) 0
theorem sc_NoValue : FnScope ["self", "value"] ["self", "value"] (defScope s_NoValue) := ⟨rfl, rfl, rfl, by decide +kernel, rfl, by decide +kernel, by decide +kernel⟩
abbrev s_NoKey : Stmt := inClass (topS 6) 0
theorem sc_NoKey : FnScope ["self", "key"] ["self", "key"] (defScope s_NoKey) := ⟨rfl, rfl, rfl, by decide +kernel, rfl, by decide +kernel, by decide +kernel⟩
/-- what the module's names hold -/
structure Txt (K : PySem.W.Frag) (mg : Str → Option Value) : Prop where
  a_check_letters : At K mg "check_letters" s_check_letters ["letters"]
  a__are_letters : At K mg "_are_letters" s__are_letters ["value"]
  a__consists_of : At K mg "_consists_of" s__consists_of ["characters", "text"]
  a__ascends : At K mg "_ascends" s__ascends ["text"]
  a_is_text : At K mg "is_text" s_is_text ["letters", "value"]
  a_is_number : At K mg "is_number" s_is_number ["value"]
  a_check_value : At K mg "check_value" s_check_value ["value"]
  a__keys : At K mg "_keys" s__keys ["store", "low", "high", "after"]
  a__law_deal : At K mg "_law_deal" s__law_deal ["_law_script", "_law_base"]
  a__law_draw : At K mg "_law_draw" s__law_draw ["_law_deal_here", "_law_many"]
  a__law_pick : At K mg "_law_pick" s__law_pick ["_law_deal_here", "_law_some"]
  a__law_mixed : At K mg "_law_mixed" s__law_mixed ["_law_deal_here", "_law_some"]
  a__law_letters : At K mg "_law_letters" s__law_letters ["_law_deal_here", "_law_most"]
  a__law_text : At K mg "_law_text" s__law_text ["_law_deal_here", "_law_letters_here", "_law_most"]
  a__law_value : At K mg "_law_value" s__law_value ["_law_deal_here"]
  a__law_spots : At K mg "_law_spots" s__law_spots ["_law_table", "_law_low", "_law_high", "_law_limit"]
  a__law_any_key : At K mg "_law_any_key" s__law_any_key ["_law_deal_here", "_law_letters_here", "_law_table"]
  a__law_asked_right : At K mg "_law_asked_right" s__law_asked_right ["_law_deal_here", "_law_store", "_law_table", "_law_reach"]
  a__law_told : At K mg "_law_told" s__law_told ["_law_store", "_law_key"]
  a__law_deed : At K mg "_law_deed" s__law_deed ["_law_deal_here", "_law_letters_here", "_law_store", "_law_table", "_law_reach"]
  a__law_copy_right : At K mg "_law_copy_right" s__law_copy_right ["_law_deal_here", "_law_letters_here", "_law_store", "_law_table"]
  a_law : At K mg "law" s_law ["_law_script"]
  g_Store : mg "Store" = some (.ref (ca mg "Store"))
  k_Store : Cls K (ca mg "Store")
  q_Store : PySem.W.noSeq K (ca mg "Store") = true
  i_Store : InsK K (ca mg "Store")
  ne_Store : NeK K (ca mg "Store")
  n_Store_letters : NoAttr K (ca mg "Store") "letters"
  n_Store_table : NoAttr K (ca mg "Store") "table"
  d_Store___init__ : AtI K (ca mg "Store") "__init__" "Store.__init__" s_Store___init__
  a_Store___setitem__ : AtM K (ca mg "Store") "__setitem__" "Store.__setitem__" s_Store___setitem__ ["self", "at", "worth"]
  a_Store___getitem__ : AtM K (ca mg "Store") "__getitem__" "Store.__getitem__" s_Store___getitem__ ["self", "at"]
  a_Store___contains__ : AtM K (ca mg "Store") "__contains__" "Store.__contains__" s_Store___contains__ ["self", "x"]
  a_Store___len__ : AtM K (ca mg "Store") "__len__" "Store.__len__" s_Store___len__ ["self"]
  a_Store___eq__ : AtM K (ca mg "Store") "__eq__" "Store.__eq__" s_Store___eq__ ["self", "other"]
  d_Store_pairs : AtD K (ca mg "Store") "pairs" "Store.pairs" s_Store_pairs [V.str (tx []), V.non] [("after", V.non)]
  d_Store_page : AtD K (ca mg "Store") "page" "Store.page" s_Store_page [V.str (tx []), V.non] [("after", V.non)]
  d_Store_take : AtD K (ca mg "Store") "take" "Store.take" s_Store_take [] [("after", V.non)]
  d_Store_fill : AtD K (ca mg "Store") "fill" "Store.fill" s_Store_fill [] [("after", V.non)]
  a_Store_copied : AtM K (ca mg "Store") "copied" "Store.copied" s_Store_copied ["self"]
  e_NoKey : ErrI K mg "NoKey" "NoKey.__init__" "key" s_NoKey (ca mg "NoKey")
  m_KeyError : mg "KeyError" = none
  m_TypeError : mg "TypeError" = none
  m_ValueError : mg "ValueError" = none
  m_abs : mg "abs" = none
  m_all : mg "all" = none
  m_bool : mg "bool" = none
  m_dict : mg "dict" = none
  m_int : mg "int" = none
  m_isinstance : mg "isinstance" = none
  m_len : mg "len" = none
  m_list : mg "list" = none
  m_max : mg "max" = none
  m_min : mg "min" = none
  m_range : mg "range" = none
  m_repr : mg "repr" = none
  m_sorted : mg "sorted" = none
  m_str : mg "str" = none
  m_tuple : mg "tuple" = none
  m_zip : mg "zip" = none
  c_CHARACTERS : ∃ t, mg "CHARACTERS" = some (.str "-./0123456789_abcdefghijklmnopqrstuvwxyz" t)
  c_FEWEST_LETTERS : ∃ t, mg "FEWEST_LETTERS" = some (.int 2 t)
  c_MOST_LETTERS : ∃ t, mg "MOST_LETTERS" = some (.int 5 t)
def alphabet : List Nat := [45, 46, 47, 48, 49, 50, 51, 52, 53, 54, 55, 56, 57, 95, 97, 98, 99, 100, 101, 102, 103, 104, 105, 106, 107, 108, 109, 110, 111, 112, 113, 114, 115, 116, 117, 118, 119, 120, 121, 122]
section
variable {P : Program} {w : World} {K : PySem.W.Frag} {mg : Str → Option Value} {base : Heap}
theorem sz_of' {n : Nat} (h : n ≤ 1000) : n ≤ sizeLine := Nat.le_of_lt (small1000 h)
def consB (cs u : List Nat) : Bool := u.all fun c => decide (c ∈ cs)
def spCons : Sp := fun vs H Q _ => ∃ cs u : List Nat, vs = [.str (tx cs), .str (tx u)] ∧ u.length ≤ 1000 ∧ ∀ H', Same H H' → Q (.bl (consB cs u)) H'
theorem cl_cons (T : Txt K mg) : Cl P w K mg base "_consists_of" ["characters", "text"] 1 spCons := cl_of T.a__consists_of fun f fd F => by
  refine F.ok sc__consists_of (fun vs H Q E h => ?_) (fun cdv A outer s H vs Q E hr h => ?_)
  · obtain ⟨cs, u, rfl, _⟩ := h
    rfl
  · obtain ⟨cs, u, rfl, hl, q⟩ := h
    refine ⟨_, (pss_one (ps_ret (pe_callB (cr_all rfl) (by rfl) T.m_all (by decide +kernel) (pa_cons (pe_lc (own := [("character", 2)]) (g := gName 2) (tt := tYes) (by rfl) sc__consists_of.nd (pi_str (pv 1)) (blkOk_by (own := [("character", 2)]) (N := n__consists_of) (sc := defScope s__consists_of) (by decide +kernel)) (fun _ _ _ _ _ => (pg_name (i := 2) sc__consists_of.nd rfl (Or.inl rfl))) (fun _ _ _ _ _ => pts_nil) (fun _ _ _ _ _ => (pe_cmpR op_inX (pv 2) (pv 0) (by rfl)))) pa_nil)))), ?_⟩
    walk_at "rds"
    refine fun e ne => lc_text (l := u) (fun i H' => Same H H' ∧ H' e = some (.lst (((u.take i).map fun c => decide (c ∈ cs)).map V.bl))) ⟨same_upd ne, upd_same⟩ ?_ ?_
    · rintro i c H' hc ⟨sH, he⟩
      have hi : i < u.length := (List.getElem?_eq_some_iff.mp hc).1
      walk_at "rds"
      refine ⟨rfl, ?_⟩
      walk_at "rds"
      refine rd_ite (fun _ => ?_) (fun h => by cases h)
      walk_at "rds"
      refine ⟨_, he, by rw [List.length_map, List.length_map, List.length_take]; exact small1000 (by omega), same_mut sH ne, ?_⟩
      rw [upd_same, take_snoc _ hc, List.map_append]
      rfl
    · rintro H' ⟨sH, he⟩
      rw [List.take_length] at he
      walk_at "rds"
      refine rd_all (SqL.of he) ?_
      have e1 : (u.map fun c => decide (c ∈ cs)).all id = consB cs u := by unfold consB; rw [List.all_map]; rfl
      rw [e1]
      exact q _ sH
def ascB (u : List Nat) : Bool := (u.zip (u.drop 1)).all fun p => decide ([p.1] < [p.2])
def spAsc : Sp := fun vs H Q _ => ∃ u : List Nat, vs = [.str (tx u)] ∧ u.length ≤ 1000 ∧ ∀ H', Same H H' → Q (.bl (ascB u)) H'
theorem cl_asc (T : Txt K mg) : Cl P w K mg base "_ascends" ["text"] 1 spAsc := cl_of T.a__ascends fun f fd F => by
  refine F.ok sc__ascends (fun vs H Q E h => ?_) (fun cdv A outer s H vs Q E hr h => ?_)
  · obtain ⟨u, rfl, _⟩ := h
    rfl
  · obtain ⟨u, rfl, hl, q⟩ := h
    refine ⟨_, (pss_one (ps_ret (pe_callB (cr_all rfl) (by rfl) T.m_all (by decide +kernel) (pa_cons (pe_lc (own := [("one", 1), ("other", 2)]) (g := gTup K 2 (gCons (gName 1) (gCons (gName 2) gNil))) (tt := tYes) (by rfl) sc__ascends.nd (pi_zipS (by rfl) T.m_zip (pa_cons (pv 0) (pa_cons (pe_slice sl_strX (pv 0) (po_some pe_int) po_none) pa_nil))) (blkOk_by (own := [("one", 1), ("other", 2)]) (N := n__ascends) (sc := defScope s__ascends) (by decide +kernel)) (fun _ _ _ _ _ => by exact (pg_tup rfl (pgs_cons (pg_name (i := 1) sc__ascends.nd rfl (Or.inl rfl)) (pgs_cons (pg_name (i := 2) sc__ascends.nd rfl (Or.inl rfl)) pgs_nil)))) (fun _ _ _ _ _ => pts_nil) (fun _ _ _ _ _ => (pe_cmpR op_ltX (pv 1) (pv 2) (nomark _)))) pa_nil)))), ?_⟩
    walk_at "rds"
    refine rd_slX (sz_of' hl) ?_
    have e0 : cutL u (some 1) none = u.drop 1 := by
      show cutL u (some ((1 : Nat) : Int)) none = _
      unfold cutL
      rw [HT.sIx_none, HT.sIx_nat]
      rcases u with _ | ⟨c, u⟩
      · rfl
      · have e3 : min 1 (c :: u).length = 1 := by simp
        rw [e3]
        simp
    rw [e0]
    walk_at "rds"
    refine fun e ne => lc_zip (l := u) (m := u.drop 1) (fun i H' => Same H H' ∧ H' e = some (.lst ((((u.zip (u.drop 1)).take i).map fun p => decide ([p.1] < [p.2])).map V.bl))) ⟨same_upd ne, upd_same⟩ ?_ ?_
    · rintro i c d T' H' hc hd ⟨sH, he⟩ hT
      have hi : i < u.length := (List.getElem?_eq_some_iff.mp hc).1
      have hz : (u.zip (u.drop 1))[i]? = some (c, d) := List.getElem?_zip_eq_some.mpr ⟨hc, hd⟩
      have hne : T' ≠ e := fun z => by rw [z, he] at hT; cases hT
      refine rd_gtup (SqT.of upd_same) rfl ?_
      walk_at "rds"
      refine ⟨rfl, ?_⟩
      walk_at "rds"
      refine rd_ite (fun _ => ?_) (fun h => by cases h)
      walk_at "rds"
      refine ⟨_, by rw [upd_ne hne.symm]; exact he, ?_, ?_, ?_⟩
      · rw [List.length_map, List.length_map, List.length_take, List.length_zip]
        exact small1000 (by omega)
      · exact same_mut (fun b o hb => same_upd hT b o (sH b o hb)) ne
      · rw [upd_same, take_snoc _ hz, List.map_append]
        first | rfl | (rw [List.map_append]; rfl)
    · rintro H' ⟨sH, he⟩
      have hlen : (u.zip (u.drop 1)).length = min u.length (u.drop 1).length := List.length_zip
      rw [← hlen, List.take_length] at he
      walk_at "rds"
      refine rd_all (SqL.of he) ?_
      have e1 : ((u.zip (u.drop 1)).map fun p => decide ([p.1] < [p.2])).all id = ascB u := by unfold ascB; rw [List.all_map]; rfl
      rw [e1]
      exact q _ sH
/-- no text -/
def NotStr (K : PySem.W.Frag) (H : Hp) (x : V) : Prop := (∃ t, TyX K H x t ∧ PySem.W.kitOne K t (.type "str") = some false) ∧ ∀ z, x ≠ .str z
def TxtOr (K : PySem.W.Frag) (H : Hp) (x : V) : Prop := (∃ u, x = .str (tx u) ∧ u.length ≤ 1000) ∨ NotStr K H x
def areB (u : List Nat) : Bool := decide (2 ≤ u.length) && (decide (u.length ≤ 5) && (consB alphabet u && ascB u))
def areV : V → Bool
  | .str z => areB z.cps.toList
  | _ => false
theorem areV_tx (u : List Nat) : areV (.str (tx u)) = areB u := rfl
theorem areV_not {x : V} (h : ∀ z, x ≠ .str z) : areV x = false := by
  cases x with
  | str z => exact (h z rfl).elim
  | _ => rfl
def spAre (K : PySem.W.Frag) : Sp := fun vs H Q _ => ∃ x, vs = [x] ∧ TxtOr K H x ∧ ∀ H', Same H H' → Q (.bl (areV x)) H'
theorem same_refl (H : Hp) : Same H H := fun _ _ h => h
theorem same_trans {H H1 H2 : Hp} (a : Same H H1) (b : Same H1 H2) : Same H H2 := fun c o h => b c o (a c o h)
theorem cl_are (T : Txt K mg) : Cl P w K mg base "_are_letters" ["value"] 2 (spAre K) := cl_of T.a__are_letters fun f fd F => by
  have C__consists_of := cl_cons (P := P) (w := w) (base := base) T
  have C__ascends := cl_asc (P := P) (w := w) (base := base) T
  refine F.ok sc__are_letters (fun vs H Q E h => ?_) (fun cdv A outer s H vs Q E hr h => ?_)
  · obtain ⟨x, rfl, _⟩ := h
    rfl
  · obtain ⟨x, rfl, hx, q⟩ := h
    refine ⟨_, (pss_cons (ps_if (pt_not (pt_val (pe_callB call_isi (by rfl) T.m_isinstance (by decide +kernel) (pa_cons (pv 0) (pa_cons (pe_bltn (v := .ty "str") (by rfl) T.m_str (by decide +kernel) rfl) pa_nil)))))
      (pss_one (ps_ret pe_bl))
      pss_nil)
      (pss_cons (ps_if (pt_not (pt_chain op_le op_le (pe_gint T.c_FEWEST_LETTERS (by rfl)) (pe_callB call_lenX (by rfl) T.m_len (by decide +kernel) (pa_cons (pv 0) pa_nil)) (pe_gint T.c_MOST_LETTERS (by rfl))))
      (pss_one (ps_ret pe_bl))
      pss_nil)
      (pss_one (ps_ret (pe_and (pe_cl C__consists_of (hr.mono (by decide)) (by rfl) (pa_cons (pe_gstr T.c_CHARACTERS [45, 46, 47, 48, 49, 50, 51, 52, 53, 54, 55, 56, 57, 95, 97, 98, 99, 100, 101, 102, 103, 104, 105, 106, 107, 108, 109, 110, 111, 112, 113, 114, 115, 116, 117, 118, 119, 120, 121, 122] (by decide +kernel) (by rfl)) (pa_cons (pv 0) pa_nil))) (pe_one (pe_cl C__ascends (hr.mono (by decide)) (by rfl) (pa_cons (pv 0) pa_nil)))))))), ?_⟩
    walk_at "rds"
    rcases hx with ⟨u, rfl, hl⟩ | ⟨⟨t, ty, k⟩, hn⟩
    · rw [areV_tx] at q
      unfold areB at q
      refine rd_isi (b := true) (.base (.str _)) (kit_ty (by decide +kernel)) ?_
      walk_at "rds"
      refine rd_ite (fun h => by cases h) (fun _ => ?_)
      walk_at "rds"
      refine rd_lenX (sz_of' hl) ?_
      have e2 : decide (2 ≤ (u.length : Int)) = decide (2 ≤ u.length) := by
        rw [decide_eq_decide]
        omega
      have e5 : decide ((u.length : Int) ≤ 5) = decide (u.length ≤ 5) := by
        rw [decide_eq_decide]
        omega
      walk_at "rds"
      rw [e2]
      refine rd_ite (fun h2 => ?_) (fun h2 => ?_)
      · rw [h2, Bool.true_and] at q
        walk_at "rds"
        rw [e5]
        refine rd_ite (fun h5 => ?_) (fun h5 => ?_)
        · have h5' : decide (u.length ≤ 5) = false := by simpa using h5
          rw [h5', Bool.false_and] at q
          walk_at "rds"
          exact q _ (same_refl _)
        · have h5' : decide (u.length ≤ 5) = true := by simpa using h5
          rw [h5', Bool.true_and] at q
          walk_at "rds"
          refine ⟨alphabet, u, rfl, hl, fun H1 s1 => ?_⟩
          walk_at "rds"
          refine rd_ite (fun h => ?_) (fun h => ?_)
          · rw [h, Bool.true_and] at q
            walk_at "rds"
            exact ⟨u, rfl, hl, fun H2 s2 => q _ (same_trans s1 s2)⟩
          · rw [h, Bool.false_and] at q
            exact q _ s1
      · rw [h2, Bool.false_and] at q
        walk_at "rds"
        refine rd_ite (fun _ => ?_) (fun h => by cases h)
        walk_at "rds"
        exact q _ (same_refl _)
    · rw [areV_not hn] at q
      refine rd_isi ty k ?_
      walk_at "rds"
      refine rd_ite (fun _ => ?_) (fun h => by cases h)
      walk_at "rds"
      exact q _ (same_refl _)
def isTxtB (ls : List Nat) : V → Bool
  | .str z => consB ls z.cps.toList
  | _ => false
theorem isTxt_not {ls : List Nat} {x : V} (h : ∀ z, x ≠ .str z) : isTxtB ls x = false := by
  cases x with
  | str z => exact (h z rfl).elim
  | _ => rfl
def spIsTxt (K : PySem.W.Frag) : Sp := fun vs H Q _ => ∃ (ls : List Nat) (x : V), vs = [.str (tx ls), x] ∧ TxtOr K H x ∧ ∀ H', Same H H' → Q (.bl (isTxtB ls x)) H'
theorem cl_is_text (T : Txt K mg) : Cl P w K mg base "is_text" ["letters", "value"] 2 (spIsTxt K) := cl_of T.a_is_text fun f fd F => by
  have C__consists_of := cl_cons (P := P) (w := w) (base := base) T
  refine F.ok sc_is_text (fun vs H Q E h => ?_) (fun cdv A outer s H vs Q E hr h => ?_)
  · obtain ⟨ls, x, rfl, _⟩ := h
    rfl
  · obtain ⟨ls, x, rfl, hx, q⟩ := h
    refine ⟨_, (pss_one (ps_ret (pe_and (pe_callB call_isi (by rfl) T.m_isinstance (by decide +kernel) (pa_cons (pv 1) (pa_cons (pe_bltn (v := .ty "str") (by rfl) T.m_str (by decide +kernel) rfl) pa_nil))) (pe_one (pe_cl C__consists_of (hr.mono (by decide)) (by rfl) (pa_cons (pv 0) (pa_cons (pv 1) pa_nil))))))), ?_⟩
    walk_at "rds"
    rcases hx with ⟨u, rfl, hl⟩ | ⟨⟨t, ty, k⟩, hn⟩
    · refine rd_isi (b := true) (.base (.str _)) (kit_ty (by decide +kernel)) ?_
      walk_at "rds"
      refine rd_ite (fun _ => ?_) (fun h => by cases h)
      walk_at "rds"
      exact ⟨ls, u, rfl, hl, q⟩
    · rw [isTxt_not hn] at q
      refine rd_isi ty k ?_
      walk_at "rds"
      refine rd_ite (fun h => by cases h) (fun _ => ?_)
      exact q _ (same_refl _)
end

section
variable {P : Program} {w : World} {K : PySem.W.Frag} {mg : Str → Option Value} {base : Heap}
/-! ### the store's own defs -/
abbrev SC (mg : Str → Option Value) : Addr := ca mg "Store"
def SF (ls : List Nat) (d : Addr) : List (Str × V) := [("letters", .str (tx ls)), ("table", .ref d)]
def Ov (ls k : List Nat) : Prop := (∀ c ∈ k, c ∈ ls) ∧ k.length ≤ 1000
/-- a store at a: its table at d -/
structure St (C : Addr) (H : Hp) (a d : Addr) (ls : List Nat) (m : Tab) : Prop where
  o : ∃ dx, H a = some (.ins C dx (SF ls d))
  t : H d = some (.dK (encT m))
def Keep1 (d : Addr) (H H' : Hp) : Prop := ∀ b o, H b = some o → b ≠ d → H' b = some o
theorem isTxt_ov {ls k : List Nat} (h : Ov ls k) : isTxtB ls (.str (tx k)) = true := by
  show consB ls k = true
  unfold consB
  rw [List.all_eq_true]
  exact fun c hc => decide_eq_true (h.1 c hc)
def spChk : Sp := fun vs H Q _ => ∃ v : Int, vs = [.int v] ∧ 0 ≤ v ∧ ∀ H', Same H H' → Q .non H'
def spNum : Sp := fun vs H Q _ => ∃ v : Int, vs = [.int v] ∧ ∀ H', Same H H' → Q (.bl true) H'
theorem cl_num (T : Txt K mg) : Cl P w K mg base "is_number" ["value"] 1 spNum := cl_of T.a_is_number fun f fd F => by
  refine F.ok sc_is_number (fun vs H Q E h => ?_) (fun cdv A outer s H vs Q E hr h => ?_)
  · obtain ⟨v, rfl, _⟩ := h
    rfl
  · obtain ⟨v, rfl, q⟩ := h
    refine ⟨_, (pss_one (ps_ret (pe_and (pe_callB call_isi (by rfl) T.m_isinstance (by decide +kernel) (pa_cons (pv 0) (pa_cons (pe_bltn (v := .ty "int") (by rfl) T.m_int (by decide +kernel) rfl) pa_nil))) (pe_one (pe_not (pe_callB call_isi (by rfl) T.m_isinstance (by decide +kernel) (pa_cons (pv 0) (pa_cons (pe_bltn (v := .ty "bool") (by rfl) T.m_bool (by decide +kernel) rfl) pa_nil)))))))), ?_⟩
    walk_at "rds"
    refine rd_isB (b := true) (.base (.int v)) (kit_ty (by decide +kernel)) ?_
    walk_at "rds"
    refine rd_ite (fun _ => ?_) (fun h => by cases h)
    walk_at "rds"
    refine rd_isB (b := false) (.base (.int v)) (kit_ty (by decide +kernel)) ?_
    walk_at "rds"
    exact q _ (same_refl _)
theorem cl_chk (T : Txt K mg) : Cl P w K mg base "check_value" ["value"] 2 spChk := cl_of T.a_check_value fun f fd F => by
  have C_is_number := cl_num (P := P) (w := w) (base := base) T
  refine F.ok sc_check_value (fun vs H Q E h => ?_) (fun cdv A outer s H vs Q E hr h => ?_)
  · obtain ⟨v, rfl, _⟩ := h
    rfl
  · obtain ⟨v, rfl, hv, q⟩ := h
    refine ⟨_, (pss_one (ps_if (PW.pt (pw_or (pt_not (pt_val (pe_cl C_is_number (hr.mono (by decide)) (by rfl) (pa_cons (pv 0) pa_nil)))) (pw_or1 (pt_cmpR op_lt (pv 0) pe_int (nomark _)))))
      (pss_one ps_dead)
      pss_nil)), ?_⟩
    walk_at "rds"
    refine ⟨v, rfl, fun H1 s1 => ?_⟩
    walk_at "rds"
    refine rd_ite (fun h => by cases h) (fun _ => ?_)
    walk_at "rds"
    refine rd_ite (fun h => ?_) (fun _ => ?_)
    · have : v < 0 := of_decide_eq_true h
      omega
    · walk_at "rds"
      exact q _ s1
def spSet (C : Addr) : Sp := fun vs H Q _ => ∃ (a d : Addr) (ls : List Nat) (m : Tab) (k : List Nat) (v : Int), vs = [.ref a, .str (tx k), .int v] ∧ St C H a d ls m ∧ Ov ls k ∧ 0 ≤ v ∧ m.length ≤ 1000 ∧
  ∀ H', Keep1 d H H' → H' d = some (.dK (encT (putT m k v))) → Q .non H'
theorem met_set (T : Txt K mg) : MetG P w K mg base CX0 (SC mg) "__setitem__" ["self", "at", "worth"] 3 (spSet (SC mg)) := metG_of T.k_Store T.a_Store___setitem__ fun f fd F => by
  have C_is_text := cl_is_text (P := P) (w := w) (base := base) T
  have C_check_value := cl_chk (P := P) (w := w) (base := base) T
  refine F.ok sc_Store___setitem__ (fun vs H Q E h => ?_) (fun cdv A outer s H vs Q E hr h => ?_)
  · obtain ⟨a, d, ls, m, k, v, rfl, _⟩ := h
    rfl
  · obtain ⟨a, d, ls, m, k, v, rfl, hS, hk, hv, hm, q⟩ := h
    refine ⟨_, (pss_cons (ps_if (pt_not (pt_val (pe_cl C_is_text (hr.mono (by decide)) (by rfl) (pa_cons (pe_fldK (K := K) (by rfl) (pv 0) (by rfl)) (pa_cons (pv 1) pa_nil)))))
      (pss_one ps_dead)
      pss_nil)
      (pss_cons (ps_expr (pe_cl C_check_value (hr.mono (by decide)) (by rfl) (pa_cons (pv 2) pa_nil)))
      (pss_one (ps_dput (by exact hu_of hr) (pe_fldK (K := K) (by rfl) (pv 0) (by rfl)) (pv 1) (pv 2) rfl)))), ?_⟩
    walk_at "rds"
    obtain ⟨dx, ho⟩ := hS.o
    refine ⟨a, _, dx, _, _, rfl, ho, T.k_Store, T.n_Store_letters, rfl, ?_⟩
    walk_at "rds"
    refine ⟨ls, .str (tx k), rfl, .inl ⟨k, rfl, hk.2⟩, fun H1 s1 => ?_⟩
    walk_at "rds"
    rw [isTxt_ov hk]
    refine rd_ite (fun h => by cases h) (fun _ => ?_)
    walk_at "rds"
    refine ⟨v, rfl, hv, fun H2 s2 => ?_⟩
    walk_at "rds"
    have ho2 := s2 _ _ (s1 _ _ ho)
    have ht2 := s2 _ _ (s1 _ _ hS.t)
    refine ⟨a, _, dx, _, _, rfl, ho2, T.k_Store, T.n_Store_table, rfl, ?_⟩
    walk_at "rds"
    refine ⟨d, _, rfl, DPut.k (k := Sum.inr (tx k)) ht2 (by rw [encT_len]; exact small1000 hm), ?_⟩
    walk_at "rds"
    rw [putK_enc]
    refine q _ (fun b o h1 h2 => ?_) upd_same
    rw [upd_ne h2]
    exact s2 _ _ (s1 _ _ h1)
def inB (ls : List Nat) (m : Tab) (x : V) : Bool := match x with | .str z => isTxtB ls x && decide (z.cps.toList ∈ keysT m) | _ => false
/-- x in store: x any value that a test may meet -/
def spIn (K : PySem.W.Frag) (C : Addr) : Sp := fun vs H Q _ => ∃ (a d : Addr) (ls : List Nat) (m : Tab) (x : V), vs = [.ref a, x] ∧ St C H a d ls m ∧ TxtOr K H x ∧
  ∀ H', Same H H' → Q (.bl (inB ls m x)) H'
theorem met_in (T : Txt K mg) : MetG P w K mg base CX0 (SC mg) "__contains__" ["self", "x"] 3 (spIn K (SC mg)) := metG_of T.k_Store T.a_Store___contains__ fun f fd F => by
  have C_is_text := cl_is_text (P := P) (w := w) (base := base) T
  refine F.ok sc_Store___contains__ (fun vs H Q E h => ?_) (fun cdv A outer s H vs Q E hr h => ?_)
  · obtain ⟨a, d, ls, m, x, rfl, _⟩ := h
    rfl
  · obtain ⟨a, d, ls, m, x, rfl, hS, hx, q⟩ := h
    refine ⟨_, (pss_one (ps_ret (pe_and (pe_cl C_is_text (hr.mono (by decide)) (by rfl) (pa_cons (pe_fldK (K := K) (by rfl) (pv 0) (by rfl)) (pa_cons (pv 1) pa_nil))) (pe_one (pe_cmp (pc_din (by exact hu_of hr) (pv 1) (pe_fldK (K := K) (by rfl) (pv 0) (by rfl)))))))), ?_⟩
    obtain ⟨dx, ho⟩ := hS.o
    walk_at "rds"
    refine ⟨a, _, dx, _, _, rfl, ho, T.k_Store, T.n_Store_letters, rfl, ?_⟩
    walk_at "rds"
    refine ⟨ls, x, rfl, hx, fun H1 s1 => ?_⟩
    walk_at "rds"
    rcases hx with ⟨u, rfl, hu⟩ | ⟨_, hn⟩
    · refine rd_ite (fun h => ?_) (fun h => ?_)
      · walk_at "rds"
        refine ⟨a, _, dx, _, _, rfl, s1 _ _ ho, T.k_Store, T.n_Store_table, rfl, ?_⟩
        refine ⟨d, _, rfl, DGet.k (k := Sum.inr (tx u)) (s1 _ _ hS.t), ?_⟩
        have e : (valV (encT m) (Sum.inr (tx u))).isSome = decide (u ∈ keysT m) := by
          rw [valV_enc]
          by_cases hk : u ∈ keysT m
          · obtain ⟨v, hv⟩ := getT_some hk
            rw [hv, decide_eq_true hk]
            rfl
          · rw [getT_none hk, decide_eq_false hk]
            rfl
        rw [e]
        have q1 := q _ s1
        have e2 : (isTxtB ls (.str (tx u)) && decide ((tx u).cps.toList ∈ keysT m)) = decide (u ∈ keysT m) := by
          rw [h, Bool.true_and, tx_cps]
        rw [← e2]
        exact q1
      · have q1 := q _ s1
        have e2 : (isTxtB ls (.str (tx u)) && decide ((tx u).cps.toList ∈ keysT m)) = false := by
          rw [h, Bool.false_and]
        rw [← e2]
        exact q1
    · rw [isTxt_not hn]
      refine rd_ite (fun h => by cases h) (fun _ => ?_)
      have q1 := q _ s1
      cases x with
      | str z => exact (hn z rfl).elim
      | _ => exact q1
def spLen (C : Addr) : Sp := fun vs H Q _ => ∃ (a d : Addr) (ls : List Nat) (m : Tab), vs = [.ref a] ∧ St C H a d ls m ∧ ∀ H', Same H H' → Q (.int (m.length : Nat)) H'
theorem met_len (T : Txt K mg) : MetG P w K mg base CX0 (SC mg) "__len__" ["self"] 1 (spLen (SC mg)) := metG_of T.k_Store T.a_Store___len__ fun f fd F => by
  refine F.ok sc_Store___len__ (fun vs H Q E h => ?_) (fun cdv A outer s H vs Q E hr h => ?_)
  · obtain ⟨a, d, ls, m, rfl, _⟩ := h
    rfl
  · obtain ⟨a, d, ls, m, rfl, hS, q⟩ := h
    refine ⟨_, (pss_one (ps_ret (pe_callB call_lenD (by rfl) T.m_len (by decide +kernel) (pa_cons (pe_fldK (K := K) (by rfl) (pv 0) (by rfl)) pa_nil)))), ?_⟩
    obtain ⟨dx, ho⟩ := hS.o
    walk_at "rds"
    refine ⟨a, _, dx, _, _, rfl, ho, T.k_Store, T.n_Store_table, rfl, ?_⟩
    walk_at "rds"
    refine ⟨d, _, rfl, hS.t, ?_⟩
    have e : ((encT m).length : Int) = (m.length : Int) := by rw [encT_len]
    rw [e]
    exact q _ (same_refl _)
end
section
variable {P : Program} {w : World} {K : PySem.W.Frag} {mg : Str → Option Value} {base : Heap}
def spKeys (C : Addr) : Sp := fun vs H Q _ => ∃ (a d : Addr) (ls : List Nat) (m : Tab) (lo : List Nat) (hi af : Option (List Nat)), vs = [.ref a, .str (tx lo), bnd hi, bnd af] ∧ St C H a d ls m ∧ m.length ≤ 1000 ∧
  ∀ ks r H', KR m lo hi af ks → Same H H' → H r = none → H' r = some (.lst (ks.map fun k => V.str (tx k))) → Q (.ref r) H'
theorem cl_keys (T : Txt K mg) : Cl P w K mg base "_keys" ["store", "low", "high", "after"] 1 (spKeys (SC mg)) := cl_of T.a__keys fun f fd F => by
  refine F.ok sc__keys (fun vs H Q E h => ?_) (fun cdv A outer s H vs Q E hr h => ?_)
  · obtain ⟨a, d, ls, m, lo, hi, af, rfl, _⟩ := h
    rfl
  · obtain ⟨a, d, ls, m, lo, hi', af, rfl, hS, hm, q⟩ := h
    refine ⟨_, (pss_one (ps_ret (pe_callB cr_sortedT (by rfl) T.m_sorted (by decide +kernel) (pa_cons (pe_lock (pe_lc (own := [("key", 4)]) (g := gName 4) (by rfl) sc__keys.nd (pi_keys (pe_fldK (K := K) (by rfl) (pv 0) (by rfl))) (blkOk_by (own := [("key", 4)]) (N := n__keys) (sc := defScope s__keys) (by decide +kernel)) (fun _ _ _ _ _ => (pg_name (i := 4) sc__keys.nd rfl (Or.inl rfl))) (fun _ _ _ _ _ => (pts_one (PW.pt (pw_and (pt_cmpR op_leX (pv 1) (pv 4) (nomark _)) (pw_and (PW.pt (pw_or (pt_cmpR op_isN' (pv 2) pe_non (nomark _)) (pw_or1 (pt_cmpR op_ltX (pv 4) (pv 2) (nomark _))))) (pw_and1 (PW.pt (pw_or (pt_cmpR op_isN' (pv 3) pe_non (nomark _)) (pw_or1 (pt_cmpR op_gtX (pv 4) (pv 3) (nomark _))))))))))) (fun _ _ _ _ _ => (pe_callTy call_strS (by rfl) T.m_str (by decide +kernel) (pa_cons (pv 4) pa_nil))))) pa_nil)))), ?_⟩
    obtain ⟨dx, ho⟩ := hS.o
    have hne : a ≠ d := fun e => by
      rw [e, hS.t] at ho
      cases ho
    refine Un.rd_lock hS.t trivial fun od => ?_
    walk_at "rds"
    refine ⟨a, _, dx, _, _, rfl, by rw [upd_ne hne]; exact ho, T.k_Store, T.n_Store_table, rfl, d, od, rfl, .inl ⟨_, upd_same, fun e ne => ?_⟩⟩
    have hed : e ≠ d := fun z => by
      rw [z, upd_same] at ne
      cases ne
    have hee : H e = none := by
      rw [upd_ne hed] at ne
      exact ne
    refine lc_it walk_keys (fun i H' => (∀ b o, H b = some o → b ≠ d → H' b = some o) ∧ H' d = some (.frz od (.dK (encT m))) ∧ H' e = some (.lst ((((keysT m).take i).filter (inR lo hi' af)).map fun k => V.str (tx k))))
      ⟨fun b o hb hbd => ?_, ?_, ?_⟩ (fun i H' _ h => h.2.1) ?_ ?_
    · have hbe : b ≠ e := fun z => by
        rw [z, hee] at hb
        cases hb
      rw [upd_ne hbe, upd_ne hbd]
      exact hb
    · rw [upd_ne hed.symm, upd_same]
    · exact upd_same
    · rintro i x H1 H2 hi ⟨k1, k2, k3⟩ ⟨rfl, k, v, hk, rfl⟩
      obtain ⟨key, hkey, rfl⟩ := keys_at hk
      have hlen := filt_len (keysT m) i (inR lo hi' af)
      have hkl : (keysT m).length = m.length := List.length_map _
      walk_at "rds"
      refine ⟨rfl, rd_stretch rfl rfl rfl rfl ?_⟩
      refine rd_ite (fun hin => ?_) (fun hin => ?_)
      · walk_at "rds"
        refine ⟨tx key, rfl, _, k3, by rw [List.length_map]; exact small1000 (by omega), fun b o hb hbd => ?_, ?_, ?_⟩
        · have hbe : b ≠ e := fun z => by
            rw [z, hee] at hb
            cases hb
          rw [upd_ne hbe]
          exact k1 b o hb hbd
        · rw [upd_ne hed.symm]
          exact k2
        · rw [upd_same, filt_snoc hkey hin, List.map_append]
          rfl
      · rw [filt_skip hkey hin]
        exact ⟨k1, k2, k3⟩
    · rintro H2 ⟨k1, k2, k3⟩
      refine ⟨k2, ?_⟩
      rw [encT_len, ← List.length_map (f := (·.1)), show (m.map (·.1)) = keysT m from rfl, List.take_length] at k3
      refine rd_sortT (ks := (keysT m).filter (inR lo hi' af)) (SqL.of (by rw [upd_ne hed]; exact k3)) (fun js p h1 h2 hp => ?_)
      have sH : Same H (upd H2 d (.dK (encT m))) := fun b o hb => by
        by_cases hbd : b = d
        · subst hbd
          rw [upd_same]
          rw [hS.t] at hb
          exact hb
        · rw [upd_ne hbd]
          exact k1 b o hb hbd
      have hpn : H p = none := by
        cases hz : H p with
        | none => rfl
        | some o =>
          rw [sH _ _ hz] at hp
          cases hp
      exact q js p _ ⟨h1, h2⟩ (same_mut sH hpn) hpn upd_same
end
section
variable {P : Program} {w : World} {K : PySem.W.Frag} {mg : Str → Option Value} {base : Heap} {dvs : List V} {kws : List (Str × V)} {f : Addr} {fd : FuncData}
/-- how a stretch is asked -/
def spPairs (C : Addr) : Sp := fun vs H Q _ => ∃ (a d : Addr) (ls : List Nat) (m : Tab) (lo : List Nat) (hi af : Option (List Nat)), vs = [.ref a, .str (tx lo), bnd hi, bnd af] ∧ St C H a d ls m ∧ m.length ≤ 1000 ∧
  ∀ ks r us H', KR m lo hi af ks → Same H H' → H r = none → H' r = some (.lst us) → Prs H' (prT m ks) us → Q (.ref r) H'
theorem ok_pairs (T : Txt K mg) (F : FunD K "pairs" "Store.pairs" (defArgs s_Store_pairs) (defBody s_Store_pairs) (defScope s_Store_pairs) dvs kws f fd) : FnOk P w K mg base CX0 2 f fd ["self", "low", "high", "after"] (spPairs (SC mg)) := by
  have C__keys := cl_keys (P := P) (w := w) (base := base) T
  refine okN F sc_Store_pairs (fun vs H Q E h => ?_) (fun cdv A outer s H vs Q E hr h => ?_)
  · obtain ⟨a, d, ls, m, lo, hi, af, rfl, _⟩ := h
    rfl
  · obtain ⟨a, d, ls, m, lo, hi', af, rfl, hS, hm, q⟩ := h
    refine ⟨_, (pss_one (ps_ret (pe_lc (own := [("key", 4)]) (g := gName 4) (tt := tYes) (by rfl) sc_Store_pairs.nd (pi_list (pe_cl C__keys (hr.mono (by decide)) (by rfl) (pa_cons (pv 0) (pa_cons (pv 1) (pa_cons (pv 2) (pa_cons (pv 3) pa_nil)))))) (blkOk_by (own := [("key", 4)]) (N := n_Store_pairs) (sc := defScope s_Store_pairs) (by decide +kernel)) (fun _ _ _ _ _ => (pg_name (i := 4) sc_Store_pairs.nd rfl (Or.inl rfl))) (fun _ _ _ _ _ => pts_nil) (fun _ _ _ _ _ => (pe_tup (pa_cons (pv 4) (pa_cons (pe_dget (by exact hu_of hr) (pe_fldK (K := K) (by rfl) (pv 0) (by rfl)) (pv 4) (fun _ _ => rfl)) pa_nil))))))), ?_⟩
    obtain ⟨dx, ho⟩ := hS.o
    walk_at "rds"
    refine ⟨a, d, ls, m, lo, hi', af, rfl, hS, hm, fun ks r H1 hks s1 hr1 er1 => ?_⟩
    walk_at "rds"
    refine ⟨_, rfl, ⟨_, SqL.of er1⟩, fun e ne => lc_list (K := K) (a := r) (xs := ks.map fun k => V.str (tx k)) (fun i H' => Same H1 H' ∧ ∃ us, H' e = some (.lst us) ∧ Prs H' (prT m (ks.take i)) us) ⟨same_upd ne, [], upd_same, .nil⟩ (fun i H' _ h => SqL.of (h.1 _ _ er1)) ?_ ?_⟩
    · rintro i x H2 hx ⟨s2, us, eu, pu⟩
      rw [List.getElem?_map] at hx
      cases hk : ks[i]? with
      | none => rw [hk] at hx; cases hx
      | some key =>
        rw [hk] at hx
        cases hx
        have hkm : key ∈ keysT m := hks.mem (List.mem_of_getElem? hk)
        obtain ⟨v, hv⟩ := getT_some hkm
        have hl : us.length < sizeLine := by
          rw [← pu.len, prT_len, List.length_take]
          have := hks.len
          exact small1000 (by omega)
        walk_at "rds"
        refine ⟨rfl, ?_⟩
        walk_at "rds"
        refine rd_ite (fun _ => ?_) (fun h => by cases h)
        walk_at "rds"
        have o2 := s2 _ _ (s1 _ _ ho)
        have t2 := s2 _ _ (s1 _ _ hS.t)
        refine ⟨a, _, dx, _, _, rfl, o2, T.k_Store, T.n_Store_table, rfl, ?_⟩
        walk_at "rds"
        refine ⟨d, .int v, rfl, ?_, ?_⟩
        · have g := DGet.k (k := Sum.inr (tx key)) t2
          rw [valV_enc, hv] at g
          exact g
        walk_at "rds"
        refine ⟨by show 2 ≤ sizeLine; decide, fun p hp => ?_⟩
        have hpe : e ≠ p := fun z => by
          rw [← z, eu] at hp
          cases hp
        refine ⟨us, by rw [upd_ne hpe]; exact eu, hl, same_mut (same_mut s2 (same_none s2 hp)) ne, _, upd_same, ?_⟩
        have e1 : prT m (ks.take (i + 1)) = prT m (ks.take i) ++ [(key, v)] := by
          unfold prT
          rw [List.take_add_one, hk, Option.toList_some, List.map_append]
          show _ ++ [(key, (getT m key).getD 0)] = _
          rw [hv]
          rfl
        rw [e1]
        have hk3 : ∀ T l, H2 T = some (.tup l) → upd (upd H2 p (.tup [.str (tx key), .int v])) e (.lst (us ++ [.ref p])) T = some (.tup l) := fun T l h => by
          have h1 : T ≠ e := fun z => by
            rw [z, eu] at h
            cases h
          have h2 : T ≠ p := fun z => by
            rw [z, hp] at h
            cases h
          rw [upd_ne h1, upd_ne h2]
          exact h
        refine (pu.keep hk3).app (Prs.one ?_)
        rw [upd_ne hpe.symm, upd_same]
    · rintro H2 ⟨s2, us, eu, pu⟩
      rw [List.length_map, List.take_length] at pu
      have hen : H e = none := same_none s1 ne
      exact q ks e us H2 hks (same_trans s1 s2) hen eu pu
def spPage (C : Addr) : Sp := fun vs H Q _ => ∃ (a d : Addr) (ls : List Nat) (m : Tab) (n : Nat) (lo : List Nat) (hi af : Option (List Nat)), vs = [.ref a, .int (n : Nat), .str (tx lo), bnd hi, bnd af] ∧ St C H a d ls m ∧ m.length ≤ 1000 ∧
  ∀ ks r us H', KR m lo hi af ks → Same H H' → H r = none → H' r = some (.lst us) → Prs H' (prT m (ks.take n)) us → Q (.ref r) H'
theorem ok_page (T : Txt K mg) (F : FunD K "page" "Store.page" (defArgs s_Store_page) (defBody s_Store_page) (defScope s_Store_page) dvs kws f fd) : FnOk P w K mg base CX0 2 f fd ["self", "count", "low", "high", "after"] (spPage (SC mg)) := by
  have C__keys := cl_keys (P := P) (w := w) (base := base) T
  refine okN F sc_Store_page (fun vs H Q E h => ?_) (fun cdv A outer s H vs Q E hr h => ?_)
  · obtain ⟨a, d, ls, m, n, lo, hi, af, rfl, _⟩ := h
    rfl
  · obtain ⟨a, d, ls, m, n, lo, hi', af, rfl, hS, hm, q⟩ := h
    refine ⟨_, (pss_one (ps_ret (pe_lc (own := [("key", 5)]) (g := gName 5) (tt := tYes) (by rfl) sc_Store_page.nd (pi_list (pe_slice sl_list (pe_cl C__keys (hr.mono (by decide)) (by rfl) (pa_cons (pv 0) (pa_cons (pv 2) (pa_cons (pv 3) (pa_cons (pv 4) pa_nil))))) po_none (po_some (pv 1)))) (blkOk_by (own := [("key", 5)]) (N := n_Store_page) (sc := defScope s_Store_page) (by decide +kernel)) (fun _ _ _ _ _ => (pg_name (i := 5) sc_Store_page.nd rfl (Or.inl rfl))) (fun _ _ _ _ _ => pts_nil) (fun _ _ _ _ _ => (pe_tup (pa_cons (pv 5) (pa_cons (pe_dget (by exact hu_of hr) (pe_fldK (K := K) (by rfl) (pv 0) (by rfl)) (pv 5) (fun _ _ => rfl)) pa_nil))))))), ?_⟩
    obtain ⟨dx, ho⟩ := hS.o
    walk_at "rds"
    refine ⟨a, d, ls, m, lo, hi', af, rfl, hS, hm, fun ks r H0 hks s0 hr0 er0 => ?_⟩
    walk_at "rds"
    refine rd_slL (SqL.of er0) (fun r2 hr2 => ?_)
    rw [cutV_take, ← List.map_take]
    have s1 : Same H (upd H0 r2 (.lst ((ks.take n).map fun k => V.str (tx k)))) := same_trans s0 (same_upd hr2)
    have er1 : upd H0 r2 (.lst ((ks.take n).map fun k => V.str (tx k))) r2 = some (.lst ((ks.take n).map fun k => V.str (tx k))) := upd_same
    generalize upd H0 r2 (.lst ((ks.take n).map fun k => V.str (tx k))) = H1 at s1 er1 ⊢
    have hjl : (ks.take n).length ≤ ks.length := by
      rw [List.length_take]
      omega
    have hjs : ∀ k ∈ ks.take n, k ∈ ks := fun k h => List.mem_of_mem_take h
    generalize hJ : ks.take n = js at s1 er1 hjl hjs ⊢
    refine ⟨_, rfl, ⟨_, SqL.of er1⟩, fun e ne => lc_list (K := K) (a := r2) (xs := js.map fun k => V.str (tx k)) (fun i H' => Same H1 H' ∧ ∃ us, H' e = some (.lst us) ∧ Prs H' (prT m (js.take i)) us) ⟨same_upd ne, [], upd_same, .nil⟩ (fun i H' _ h => SqL.of (h.1 _ _ er1)) ?_ ?_⟩
    · rintro i x H2 hx ⟨s2, us, eu, pu⟩
      rw [List.getElem?_map] at hx
      cases hk : js[i]? with
      | none => rw [hk] at hx; cases hx
      | some key =>
        rw [hk] at hx
        cases hx
        have hkm : key ∈ keysT m := hks.mem (hjs _ (List.mem_of_getElem? hk))
        obtain ⟨v, hv⟩ := getT_some hkm
        have hl : us.length < sizeLine := by
          rw [← pu.len, prT_len, List.length_take]
          have := hks.len
          exact small1000 (by omega)
        walk_at "rds"
        refine ⟨rfl, ?_⟩
        walk_at "rds"
        refine rd_ite (fun _ => ?_) (fun h => by cases h)
        walk_at "rds"
        have o2 := s2 _ _ (s1 _ _ ho)
        have t2 := s2 _ _ (s1 _ _ hS.t)
        refine ⟨a, _, dx, _, _, rfl, o2, T.k_Store, T.n_Store_table, rfl, ?_⟩
        walk_at "rds"
        refine ⟨d, .int v, rfl, ?_, ?_⟩
        · have g := DGet.k (k := Sum.inr (tx key)) t2
          rw [valV_enc, hv] at g
          exact g
        walk_at "rds"
        refine ⟨by show 2 ≤ sizeLine; decide, fun p hp => ?_⟩
        have hpe : e ≠ p := fun z => by
          rw [← z, eu] at hp
          cases hp
        refine ⟨us, by rw [upd_ne hpe]; exact eu, hl, same_mut (same_mut s2 (same_none s2 hp)) ne, _, upd_same, ?_⟩
        have e1 : prT m (js.take (i + 1)) = prT m (js.take i) ++ [(key, v)] := by
          unfold prT
          rw [List.take_add_one, hk, Option.toList_some, List.map_append]
          show _ ++ [(key, (getT m key).getD 0)] = _
          rw [hv]
          rfl
        rw [e1]
        have hk3 : ∀ T l, H2 T = some (.tup l) → upd (upd H2 p (.tup [.str (tx key), .int v])) e (.lst (us ++ [.ref p])) T = some (.tup l) := fun T l h => by
          have h1 : T ≠ e := fun z => by
            rw [z, eu] at h
            cases h
          have h2 : T ≠ p := fun z => by
            rw [z, hp] at h
            cases h
          rw [upd_ne h1, upd_ne h2]
          exact h
        refine (pu.keep hk3).app (Prs.one ?_)
        rw [upd_ne hpe.symm, upd_same]
    · rintro H2 ⟨s2, us, eu, pu⟩
      rw [List.length_map, List.take_length] at pu
      have hen : H e = none := same_none s1 ne
      exact q ks e us H2 hks (same_trans s1 s2) hen eu (by rw [hJ]; exact pu)
end
section
variable {P : Program} {w : World} {K : PySem.W.Frag} {mg : Str → Option Value} {base : Heap} {dvs : List V} {kws : List (Str × V)} {f : Addr} {fd : FuncData}
theorem St.keep {C : Addr} {H H' : Hp} {a d : Addr} {ls : List Nat} {m n : Tab} (h : St C H a d ls m) (k : Keep1 d H H') (t : H' d = some (.dK (encT n))) : St C H' a d ls n := by
  obtain ⟨dx, ho⟩ := h.o
  refine ⟨⟨dx, k _ _ ho fun e => ?_⟩, t⟩
  have := h.t
  rw [← e, ho] at this
  cases this
theorem St.same {C : Addr} {H H' : Hp} {a d : Addr} {ls : List Nat} {m : Tab} (h : St C H a d ls m) (k : Same H H') : St C H' a d ls m := by
  obtain ⟨dx, ho⟩ := h.o
  exact ⟨⟨dx, k _ _ ho⟩, k _ _ h.t⟩
theorem Same.keep1 {d : Addr} {H H' : Hp} (h : Same H H') : Keep1 d H H' := fun b o hb _ => h b o hb
theorem Keep1.trans {d : Addr} {H H1 H2 : Hp} (a : Keep1 d H H1) (b : Keep1 d H1 H2) : Keep1 d H H2 := fun c o hc hd => b c o (a c o hc hd) hd
theorem Keep1.put {d : Addr} {H H1 : Hp} {o : HO} (a : Keep1 d H H1) : Keep1 d H (upd H1 d o) := fun c x hc hd => by
  rw [upd_ne hd]
  exact a c x hc hd
def spTake (C : Addr) : Sp := fun vs H Q _ => ∃ (a d : Addr) (ls : List Nat) (m : Tab) (lo : List Nat) (hi af : Option (List Nat)), vs = [.ref a, .str (tx lo), bnd hi, bnd af] ∧ St C H a d ls m ∧ (keysT m).Nodup ∧ m.length ≤ 1000 ∧
  ∀ ks H', KR m lo hi af ks → Keep1 d H H' → H' d = some (.dK (encT (dropsT m ks))) → Q (.int (ks.length : Nat)) H'
theorem ok_take (T : Txt K mg) (F : FunD K "take" "Store.take" (defArgs s_Store_take) (defBody s_Store_take) (defScope s_Store_take) dvs kws f fd) : FnOk P w K mg base CX0 2 f fd ["self", "low", "high", "after"] (spTake (SC mg)) := by
  have C__keys := cl_keys (P := P) (w := w) (base := base) T
  refine okN F sc_Store_take (fun vs H Q E h => ?_) (fun cdv A outer s H vs Q E hr h => ?_)
  · obtain ⟨a, d, ls, m, lo, hi, af, rfl, _⟩ := h
    rfl
  · obtain ⟨a, d, ls, m, lo, hi', af, rfl, hS, hnd, hm, q⟩ := h
    refine ⟨_, (pss_cons (ps_set (i := 4) sc_Store_take.nd rfl (Or.inl rfl) (pe_cl C__keys (hr.mono (by decide)) (by rfl) (pa_cons (pv 0) (pa_cons (pv 1) (pa_cons (pv 2) (pa_cons (pv 3) pa_nil))))))
      (Evl.pss_cut (ps_for PassesOwn.never rfl (pi_list (pv 4)) (pg_name (i := 5) sc_Store_take.nd rfl (Or.inl rfl))
      (pss_one (ps_ddel (pe_fldK (K := K) (by rfl) (pv 0) (by rfl)) (pv 5))))
      (pss_one (ps_ret (pe_callB call_lenQ (by rfl) T.m_len (by decide +kernel) (pa_cons (pv 4) pa_nil)))))), ?_⟩
    walk_at "rds"
    refine ⟨a, d, ls, m, lo, hi', af, rfl, hS, hm, fun ks r H1 hks s1 hr1 er1 => ?_⟩
    have hS1 := hS.same s1
    have hrd : r ≠ d := fun z => by
      rw [z, hS1.t] at er1
      cases er1
    refine rd_cut (fun σ' H' => (∃ y, σ' = [some (.ref a), some (.str (tx lo)), some (bnd hi'), some (bnd af), some (.ref r), y]) ∧ Keep1 d H1 H' ∧ H' d = some (.dK (encT (dropsT m ks)))) ?_ ?_
    · walk_at "rds"
      refine ⟨_, rfl, ⟨_, SqL.of er1⟩, for_list (K := K) (a := r) (xs := ks.map fun k => V.str (tx k)) (fun i σ' H' => (∃ y, σ' = [some (.ref a), some (.str (tx lo)), some (bnd hi'), some (bnd af), some (.ref r), y]) ∧ Keep1 d H1 H' ∧ H' d = some (.dK (encT (dropsT m (ks.take i))))) ⟨⟨_, rfl⟩, Same.keep1 (same_refl _), hS1.t⟩ (fun i σ' H' _ h => SqL.of (h.2.1 _ _ er1 hrd)) ?_ ?_⟩
      · rintro i x σ' H2 hx ⟨⟨y, rfl⟩, k2, t2⟩
        rw [List.getElem?_map] at hx
        cases hk : ks[i]? with
        | none => rw [hk] at hx; cases hx
        | some key =>
          rw [hk] at hx
          cases hx
          have hS2 := hS1.keep k2 t2
          obtain ⟨dx, ho⟩ := hS2.o
          have hin : key ∈ keysT (dropsT m (ks.take i)) := mem_drops.mpr ⟨hks.mem (List.mem_of_getElem? hk), not_before (hks.nodup hnd) hk⟩
          obtain ⟨v, hv⟩ := getT_some hin
          walk_at "rds"
          refine ⟨a, _, dx, _, _, rfl, ho, T.k_Store, T.n_Store_table, rfl, ?_⟩
          walk_at "rds"
          refine ⟨d, _, Sum.inr (tx key), rfl, t2, rfl, by rw [valV_enc, hv]; rfl, ⟨_, rfl⟩, k2.put, ?_⟩
          rw [upd_same, dropK_enc, drops_snoc hk]
      · rintro σ' H2 ⟨hσ, k2, t2⟩
        rw [List.length_map, List.take_length] at t2
        exact ⟨hσ, k2, t2⟩
    · rintro σ' H2 ⟨⟨y, rfl⟩, k2, t2⟩
      walk_at "rds"
      refine rd_lenL (SqL.of (k2 _ _ er1 hrd)) ?_
      rw [List.length_map]
      exact q ks H2 hks ((Same.keep1 s1).trans k2) t2
def spFill (C : Addr) : Sp := fun vs H Q _ => ∃ (a d : Addr) (ls : List Nat) (m : Tab) (v : Int) (lo : List Nat) (hi af : Option (List Nat)), vs = [.ref a, .int v, .str (tx lo), bnd hi, bnd af] ∧ 0 ≤ v ∧ St C H a d ls m ∧ m.length ≤ 1000 ∧
  ∀ ks H', KR m lo hi af ks → Keep1 d H H' → H' d = some (.dK (encT (putsT m ks v))) → Q (.int (ks.length : Nat)) H'
theorem ok_fill (T : Txt K mg) (F : FunD K "fill" "Store.fill" (defArgs s_Store_fill) (defBody s_Store_fill) (defScope s_Store_fill) dvs kws f fd) : FnOk P w K mg base CX0 3 f fd ["self", "value", "low", "high", "after"] (spFill (SC mg)) := by
  have C__keys := cl_keys (P := P) (w := w) (base := base) T
  have C_check_value := cl_chk (P := P) (w := w) (base := base) T
  refine okN F sc_Store_fill (fun vs H Q E h => ?_) (fun cdv A outer s H vs Q E hr h => ?_)
  · obtain ⟨a, d, ls, m, v, lo, hi, af, rfl, _⟩ := h
    rfl
  · obtain ⟨a, d, ls, m, v, lo, hi', af, rfl, hv0, hS, hm, q⟩ := h
    refine ⟨_, (pss_cons (ps_expr (pe_cl C_check_value (hr.mono (by decide)) (by rfl) (pa_cons (pv 1) pa_nil)))
      (pss_cons (ps_set (i := 5) sc_Store_fill.nd rfl (Or.inl rfl) (pe_cl C__keys (hr.mono (by decide)) (by rfl) (pa_cons (pv 0) (pa_cons (pv 2) (pa_cons (pv 3) (pa_cons (pv 4) pa_nil))))))
      (Evl.pss_cut (ps_for PassesOwn.never rfl (pi_list (pv 5)) (pg_name (i := 6) sc_Store_fill.nd rfl (Or.inl rfl))
      (pss_one (ps_dput (by exact hu_of hr) (pe_fldK (K := K) (by rfl) (pv 0) (by rfl)) (pv 6) (pv 1) rfl)))
      (pss_one (ps_ret (pe_callB call_lenQ (by rfl) T.m_len (by decide +kernel) (pa_cons (pv 5) pa_nil))))))), ?_⟩
    walk_at "rds"
    refine ⟨v, rfl, hv0, fun H0 s0 => ?_⟩
    walk_at "rds"
    refine ⟨a, d, ls, m, lo, hi', af, rfl, hS.same s0, hm, fun ks r H1 hks s1' hr1' er1 => ?_⟩
    have s1 := same_trans s0 s1'
    have hS1 := hS.same s1
    have hrd : r ≠ d := fun z => by
      rw [z, hS1.t] at er1
      cases er1
    refine rd_cut (fun σ' H' => (∃ y, σ' = [some (.ref a), some (.int v), some (.str (tx lo)), some (bnd hi'), some (bnd af), some (.ref r), y]) ∧ Keep1 d H1 H' ∧ H' d = some (.dK (encT (putsT m ks v)))) ?_ ?_
    · walk_at "rds"
      refine ⟨_, rfl, ⟨_, SqL.of er1⟩, for_list (K := K) (a := r) (xs := ks.map fun k => V.str (tx k)) (fun i σ' H' => (∃ y, σ' = [some (.ref a), some (.int v), some (.str (tx lo)), some (bnd hi'), some (bnd af), some (.ref r), y]) ∧ Keep1 d H1 H' ∧ H' d = some (.dK (encT (putsT m (ks.take i) v)))) ⟨⟨_, rfl⟩, Same.keep1 (same_refl _), hS1.t⟩ (fun i σ' H' _ h => SqL.of (h.2.1 _ _ er1 hrd)) ?_ ?_⟩
      · rintro i x σ' H2 hx ⟨⟨y, rfl⟩, k2, t2⟩
        rw [List.getElem?_map] at hx
        cases hk : ks[i]? with
        | none => rw [hk] at hx; cases hx
        | some key =>
          rw [hk] at hx
          cases hx
          have hS2 := hS1.keep k2 t2
          obtain ⟨dx, ho⟩ := hS2.o
          have hlen : (encT (putsT m (ks.take i) v)).length < 1000 + 1 := by
            rw [encT_len, ← keys_len, puts_keys (fun k h => hks.mem (List.mem_of_mem_take h)), keys_len]
            omega
          walk_at "rds"
          refine ⟨a, _, dx, _, _, rfl, ho, T.k_Store, T.n_Store_table, rfl, ?_⟩
          walk_at "rds"
          refine ⟨d, _, rfl, DPut.k (k := Sum.inr (tx key)) t2 (small1000 (by omega)), ⟨_, rfl⟩, k2.put, ?_⟩
          rw [upd_same, putK_enc, puts_snoc hk]
      · rintro σ' H2 ⟨hσ, k2, t2⟩
        rw [List.length_map, List.take_length] at t2
        exact ⟨hσ, k2, t2⟩
    · rintro σ' H2 ⟨⟨y, rfl⟩, k2, t2⟩
      walk_at "rds"
      refine rd_lenL (SqL.of (k2 _ _ er1 hrd)) ?_
      rw [List.length_map]
      exact q ks H2 hks ((Same.keep1 s1).trans k2) t2
end
section
variable {P : Program} {w : World} {K : PySem.W.Frag} {mg : Str → Option Value} {base : Heap} {dvs : List V} {kws : List (Str × V)} {f : Addr} {fd : FuncData}
def spChkL : Sp := fun vs H Q _ => ∃ ls : List Nat, vs = [.str (tx ls)] ∧ areB ls = true ∧ ls.length ≤ 1000 ∧ ∀ H', Same H H' → Q (.bl true) H'
theorem cl_chkL (T : Txt K mg) : Cl P w K mg base "check_letters" ["letters"] 3 spChkL := cl_of T.a_check_letters fun f fd F => by
  have C__are_letters := cl_are (P := P) (w := w) (base := base) T
  refine F.ok sc_check_letters (fun vs H Q E h => ?_) (fun cdv A outer s H vs Q E hr h => ?_)
  · obtain ⟨ls, rfl, _⟩ := h
    rfl
  · obtain ⟨ls, rfl, hl, hz, q⟩ := h
    refine ⟨_, (pss_cons (ps_if (pt_not (pt_val (pe_cl C__are_letters (hr.mono (by decide)) (by rfl) (pa_cons (pv 0) pa_nil))))
      (pss_one ps_dead)
      pss_nil)
      (pss_one (ps_ret pe_bl))), ?_⟩
    walk_at "rds"
    refine ⟨_, rfl, .inl ⟨ls, rfl, hz⟩, fun H1 s1 => ?_⟩
    walk_at "rds"
    rw [areV_tx, hl]
    refine rd_ite (fun h => by cases h) (fun _ => ?_)
    walk_at "rds"
    exact q _ s1
def spInit (K : PySem.W.Frag) (C : Addr) : Sp := fun vs H Q _ => ∃ (a dx p : Addr) (ls : List Nat) (us : List V) (ms : Tab), vs = [.ref a, .str (tx ls), .ref p] ∧ H a = some (.ins C dx []) ∧ areB ls = true ∧ ls.length ≤ 1000 ∧ Seq1 K H p us ∧ Prs H ms us ∧ (∀ q ∈ ms, Ov ls q.1 ∧ 0 ≤ q.2) ∧ ms.length ≤ 500 ∧
  ∀ d H', Keep1 a H H' → H d = none → d ≠ a → H' a = some (.ins C dx (SF ls d)) → H' d = some (.dK (encT (putsP [] ms))) → Q .non H'
theorem ok_init (T : Txt K mg) (F : FunD K "__init__" "Store.__init__" (defArgs s_Store___init__) (defBody s_Store___init__) (defScope s_Store___init__) dvs kws f fd) : FnOk P w K mg base CX0 4 f fd ["self", "letters", "pairs"] (spInit K (SC mg)) := by
  have C_check_letters := cl_chkL (P := P) (w := w) (base := base) T
  have C_Store___setitem__ := met_set (P := P) (w := w) (base := base) T
  refine okN F sc_Store___init__ (fun vs H Q E h => ?_) (fun cdv A outer s H vs Q E hr h => ?_)
  · obtain ⟨a, dx, p, ls, us, ms, rfl, _⟩ := h
    rfl
  · obtain ⟨a, dx, p, ls, us, ms, rfl, ha, hl, hz, hp, hpr, hov, hms, q⟩ := h
    refine ⟨_, (pss_cons (ps_expr (pe_cl C_check_letters (hr.mono (by decide)) (by rfl) (pa_cons (pv 1) pa_nil)))
      (pss_cons (ps_fld (pv 0) (pv 1) rfl)
      (pss_cons (ps_fld (pv 0) pe_dnewK rfl)
      (pss_one (ps_for PassesOwn.never rfl (pi_seq (pv 2)) (pg_tup rfl (pgs_cons (pg_name (i := 3) sc_Store___init__.nd rfl (Or.inl rfl)) (pgs_cons (pg_name (i := 4) sc_Store___init__.nd rfl (Or.inl rfl)) pgs_nil)))
      (pss_one (ps_asg (pv 4) (pg_sub (pv 0) (pv 3) (set_G C_Store___setitem__ T.q_Store hr (by decide)))))))))), ?_⟩
    walk_at "rds"
    refine ⟨ls, rfl, hl, hz, fun H1 s1 => ?_⟩
    walk_at "rds"
    refine ⟨a, _, dx, [], rfl, s1 _ _ ha, T.k_Store, T.n_Store_letters, by show 0 < 1000; decide, ?_⟩
    walk_at "rds"
    refine fun d hd => ?_
    have hda : d ≠ a := fun z => by
      rw [z, upd_same] at hd
      cases hd
    have hd1 : H1 d = none := by
      rw [upd_ne hda] at hd
      exact hd
    walk_at "rds"
    refine ⟨a, _, dx, _, rfl, by rw [upd_ne hda.symm]; exact upd_same, T.k_Store, T.n_Store_table, by show 1 < 1000; decide, ?_⟩
    have k3 : Keep1 a H (upd (upd (upd H1 a (.ins (SC mg) dx (putF "letters" (.str (tx ls)) []))) d (.dK [])) a (.ins (SC mg) dx (putF "table" (.ref d) (putF "letters" (.str (tx ls)) [])))) := fun b o hb hba => by
      have h1 := s1 _ _ hb
      have hbd : b ≠ d := fun z => by
        rw [z, hd1] at h1
        cases h1
      rw [upd_ne hba, upd_ne hbd, upd_ne hba]
      exact h1
    have a3 : (upd (upd (upd H1 a (.ins (SC mg) dx (putF "letters" (.str (tx ls)) []))) d (.dK [])) a (.ins (SC mg) dx (putF "table" (.ref d) (putF "letters" (.str (tx ls)) [])))) a = some (.ins (SC mg) dx (SF ls d)) := upd_same
    have d3 : (upd (upd (upd H1 a (.ins (SC mg) dx (putF "letters" (.str (tx ls)) []))) d (.dK [])) a (.ins (SC mg) dx (putF "table" (.ref d) (putF "letters" (.str (tx ls)) [])))) d = some (.dK (encT [])) := by
      rw [upd_ne hda, upd_same]
      rfl
    generalize upd (upd (upd H1 a (.ins (SC mg) dx (putF "letters" (.str (tx ls)) []))) d (.dK [])) a (.ins (SC mg) dx (putF "table" (.ref d) (putF "letters" (.str (tx ls)) []))) = H3 at k3 a3 d3 ⊢
    have hd0 : H d = none := same_none s1 hd1
    have hp3 : Seq1 K H3 p us := hp.keep fun o ho h => k3 _ _ h fun z => by
      rw [z, ha] at h
      cases h
      exact SeqO.nins ho
    have hpr3 : Prs H3 ms us := hpr.keep fun T l h => k3 _ _ h fun z => by
      rw [z, ha] at h
      cases h
    have hS3 : St (SC mg) H3 a d ls [] := ⟨⟨dx, a3⟩, d3⟩
    walk_at "rds"
    refine rd_iSeqF (fun Q q => rd_var rfl q) hp3 (fun J G W hG => for_it W (fun i σ' H' => (∃ y z, σ' = [some (.ref a), some (.str (tx ls)), some (.ref p), y, z]) ∧ Keep1 d H3 H' ∧ H' d = some (.dK (encT (putsP [] (ms.take i))))) ⟨⟨_, _, rfl⟩, Same.keep1 (same_refl _), d3⟩ (fun i σ' H' _ h => hG _ fun o ho h1 => h.2.1 _ _ h1 fun z => ?_) ?_ ?_)
    · rw [z, d3] at h1
      cases h1
      exact SeqO.ndK ho
    · rintro i x σ' H4 H5 hi ⟨⟨y, z, rfl⟩, k4, t4⟩ ⟨rfl, hx⟩
      obtain ⟨⟨key, v⟩, hms', ⟨U, rfl, hU⟩⟩ := hpr3.get hx
      have hUd : U ≠ d := fun z => by
        rw [z, d3] at hU
        cases hU
      have hS5 := hS3.keep k4 t4
      obtain ⟨dx5, ho5⟩ := hS5.o
      have hq := hov _ (List.mem_of_getElem? hms')
      have hlen := putsP_len (ms.take i) []
      rw [List.length_take, List.length_nil] at hlen
      refine rd_gtup (SqT.of (k4 _ _ hU hUd)) rfl ?_
      walk_at "rds"
      refine ⟨a, _, _, rfl, ho5, a, d, ls, _, key, v, rfl, hS5, hq.1, hq.2, by omega, fun H6 k6 t6 => ⟨⟨_, _, rfl⟩, k4.trans k6, ?_⟩⟩
      rw [t6, putsP_snoc hms']
    · rintro σ' H4 ⟨_, k4, t4⟩
      rw [← hpr.len, List.take_length] at t4
      have k5 : Keep1 a H H4 := fun b o hb hba => k4 _ _ (k3 _ _ hb hba) fun z => by
        rw [z, hd0] at hb
        cases hb
      exact q d H4 k5 hd0 hda (k4 _ _ a3 hda.symm) t4
end
section
variable {P : Program} {w : World} {K : PySem.W.Frag} {mg : Str → Option Value} {base : Heap}
theorem mk_NoKey (T : Txt K mg) : Mk P w K mg base "NoKey" "key" (ca mg "NoKey") := Un.mk_of T.e_NoKey fun fI fd F => by
  refine F.ok sc_NoKey (fun vs H Q E h => ?_) (fun cdv A outer s H vs Q E hr h => ?_)
  · obtain ⟨a, v, C, rfl, _⟩ := h
    rfl
  · obtain ⟨a, v, C, rfl, T', hno, ea, q⟩ := h
    refine ⟨_, (pss_one (ps_oxt (pv 0) (pv 1))), ?_⟩
    exact ⟨v, rfl, .ref a, rfl, a, C, rfl, T', hno, ea, fun dx h1 h2 => q dx h1 h2⟩
/-- store == y -/
def EqY (K : PySem.W.Frag) (C : Addr) (H : Hp) (y : V) (ls : List Nat) (m : Tab) (r : Bool) : Prop :=
  (∃ (b d : Addr) (js : List Nat) (n : Tab), y = .ref b ∧ St C H b d js n ∧ r = (decide (ls = js) && eqTab m n)) ∨ ∃ T, TyX K H y (.type T) ∧ T ∈ ["list", "dict", "tuple", "str", "int", "bool", "NoneType"] ∧ r = false
def spEq (K : PySem.W.Frag) (C : Addr) : Sp := fun vs H Q _ => ∃ (a d : Addr) (ls : List Nat) (m : Tab) (y : V) (r : Bool), vs = [.ref a, y] ∧ St C H a d ls m ∧ EqY K C H y ls m r ∧ ∀ H', Same H H' → Q (.bl r) H'
theorem met_eq (T : Txt K mg) : MetG P w K mg base CX0 (SC mg) "__eq__" ["self", "other"] 1 (spEq K (SC mg)) := metG_of T.k_Store T.a_Store___eq__ fun f fd F => by
  refine F.ok sc_Store___eq__ (fun vs H Q E h => ?_) (fun cdv A outer s H vs Q E hr h => ?_)
  · obtain ⟨a, d, ls, m, y, r, rfl, _⟩ := h
    rfl
  · obtain ⟨a, d, ls, m, y, r, rfl, hS, hy, q⟩ := h
    refine ⟨_, (pss_one (ps_ret (pe_and (pe_callB call_isi (by rfl) T.m_isinstance (by decide +kernel) (pa_cons (pv 1) (pa_cons (pe_cls T.g_Store (by rfl)) pa_nil))) (pe_and (pe_cmpR op_eq (pe_fldK (K := K) (by rfl) (pv 0) (by rfl)) (pe_fldK (K := K) (by rfl) (pv 1) (by rfl)) (nomark _)) (pe_one (pe_cmpR (op_eqT (by exact hu_of hr)) (pe_fldK (K := K) (by rfl) (pv 0) (by rfl)) (pe_fldK (K := K) (by rfl) (pv 1) (by rfl)) (nomark _))))))), ?_⟩
    obtain ⟨dx, ho⟩ := hS.o
    walk_at "rds"
    rcases hy with ⟨b, e, js, n, rfl, hB, rfl⟩ | ⟨T', ty, hT, rfl⟩
    · obtain ⟨dy, hb⟩ := hB.o
      refine rd_isO hb T.k_Store T.i_Store ?_
      walk_at "rds"
      refine rd_ite (fun _ => ?_) (fun h => by cases h)
      walk_at "rds"
      refine ⟨a, _, dx, _, _, rfl, ho, T.k_Store, T.n_Store_letters, rfl, ?_⟩
      walk_at "rds"
      refine ⟨b, _, dy, _, _, rfl, hb, T.k_Store, T.n_Store_letters, rfl, ?_⟩
      refine rd_eq rfl ?_
      have e1 : decide (V.str (tx ls) = V.str (tx js)) = decide (ls = js) := by
        rw [decide_eq_decide]
        exact ⟨fun h => tx_inj (V.str.inj h), fun h => by rw [h]⟩
      rw [e1]
      walk_at "rds"
      refine rd_ite (fun h => ?_) (fun h => ?_)
      · rw [h, Bool.true_and] at q
        walk_at "rds"
        refine ⟨a, _, dx, _, _, rfl, ho, T.k_Store, T.n_Store_table, rfl, ?_⟩
        walk_at "rds"
        refine ⟨b, _, dy, _, _, rfl, hb, T.k_Store, T.n_Store_table, rfl, ?_⟩
        exact rd_eqT hS.t hB.t (q _ (same_refl _))
      · rw [h, Bool.false_and] at q
        exact q _ (same_refl _)
    · refine rd_isNo ty T.i_Store hT ?_
      walk_at "rds"
      refine rd_ite (fun h => by cases h) (fun _ => ?_)
      exact q _ (same_refl _)
def spGet (K : PySem.W.Frag) (C CK : Addr) : Sp := fun vs H Q E => ∃ (a d : Addr) (ls : List Nat) (m : Tab) (x : V), vs = [.ref a, x] ∧ St C H a d ls m ∧ TxtOr K H x ∧
  (∀ (key : List Nat) (v : Int), x = .str (tx key) → inB ls m x = true → getT m key = some v → ∀ H', Same H H' → Q (.int v) H') ∧ (inB ls m x = false → ∀ d' H', Same H H' → H' d' = some (.xd [("key", x)]) → E (.ref CK) (some d') H')
theorem met_get (T : Txt K mg) : MetG P w K mg base (L2.CX P w) (SC mg) "__getitem__" ["self", "at"] 4 (spGet K (SC mg) (ca mg "NoKey")) := metG_of T.k_Store T.a_Store___getitem__ fun f fd F => by
  have C_Store___contains__ := met_in (P := P) (w := w) (base := base) T
  have E_NoKey := mk_NoKey (P := P) (w := w) (base := base) T
  refine F.okX sc_Store___getitem__ (fun vs H Q E h => ?_) (fun cdv A outer s H vs Q E hr h => ?_)
  · obtain ⟨a, d, ls, m, x, rfl, _⟩ := h
    rfl
  · obtain ⟨a, d, ls, m, x, rfl, hS, hx, q1, q2⟩ := h
    refine ⟨_, (pss_cons (ps_if (pt_cmpR (notIn_G C_Store___contains__ hr (by decide)) (pv 1) (pv 0) (by rfl))
      (pss_one (ps_raise rfl (takes_of rfl rfl rfl rfl) (pmk_G E_NoKey hr (by decide) (by rfl) (pv 1))))
      pss_nil)
      (pss_one (ps_ret (pe_dget (by exact hu_of hr) (pe_fldK (K := K) (by rfl) (pv 0) (by rfl)) (pv 1) (fun _ _ => rfl))))), ?_⟩
    obtain ⟨dx, ho⟩ := hS.o
    walk_at "rds"
    refine ⟨a, dx, _, rfl, ho, a, d, ls, m, x, rfl, hS, hx, fun H1 s1 => ⟨_, rfl, ?_⟩⟩
    walk_at "rds"
    rw [if_pos rfl]
    refine rd_ite (fun h => ?_) (fun h => ?_)
    · walk_at "rds"
      exact fun d' hd => q2 (by simpa using h) d' _ (same_trans s1 (same_upd hd)) upd_same
    · walk_at "rds"
      have hin : inB ls m x = true := by simpa using h
      refine ⟨a, _, dx, _, _, rfl, s1 _ _ ho, T.k_Store, T.n_Store_table, rfl, ?_⟩
      walk_at "rds"
      have hz : ∃ z, x = .str z := by
        cases x with
        | str z => exact ⟨z, rfl⟩
        | _ => cases hin
      obtain ⟨z, rfl⟩ := hz
      have hzk : z = tx z.cps.toList := (tx_of z).symm
      have hk : z.cps.toList ∈ keysT m := by
        have h1 : (isTxtB ls (.str z) && decide (z.cps.toList ∈ keysT m)) = true := hin
        exact of_decide_eq_true (Bool.and_eq_true_iff.mp h1).2
      obtain ⟨v, hv⟩ := getT_some hk
      refine ⟨d, .int v, rfl, ?_, q1 z.cps.toList v (by rw [tx_of]) hin hv _ s1⟩
      have g := DGet.k (k := Sum.inr (tx z.cps.toList)) (s1 _ _ hS.t)
      rw [valV_enc, hv] at g
      rw [hzk]
      rw [tx_of] at g ⊢
      exact g
end
section
variable {P : Program} {w : World} {K : PySem.W.Frag} {mg : Str → Option Value} {base : Heap}
/-- Store(letters, pairs) -/
theorem mk_Store_2 (T : Txt K mg) : MakD P w K mg base "Store" (SC mg) 4 (spInit K (SC mg)) [] := by
  obtain ⟨f, T', fd, F, M, _⟩ := T.d_Store___init__
  obtain ⟨ds, v, b⟩ := F.binds1 (ps := ["self", "letters", "pairs"]) 3 1 (by simp) rfl fun T kV doc pm an cdv ct us its h1 h2 => match us, its, h1, h2 with | [_, _, _], [_], _, _ => ⟨_, rfl, rfl⟩
  exact ⟨f, fd, _, ds, M, ok_init T F, T.g_Store, b, v⟩
/-- Store(letters) -/
theorem mk_Store_1 (T : Txt K mg) : ∃ E, (∀ H, Seq1 K H E []) ∧ MakD P w K mg base "Store" (SC mg) 4 (spInit K (SC mg)) [.ref E] := by
  obtain ⟨f, T', fd, F, M, o, ho, hc, hd, hn⟩ := T.d_Store___init__
  obtain ⟨ds, v, b⟩ := F.binds1 (ps := ["self", "letters", "pairs"]) 2 0 (by simp) rfl fun T kV doc pm an cdv ct us its h1 h2 => match us, its, h1, h2 with | [_, _], [_], _, _ => ⟨_, rfl, rfl⟩
  exact ⟨T', fun H => .inr (.inr ⟨o, #[], 0, ho, hc, hd, by decide, .nil⟩), f, fd, _, ds, M, ok_init T F, T.g_Store, b, v⟩
theorem make_end {C p : Addr} {H : Hp} {ls : List Nat} {us : List V} {ms : Tab} {Q : Addr → Hp → Prop} {E : XK} (hl : areB ls = true) (hz : ls.length ≤ 1000) (hp : Seq1 K H p us) (hpr : Prs H ms us) (hov : ∀ q ∈ ms, Ov ls q.1 ∧ 0 ≤ q.2) (hms : ms.length ≤ 500)
    (q : ∀ x d H', Same H H' → H x = none → H d = none → St C H' x d ls (putsP [] ms) → Q x H') :
    ∀ x dx, H x = none → H dx = none → dx ≠ x → spInit K C [.ref x, .str (tx ls), .ref p] (upd (upd H dx (.own x)) x (.ins C dx [])) (fun v H2 => v = .non ∧ Q x H2) E := by
  intro x dx hx hdx hne
  have s1 : Same H (upd (upd H dx (.own x)) x (.ins C dx [])) := fun b o hb => by
    have h1 : b ≠ x := fun z => by
      rw [z, hx] at hb
      cases hb
    have h2 : b ≠ dx := fun z => by
      rw [z, hdx] at hb
      cases hb
    rw [upd_ne h1, upd_ne h2]
    exact hb
  refine ⟨x, dx, p, ls, us, ms, rfl, upd_same, hl, hz, hp.keep fun o _ h => s1 _ _ h, hpr.same s1, hov, hms, fun d H' k hd hdx' hx' hd' => ⟨rfl, ?_⟩⟩
  have hd0 := same_none s1 hd
  refine q x d H' (fun b o hb => k _ _ (s1 _ _ hb) fun z => ?_) hx hd0 ⟨⟨dx, hx'⟩, hd'⟩
  rw [z, hx] at hb
  cases hb
def spCopied (C : Addr) : Sp := fun vs H Q _ => ∃ (a d : Addr) (ls : List Nat) (m : Tab), vs = [.ref a] ∧ St C H a d ls m ∧ areB ls = true ∧ ls.length ≤ 1000 ∧ (keysT m).Nodup ∧ (∀ q ∈ m, Ov ls q.1 ∧ 0 ≤ q.2) ∧ m.length ≤ 500 ∧
  ∀ x d' H', Same H H' → H x = none → H d' = none → St C H' x d' ls m → Q (.ref x) H'
theorem met_copied (T : Txt K mg) : MetG P w K mg base CX0 (SC mg) "copied" ["self"] 6 (spCopied (SC mg)) := metG_of T.k_Store T.a_Store_copied fun f fd F => by
  have C_Store_2 := mk_Store_2 (P := P) (w := w) (base := base) T
  refine F.ok sc_Store_copied (fun vs H Q E h => ?_) (fun cdv A outer s H vs Q E hr h => ?_)
  · obtain ⟨a, d, ls, m, rfl, _⟩ := h
    rfl
  · obtain ⟨a, d, ls, m, rfl, hS, hl, hz, hnd, hov, hms, q⟩ := h
    refine ⟨_, (pss_one (ps_ret (pe_mkD C_Store_2 hr (by decide) (by rfl) (pa_cons (pe_fldK (K := K) (by rfl) (pv 0) (by rfl)) (pa_cons (LiI.pe_listItems rfl (pe_fldK (K := K) (by rfl) (pv 0) (by rfl)) (by rfl) T.m_list (by decide +kernel)) pa_nil))))), ?_⟩
    obtain ⟨dx, ho⟩ := hS.o
    walk_at "rds"
    refine ⟨a, _, dx, _, _, rfl, ho, T.k_Store, T.n_Store_letters, rfl, ?_⟩
    walk_at "rds"
    refine ⟨a, _, dx, _, _, rfl, ho, T.k_Store, T.n_Store_table, rfl, d, _, rfl, hS.t, fun H1 p ts s1 hp hts hpts e1 hpr => ?_⟩
    refine make_end hl hz (.inl (SqL.of e1)) (prs_of_items hpr) hov hms (fun x d' H' s2 hx hd hS' => ?_)
    rw [putsP_same m [] hnd, List.nil_append] at hS'
    exact q x d' H' (same_trans s1 s2) (same_none s1 hx) (same_none s1 hd) hS'
end
section
variable {P : Program} {w : World} {K : PySem.W.Frag} {mg : Str → Option Value} {base : Heap}
/-! ### how the methods are called -/
abbrev gAll : List V → List V → List V := fun vs zs => vs ++ zs
theorem at_pairs_k3 (T : Txt K mg) : MetK P w K mg base (SC mg) "pairs" 3 ["after"] 2 (spPairs (SC mg)) gAll := by
  obtain ⟨f, fd, F, M, i⟩ := T.d_Store_pairs
  obtain ⟨its, mv, b⟩ := F.kbinds (ps := ["self", "low", "high", "after"]) 3 ["after"] [] (fun us its mv ws => us ++ ws) (by simp) (by simp) (by simp) (fun a _ _ b => a.append b) fun T D doc pm an cdv ct us its mv ws h1 h2 h3 h4 => match us, its, mv, ws, h1, h2, h3, h4 with | [_, _, _], [_, _], [], [_], _, _, _, _ => ⟨_, rfl, rfl⟩
  exact ⟨f, fd, _, _, T.k_Store, M, ok_pairs T F, b⟩
theorem at_page_k4 (T : Txt K mg) : MetK P w K mg base (SC mg) "page" 4 ["after"] 2 (spPage (SC mg)) gAll := by
  obtain ⟨f, fd, F, M, i⟩ := T.d_Store_page
  obtain ⟨its, mv, b⟩ := F.kbinds (ps := ["self", "count", "low", "high", "after"]) 4 ["after"] [] (fun us its mv ws => us ++ ws) (by simp) (by simp) (by simp) (fun a _ _ b => a.append b) fun T D doc pm an cdv ct us its mv ws h1 h2 h3 h4 => match us, its, mv, ws, h1, h2, h3, h4 with | [_, _, _, _], [_, _], [], [_], _, _, _, _ => ⟨_, rfl, rfl⟩
  exact ⟨f, fd, _, _, T.k_Store, M, ok_page T F, b⟩
theorem at_take_k3 (T : Txt K mg) : MetK P w K mg base (SC mg) "take" 3 ["after"] 2 (spTake (SC mg)) gAll := by
  obtain ⟨f, fd, F, M, i⟩ := T.d_Store_take
  obtain ⟨mv, b⟩ := F.kbinds0 (ps := ["self", "low", "high", "after"]) 3 ["after"] [] (fun us mv ws => us ++ ws) (by simp) (by simp) (fun a _ b => a.append b) fun D doc pm an cdv ct us mv ws h1 h2 h3 => match us, mv, ws, h1, h2, h3 with | [_, _, _], [], [_], _, _, _ => rfl
  exact ⟨f, fd, _, _, T.k_Store, M, ok_take T F, b⟩
theorem at_fill_k4 (T : Txt K mg) : MetK P w K mg base (SC mg) "fill" 4 ["after"] 3 (spFill (SC mg)) gAll := by
  obtain ⟨f, fd, F, M, i⟩ := T.d_Store_fill
  obtain ⟨mv, b⟩ := F.kbinds0 (ps := ["self", "value", "low", "high", "after"]) 4 ["after"] [] (fun us mv ws => us ++ ws) (by simp) (by simp) (fun a _ b => a.append b) fun D doc pm an cdv ct us mv ws h1 h2 h3 => match us, mv, ws, h1, h2, h3 with | [_, _, _, _], [], [_], _, _, _ => rfl
  exact ⟨f, fd, _, _, T.k_Store, M, ok_fill T F, b⟩
theorem at_pairs_2 (T : Txt K mg) : MetD P w K mg base (SC mg) "pairs" 2 (spPairs (SC mg)) [.non, .non] := by
  obtain ⟨f, fd, F, M, i⟩ := T.d_Store_pairs
  obtain ⟨ds, v, b⟩ := F.binds (ps := ["self", "low", "high", "after"]) 2 1 (by simp) rfl (fun T D doc pm an cdv ct us its ks h1 h2 h3 => match us, its, ks, h1, h2, h3 with | [_, _], [_, _], [_], _, _, _ => ⟨_, rfl, _, _, _, _, _, _, rfl, rfl, rfl⟩) (by simp)
  exact ⟨f, fd, _, ds, T.k_Store, M, ok_pairs T F, b, v⟩
theorem at_pairs_1 (T : Txt K mg) : MetD P w K mg base (SC mg) "pairs" 2 (spPairs (SC mg)) [.str (tx []), .non, .non] := by
  obtain ⟨f, fd, F, M, i⟩ := T.d_Store_pairs
  obtain ⟨ds, v, b⟩ := F.binds (ps := ["self", "low", "high", "after"]) 1 0 (by simp) rfl (fun T D doc pm an cdv ct us its ks h1 h2 h3 => match us, its, ks, h1, h2, h3 with | [_], [_, _], [_], _, _, _ => ⟨_, rfl, _, _, _, _, _, _, rfl, rfl, rfl⟩) (by simp)
  exact ⟨f, fd, _, ds, T.k_Store, M, ok_pairs T F, b, v⟩
theorem at_page_3 (T : Txt K mg) : MetD P w K mg base (SC mg) "page" 2 (spPage (SC mg)) [.non, .non] := by
  obtain ⟨f, fd, F, M, i⟩ := T.d_Store_page
  obtain ⟨ds, v, b⟩ := F.binds (ps := ["self", "count", "low", "high", "after"]) 3 1 (by simp) rfl (fun T D doc pm an cdv ct us its ks h1 h2 h3 => match us, its, ks, h1, h2, h3 with | [_, _, _], [_, _], [_], _, _, _ => ⟨_, rfl, _, _, _, _, _, _, rfl, rfl, rfl⟩) (by simp)
  exact ⟨f, fd, _, ds, T.k_Store, M, ok_page T F, b, v⟩
theorem at_page_2 (T : Txt K mg) : MetD P w K mg base (SC mg) "page" 2 (spPage (SC mg)) [.str (tx []), .non, .non] := by
  obtain ⟨f, fd, F, M, i⟩ := T.d_Store_page
  obtain ⟨ds, v, b⟩ := F.binds (ps := ["self", "count", "low", "high", "after"]) 2 0 (by simp) rfl (fun T D doc pm an cdv ct us its ks h1 h2 h3 => match us, its, ks, h1, h2, h3 with | [_, _], [_, _], [_], _, _, _ => ⟨_, rfl, _, _, _, _, _, _, rfl, rfl, rfl⟩) (by simp)
  exact ⟨f, fd, _, ds, T.k_Store, M, ok_page T F, b, v⟩
end
section
variable {P : Program} {w : World} {K : PySem.W.Frag} {mg : Str → Option Value} {base : Heap}
/-- the source of draws stands at D, its great cells at L -/
def Deal (D L : Addr) (H : Hp) : Prop := ∃ (cs : List Int) (m : Int), H D = some (.lst [.ref L, .int m]) ∧ H L = some (.lst (cs.map V.int)) ∧ 0 ≤ m ∧ m < 2147483647 ∧ cs.length ≤ 63
theorem Deal.ne {D L : Addr} {H : Hp} (d : Deal D L H) : D ≠ L := by
  obtain ⟨cs, m, h1, h2, _⟩ := d
  refine ne_of h1 h2 fun z => ?_
  have e : [V.ref L, V.int m] = cs.map V.int := by injection z
  cases cs with
  | nil => simp at e
  | cons c r => simp at e
theorem Deal.keep {D L : Addr} {H H' : Hp} (d : Deal D L H) (s : Same H H') : Deal D L H' := by
  obtain ⟨cs, m, h1, h2, h⟩ := d
  exact ⟨cs, m, s _ _ h1, s _ _ h2, h⟩
theorem Deal.new {D L p : Addr} {H : Hp} (d : Deal D L H) (h : H p = none) : p ≠ D ∧ p ≠ L := by
  obtain ⟨cs, m, h1, h2, _⟩ := d
  exact ⟨(ne_of_none h1 h).symm, (ne_of_none h2 h).symm⟩
def spDraw : Sp := fun vs H Q _ => ∃ (D L : Addr) (n : Int), vs = [.ref D, .int n] ∧ Deal D L H ∧ 0 < n ∧ n < 2 ^ 200 ∧ ∀ (k : Int) (H' : Hp), 0 ≤ k → k < n → Keep D L H H' → Deal D L H' → Q (.int k) H'
theorem cl_draw (T : Txt K mg) : Cl P w K mg base "_law_draw" ["_law_deal_here", "_law_many"] 1 spDraw := cl_of T.a__law_draw fun f fd F => by
  refine F.ok sc__law_draw (fun vs H Q E h => ?_) (fun cdv A outer s H vs Q E hr h => ?_)
  · obtain ⟨D, L, n, rfl, _⟩ := h
    rfl
  · obtain ⟨D, L, n, rfl, d, hn, hn2, q⟩ := h
    refine ⟨_, (Evl.pss_cut (ps_while PassesOwn.never (PW.pt (pw_and (pt_cmpR (op_neD hr.units) (pe_ix ix_list (pv 0) pe_int (fun _ _ => rfl)) (pe_lst pa_nil) (nomark _)) (pw_and1 (pt_cmpR op_eq (pe_ix ix_list (pe_ix ix_list (pv 0) pe_int (fun _ _ => rfl)) (pe_un un_neg pe_int) (fun _ _ => rfl)) pe_int (nomark _)))))
      (pss_one (ps_expr (pe_bm0 PySem.F.plainAttrs_list PySem.F.slot_list_pop PySem.F.type_list_pop mt_pop (pe_ix ix_list (pv 0) pe_int (fun _ _ => rfl))))))
      (pss_cons (ps_if (pt_cmpR (op_neD hr.units) (pe_ix ix_list (pv 0) pe_int (fun _ _ => rfl)) (pe_lst pa_nil) (nomark _))
      (pss_cons (ps_set (i := 2) sc__law_draw.nd rfl (Or.inl rfl) (pe_bm0 PySem.F.plainAttrs_list PySem.F.slot_list_pop PySem.F.type_list_pop mt_pop (pe_ix ix_list (pv 0) pe_int (fun _ _ => rfl))))
      (pss_cons (ps_expr (pe_bm PySem.F.plainAttrs_list PySem.F.slot_list_append PySem.F.type_list_append mt_append (pe_ix ix_list (pv 0) pe_int (fun _ _ => rfl)) (pa_cons (pe_op op_fdivW (pv 2) (pv 1)) pa_nil)))
      (pss_one (ps_ret (pe_op op_mod (pe_callTy call_intI (by rfl) T.m_int (by decide +kernel) (pa_cons (pv 2) pa_nil)) (pv 1))))))
      pss_nil)
      (pss_cons (ps_asg (pe_op op_mod (pe_callTy call_intI (by rfl) T.m_int (by decide +kernel) (pa_cons (pe_op op_mulW (pe_ix ix_list (pv 0) pe_int (fun _ _ => rfl)) pe_int) pa_nil)) pe_int) (pg_sub (pv 0) pe_int set_list))
      (pss_one (ps_ret (pe_op op_mod (pe_callTy call_intI (by rfl) T.m_int (by decide +kernel) (pa_cons (pe_op op_fdivW (pe_ix ix_list (pv 0) pe_int (fun _ _ => rfl)) pe_int) pa_nil)) (pv 1))))))), ?_⟩
    obtain ⟨cs, m, hD, hL, hm⟩ := d
    obtain ⟨hm1, hm2, hm3⟩ := hm
    -- the zeros at the end are thrown away
    refine ⟨fun σ H' => ∃ cs' : List Int, σ = [some (.ref D), some (.int n), none] ∧ cs'.length ≤ 63 ∧ Keep D L H H' ∧ H' D = some (.lst [.ref L, .int m]) ∧ H' L = some (.lst (cs'.map V.int)), ?_, ?_⟩
    · refine ⟨fun k σ H' => ∃ cs' : List Int, σ = [some (.ref D), some (.int n), none] ∧ k = cs'.length ∧ cs'.length ≤ 63 ∧ Keep D L H H' ∧ H' D = some (.lst [.ref L, .int m]) ∧ H' L = some (.lst (cs'.map V.int)), ⟨cs.length, cs, rfl, rfl, hm3, Keep.refl H, hD, hL⟩, ?_⟩
      rintro k σ H1 ⟨cs', rfl, rfl, hlen, kp, h1, h2⟩
      walk_at "rds"
      refine rd_ixL (SqL.of h1) (by rfl) ?_
      walk_at "rds"
      refine ⟨Nat.zero_le _, fun e he => ?_⟩
      have s1 : Same H1 (upd H1 e (.lst [])) := same_upd he
      have h1' := s1 _ _ h1
      have h2' := s1 _ _ h2
      have kp' : Keep D L H (upd H1 e (.lst [])) := kp.trans (Keep.of_same s1)
      refine rd_neNil (SqL.of h2') (SqL.of upd_same) ?_
      generalize upd H1 e (.lst []) = H2 at *
      clear s1
      walk_at "rds"
      refine rd_ite (fun hb => ?_) (fun hb => ?_)
      · -- the last cell
        have hne : cs' ≠ [] := by
          rintro rfl
          simp at hb
        obtain ⟨ys, z, rfl⟩ : ∃ ys z, cs' = ys ++ [z] := ⟨cs'.dropLast, cs'.getLast hne, (List.dropLast_concat_getLast hne).symm⟩
        have h2'' : H2 L = some (.lst (ys.map V.int ++ [.int z])) := by rw [h2', List.map_append]; rfl
        walk_at "rds"
        refine rd_ixL (SqL.of h1') (by rfl) ?_
        walk_at "rds"
        refine rd_ixL (SqL.of h2'') (atI_last _ _) ?_
        walk_at "rds"
        refine rd_ite (fun hz => ?_) (fun hz => ?_)
        · refine ⟨fun σ' H' => ∃ cs' : List Int, σ' = [some (.ref D), some (.int n), none] ∧ cs'.length < ys.length + 1 ∧ Keep D L H H' ∧ H' D = some (.lst [.ref L, .int m]) ∧ H' L = some (.lst (cs'.map V.int)), ?_, ?_⟩
          · rintro σ' H' ⟨cs2, e1, e2, e3, e4, e5⟩
            rw [List.length_append] at hlen
            exact ⟨cs2.length, by simpa using e2, cs2, e1, rfl, by simp at hlen; omega, e3, e4, e5⟩
          · walk_at "rds"
            refine rd_ixL (SqL.of h1') (by rfl) ?_
            refine rd_tyL (SqL.of h2'') ?_
            refine rd_pop h2'' ?_
            have hDL : D ≠ L := ne_of h1' h2'' fun z => by
              injection z with z
              cases ys <;> simp at z
            exact ⟨ys, rfl, Nat.lt_succ_self _, kp'.trans (Keep.own (.inr rfl)), by rw [upd_ne hDL]; exact h1', upd_same⟩
        · exact ⟨_, rfl, hlen, kp', h1', h2'⟩
      · exact ⟨_, rfl, hlen, kp', h1', h2'⟩
    · rintro σ' H1 ⟨cs', rfl, hlen, kp, h1, h2⟩
      walk_at "rds"
      refine rd_ixL (SqL.of h1) (by rfl) ?_
      walk_at "rds"
      refine ⟨Nat.zero_le _, fun e he => ?_⟩
      have s1 : Same H1 (upd H1 e (.lst [])) := same_upd he
      have h1' := s1 _ _ h1
      have h2' := s1 _ _ h2
      have kp' : Keep D L H (upd H1 e (.lst [])) := kp.trans (Keep.of_same s1)
      refine rd_neNil (SqL.of h2') (SqL.of upd_same) ?_
      generalize upd H1 e (.lst []) = H2 at *
      clear s1
      have hd : Deal D L H2 := ⟨cs', m, h1', h2', hm1, hm2, hlen⟩
      have hDL := hd.ne
      walk_at "rds"
      refine rd_ite (fun hb => ?_) (fun hb => ?_)
      · have hne : cs' ≠ [] := by
          rintro rfl
          simp at hb
        obtain ⟨ys, z, rfl⟩ : ∃ ys z, cs' = ys ++ [z] := ⟨cs'.dropLast, cs'.getLast hne, (List.dropLast_concat_getLast hne).symm⟩
        have h2'' : H2 L = some (.lst (ys.map V.int ++ [.int z])) := by rw [h2', List.map_append]; rfl
        rw [List.length_append] at hlen
        simp only [List.length_cons, List.length_nil] at hlen
        walk_at "rds"
        refine rd_ixL (SqL.of h1') (by rfl) ?_
        refine rd_tyL (SqL.of h2'') ?_
        refine rd_pop h2'' ?_
        have h1c : upd H2 L (.lst (ys.map V.int)) D = some (.lst [.ref L, .int m]) := by rw [upd_ne hDL]; exact h1'
        walk_at "rds"
        refine rd_ixL (SqL.of h1c) (by rfl) ?_
        refine rd_tyL (SqL.of upd_same) ?_
        walk_at "rds"
        refine rd_I (wide_div hn (b := 200) (by omega) (by decide) (by decide)) ?_
        walk_at "rds"
        refine rd_app upd_same (by rw [List.length_map]; exact small1000 (by omega)) ?_
        walk_at "rds"
        refine rd_I hn ?_
        rw [upd_upd]
        refine q (z % n) _ (Int.emod_nonneg _ (by omega)) (Int.emod_lt_of_pos _ hn) (kp'.trans (Keep.own (.inr rfl))) ⟨ys ++ [z / n], m, by rw [upd_ne hDL]; exact h1', ?_, hm1, hm2, by simpa using hlen⟩
        rw [upd_same, List.map_append]
        rfl
      · walk_at "rds"
        refine rd_ixL (SqL.of h1') (by rfl) ?_
        walk_at "rds"
        refine rd_I (mulW_of (by omega) (by decide)) ?_
        walk_at "rds"
        refine rd_I (by decide) ?_
        walk_at "rds"
        refine rd_setL h1' (by rfl) ?_
        walk_at "rds"
        refine rd_ixL (SqL.of upd_same) (by rfl) ?_
        walk_at "rds"
        refine rd_I (wide_div (b := 10) (by decide) (by decide) (by decide) (by decide)) ?_
        walk_at "rds"
        refine rd_I hn ?_
        refine q _ _ (Int.emod_nonneg _ (by omega)) (Int.emod_lt_of_pos _ hn) (kp'.trans (Keep.own (.inl rfl))) ⟨cs', m * 48271 % 2147483647, upd_same, by rw [upd_ne hDL.symm]; exact h2', Int.emod_nonneg _ (by decide), Int.emod_lt_of_pos _ (by decide), hlen⟩
/-- the source is made -/
def spDeal (K : PySem.W.Frag) : Sp := fun vs H Q _ => ∃ (a : Addr) (ns : List Int) (b : Int), vs = [.ref a, .int b] ∧ SqL K H a (ns.map V.int) ∧ ns.length ≤ 63 ∧ 0 ≤ b ∧ b ≤ 1000 ∧
  ∀ (D L : Addr) (H' : Hp), H D = none → H L = none → Same H H' → Deal D L H' → Q (.ref D) H'
theorem cl_deal (T : Txt K mg) : Cl P w K mg base "_law_deal" ["_law_script", "_law_base"] 1 (spDeal K) := cl_of T.a__law_deal fun f fd F => by
  refine F.ok sc__law_deal (fun vs H Q E h => ?_) (fun cdv A outer s H vs Q E hr h => ?_)
  · obtain ⟨a, ns, b, rfl, _⟩ := h
    rfl
  · obtain ⟨a, ns, b, rfl, hS, hlen, hb0, hb1, q⟩ := h
    refine ⟨_, (pss_cons (ps_setLc (i := 3) (own := [("_law_cell", 2)]) (g := gName 2) (tt := tYes) (by rfl) sc__law_deal.nd rfl rfl (sw_true rfl rfl rfl (by decide +kernel)) (pi_list (pe_slice sl_list (pv 0) (po_some (pv 1)) (po_some pe_int))) (blkOk_by (own := [("_law_cell", 2)]) (N := n__law_deal) (sc := defScope s__law_deal) (by decide +kernel)) (fun _ _ _ _ _ => (pg_name (i := 2) sc__law_deal.nd rfl (Or.inl rfl))) (fun _ _ _ _ _ => pts_nil) (fun _ _ _ _ _ => (pe_callB call_abs (by rfl) T.m_abs (by decide +kernel) (pa_cons (pv 2) pa_nil))))
      (pss_cons (ps_set (i := 4) sc__law_deal.nd rfl (Or.inl rfl) (pe_op op_add pe_int (pe_op op_mulW pe_int (pv 1))))
      (Evl.pss_cut (ps_for PassesOwn.never rfl (pi_list (pv 3)) (pg_name (i := 2) sc__law_deal.nd rfl (Or.inl rfl))
      (pss_one (ps_set (i := 4) sc__law_deal.nd rfl (Or.inl rfl) (pe_op op_mod (pe_callTy call_intI (by rfl) T.m_int (by decide +kernel) (pa_cons (pe_op op_add (pe_op op_mulW (pv 4) pe_int) (pe_op op_mod (pe_callTy call_intI (by rfl) T.m_int (by decide +kernel) (pa_cons (pv 2) pa_nil)) pe_int)) pa_nil)) pe_int))))
      (pss_one (ps_ret (pe_lst (pa_cons (pe_revL (pe_lc (own := [("_law_cell", 2)]) (g := gName 2) (by rfl) sc__law_deal.nd (pi_list (pv 3)) (blkOk_by (own := [("_law_cell", 2)]) (N := n__law_deal) (sc := defScope s__law_deal) (by decide +kernel)) (fun _ _ _ _ _ => (pg_name (i := 2) sc__law_deal.nd rfl (Or.inl rfl))) (fun _ _ _ _ _ => (pts_one (pt_cmpR op_ge (pv 2) (pe_op op_pow pe_int pe_int) (nomark _)))) (fun _ _ _ _ _ => (pv 2)))) (pa_cons (pv 4) pa_nil)))))))), ?_⟩
    walk_at "rds"
    refine rd_slL hS fun p np => ?_
    obtain ⟨zs, ez, hz⟩ := cutV_ints ns (some b) (some 63)
    rw [ez]
    have s1 : Same H (upd H p (.lst (zs.map V.int))) := same_upd np
    have hp : upd H p (.lst (zs.map V.int)) p = some (.lst (zs.map V.int)) := upd_same
    generalize upd H p (.lst (zs.map V.int)) = H1 at *
    refine ⟨_, rfl, ⟨_, SqL.of hp⟩, fun c nc => lc_list (K := K) (a := p) (xs := zs.map V.int) (fun i H' => Same H1 H' ∧ H' c = some (.lst ((zs.take i).map fun z => V.int (if z < 0 then -z else z)))) ⟨same_upd nc, upd_same⟩ (fun i H' _ h => SqL.of (h.1 _ _ hp)) ?_ ?_⟩
    · rintro i x H2 hx ⟨s2, hc⟩
      obtain ⟨z, hz', rfl⟩ := get_map hx
      have hl : i < zs.length := (List.getElem?_eq_some_iff.mp hz').1
      walk_at "rds"
      refine ⟨rfl, ?_⟩
      walk_at "rds"
      refine rd_ite (fun _ => ?_) (fun h => by cases h)
      walk_at "rds"
      refine ⟨z, rfl, _, hc, by rw [List.length_map, List.length_take]; exact small1000 (by omega), same_mut s2 nc, ?_⟩
      rw [upd_same, take_snoc _ hz']
    · rintro H2 ⟨s2, hc0⟩
      obtain ⟨cs, hcs, hc⟩ : ∃ cs : List Int, cs.length ≤ 63 ∧ H2 c = some (.lst (cs.map V.int)) := ⟨zs.map fun z => if z < 0 then -z else z, by rw [List.length_map]; omega, by
        rw [hc0, List.length_map, List.take_length, List.map_map]
        rfl⟩
      have sH : Same H H2 := s1.trans s2
      clear hc0 s1 s2 hp nc np ez hz
      walk_at "rds"
      refine rd_I (mulW_of (by decide) (by omega)) ?_
      walk_at "rds"
      -- the number that is mixed
      refine rd_cut (fun σ' H' => ∃ (y : Option V) (m : Int), σ' = [some (.ref a), some (.int b), y, some (.ref c), some (.int m)] ∧ H' = H2 ∧ 0 ≤ m ∧ m < 2147483647) ?_ ?_
      · walk_at "rds"
        refine ⟨_, rfl, ⟨_, SqL.of hc⟩, for_list (K := K) (a := c) (xs := cs.map V.int) (fun i σ' H' => ∃ (y : Option V) (m : Int), σ' = [some (.ref a), some (.int b), y, some (.ref c), some (.int m)] ∧ H' = H2 ∧ 0 ≤ m ∧ m < 2147483647) ⟨none, 15485863 + 11 * b, rfl, rfl, by omega, by omega⟩ (fun i σ' H' _ h => ?_) ?_ (fun σ' H' h => h)⟩
        · obtain ⟨y, m, _, rfl, _⟩ := h
          exact SqL.of hc
        · rintro i x σ' H' hx ⟨y, m, rfl, rfl, hm1, hm2⟩
          obtain ⟨z, hz', rfl⟩ := get_map hx
          walk_at "rds"
          refine rd_I (mulW_of (by omega) (by decide)) ?_
          walk_at "rds"
          refine rd_I (by decide) ?_
          walk_at "rds"
          refine rd_I (by decide) ?_
          walk_at "rds"
          exact ⟨_, _, rfl, rfl, Int.emod_nonneg _ (by decide), Int.emod_lt_of_pos _ (by decide)⟩
      · rintro σ' H' ⟨y, m, rfl, rfl, hm1, hm2⟩
        walk_at "rds"
        refine ⟨_, rfl, ⟨_, SqL.of hc⟩, fun e ne => lc_list (K := K) (a := c) (xs := cs.map V.int) (fun i H3 => Same H' H3 ∧ ∃ ds : List Int, ds.length ≤ i ∧ H3 e = some (.lst (ds.map V.int))) ⟨same_upd ne, [], Nat.le_refl _, upd_same⟩ (fun i H3 _ h => SqL.of (h.1 _ _ hc)) ?_ ?_⟩
        · rintro i x H3 hx ⟨s3, ds, hd, he⟩
          obtain ⟨z, hz', rfl⟩ := get_map hx
          have hl : i < cs.length := (List.getElem?_eq_some_iff.mp hz').1
          walk_at "rds"
          refine ⟨rfl, ?_⟩
          walk_at "rds"
          refine rd_I ⟨by decide, by decide, by decide⟩ ?_
          walk_at "rds"
          refine rd_ite (fun h0 => ?_) (fun h0 => ?_)
          · walk_at "rds"
            refine ⟨_, he, by rw [List.length_map]; exact small1000 (by omega), same_mut s3 ne, ds ++ [z], by simpa using hd, ?_⟩
            rw [upd_same, List.map_append]
            rfl
          · exact ⟨s3, ds, by omega, he⟩
        · rintro H3 ⟨s3, ds, hd, he⟩
          rw [List.length_map] at hd
          refine ⟨e, _, rfl, SqL.of he, fun l nl => ?_⟩
          have e1 : (ds.map V.int).reverse = ds.reverse.map V.int := by rw [List.map_reverse]
          rw [e1]
          walk_at "rds"
          refine ⟨(by show 2 ≤ sizeLine; decide), fun d nd => ?_⟩
          have s4 : Same H3 (upd H3 l (.lst (ds.reverse.map V.int))) := same_upd nl
          have s5 := same_upd (o := .lst [V.ref l, V.int m]) nd
          have nl2 : H l = none := (sH.trans s3).free nl
          refine q d l _ ((sH.trans (s3.trans s4)).free nd) nl2 (sH.trans (s3.trans (s4.trans s5))) ⟨ds.reverse, m, upd_same, ?_, hm1, hm2, by rw [List.length_reverse]; omega⟩
          rw [upd_ne (ne_of_none upd_same nd), upd_same]
/-- a sequence to pick from: a list, or a text by its sgs -/
def SeqV (K : PySem.W.Frag) (H : Hp) (D L : Addr) (v : V) (ys : List V) : Prop := (∃ a, v = .ref a ∧ a ≠ D ∧ a ≠ L ∧ SqL K H a ys) ∨ (∃ l, v = .str (tx l) ∧ ys = sgs l)
def spPick (K : PySem.W.Frag) : Sp := fun vs H Q _ => ∃ (D L : Addr) (v : V) (ys : List V), vs = [.ref D, v] ∧ Deal D L H ∧ SeqV K H D L v ys ∧ 0 < ys.length ∧ ys.length ≤ 1000 ∧ ∀ (x : V) (H' : Hp), x ∈ ys → Keep D L H H' → Deal D L H' → Q x H'
theorem keep_seq {K : PySem.W.Frag} {H H' : Hp} {D L a : Addr} {ys : List V} (k : Keep D L H H') (h1 : a ≠ D) (h2 : a ≠ L) (h : SqL K H a ys) : SqL K H' a ys := by
  rcases h with (h | ⟨o, h⟩) | h
  · exact .inl (.inl (k _ _ h h1 h2))
  · exact .inl (.inr ⟨o, k _ _ h h1 h2⟩)
  · exact .inr h
theorem cl_pick (T : Txt K mg) : Cl P w K mg base "_law_pick" ["_law_deal_here", "_law_some"] 2 (spPick K) := cl_of T.a__law_pick fun f fd F => by
  have C__law_draw := cl_draw (P := P) (w := w) (base := base) T
  refine F.ok sc__law_pick (fun vs H Q E h => ?_) (fun cdv A outer s H vs Q E hr h => ?_)
  · obtain ⟨D, L, v, ys, rfl, _⟩ := h
    rfl
  · obtain ⟨D, L, v, ys, rfl, hd, hS, h0, h1, q⟩ := h
    refine ⟨_, (pss_one (ps_ret (pe_ix ix_any (pv 1) (pe_cl C__law_draw (hr.mono (by decide)) (by rfl) (pa_cons (pv 0) (pa_cons (pe_callB call_lenA (by rfl) T.m_len (by decide +kernel) (pa_cons (pv 1) pa_nil)) pa_nil))) (fun _ _ => rfl)))), ?_⟩
    walk_at "rds"
    refine rd_lenA (ys := ys) ?_ ?_
    · rcases hS with ⟨a, rfl, h2, h3, h4⟩ | ⟨l, rfl, rfl⟩
      · exact .inl ⟨a, rfl, h4⟩
      · exact .inr ⟨l, rfl, rfl, by rw [← sgs_len]; exact Nat.le_of_lt (small1000 h1)⟩
    walk_at "rds"
    refine ⟨D, L, _, rfl, hd, by omega, by omega, fun k H' hk1 hk2 kp hd' => ?_⟩
    obtain ⟨j, rfl⟩ := Int.eq_ofNat_of_zero_le hk1
    have hj : j < ys.length := by omega
    refine rd_ixA (ys := ys) (j := j) (x := ys[j]) ?_ (List.getElem?_eq_getElem hj) ?_
    · rcases hS with ⟨a, rfl, h2, h3, h4⟩ | ⟨l, rfl, rfl⟩
      · exact .inl ⟨a, rfl, keep_seq kp h2 h3 h4⟩
      · exact .inr ⟨l, rfl, rfl, by rw [← sgs_len]; exact Nat.le_of_lt (small1000 h1)⟩
    · exact q _ _ (List.getElem_mem hj) kp hd'
end
section
variable {P : Program} {w : World} {K : PySem.W.Frag} {mg : Str → Option Value} {base : Heap}
theorem alphabet_nodup : alphabet.Nodup := by decide
def spLetters : Sp := fun vs H Q _ => ∃ (D L : Addr) (n : Int), vs = [.ref D, .int n] ∧ Deal D L H ∧ 2 ≤ n ∧ n ≤ 39 ∧
  ∀ (ls : List Nat) (H' : Hp), 2 ≤ ls.length → (ls.length : Int) ≤ n → ls.Pairwise (· < ·) → (∀ c ∈ ls, c ∈ alphabet) → Keep D L H H' → Deal D L H' → Q (.str (tx ls)) H'
theorem cl_letters (T : Txt K mg) : Cl P w K mg base "_law_letters" ["_law_deal_here", "_law_most"] 2 spLetters := cl_of T.a__law_letters fun f fd F => by
  have C__law_draw := cl_draw (P := P) (w := w) (base := base) T
  refine F.ok sc__law_letters (fun vs H Q E h => ?_) (fun cdv A outer s H vs Q E hr h => ?_)
  · obtain ⟨D, L, v, rfl, _⟩ := h
    rfl
  · obtain ⟨D, L, n, rfl, hd, h0, h1, q⟩ := h
    refine ⟨_, (pss_cons (ps_par (i := 2) (j := 3) (by rfl) sc__law_letters.nd rfl rfl (by decide) rfl rfl (pa_cons (pe_callTy (call_listX rfl) (by rfl) T.m_list (by decide +kernel) (pa_cons (pe_strX [45, 46, 47, 48, 49, 50, 51, 52, 53, 54, 55, 56, 57, 95, 97, 98, 99, 100, 101, 102, 103, 104, 105, 106, 107, 108, 109, 110, 111, 112, 113, 114, 115, 116, 117, 118, 119, 120, 121, 122] (by decide +kernel)) pa_nil)) (pa_cons (pe_lst pa_nil) pa_nil)) (by rfl))
      (Evl.pss_cut (ps_for PassesOwn.never rfl (pi_range1 (by rfl) T.m_range (pa_cons (pe_op op_add pe_int (pe_cl C__law_draw (hr.mono (by decide)) (by rfl) (pa_cons (pv 0) (pa_cons (pe_op op_sub (pv 1) pe_int) pa_nil)))) pa_nil)) (pg_name (i := 4) sc__law_letters.nd rfl (Or.inl rfl))
      (pss_one (ps_expr (pe_bm PySem.F.plainAttrs_list PySem.F.slot_list_append PySem.F.type_list_append mt_append (pv 3) (pa_cons (pe_bm PySem.F.plainAttrs_list PySem.F.slot_list_pop PySem.F.type_list_pop mt_popAt (pv 2) (pa_cons (pe_cl C__law_draw (hr.mono (by decide)) (by rfl) (pa_cons (pv 0) (pa_cons (pe_callB call_lenQ (by rfl) T.m_len (by decide +kernel) (pa_cons (pv 2) pa_nil)) pa_nil))) pa_nil)) pa_nil)))))
      (pss_one (ps_ret (pe_bm PySem.F.plainAttrs_str PySem.F.slot_str_join PySem.F.type_str_join mt_joinX (pe_strX [] (by decide +kernel)) (pa_cons (pe_callB cr_sortedT (by rfl) T.m_sorted (by decide +kernel) (pa_cons (pe_lc (own := [("_law_sign", 5)]) (g := gName 5) (tt := tYes) (by rfl) sc__law_letters.nd (pi_list (pv 3)) (blkOk_by (own := [("_law_sign", 5)]) (N := n__law_letters) (sc := defScope s__law_letters) (by decide +kernel)) (fun _ _ _ _ _ => (pg_name (i := 5) sc__law_letters.nd rfl (Or.inl rfl))) (fun _ _ _ _ _ => pts_nil) (fun _ _ _ _ _ => (pe_callTy call_strS (by rfl) T.m_str (by decide +kernel) (pa_cons (pv 5) pa_nil)))) pa_nil)) pa_nil)))))), ?_⟩
    walk_at "rds"
    refine rd_listX (l := alphabet) (by decide) fun s ns => ?_
    have s1 : Same H (upd H s (.lst (sgs alphabet))) := same_upd ns
    have hs1 : upd H s (.lst (sgs alphabet)) s = some (.lst (sgs alphabet)) := upd_same
    generalize upd H s (.lst (sgs alphabet)) = H1 at *
    walk_at "rds"
    refine ⟨Nat.zero_le _, fun g ng => ?_⟩
    have s2 : Same H1 (upd H1 g (.lst [])) := same_upd ng
    have hg1 : upd H1 g (.lst []) g = some (.lst []) := upd_same
    have hs2 := s2 _ _ hs1
    have hgs : g ≠ s := (ne_of_none hs1 ng).symm
    have ng0 : H g = none := s1.free ng
    generalize upd H1 g (.lst []) = H2 at *
    walk_at "rds"
    have hd2 := hd.keep (s1.trans s2)
    have sH := s1.trans s2
    obtain ⟨cs, m, hD, hL, _⟩ := id hd
    have sD : s ≠ D := (ne_of_none hD ns).symm
    have sL : s ≠ L := (ne_of_none hL ns).symm
    have gD : g ≠ D := (ne_of_none hD ng0).symm
    have gL : g ≠ L := (ne_of_none hL ng0).symm
    clear hD hL
    refine rd_cut (fun σ' H' => ∃ (y : Option V) (fs : List Nat), σ' = [some (.ref D), some (.int n), some (.ref s), some (.ref g), y, none] ∧ 2 ≤ fs.length ∧ (fs.length : Int) ≤ n ∧ fs.Nodup ∧ (∀ c ∈ fs, c ∈ alphabet) ∧ Keep D L H H' ∧ Deal D L H' ∧ H' g = some (.lst (sgs fs))) ?_ ?_
    · walk_at "rds"
      refine ⟨D, L, _, rfl, hd2, by omega, by omega, fun k0 Hk hk01 hk02 kpk hdk => ?_⟩
      walk_at "rds"
      refine ⟨2 + k0, rfl, by omega, by omega, for_range (lo := 0) (n := (2 + k0).toNat) (fun i σ' H' => ∃ (y : Option V) (fs zs : List Nat), σ' = [some (.ref D), some (.int n), some (.ref s), some (.ref g), y, none] ∧ fs.length = i ∧ (zs ++ fs).Perm alphabet ∧ Keep D L H H' ∧ Deal D L H' ∧ H' g = some (.lst (sgs fs)) ∧ H' s = some (.lst (sgs zs)))
        ⟨none, [], alphabet, rfl, rfl, by rw [List.append_nil], (Keep.of_same sH).trans kpk, hdk, kpk _ _ hg1 gD gL, kpk _ _ hs2 sD sL⟩ ?_ ?_⟩
      · rintro i σ' H' hi ⟨y, fs, zs, rfl, hl, hp, kp, hd', hg', hs'⟩
        have hlen : zs.length + fs.length = 40 := by
          have := hp.length_eq
          rw [List.length_append] at this
          exact this
        walk_at "rds"
        refine rd_tyL (SqL.of hg') ?_
        walk_at "rds"
        refine rd_tyL (SqL.of hs') ?_
        walk_at "rds"
        refine rd_lenL (SqL.of hs') ?_
        walk_at "rds"
        rw [sgs_len]
        refine ⟨D, L, _, rfl, hd', by omega, by omega, fun k H3 hk1 hk2 kp3 hd3 => ?_⟩
        obtain ⟨j, rfl⟩ := Int.eq_ofNat_of_zero_le hk1
        have hj : j < zs.length := by omega
        have hs3 := kp3 _ _ hs' sD sL
        have hg3 := kp3 _ _ hg' gD gL
        walk_at "rds"
        refine rd_popAt (i := j) (y := V.str (tx [zs[j]])) hs3 (by omega) (by unfold sgs; rw [List.getElem?_map, List.getElem?_eq_getElem hj]; rfl) ?_
        rw [sgs_erase]
        have hd4 : Deal D L (upd H3 s (.lst (sgs (zs.eraseIdx j)))) := by
          obtain ⟨c1, m1, a1, a2, a3⟩ := hd3
          exact ⟨c1, m1, by rw [upd_ne sD.symm]; exact a1, by rw [upd_ne sL.symm]; exact a2, a3⟩
        have kp4 : Keep D L H (upd H3 s (.lst (sgs (zs.eraseIdx j)))) := (kp.trans kp3).mut ns
        have hg4 : upd H3 s (.lst (sgs (zs.eraseIdx j))) g = some (.lst (sgs fs)) := by rw [upd_ne hgs]; exact hg3
        have hs4 : upd H3 s (.lst (sgs (zs.eraseIdx j))) s = some (.lst (sgs (zs.eraseIdx j))) := upd_same
        generalize upd H3 s (.lst (sgs (zs.eraseIdx j))) = H4 at *
        walk_at "rds"
        refine rd_app hg4 (by rw [sgs_len]; exact small1000 (by omega)) ?_
        refine ⟨_, fs ++ [zs[j]], zs.eraseIdx j, rfl, by rw [List.length_append]; simp; exact hl, ?_, kp4.mut ng0, ?_, ?_, ?_⟩
        · have e1 := eraseIdx_perm (List.getElem?_eq_getElem hj)
          have e2 : (zs.eraseIdx j ++ (fs ++ [zs[j]])).Perm ((zs[j] :: zs.eraseIdx j) ++ fs) := by
            rw [← List.append_assoc]
            exact (List.perm_append_singleton _ _)
          exact e2.trans ((e1.append_right fs).trans hp)
        · obtain ⟨c1, m1, a1, a2, a3⟩ := hd4
          exact ⟨c1, m1, by rw [upd_ne gD.symm]; exact a1, by rw [upd_ne gL.symm]; exact a2, a3⟩
        · rw [upd_same]
          unfold sgs
          rw [List.map_append]
          rfl
        · rw [upd_ne hgs.symm]
          exact hs4
      · rintro σ' H' ⟨y, fs, zs, rfl, hl, hp, kp, hd', hg', hs'⟩
        have nd : (zs ++ fs).Nodup := hp.nodup_iff.mpr alphabet_nodup
        exact ⟨y, fs, rfl, by omega, by omega, (List.nodup_append.mp nd).2.1, fun c hc => hp.mem_iff.mp (List.mem_append_right _ hc), kp, hd', hg'⟩
    · rintro σ' H' ⟨y, fs, rfl, hl2, hl, nd, hmem, kp, hd', hg'⟩
      walk_at "rds"
      refine ⟨_, rfl, ⟨_, SqL.of hg'⟩, fun e ne => lc_list (K := K) (a := g) (xs := sgs fs) (fun i H3 => Same H' H3 ∧ H3 e = some (.lst (sgs (fs.take i)))) ⟨same_upd ne, upd_same⟩ (fun i H3 _ h => SqL.of (h.1 _ _ hg')) ?_ ?_⟩
      · rintro i x H3 hx ⟨s3, he⟩
        obtain ⟨c, hc, rfl⟩ := get_map hx
        have hl' : i < fs.length := (List.getElem?_eq_some_iff.mp hc).1
        walk_at "rds"
        refine ⟨rfl, ?_⟩
        walk_at "rds"
        refine rd_ite (fun _ => ?_) (fun h => by cases h)
        walk_at "rds"
        refine ⟨_, he, by rw [sgs_len, List.length_take]; exact small1000 (by omega), same_mut s3 ne, ?_⟩
        rw [upd_same]
        unfold sgs
        rw [take_snoc _ hc]
      · rintro H3 ⟨s3, he⟩
        rw [sgs_len, List.take_length] at he
        have he' : H3 e = some (.lst ((fs.map fun c => tx [c]).map V.str)) := by rw [he, List.map_map]; rfl
        walk_at "rds"
        refine ⟨e, _, rfl, SqL.of he', fun ys p hp hso np => ?_⟩
        obtain ⟨ks, rfl, hk, hlt⟩ := sorted_signs hp hso nd
        walk_at "rds"
        refine rd_joinX (ls := ks.map fun c => [c]) (SqL.of (by rw [upd_same, List.map_map, List.map_map]; rfl)) ?_ ?_
        · have : (List.map List.length (ks.map fun c => [c])).sum = ks.length := by
            rw [List.map_map]
            have : (List.length ∘ fun c : Nat => [c]) = fun _ => 1 := rfl
            rw [this, List.map_const', List.sum_replicate_nat]
            omega
          rw [this, hk.length_eq]
          omega
        · rw [flat_ones]
          have kp3 : Keep D L H (upd H3 p (.lst ((ks.map fun c => tx [c]).map V.str))) := kp.trans (Keep.of_same (s3.trans (same_upd np)))
          exact q ks _ (by rw [hk.length_eq]; exact hl2) (by rw [hk.length_eq]; exact hl) hlt (fun c hc => hmem c (hk.mem_iff.mp hc)) kp3 (hd'.keep (s3.trans (same_upd np)))
end

section
variable {P : Program} {w : World} {K : PySem.W.Frag} {mg : Str → Option Value} {base : Heap}
def spText : Sp := fun vs H Q _ => ∃ (D L : Addr) (ls : List Nat) (n : Int), vs = [.ref D, .str (tx ls), .int n] ∧ Deal D L H ∧ ls ≠ [] ∧ ls.length ≤ 100 ∧ 0 ≤ n ∧ n ≤ 100 ∧
  ∀ (t : List Nat) (H' : Hp), (∀ c ∈ t, c ∈ ls) → (t.length : Int) ≤ n → Keep D L H H' → Deal D L H' → Q (.str (tx t)) H'
theorem cl_text (T : Txt K mg) : Cl P w K mg base "_law_text" ["_law_deal_here", "_law_letters_here", "_law_most"] 3 spText := cl_of T.a__law_text fun f fd F => by
  have C__law_draw := cl_draw (P := P) (w := w) (base := base) T
  have C__law_pick := cl_pick (P := P) (w := w) (base := base) T
  refine F.ok sc__law_text (fun vs H Q E h => ?_) (fun cdv A outer s H vs Q E hr h => ?_)
  · obtain ⟨D, L, ls, n, rfl, _⟩ := h
    rfl
  · obtain ⟨D, L, ls, n, rfl, hd, hne, hls, h0, h1, q⟩ := h
    have hpos : 0 < ls.length := List.length_pos_iff.mpr hne
    refine ⟨_, (pss_cons (ps_par (i := 3) (j := 4) (by rfl) sc__law_text.nd rfl rfl (by decide) rfl rfl (pa_cons (pe_cl C__law_draw (hr.mono (by decide)) (by rfl) (pa_cons (pv 0) (pa_cons (pe_op op_add (pv 2) pe_int) pa_nil))) (pa_cons (pe_cl C__law_draw (hr.mono (by decide)) (by rfl) (pa_cons (pv 0) (pa_cons pe_int pa_nil))) pa_nil)) (by rfl))
      (pss_cons (ps_set (i := 5) sc__law_text.nd rfl (Or.inl rfl) (pe_ix ix_list (pe_lst (pa_cons (pv 3) (pa_cons (pv 3) (pa_cons pe_int (pa_cons pe_int pa_nil))))) (pv 4) (fun _ _ => rfl)))
      (pss_cons (ps_set (i := 6) sc__law_text.nd rfl (Or.inl rfl) (pe_bm PySem.F.plainAttrs_str PySem.F.slot_str_join PySem.F.type_str_join mt_joinX (pe_strX [] (by decide +kernel)) (pa_cons (pe_lc (own := [("_law_k", 7)]) (g := gName 7) (tt := tYes) (by rfl) sc__law_text.nd (pi_range1 (by rfl) T.m_range (pa_cons (pv 5) pa_nil)) (blkOk_by (own := [("_law_k", 7)]) (N := n__law_text) (sc := defScope s__law_text) (by decide +kernel)) (fun _ _ _ _ _ => (pg_name (i := 7) sc__law_text.nd rfl (Or.inl rfl))) (fun _ _ _ _ _ => pts_nil) (fun _ _ _ _ _ => (pe_cl C__law_pick (hr.mono (by decide)) (by rfl) (pa_cons (pv 0) (pa_cons (pv 1) pa_nil))))) pa_nil)))
      (pss_one (ps_ret (pe_ifExp (pt_cmpR op_lt (pv 4) pe_int (nomark _)) (pv 6) (pe_slice sl_strX (pe_op op_mulT (pv 6) (pv 3)) po_none (po_some (pv 3))))))))), ?_⟩
    walk_at "rds"
    refine ⟨D, L, _, rfl, hd, by omega, by omega, fun k H1 hk1 hk2 kp hd1 => ?_⟩
    walk_at "rds"
    refine ⟨D, L, _, rfl, hd1, by omega, by decide, fun fo H2 hf1 hf2 kp2 hd2 => ?_⟩
    walk_at "rds"
    refine ⟨by show 4 ≤ sizeLine; decide, fun p hp => ?_⟩
    obtain ⟨m, hm, hm0, hm1, hmf⟩ : ∃ m, atI [V.int k, V.int k, V.int 1, V.int 2] fo = some (.int m) ∧ 0 ≤ m ∧ m ≤ 101 ∧ (fo < 2 → m = k) := by
      rcases (show fo = 0 ∨ fo = 1 ∨ fo = 2 ∨ fo = 3 by omega) with rfl | rfl | rfl | rfl
      · exact ⟨k, rfl, hk1, by omega, fun _ => rfl⟩
      · exact ⟨k, rfl, hk1, by omega, fun _ => rfl⟩
      · exact ⟨1, rfl, by omega, by omega, fun h => by omega⟩
      · exact ⟨2, rfl, by omega, by omega, fun h => by omega⟩
    have s3 : Same H2 (upd H2 p (.lst [.int k, .int k, .int 1, .int 2])) := same_upd hp
    walk_at "rds"
    refine rd_ixL (SqL.of upd_same) hm ?_
    walk_at "rds"
    have hd3 := hd2.keep s3
    have kp3 := (kp.trans kp2).trans (Keep.of_same s3)
    generalize upd H2 p (.lst [.int k, .int k, .int 1, .int 2]) = H3 at hd3 kp3 ⊢
    clear s3 hd2 hd1 kp kp2
    refine ⟨m, rfl, by omega, by omega, fun e ne => lc_range (lo := 0) (n := m.toNat) (fun i H4 => ∃ t : List Nat, t.length = i ∧ (∀ c ∈ t, c ∈ ls) ∧ Keep D L H3 H4 ∧ Deal D L H4 ∧ H4 e = some (.lst (sgs t))) ⟨[], rfl, (fun _ h => by cases h), Keep.of_same (same_upd ne), hd3.keep (same_upd ne), upd_same⟩ ?_ ?_⟩
    · rintro i H4 hi ⟨t, ht, hmem, kp4, hd4, he⟩
      obtain ⟨cs, mm, hD, hL, _⟩ := id hd3
      have eD : e ≠ D := (ne_of_none hD ne).symm
      have eL : e ≠ L := (ne_of_none hL ne).symm
      walk_at "rds"
      refine ⟨rfl, ?_⟩
      walk_at "rds"
      refine rd_ite (fun _ => ?_) (fun h => by cases h)
      walk_at "rds"
      refine ⟨D, L, _, sgs ls, rfl, hd4, .inr ⟨ls, rfl, rfl⟩, by rw [sgs_len]; exact hpos, by rw [sgs_len]; omega, fun x H5 hx kp5 hd5 => ?_⟩
      obtain ⟨c, hc, rfl⟩ := List.mem_map.mp hx
      have he4 := kp5 _ _ he eD eL
      refine ⟨_, he4, by rw [sgs_len]; exact small1000 (by omega), t ++ [c], by simp [ht], ?_, (kp4.trans kp5).mut ne, ?_, ?_⟩
      · intro d hd'
        rcases List.mem_append.mp hd' with h | h
        · exact hmem d h
        · rw [List.mem_singleton.mp h]; exact hc
      · obtain ⟨c1, m1, a1, a2, a3⟩ := hd5
        exact ⟨c1, m1, by rw [upd_ne eD.symm]; exact a1, by rw [upd_ne eL.symm]; exact a2, a3⟩
      · rw [upd_same]
        unfold sgs
        rw [List.map_append]
        rfl
    · rintro H4 ⟨t, ht, hmem, kp4, hd4, he⟩
      walk_at "rds"
      refine rd_joinX (ls := t.map fun c => [c]) (SqL.of (by rw [he, List.map_map]; rfl)) ?_ ?_
      · have : (List.map List.length (t.map fun c => [c])).sum = t.length := by
          rw [List.map_map]
          have : (List.length ∘ fun c : Nat => [c]) = fun _ => 1 := rfl
          rw [this, List.map_const', List.sum_replicate_nat]
          omega
        rw [this]
        omega
      · rw [flat_ones]
        walk_at "rds"
        refine rd_ite (fun hf => ?_) (fun hf => ?_)
        · have e1 := hmf (of_decide_eq_true hf)
          walk_at "rds"
          exact q t _ hmem (by omega) (kp3.trans kp4) hd4
        · walk_at "rds"
          obtain ⟨j, rfl⟩ := Int.eq_ofNat_of_zero_le hk1
          have hml : t.length * j ≤ 101 * 101 := Nat.mul_le_mul (by omega) (by omega)
          refine rd_mulX (by omega) (by omega) (by rw [Int.toNat_natCast]; omega) ?_
          walk_at "rds"
          rw [Int.toNat_natCast]
          refine rd_slX (by rw [reps_len, Nat.mul_comm]; exact Nat.le_trans hml (by decide)) ?_
          rw [cutL_take]
          exact q _ _ (fun c hc => hmem c (reps_mem (List.mem_of_mem_take hc))) (by rw [List.length_take]; omega) (kp3.trans kp4) hd4
def spValue : Sp := fun vs H Q _ => ∃ D L : Addr, vs = [.ref D] ∧ Deal D L H ∧ ∀ (v : Int) (H' : Hp), 0 ≤ v → v < 10 ^ 18 → Keep D L H H' → Deal D L H' → Q (.int v) H'
theorem cl_value (T : Txt K mg) : Cl P w K mg base "_law_value" ["_law_deal_here"] 2 spValue := cl_of T.a__law_value fun f fd F => by
  have C__law_draw := cl_draw (P := P) (w := w) (base := base) T
  refine F.ok sc__law_value (fun vs H Q E h => ?_) (fun cdv A outer s H vs Q E hr h => ?_)
  · obtain ⟨D, L, rfl, _⟩ := h
    rfl
  · obtain ⟨D, L, rfl, hd, q⟩ := h
    refine ⟨_, (pss_cons (ps_set (i := 1) sc__law_value.nd rfl (Or.inl rfl) (pe_cl C__law_draw (hr.mono (by decide)) (by rfl) (pa_cons (pv 0) (pa_cons pe_int pa_nil))))
      (pss_cons (ps_if (pt_cmpR op_eq (pv 1) pe_int (nomark _))
      (pss_one (ps_ret (pe_op op_sub (pe_op op_sub (pe_op op_pow pe_int pe_int) pe_int) (pe_cl C__law_draw (hr.mono (by decide)) (by rfl) (pa_cons (pv 0) (pa_cons pe_int pa_nil))))))
      pss_nil)
      (pss_one (ps_ret (pe_ix ix_list (pe_lst (pa_cons (pe_cl C__law_draw (hr.mono (by decide)) (by rfl) (pa_cons (pv 0) (pa_cons pe_int pa_nil))) (pa_cons (pe_cl C__law_draw (hr.mono (by decide)) (by rfl) (pa_cons (pv 0) (pa_cons pe_int pa_nil))) pa_nil))) (pe_callTy call_intB (by rfl) T.m_int (by decide +kernel) (pa_cons (pe_cmpR op_eq (pv 1) pe_int (nomark _)) pa_nil)) (fun _ _ => rfl)))))), ?_⟩
    walk_at "rds"
    refine ⟨D, L, _, rfl, hd, by decide, by decide, fun k H1 hk1 hk2 kp hd1 => ?_⟩
    walk_at "rds"
    have e5 : decide (V.int k = V.int 5) = decide (k = 5) := by
      rw [decide_eq_decide]
      exact ⟨fun h => V.int.inj h, fun h => by rw [h]⟩
    rw [e5]
    refine rd_ite (fun h5 => ?_) (fun h5 => ?_)
    · walk_at "rds"
      refine rd_I ⟨by decide, by decide, by decide⟩ ?_
      walk_at "rds"
      refine ⟨D, L, _, rfl, hd1, by decide, by decide, fun j H2 hj1 hj2 kp2 hd2 => ?_⟩
      walk_at "rds"
      have e18 : ((10 : Int) ^ (18 : Int).toNat) = 10 ^ 18 := rfl
      exact q _ _ (by rw [e18]; omega) (by rw [e18]; omega) (kp.trans kp2) hd2
    · walk_at "rds"
      refine ⟨D, L, _, rfl, hd1, by decide, by decide, fun j H2 hj1 hj2 kp2 hd2 => ?_⟩
      walk_at "rds"
      refine ⟨D, L, _, rfl, hd2, by decide, by decide, fun i H3 hi1 hi2 kp3 hd3 => ?_⟩
      walk_at "rds"
      refine ⟨by show 2 ≤ sizeLine; decide, fun p hp => ?_⟩
      walk_at "rds"
      have s4 : Same H3 (upd H3 p (.lst [.int j, .int i])) := same_upd hp
      have kp4 := ((kp.trans kp2).trans kp3).trans (Keep.of_same s4)
      have hd4 := hd3.keep s4
      have hcases : ∀ b : Bool, ∃ v : Int, atI [V.int j, V.int i] (if b = true then 1 else 0) = some (.int v) ∧ 0 ≤ v ∧ v < 10 ^ 18 := fun b => by
        cases b
        · exact ⟨j, rfl, hj1, by omega⟩
        · exact ⟨i, rfl, hi1, by omega⟩
      obtain ⟨v, hv, hv0, hv1⟩ := hcases (decide (V.int k = V.int 4))
      refine rd_ixL (SqL.of upd_same) hv ?_
      exact q v _ hv0 hv1 kp4 hd4
end

--E _law_mixed
section
variable {P : Program} {w : World} {K : PySem.W.Frag} {mg : Str → Option Value} {base : Heap}
def spMixed (K : PySem.W.Frag) : Sp := fun vs H Q _ => ∃ (D L a : Addr) (us : List V), vs = [.ref D, .ref a] ∧ Deal D L H ∧ SqL K H a us ∧ us.length ≤ 1000 ∧ ∀ (ws : List V) (r : Addr) (H' : Hp), ws.Perm us → Keep D L H H' → Deal D L H' → H r = none → H' r = some (.lst ws) → Q (.ref r) H'
theorem cl_mixed (T : Txt K mg) : Cl P w K mg base "_law_mixed" ["_law_deal_here", "_law_some"] 2 (spMixed K) := cl_of T.a__law_mixed fun f fd F => by
  have C__law_draw := cl_draw (P := P) (w := w) (base := base) T
  refine F.ok sc__law_mixed (fun vs H Q E h => ?_) (fun cdv A outer s H vs Q E hr h => ?_)
  · obtain ⟨D, L, a, us, rfl, _⟩ := h
    rfl
  · obtain ⟨D, L, a, us, rfl, hd, ha, hl, q⟩ := h
    refine ⟨_, (pss_cons (ps_par (i := 2) (j := 3) (by rfl) sc__law_mixed.nd rfl rfl (by decide) rfl rfl (pa_cons (pe_callTy call_listQ (by rfl) T.m_list (by decide +kernel) (pa_cons (pv 1) pa_nil)) (pa_cons (pe_lst pa_nil) pa_nil)) (by rfl))
      (Evl.pss_cut (ps_while PassesOwn.never (pt_cmpR (op_neE hr.units) (pv 2) (pe_lst pa_nil) (nomark _))
      (pss_one (ps_expr (pe_bm PySem.F.plainAttrs_list PySem.F.slot_list_append PySem.F.type_list_append mt_append (pv 3) (pa_cons (pe_bm PySem.F.plainAttrs_list PySem.F.slot_list_pop PySem.F.type_list_pop mt_popAt (pv 2) (pa_cons (pe_cl C__law_draw (hr.mono (by decide)) (by rfl) (pa_cons (pv 0) (pa_cons (pe_callB call_lenQ (by rfl) T.m_len (by decide +kernel) (pa_cons (pv 2) pa_nil)) pa_nil))) pa_nil)) pa_nil)))))
      (pss_one (ps_ret (pv 3))))), ?_⟩
    walk_at "rds"
    refine ⟨a, us, rfl, .inl ha, fun s ns => ?_⟩
    have s1 : Same H (upd H s (.lst us)) := same_upd ns
    have hs1 : upd H s (.lst us) s = some (.lst us) := upd_same
    generalize upd H s (.lst us) = H1 at *
    walk_at "rds"
    refine ⟨Nat.zero_le _, fun g ng => ?_⟩
    have s2 : Same H1 (upd H1 g (.lst [])) := same_upd ng
    have hg1 : upd H1 g (.lst []) g = some (.lst []) := upd_same
    have hs2 := s2 _ _ hs1
    have hgs : g ≠ s := (ne_of_none hs1 ng).symm
    have ng0 : H g = none := s1.free ng
    generalize upd H1 g (.lst []) = H2 at *
    walk_at "rds"
    have hd2 := hd.keep (s1.trans s2)
    have sH := s1.trans s2
    obtain ⟨cs, m, hD, hL, _⟩ := id hd
    have sD : s ≠ D := (ne_of_none hD ns).symm
    have sL : s ≠ L := (ne_of_none hL ns).symm
    have gD : g ≠ D := (ne_of_none hD ng0).symm
    have gL : g ≠ L := (ne_of_none hL ng0).symm
    clear hD hL
    refine rd_cut (fun σ' H' => ∃ fs, σ' = [some (.ref D), some (.ref a), some (.ref s), some (.ref g)] ∧ fs.Perm us ∧ Keep D L H H' ∧ Deal D L H' ∧ H' g = some (.lst fs)) ?_ ?_
    · refine ⟨fun k σ' H' => ∃ fs xs, σ' = [some (.ref D), some (.ref a), some (.ref s), some (.ref g)] ∧ xs.length = k ∧ (xs ++ fs).Perm us ∧ Keep D L H H' ∧ Deal D L H' ∧ H' g = some (.lst fs) ∧ H' s = some (.lst xs), ⟨us.length, [], us, rfl, rfl, by rw [List.append_nil], Keep.of_same sH, hd2, hg1, hs2⟩, ?_⟩
      rintro k σ' H' ⟨fs, xs, rfl, rfl, hp, kp, hd', hg', hs'⟩
      walk_at "rds"
      refine ⟨Nat.zero_le _, fun e he => ?_⟩
      have s3 : Same H' (upd H' e (.lst [])) := same_upd he
      refine rd_neE (SqL.of (s3 _ _ hs')) (SqL.of upd_same) ?_
      have hg3 := s3 _ _ hg'
      have hs3 := s3 _ _ hs'
      have hd3 := hd'.keep s3
      have kp3 := kp.trans (Keep.of_same s3)
      generalize upd H' e (.lst []) = H3 at *
      have hlen := hp.length_eq
      rw [List.length_append] at hlen
      walk_at "rds"
      refine rd_ite (fun hb => ?_) (fun hb => ?_)
      · have hpos : 0 < xs.length := by
          cases xs with
          | nil => cases hb
          | cons x r => simp
        refine ⟨fun σ' H' => ∃ fs zs, σ' = [some (.ref D), some (.ref a), some (.ref s), some (.ref g)] ∧ zs.length < xs.length ∧ (zs ++ fs).Perm us ∧ Keep D L H H' ∧ Deal D L H' ∧ H' g = some (.lst fs) ∧ H' s = some (.lst zs), ?_, ?_⟩
        · rintro σ2 H4 ⟨f2, z2, e1, e2, e3⟩
          exact ⟨z2.length, e2, f2, z2, e1, rfl, e3⟩
        · walk_at "rds"
          refine rd_tyL (SqL.of hg3) ?_
          walk_at "rds"
          refine rd_tyL (SqL.of hs3) ?_
          walk_at "rds"
          refine rd_lenL (SqL.of hs3) ?_
          walk_at "rds"
          refine ⟨D, L, _, rfl, hd3, by omega, by omega, fun k H4 hk1 hk2 kp4 hd4 => ?_⟩
          obtain ⟨j, rfl⟩ := Int.eq_ofNat_of_zero_le hk1
          have hj : j < xs.length := by omega
          have hs4 := kp4 _ _ hs3 sD sL
          have hg4 := kp4 _ _ hg3 gD gL
          walk_at "rds"
          refine rd_popAt (i := j) (y := xs[j]) hs4 (by omega) (List.getElem?_eq_getElem hj) ?_
          have hd5 : Deal D L (upd H4 s (.lst (xs.eraseIdx j))) := by
            obtain ⟨c1, m1, a1, a2, a3⟩ := hd4
            exact ⟨c1, m1, by rw [upd_ne sD.symm]; exact a1, by rw [upd_ne sL.symm]; exact a2, a3⟩
          have kp5 : Keep D L H (upd H4 s (.lst (xs.eraseIdx j))) := (kp3.trans kp4).mut ns
          have hg5 : upd H4 s (.lst (xs.eraseIdx j)) g = some (.lst fs) := by rw [upd_ne hgs]; exact hg4
          have hs5 : upd H4 s (.lst (xs.eraseIdx j)) s = some (.lst (xs.eraseIdx j)) := upd_same
          generalize upd H4 s (.lst (xs.eraseIdx j)) = H5 at *
          walk_at "rds"
          refine rd_app hg5 (small1000 (by omega)) ?_
          have hel : (xs.eraseIdx j).length < xs.length := by
            rw [List.length_eraseIdx]
            split <;> omega
          refine ⟨fs ++ [xs[j]], xs.eraseIdx j, rfl, hel, ?_, kp5.mut ng0, ?_, ?_, ?_⟩
          · have e1 := eraseIdx_perm (List.getElem?_eq_getElem hj)
            have e2 : (xs.eraseIdx j ++ (fs ++ [xs[j]])).Perm ((xs[j] :: xs.eraseIdx j) ++ fs) := by
              rw [← List.append_assoc]
              exact (List.perm_append_singleton _ _)
            exact e2.trans ((e1.append_right fs).trans hp)
          · obtain ⟨c1, m1, a1, a2, a3⟩ := hd5
            exact ⟨c1, m1, by rw [upd_ne gD.symm]; exact a1, by rw [upd_ne gL.symm]; exact a2, a3⟩
          · exact upd_same
          · rw [upd_ne hgs.symm]
            exact hs5
      · have hx : xs = [] := by
          cases xs with
          | nil => rfl
          | cons x r => cases hb
        subst hx
        exact ⟨fs, rfl, hp, kp3, hd3, hg3⟩
    · rintro σ' H' ⟨fs, rfl, hp, kp, hd', hg'⟩
      walk_at "rds"
      exact q fs g _ hp kp hd' ng0 hg'
/-- [str(one) for one in table]: what the list holds at each turn -/
def KL (H : Hp) (d e : Addr) (od : Obj) (m : Tab) (i : Nat) (H' : Hp) : Prop := (∀ b o, H b = some o → b ≠ d → H' b = some o) ∧ H' d = some (.frz od (.dK (encT m))) ∧ H' e = some (.lst (((keysT m).take i).map fun k => V.str (tx k)))
theorem KL.step {H : Hp} {d e : Addr} {od : Obj} {m : Tab} {i : Nat} {H' : Hp} {key : List Nat} (h : KL H d e od m i H') (ne : upd H d (.frz od (.dK (encT m))) e = none) (hm : m.length ≤ 1000) (hk : (keysT m)[i]? = some key) :
    ∃ acc, H' e = some (.lst acc) ∧ acc.length < sizeLine ∧ KL H d e od m (i + 1) (upd H' e (.lst (acc ++ [.str (tx key)]))) := by
  obtain ⟨k1, k2, k3⟩ := h
  have hed : e ≠ d := fun z => by
    rw [z, upd_same] at ne
    cases ne
  have hee : H e = none := by
    rw [upd_ne hed] at ne
    exact ne
  have hkl := keys_len m
  refine ⟨_, k3, by rw [List.length_map, List.length_take]; exact small1000 (by omega), fun b o hb hbd => ?_, ?_, ?_⟩
  · have hbe : b ≠ e := fun z => by
      rw [z, hee] at hb
      cases hb
    rw [upd_ne hbe]
    exact k1 b o hb hbd
  · rw [upd_ne hed.symm]
    exact k2
  · rw [upd_same, List.take_add_one, hk, Option.toList_some, List.map_append]
    rfl
theorem strs_of_keys {H : Hp} {d e : Addr} {m : Tab} {od : Obj} {g : TG} {tt : TT} {te : TE} {vs : List Nat} {σ : L2.St} {Qd : Hp → Prop} (hd : H d = some (.dK (encT m))) (ne : upd H d (.frz od (.dK (encT m))) e = none)
    (hq : ∀ H2, Same H H2 → H2 e = some (.lst ((keysT m).map fun k => V.str (tx k))) → ∀ H3, H3 d = some (.frz od (.dK (encT m))) → upd H3 d (.dK (encT m)) = H2 → Qd H3)
    (hs : ∀ i key H2, (keysT m)[i]? = some key → KL H d e od m i H2 → g (.str (tx key)) (wipe σ vs) H2 fun σ2 H2 => wipe σ2 vs = wipe σ vs ∧ tt σ2 H2 fun b H3 =>
      if b = true then te σ2 H3 fun y H4 => ∃ acc, H4 e = some (.lst acc) ∧ acc.length < sizeLine ∧ KL H d e od m (i + 1) (upd H4 e (.lst (acc ++ [y]))) else KL H d e od m (i + 1) H3) :
    ∃ W : Nat → Nat → Hp → Prop, (∃ n, W 0 n (upd (upd H d (.frz od (.dK (encT m)))) e (.lst []))) ∧ ∀ i n H, W i n H →
      ((Itk d od (encT m)).stop i H ∧ Qd H) ∨ ((Itk d od (encT m)).go i H ∧ ∃ Nx : Hp → Prop, (∀ H', Nx H' → ∃ m', m' < n ∧ W (i + 1) m' H') ∧ ∀ x H', (Itk d od (encT m)).yld i H x H' → g x (wipe σ vs) H' fun σ2 H2 => wipe σ2 vs = wipe σ vs ∧ tt σ2 H2 fun b H3 =>
        if b = true then te σ2 H3 fun y H4 => ∃ acc, H4 e = some (.lst acc) ∧ acc.length < sizeLine ∧ Nx (upd H4 e (.lst (acc ++ [y]))) else Nx H3) := by
  have hed : e ≠ d := fun z => by
    rw [z, upd_same] at ne
    cases ne
  have hee : H e = none := by
    rw [upd_ne hed] at ne
    exact ne
  refine lc_it walk_keys (fun i H' => KL H d e od m i H') ⟨fun b o hb hbd => ?_, ?_, ?_⟩ (fun i H' _ h => h.2.1) ?_ ?_
  · have hbe : b ≠ e := fun z => by
      rw [z, hee] at hb
      cases hb
    rw [upd_ne hbe, upd_ne hbd]
    exact hb
  · rw [upd_ne hed.symm, upd_same]
  · exact upd_same
  · rintro i x H1 H2 hi hK ⟨rfl, k, v, hk, rfl⟩
    obtain ⟨key, hkey, rfl⟩ := keys_at hk
    exact hs i key _ hkey hK
  · rintro H3 ⟨k1, k2, k3⟩
    rw [encT_len, ← keys_len, List.take_length] at k3
    refine hq _ (fun b o hb => ?_) (by rw [upd_ne hed]; exact k3) H3 k2 rfl
    by_cases hbd : b = d
    · subst hbd
      rw [upd_same]
      rw [hd] at hb
      exact hb
    · rw [upd_ne hbd]
      exact k1 b o hb hbd
def spSpots : Sp := fun vs H Q _ => ∃ (d : Addr) (m : Tab) (lo : List Nat) (hi af : Option (List Nat)), vs = [.ref d, .str (tx lo), bnd hi, bnd af] ∧ H d = some (.dK (encT m)) ∧ m.length ≤ 1000 ∧
  ∀ ks r H', KR m lo hi af ks → Same H H' → H r = none → H' r = some (.lst (ks.map fun k => V.str (tx k))) → Q (.ref r) H'
theorem cl_spots (T : Txt K mg) : Cl P w K mg base "_law_spots" ["_law_table", "_law_low", "_law_high", "_law_limit"] 1 spSpots := cl_of T.a__law_spots fun f fd F => by
  refine F.ok sc__law_spots (fun vs H Q E h => ?_) (fun cdv A outer s H vs Q E hr h => ?_)
  · obtain ⟨d, m, lo, hi, af, rfl, _⟩ := h
    rfl
  · obtain ⟨d, m, lo, hi', af, rfl, hd, hm, q⟩ := h
    refine ⟨_, (pss_cons (ps_set (i := 4) sc__law_spots.nd rfl (Or.inl rfl) (pe_callB cr_sortedT (by rfl) T.m_sorted (by decide +kernel) (pa_cons (pe_lock (pe_lc (own := [("_law_one", 7)]) (g := gName 7) (tt := tYes) (by rfl) sc__law_spots.nd (pi_keys (pv 0)) (blkOk_by (own := [("_law_one", 7)]) (N := n__law_spots) (sc := defScope s__law_spots) (by decide +kernel)) (fun _ _ _ _ _ => (pg_name (i := 7) sc__law_spots.nd rfl (Or.inl rfl))) (fun _ _ _ _ _ => pts_nil) (fun _ _ _ _ _ => (pe_callTy call_strS (by rfl) T.m_str (by decide +kernel) (pa_cons (pv 7) pa_nil))))) pa_nil)))
      (pss_cons (ps_setLc (i := 5) (own := [("_law_key", 6)]) (g := gName 6) (by rfl) sc__law_spots.nd rfl rfl (sw_true rfl rfl rfl (by decide +kernel)) (pi_list (pv 4)) (blkOk_by (own := [("_law_key", 6)]) (N := n__law_spots) (sc := defScope s__law_spots) (by decide +kernel)) (fun _ _ _ _ _ => (pg_name (i := 6) sc__law_spots.nd rfl (Or.inl rfl))) (fun _ _ _ _ _ => (pts_one (PW.pt (pw_and (pt_cmpR op_leX (pv 1) (pv 6) (nomark _)) (pw_and1 (PW.pt (pw_or (pt_cmpR op_isN' (pv 2) pe_non (nomark _)) (pw_or1 (pt_cmpR op_ltX (pv 6) (pv 2) (nomark _)))))))))) (fun _ _ _ _ _ => (pv 6)))
      (pss_one (ps_ret (pe_lc (own := [("_law_key", 6)]) (g := gName 6) (by rfl) sc__law_spots.nd (pi_list (pv 5)) (blkOk_by (own := [("_law_key", 6)]) (N := n__law_spots) (sc := defScope s__law_spots) (by decide +kernel)) (fun _ _ _ _ _ => (pg_name (i := 6) sc__law_spots.nd rfl (Or.inl rfl))) (fun _ _ _ _ _ => (pts_one (PW.pt (pw_or (pt_cmpR op_isN' (pv 3) pe_non (nomark _)) (pw_or1 (pt_cmpR op_gtX (pv 6) (pv 3) (nomark _))))))) (fun _ _ _ _ _ => (pv 6))))))), ?_⟩
    walk_at "rds"
    refine Un.rd_lock hd trivial fun od => ?_
    walk_at "rds"
    refine ⟨d, od, rfl, .inl ⟨_, upd_same, fun e ne => ?_⟩⟩
    refine strs_of_keys hd ne (fun H2 s2 e2 H3 k3 eH => ⟨k3, ?_⟩) ?_
    · rw [eH]
      clear eH k3 ne
      walk_at "rds"
      refine rd_sortT (SqL.of e2) (fun js p hjs hjp hp => ?_)
      have sp3 : Same H (upd H2 p (.lst (js.map fun k => V.str (tx k)))) := same_trans s2 (same_upd hp)
      have hp3 : upd H2 p (.lst (js.map fun k => V.str (tx k))) p = some (.lst (js.map fun k => V.str (tx k))) := upd_same
      generalize upd H2 p (.lst (js.map fun k => V.str (tx k))) = H4 at sp3 hp3 ⊢
      have hjl : js.length ≤ 1000 := by
        rw [hjs.length_eq, keys_len]
        exact hm
      walk_at "rds"
      refine ⟨_, rfl, ⟨_, SqL.of hp3⟩, fun g ng => lc_list (K := K) (a := p) (xs := js.map fun k => V.str (tx k)) (fun i H' => Same H4 H' ∧ H' g = some (.lst (((js.take i).filter (fun k => !decide (k < lo) && upB hi' k)).map fun k => V.str (tx k)))) ⟨same_upd ng, upd_same⟩ (fun i H' _ h => SqL.of (h.1 _ _ hp3)) ?_ ?_⟩
      · rintro i x H5 hx ⟨s5, h5⟩
        obtain ⟨key, hk, rfl⟩ := get_map hx
        have hfl := filt_len js i (fun k => !decide (k < lo) && upB hi' k)
        walk_at "rds"
        refine ⟨rfl, ?_⟩
        walk_at "rds"
        refine rd_ite (fun h1 => ?_) (fun h1 => ?_)
        · refine rd_up rfl rfl ?_
          refine rd_ite (fun h2 => ?_) (fun h2 => ?_)
          · walk_at "rds"
            refine ⟨_, h5, by rw [List.length_map]; exact small1000 (by omega), same_mut s5 ng, ?_⟩
            rw [upd_same, filt_snoc hk (by rw [h1, h2]; rfl), List.map_append]
            rfl
          · refine ⟨s5, ?_⟩
            rw [filt_skip hk (by rw [h1, h2]; rfl)]
            exact h5
        · refine ⟨s5, ?_⟩
          rw [filt_skip hk (by rw [h1]; rfl)]
          exact h5
      · rintro H5 ⟨s5, h5⟩
        rw [List.length_map, List.take_length] at h5
        have sp5 := same_trans sp3 s5
        have hfl : (js.filter (fun k => !decide (k < lo) && upB hi' k)).length ≤ 1000 := Nat.le_trans (List.length_filter_le _ _) hjl
        generalize hJ : js.filter (fun k => !decide (k < lo) && upB hi' k) = qs at h5 hfl
        walk_at "rds"
        refine ⟨_, rfl, ⟨_, SqL.of h5⟩, fun g2 ng2 => lc_list (K := K) (a := g) (xs := qs.map fun k => V.str (tx k)) (fun i H' => Same H5 H' ∧ H' g2 = some (.lst (((qs.take i).filter (afB af)).map fun k => V.str (tx k)))) ⟨same_upd ng2, upd_same⟩ (fun i H' _ h => SqL.of (h.1 _ _ h5)) ?_ ?_⟩
        · rintro i x H6 hx ⟨s6, h6⟩
          obtain ⟨key, hk, rfl⟩ := get_map hx
          have hfl2 := filt_len qs i (afB af)
          walk_at "rds"
          refine ⟨rfl, rd_af rfl rfl ?_⟩
          refine rd_ite (fun h2 => ?_) (fun h2 => ?_)
          · walk_at "rds"
            refine ⟨_, h6, by rw [List.length_map]; exact small1000 (by omega), same_mut s6 ng2, ?_⟩
            rw [upd_same, filt_snoc hk h2, List.map_append]
            rfl
          · refine ⟨s6, ?_⟩
            rw [filt_skip hk h2]
            exact h6
        · rintro H6 ⟨s6, h6⟩
          rw [List.length_map, List.take_length] at h6
          refine q (qs.filter (afB af)) g2 H6 ⟨?_, ?_⟩ (same_trans sp5 s6) (same_none sp5 ng2) h6
          · have e1 : qs.filter (afB af) = js.filter (inR lo hi' af) := by
              rw [← hJ, List.filter_filter]
              congr 1
              funext k
              unfold Un.inR
              cases (!decide (k < lo)) <;> cases upB hi' k <;> cases afB af k <;> rfl
            rw [e1]
            exact hjs.filter _
          · rw [← hJ]
            exact (hjp.sublist List.filter_sublist).sublist List.filter_sublist
    · rintro i key H2 hk hK
      walk_at "rds"
      refine ⟨rfl, ?_⟩
      walk_at "rds"
      refine rd_ite (fun _ => ?_) (fun h => by cases h)
      walk_at "rds"
      exact hK.step ne hm hk
end
section
variable {P : Program} {w : World} {K : PySem.W.Frag} {mg : Str → Option Value} {base : Heap}
theorem Deal.dict {D L d : Addr} {H : Hp} {kvs : List (Key × V)} (h : Deal D L H) (hd : H d = some (.dK kvs)) : d ≠ D ∧ d ≠ L := by
  obtain ⟨cs, m, h1, h2, _⟩ := h
  constructor
  · rintro rfl
    rw [hd] at h1
    cases h1
  · rintro rfl
    rw [hd] at h2
    cases h2
/-- keys over some letters, of bounded lengths -/
def KB (ls : List Nat) (N : Nat) (m : Tab) : Prop := ∀ k ∈ keysT m, (∀ c ∈ k, c ∈ ls) ∧ k.length ≤ N
theorem cutL_mem {l : List Nat} {lo hi : Option Int} {c : Nat} (h : c ∈ cutL l lo hi) : c ∈ l := List.mem_of_mem_drop (List.mem_of_mem_take h)
theorem cutL_le (l : List Nat) (lo hi : Option Int) : (cutL l lo hi).length ≤ l.length := by
  unfold cutL
  rw [List.length_take, List.length_drop]
  omega
def spAny : Sp := fun vs H Q _ => ∃ (D L d : Addr) (ls : List Nat) (m : Tab) (N : Nat), vs = [.ref D, .str (tx ls), .ref d] ∧ Deal D L H ∧ ls ≠ [] ∧ ls.length ≤ 100 ∧ H d = some (.dK (encT m)) ∧ m.length ≤ 500 ∧ KB ls N m ∧ 5 ≤ N ∧ N ≤ 900 ∧
  ∀ (t : List Nat) (H' : Hp), (∀ c ∈ t, c ∈ ls) → t.length ≤ N + 1 → Keep D L H H' → Deal D L H' → Q (.str (tx t)) H'
theorem cl_any (T : Txt K mg) : Cl P w K mg base "_law_any_key" ["_law_deal_here", "_law_letters_here", "_law_table"] 4 spAny := cl_of T.a__law_any_key fun f fd F => by
  have C__law_draw := cl_draw (P := P) (w := w) (base := base) T
  have C__law_pick := cl_pick (P := P) (w := w) (base := base) T
  have C__law_text := cl_text (P := P) (w := w) (base := base) T
  refine F.ok sc__law_any_key (fun vs H Q E h => ?_) (fun cdv A outer s H vs Q E hr h => ?_)
  · obtain ⟨D, L, d, ls, m, N, rfl, _⟩ := h
    rfl
  · obtain ⟨D, L, d, ls, m, N, rfl, hD, hne, hls, hd, hm, hkb, hN1, hN2, q⟩ := h
    have hpos : 0 < ls.length := List.length_pos_iff.mpr hne
    refine ⟨_, (pss_cons (ps_set (i := 3) sc__law_any_key.nd rfl (Or.inl rfl) (pe_op op_cat (pe_lock (pe_lc (own := [("_law_one", 6)]) (g := gName 6) (tt := tYes) (by rfl) sc__law_any_key.nd (pi_keys (pv 2)) (blkOk_by (own := [("_law_one", 6)]) (N := n__law_any_key) (sc := defScope s__law_any_key) (by decide +kernel)) (fun _ _ _ _ _ => (pg_name (i := 6) sc__law_any_key.nd rfl (Or.inl rfl))) (fun _ _ _ _ _ => pts_nil) (fun _ _ _ _ _ => (pe_callTy call_strS (by rfl) T.m_str (by decide +kernel) (pa_cons (pv 6) pa_nil))))) (pe_lst (pa_cons (pe_strX [] (by decide +kernel)) pa_nil))))
      (pss_cons (ps_set (i := 4) sc__law_any_key.nd rfl (Or.inl rfl) (pe_cl C__law_pick (hr.mono (by decide)) (by rfl) (pa_cons (pv 0) (pa_cons (pv 3) pa_nil))))
      (pss_cons (ps_set (i := 5) sc__law_any_key.nd rfl (Or.inl rfl) (pe_lst (pa_cons (pv 4) (pa_cons (pe_op op_addX (pv 4) (pe_cl C__law_pick (hr.mono (by decide)) (by rfl) (pa_cons (pv 0) (pa_cons (pv 1) pa_nil)))) (pa_cons (pe_slice sl_strX (pv 4) po_none (po_some (pe_un un_neg pe_int))) pa_nil)))))
      (pss_one (ps_ret (pe_ix ix_list (pe_op op_cat (pv 5) (pe_lst (pa_cons (pe_cl C__law_text (hr.mono (by decide)) (by rfl) (pa_cons (pv 0) (pa_cons (pv 1) (pa_cons pe_int pa_nil)))) pa_nil))) (pe_cl C__law_draw (hr.mono (by decide)) (by rfl) (pa_cons (pv 0) (pa_cons pe_int pa_nil))) (fun _ _ => rfl))))))), ?_⟩
    walk_at "rds"
    refine Un.rd_lock hd trivial fun od => ?_
    walk_at "rds"
    refine ⟨d, od, rfl, .inl ⟨_, upd_same, fun e ne => ?_⟩⟩
    refine strs_of_keys hd ne (fun H2 s2 e2 H3 k3 eH => ⟨k3, ?_⟩) ?_
    · rw [eH]
      clear eH k3 ne
      have hkl := keys_len m
      walk_at "rds"
      refine ⟨by show 1 ≤ sizeLine; decide, fun p hp => ?_⟩
      have s3 : Same H2 (upd H2 p (.lst [.str (tx [])])) := same_upd hp
      refine rd_cat (s3 _ _ e2) upd_same (by rw [List.length_map]; exact Nat.le_of_lt (small1000 (by simp; omega))) (fun b hb => ?_)
      have e4 : (keysT m).map (fun k => V.str (tx k)) ++ [V.str (tx [])] = (keysT m ++ [[]]).map fun k => V.str (tx k) := by rw [List.map_append]; rfl
      rw [e4]
      have sb := same_trans (same_trans s2 s3) (same_upd (o := .lst ((keysT m ++ [[]]).map fun k => V.str (tx k))) hb)
      have eb : upd (upd H2 p (.lst [.str (tx [])])) b (.lst ((keysT m ++ [[]]).map fun k => V.str (tx k))) b = some (.lst ((keysT m ++ [[]]).map fun k => V.str (tx k))) := upd_same
      have hD4 := hD.keep sb
      have hbn : H b = none := same_none (same_trans s2 s3) hb
      obtain ⟨hbD, hbL⟩ := hD.new hbn
      generalize upd (upd H2 p (.lst [.str (tx [])])) b (.lst ((keysT m ++ [[]]).map fun k => V.str (tx k))) = H4 at sb eb hD4 ⊢
      walk_at "rds"
      refine ⟨D, L, _, _, rfl, hD4, .inl ⟨b, rfl, hbD, hbL, SqL.of eb⟩, by simp, by simp; omega, fun x H5 hx kp5 hD5 => ?_⟩
      obtain ⟨key, hkey, rfl⟩ := List.mem_map.mp hx
      have hK1 : (∀ c ∈ key, c ∈ ls) ∧ key.length ≤ N := by
        rcases List.mem_append.mp hkey with h | h
        · exact hkb key h
        · rw [List.mem_singleton.mp h]
          exact ⟨fun c h => (by cases h), Nat.zero_le _⟩
      have kpH : Keep D L H H5 := (Keep.of_same sb).trans kp5
      walk_at "rds"
      refine ⟨D, L, _, _, rfl, hD5, .inr ⟨ls, rfl, rfl⟩, by rw [sgs_len]; exact hpos, by rw [sgs_len]; omega, fun x H6 hx6 kp6 hD6 => ?_⟩
      obtain ⟨c, hc, rfl⟩ := List.mem_map.mp hx6
      refine rd_addX (by simp; exact Nat.le_of_lt (small1000 (by omega))) ?_
      walk_at "rds"
      refine rd_slX (Nat.le_of_lt (small1000 (by omega))) ?_
      walk_at "rds"
      refine ⟨by show 3 ≤ sizeLine; decide, fun g hg => ?_⟩
      walk_at "rds"
      have s7 := same_upd (o := .lst [.str (tx key), .str (tx (key ++ [c])), .str (tx (cutL key none (some (-1))))]) hg
      have e7 : upd H6 g (.lst [.str (tx key), .str (tx (key ++ [c])), .str (tx (cutL key none (some (-1))))]) g = some (.lst [.str (tx key), .str (tx (key ++ [c])), .str (tx (cutL key none (some (-1))))]) := upd_same
      have hD7 := hD6.keep s7
      obtain ⟨hgD, hgL⟩ := hD6.new hg
      have kp7 := (kpH.trans kp6).trans (Keep.of_same s7)
      generalize upd H6 g (.lst [.str (tx key), .str (tx (key ++ [c])), .str (tx (cutL key none (some (-1))))]) = H7 at s7 e7 hD7 kp7 ⊢
      refine ⟨D, L, ls, 5, rfl, hD7, hne, hls, by decide, by decide, fun t H8 ht ht5 kp8 hD8 => ?_⟩
      walk_at "rds"
      refine ⟨by show 1 ≤ sizeLine; decide, fun p2 hp2 => ?_⟩
      have s9 : Same H8 (upd H8 p2 (.lst [.str (tx t)])) := same_upd hp2
      refine rd_cat (s9 _ _ (kp8 _ _ e7 hgD hgL)) upd_same (by show 4 ≤ sizeLine; decide) (fun r hr => ?_)
      have s10 := same_trans s9 (same_upd (o := .lst ([.str (tx key), .str (tx (key ++ [c])), .str (tx (cutL key none (some (-1))))] ++ [.str (tx t)])) hr)
      have e10 : upd (upd H8 p2 (.lst [.str (tx t)])) r (.lst ([.str (tx key), .str (tx (key ++ [c])), .str (tx (cutL key none (some (-1))))] ++ [.str (tx t)])) r = some (.lst ([.str (tx key), .str (tx (key ++ [c])), .str (tx (cutL key none (some (-1))))] ++ [.str (tx t)])) := upd_same
      have hD10 := hD8.keep s10
      obtain ⟨hrD, hrL⟩ := (hD8.keep s9).new hr
      have kp10 := (kp7.trans kp8).trans (Keep.of_same s10)
      generalize upd (upd H8 p2 (.lst [.str (tx t)])) r (.lst ([.str (tx key), .str (tx (key ++ [c])), .str (tx (cutL key none (some (-1))))] ++ [.str (tx t)])) = H10 at e10 hD10 kp10 ⊢
      walk_at "rds"
      refine ⟨D, L, _, rfl, hD10, by decide, by decide, fun j H11 hj1 hj2 kp11 hD11 => ?_⟩
      obtain ⟨z, hz, hz1, hz2⟩ : ∃ z, atI ([V.str (tx key), V.str (tx (key ++ [c])), V.str (tx (cutL key none (some (-1))))] ++ [V.str (tx t)]) j = some (.str (tx z)) ∧ (∀ c ∈ z, c ∈ ls) ∧ z.length ≤ N + 1 := by
        rcases (show j = 0 ∨ j = 1 ∨ j = 2 ∨ j = 3 by omega) with rfl | rfl | rfl | rfl
        · exact ⟨key, rfl, hK1.1, by omega⟩
        · refine ⟨key ++ [c], rfl, fun a ha => ?_, by simp; omega⟩
          rcases List.mem_append.mp ha with h | h
          · exact hK1.1 a h
          · rw [List.mem_singleton.mp h]
            exact hc
        · exact ⟨cutL key none (some (-1)), rfl, fun a ha => hK1.1 a (cutL_mem ha), by have := cutL_le key none (some (-1)); omega⟩
        · exact ⟨t, rfl, ht, by omega⟩
      refine rd_ixL (SqL.of (kp11 _ _ e10 hrD hrL)) hz ?_
      exact q z _ hz1 hz2 (kp10.trans kp11) hD11
    · rintro i key H2 hk hK
      walk_at "rds"
      refine ⟨rfl, ?_⟩
      walk_at "rds"
      refine rd_ite (fun _ => ?_) (fun h => by cases h)
      walk_at "rds"
      exact hK.step ne (by omega) hk
end
--G law
--C _law_asked_right.deepif
--G _law_asked_right
--G _law_told
--G _law_deed
--G _law_copy_right
section
variable {P : Program} {w : World} {K : PySem.W.Frag} {mg : Str → Option Value} {base : Heap}
theorem St.kd {C : Addr} {D L : Addr} {H H' : Hp} {a d : Addr} {ls : List Nat} {m : Tab} (h : St C H a d ls m) (hD : Deal D L H) (k : Keep D L H H') : St C H' a d ls m := by
  obtain ⟨dx, ho⟩ := h.o
  obtain ⟨cs, x, h1, h2, _⟩ := hD
  refine ⟨⟨dx, k _ _ ho (fun z => ?_) (fun z => ?_)⟩, k _ _ h.t (fun z => ?_) (fun z => ?_)⟩
  · rw [z, h1] at ho
    cases ho
  · rw [z, h2] at ho
    cases ho
  · have := h.t
    rw [z, h1] at this
    cases this
  · have := h.t
    rw [z, h2] at this
    cases this
theorem Deal.kd {D L d : Addr} {H H' : Hp} {kvs : List (Key × V)} (h : Deal D L H) (k : Keep D L H H') (hd : H d = some (.dK kvs)) : H' d = some (.dK kvs) := k _ _ hd (h.dict hd).1 (h.dict hd).2
def spAsk (C : Addr) : Sp := fun vs H Q _ => ∃ (D L a d tb rt : Addr) (ls : List Nat) (m : Tab) (lo : List Nat) (hi af : Option (List Nat)), vs = [.ref D, .ref a, .ref tb, .ref rt] ∧ Deal D L H ∧ St C H a d ls m ∧ H tb = some (.dK (encT m)) ∧ H rt = some (.tup [.str (tx lo), bnd hi, bnd af]) ∧
  m.length ≤ 200 ∧ (∀ q ∈ m, OkP q) ∧ ∀ H', Keep D L H H' → Deal D L H' → Q (.bl true) H'
theorem cl_ask (T : Txt K mg) : ClG P w K mg base "_law_asked_right" ["_law_deal_here", "_law_store", "_law_table", "_law_reach"] 3 (spAsk (SC mg)) := clG_of T.a__law_asked_right fun f fd F => by
  have C__law_draw := cl_draw (P := P) (w := w) (base := base) T
  have C__law_spots := cl_spots (P := P) (w := w) (base := base) T
  have C_Store_pairs_k3 := at_pairs_k3 (P := P) (w := w) (base := base) T
  have C_Store_page_k4 := at_page_k4 (P := P) (w := w) (base := base) T
  have C_Store_pairs_2 := at_pairs_2 (P := P) (w := w) (base := base) T
  have C_Store_page_3 := at_page_3 (P := P) (w := w) (base := base) T
  have C_Store_pairs_1 := at_pairs_1 (P := P) (w := w) (base := base) T
  have C_Store_page_2 := at_page_2 (P := P) (w := w) (base := base) T
  refine okG F sc__law_asked_right (fun vs H Q E h => ?_) (fun cdv A outer s H vs Q E hgd hr h => ?_)
  · obtain ⟨D, L, a, d, tb, rt, ls, m, lo, hi, af, rfl, _⟩ := h
    rfl
  · obtain ⟨D, L, a, d, tb, rt, ls, m, lo, hi', af, rfl, hD, hS, htb, hrt, hm, hok, q⟩ := h
    refine ⟨_, (pss_cons (ps_asg (pv 3) (pg_tup rfl (pgs_cons (pg_name (i := 4) sc__law_asked_right.nd rfl (Or.inl rfl)) (pgs_cons (pg_name (i := 5) sc__law_asked_right.nd rfl (Or.inl rfl)) (pgs_cons (pg_name (i := 6) sc__law_asked_right.nd rfl (Or.inl rfl)) pgs_nil)))))
      (pss_cons (ps_par (i := 7) (j := 8) (by rfl) sc__law_asked_right.nd rfl rfl (by decide) rfl rfl (pa_cons (pe_lc (own := [("_law_key", 11)]) (g := gName 11) (tt := tYes) (by rfl) sc__law_asked_right.nd (pi_list (pe_cl C__law_spots (hr.mono (by decide)) (by rfl) (pa_cons (pv 2) (pa_cons (pv 4) (pa_cons (pv 5) (pa_cons (pv 6) pa_nil)))))) (blkOk_by (own := [("_law_key", 11)]) (N := n__law_asked_right) (sc := defScope s__law_asked_right) (by decide +kernel)) (fun _ _ _ _ _ => (pg_name (i := 11) sc__law_asked_right.nd rfl (Or.inl rfl))) (fun _ _ _ _ _ => pts_nil) (fun _ _ _ _ _ => (pe_tup (pa_cons (pv 11) (pa_cons (pe_dget (by exact hu_of hr) (pv 2) (pv 11) (fun _ _ => rfl)) pa_nil))))) (pa_cons (pe_cl C__law_draw (hr.mono (by decide)) (by rfl) (pa_cons (pv 0) (pa_cons pe_int pa_nil))) pa_nil)) (by rfl))
      (pss_cons (ps_set (i := 9) sc__law_asked_right.nd rfl (Or.inl rfl) (pe_lst (pa_cons (methN_G C_Store_pairs_k3 hr (by decide) (pv 1) (pa_cons (pv 4) (pa_cons (pv 5) pa_nil)) (pk_cons (pv 6) pk_nil)) (pa_cons (methN_G C_Store_page_k4 hr (by decide) (pv 1) (pa_cons (pv 8) (pa_cons (pv 4) (pa_cons (pv 5) pa_nil))) (pk_cons (pv 6) pk_nil)) pa_nil))))
      (pss_cons (ps_if (pt_cmpR op_ne (pe_callB (r := rReprZ K) (call_reprZ hgd hr) (by rfl) T.m_repr (by decide +kernel) (pa_cons (pv 9) pa_nil)) (pe_callB (r := rReprZ K) (call_reprZ hgd hr) (by rfl) T.m_repr (by decide +kernel) (pa_cons (pe_lst (pa_cons (pv 7) (pa_cons (pe_slice sl_list (pv 7) po_none (po_some (pv 8))) pa_nil))) pa_nil)) (nomark _))
      (pss_one (ps_ret pe_bl))
      pss_nil)
      (pss_cons (ps_expr (pe_bm PySem.F.plainAttrs_list PySem.F.slot_list_append PySem.F.type_list_append mt_append (pe_ix ix_list (pv 9) pe_int (fun _ _ => rfl)) (pa_cons (pe_tup (pa_cons (pe_strX [] (by decide +kernel)) (pa_cons pe_int pa_nil))) pa_nil)))
      (Evl.pss_cut (ps_if (PW.pt (pw_and (pt_cmpR op_isN' (pv 6) pe_non (nomark _)) (pw_and1 (pt_cmpR op_isN' (pv 5) pe_non (nomark _)))))
      (pss_one (ps_if (pt_cmpR op_ne (pe_callB (r := rReprZ K) (call_reprZ hgd hr) (by rfl) T.m_repr (by decide +kernel) (pa_cons (pe_lst (pa_cons (pe_mtD C_Store_pairs_2 hr (by decide) (pv 1) (pa_cons (pv 4) pa_nil)) (pa_cons (pe_mtD C_Store_page_3 hr (by decide) (pv 1) (pa_cons (pv 8) (pa_cons (pv 4) pa_nil))) pa_nil))) pa_nil)) (pe_callB (r := rReprZ K) (call_reprZ hgd hr) (by rfl) T.m_repr (by decide +kernel) (pa_cons (pe_lst (pa_cons (pv 7) (pa_cons (pe_slice sl_list (pv 7) po_none (po_some (pv 8))) pa_nil))) pa_nil)) (nomark _))
      (pss_one (ps_ret pe_bl))
      pss_nil))
      pss_nil)
      (pss_cons (ps_setLc (i := 10) (own := [("_law_key", 11)]) (g := gName 11) (tt := tYes) (by rfl) sc__law_asked_right.nd rfl rfl (sw_true rfl rfl rfl (by decide +kernel)) (pi_list (pe_cl C__law_spots (hr.mono (by decide)) (by rfl) (pa_cons (pv 2) (pa_cons (pe_strX [] (by decide +kernel)) (pa_cons pe_non (pa_cons pe_non pa_nil)))))) (blkOk_by (own := [("_law_key", 11)]) (N := n__law_asked_right) (sc := defScope s__law_asked_right) (by decide +kernel)) (fun _ _ _ _ _ => (pg_name (i := 11) sc__law_asked_right.nd rfl (Or.inl rfl))) (fun _ _ _ _ _ => pts_nil) (fun _ _ _ _ _ => (pe_tup (pa_cons (pv 11) (pa_cons (pe_dget (by exact hu_of hr) (pv 2) (pv 11) (fun _ _ => rfl)) pa_nil)))))
      (pss_one (ps_ret (pe_and (pe_cmpR op_eq (pe_callB (r := rReprZ K) (call_reprZ hgd hr) (by rfl) T.m_repr (by decide +kernel) (pa_cons (pe_mtD0 C_Store_pairs_1 hr (by decide) (pv 1)) pa_nil)) (pe_callB (r := rReprZ K) (call_reprZ hgd hr) (by rfl) T.m_repr (by decide +kernel) (pa_cons (pv 10) pa_nil)) (nomark _)) (pe_one (pe_cmpR op_eq (pe_callB (r := rReprZ K) (call_reprZ hgd hr) (by rfl) T.m_repr (by decide +kernel) (pa_cons (pe_mtD C_Store_page_2 hr (by decide) (pv 1) (pa_cons pe_int pa_nil)) pa_nil)) (pe_callB (r := rReprZ K) (call_reprZ hgd hr) (by rfl) T.m_repr (by decide +kernel) (pa_cons (pe_slice sl_list (pv 10) po_none (po_some pe_int)) pa_nil)) (nomark _))))))))))))), ?_⟩
    walk_at "rds"
    refine rd_gtup (SqT.of hrt) rfl ?_
    walk_at "rds"
    refine ⟨tb, m, lo, hi', af, rfl, htb, by omega, fun ks r H1 hks s1 hr1 er1 => ?_⟩
    have hkl := hks.len
    walk_at "rds"
    refine ⟨_, rfl, ⟨_, SqL.of er1⟩, fun e ne => lc_prs er1 ne (fun k h => hks.mem h) (by omega) (fun key v H2 Q' B hk hv s2 hp => ?_) (fun us H2 s2 eu pu => ?_)⟩
    · walk_at "rds"
      refine ⟨rfl, ?_⟩
      walk_at "rds"
      refine rd_ite (fun _ => ?_) (fun h => by cases h)
      walk_at "rds"
      refine ⟨tb, .int v, rfl, ?_, ?_⟩
      · have g := DGet.k (k := Sum.inr (tx key)) (s2 _ _ (s1 _ _ htb))
        rw [valV_enc, hv] at g
        exact g
      walk_at "rds"
      exact ⟨by show 2 ≤ sizeLine; decide, hp⟩
    have s12 := same_trans s1 s2
    have hen := same_none s1 ne
    obtain ⟨heD, heL⟩ := hD.new hen
    walk_at "rds"
    refine ⟨D, L, _, rfl, hD.keep s12, by decide, by decide, fun n H3 hn1 hn2 kp3 hD3 => ?_⟩
    obtain ⟨j, rfl⟩ := Int.eq_ofNat_of_zero_le hn1
    have kpH3 : Keep D L H H3 := (Keep.of_same s12).trans kp3
    have hS3 := hS.kd hD kpH3
    have htb3 := hD.kd kpH3 htb
    have ee3 := kp3 _ _ eu heD heL
    walk_at "rds"
    obtain ⟨dx3, ho3⟩ := hS3.o
    refine ⟨a, _, _, rfl, ho3, rfl, ?_⟩
    walk_at "rds"
    refine ⟨rfl, rfl, a, d, ls, m, lo, hi', af, rfl, hS3, by omega, fun ks' r4 us4 H4 hks' s4 hr4 er4 pr4 => ?_⟩
    cases hks.uniq hks'
    walk_at "rds"
    refine ⟨a, _, _, rfl, s4 _ _ ho3, rfl, ?_⟩
    walk_at "rds"
    refine ⟨rfl, rfl, a, d, ls, m, j, lo, hi', af, rfl, hS3.same s4, by omega, fun ks' r5 us5 H5 hks' s5 hr5 er5 pr5 => ?_⟩
    cases hks.uniq hks'
    walk_at "rds"
    have hokp : ∀ js, (∀ k ∈ js, k ∈ ks) → ∀ q ∈ prT m js, OkP q := fun js h => prT_ok hok fun k hk => hks.mem (h k hk)
    have gP : GoodZ 2 80200 (plD (prT m ks)) := plD_good (hokp ks fun _ h => h) (by rw [prT_len]; omega)
    have gJ : GoodZ 2 80200 (plD (prT m (ks.take j))) := plD_good (hokp _ fun _ h => List.mem_of_mem_take h) (by rw [prT_len, List.length_take]; omega)
    have g2 := (two_good gP gJ).mono (z' := 20) (w' := 200000) (by decide) (by decide)
    have etk : prT m (ks.take j) = (prT m ks).take j := by
      unfold prT
      rw [List.map_take]
    refine ⟨by show 2 ≤ sizeLine; decide, fun g hg => ?_⟩
    have s45 := same_trans s4 s5
    have s46 := same_trans s45 (same_upd (o := .lst [.ref r4, .ref r5]) hg)
    have p4 : Prs (upd H5 g (.lst [.ref r4, .ref r5])) (prT m ks) us4 := pr4.same (same_trans s5 (same_upd hg))
    have p5 : Prs (upd H5 g (.lst [.ref r4, .ref r5])) (prT m (ks.take j)) us5 := pr5.same (same_upd hg)
    have e4 : upd H5 g (.lst [.ref r4, .ref r5]) r4 = some (.lst us4) := (same_trans s5 (same_upd hg)) _ _ er4
    have e5 : upd H5 g (.lst [.ref r4, .ref r5]) r5 = some (.lst us5) := same_upd hg _ _ er5
    have eg : upd H5 g (.lst [.ref r4, .ref r5]) g = some (.lst [.ref r4, .ref r5]) := upd_same
    have p3 : Prs H3 (prT m ks) us := pu.keep fun T l h => kp3 _ _ h (fun z => by
      obtain ⟨c1, x1, h1, _⟩ := hD.keep s12
      rw [z, h1] at h
      cases h) (fun z => by
      obtain ⟨c1, x1, _, h1, _⟩ := hD.keep s12
      rw [z, h1] at h
      cases h)
    have hr4n : H3 r4 = none := hr4
    generalize upd H5 g (.lst [.ref r4, .ref r5]) = H6 at s46 p4 p5 e4 e5 eg ⊢
    walk_at "rds"
    refine rd_reprZ (d := .list [plD (prT m ks), plD (prT m (ks.take j))]) (.lst (SqL.of eg) (.cons (Prs.list e4 p4) (.cons (Prs.list e5 p5) .nil))) g2 ?_
    walk_at "rds"
    refine rd_slL (SqL.of (s46 _ _ ee3)) (fun r7 hr7 => ?_)
    rw [cutV_take]
    have s7 := same_upd (o := .lst (us.take j)) hr7
    have p7 : Prs (upd H6 r7 (.lst (us.take j))) (prT m (ks.take j)) (us.take j) := by
      rw [etk]
      exact ((p3.same s46).same s7).take j
    walk_at "rds"
    refine ⟨by show 2 ≤ sizeLine; decide, fun g8 hg8 => ?_⟩
    have s8 := same_upd (o := .lst [.ref e, .ref r7]) hg8
    walk_at "rds"
    refine rd_reprZ (d := .list [plD (prT m ks), plD (prT m (ks.take j))]) (.lst (SqL.of upd_same) (.cons (Prs.list (s8 _ _ (s7 _ _ (s46 _ _ ee3))) ((p3.same s46).same (same_trans s7 s8))) (.cons (Prs.list (s8 _ _ upd_same) (p7.same s8)) .nil))) g2 ?_
    have s9 := same_trans (same_trans s46 s7) s8
    have eg9 := s8 _ _ (s7 _ _ eg)
    have e49 := s8 _ _ (s7 _ _ e4)
    generalize upd (upd H6 r7 (.lst (us.take j))) g8 (.lst [.ref e, .ref r7]) = H9 at s9 eg9 e49 ⊢
    walk_at "rds"
    refine rd_ite (fun h => by simp at h) (fun _ => ?_)
    walk_at "rds"
    refine rd_ixL (SqL.of eg9) (by rfl) ?_
    refine rd_tyL (SqL.of e49) ?_
    walk_at "rds"
    refine ⟨by show 2 ≤ sizeLine; decide, fun g10 hg10 => ?_⟩
    have s10 := same_upd (o := .tup [.str (tx []), .int 0]) hg10
    have hl4 : us4.length < sizeLine := by
      rw [← pr4.len, prT_len]
      exact small1000 (by omega)
    walk_at "rds"
    refine rd_app (s10 _ _ e49) hl4 ?_
    have s11 : Same H3 (upd (upd H9 g10 (.tup [.str (tx []), .int 0])) r4 (.lst (us4 ++ [.ref g10]))) := same_mut (same_trans s9 s10) hr4n
    generalize upd (upd H9 g10 (.tup [.str (tx []), .int 0])) r4 (.lst (us4 ++ [.ref g10])) = H11 at s11 ⊢
    clear s9 eg9 e49 s10 hg10 s8 hg8 p7 s7 hr7 e4 e5 eg p4 p5 s46 hg s45 s5 hr5 er5 pr5 s4 hr4 er4 pr4
    refine rd_cut (fun σ' H' => σ' = [some (.ref D), some (.ref a), some (.ref tb), some (.ref rt), some (.str (tx lo)), some (bnd hi'), some (bnd af), some (.ref e), some (.int (j : Nat)), some (.ref g), none, none] ∧ Same H3 H') ?_ ?_
    · walk_at "rds"
      cases af with
      | some u => exact rd_ite (fun h => by cases h) (fun _ => ⟨rfl, s11⟩)
      | none =>
        refine rd_ite (fun _ => ?_) (fun h => by cases h)
        walk_at "rds"
        cases hi' with
        | some u => exact rd_ite (fun h => by cases h) (fun _ => ⟨rfl, s11⟩)
        | none =>
          refine rd_ite (fun _ => ?_) (fun h => by cases h)
          walk_at "rds"
          refine ⟨a, _, _, rfl, s11 _ _ ho3, rfl, ?_⟩
          walk_at "rds"
          refine ⟨a, d, ls, m, lo, none, none, rfl, hS3.same s11, by omega, fun ks' r4 us4 H4 hks' s4 hr4 er4 pr4 => ?_⟩
          cases hks.uniq hks'
          walk_at "rds"
          refine ⟨a, _, _, rfl, s4 _ _ (s11 _ _ ho3), rfl, ?_⟩
          walk_at "rds"
          refine ⟨a, d, ls, m, j, lo, none, none, rfl, (hS3.same s11).same s4, by omega, fun ks' r5 us5 H5 hks' s5 hr5 er5 pr5 => ?_⟩
          cases hks.uniq hks'
          walk_at "rds"
          refine ⟨by show 2 ≤ sizeLine; decide, fun g6 hg6 => ?_⟩
          have s6 := same_upd (o := .lst [.ref r4, .ref r5]) hg6
          walk_at "rds"
          refine rd_reprZ (d := .list [plD (prT m ks), plD (prT m (ks.take j))]) (.lst (SqL.of upd_same) (.cons (Prs.list (s6 _ _ (s5 _ _ er4)) (pr4.same (same_trans s5 s6))) (.cons (Prs.list (s6 _ _ er5) (pr5.same s6)) .nil))) g2 ?_
          have s36 := same_trans (same_trans (same_trans s11 s4) s5) s6
          generalize upd H5 g6 (.lst [.ref r4, .ref r5]) = H6 at s36 ⊢
          walk_at "rds"
          refine rd_slL (SqL.of (s36 _ _ ee3)) (fun r7 hr7 => ?_)
          rw [cutV_take]
          have s7 := same_upd (o := .lst (us.take j)) hr7
          have p7 : Prs (upd H6 r7 (.lst (us.take j))) (prT m (ks.take j)) (us.take j) := by
            rw [etk]
            exact ((p3.same s36).same s7).take j
          walk_at "rds"
          refine ⟨by show 2 ≤ sizeLine; decide, fun g8 hg8 => ?_⟩
          have s8 := same_upd (o := .lst [.ref e, .ref r7]) hg8
          walk_at "rds"
          refine rd_reprZ (d := .list [plD (prT m ks), plD (prT m (ks.take j))]) (.lst (SqL.of upd_same) (.cons (Prs.list (s8 _ _ (s7 _ _ (s36 _ _ ee3))) ((p3.same s36).same (same_trans s7 s8))) (.cons (Prs.list (s8 _ _ upd_same) (p7.same s8)) .nil))) g2 ?_
          walk_at "rds"
          refine rd_ite (fun h => by simp at h) (fun _ => ?_)
          exact ⟨rfl, same_trans s36 (same_trans s7 s8)⟩
    · rintro σ' H12 ⟨rfl, s12'⟩
      walk_at "rds"
      refine ⟨tb, m, [], none, none, rfl, s12' _ _ htb3, by omega, fun js r13 H13 hjs s13 hr13 er13 => ?_⟩
      have hjl := hjs.len
      have gA : GoodZ 2 80200 (plD (prT m js)) := plD_good (prT_ok hok fun k h => hjs.mem h) (by rw [prT_len]; omega)
      have gB : GoodZ 2 80200 (plD (prT m (js.take 3))) := plD_good (prT_ok hok fun k h => hjs.mem (List.mem_of_mem_take h)) (by rw [prT_len, List.length_take]; omega)
      walk_at "rds"
      refine ⟨_, rfl, ⟨_, SqL.of er13⟩, fun e14 ne14 => lc_prs er13 ne14 (fun k h => hjs.mem h) (by omega) (fun key v H14 Q' B hk hv s14 hp => ?_) (fun us14 H14 s14 eu14 pu14 => ?_)⟩
      · walk_at "rds"
        refine ⟨rfl, ?_⟩
        walk_at "rds"
        refine rd_ite (fun _ => ?_) (fun h => by cases h)
        walk_at "rds"
        refine ⟨tb, .int v, rfl, ?_, ?_⟩
        · have g := DGet.k (k := Sum.inr (tx key)) (s14 _ _ (s13 _ _ (s12' _ _ htb3)))
          rw [valV_enc, hv] at g
          exact g
        walk_at "rds"
        exact ⟨by show 2 ≤ sizeLine; decide, hp⟩
      have s314 := same_trans s12' (same_trans s13 s14)
      walk_at "rds"
      refine ⟨a, _, _, rfl, s314 _ _ ho3, rfl, ?_⟩
      walk_at "rds"
      refine ⟨a, d, ls, m, [], none, none, rfl, hS3.same s314, by omega, fun ks' r15 us15 H15 hks' s15 hr15 er15 pr15 => ?_⟩
      cases hjs.uniq hks'
      walk_at "rds"
      refine rd_reprZ (Prs.list er15 pr15) (gA.mono (by decide) (by decide)) ?_
      walk_at "rds"
      refine rd_reprZ (Prs.list (s15 _ _ eu14) (pu14.same s15)) (gA.mono (by decide) (by decide)) ?_
      walk_at "rds"
      refine rd_ite (fun _ => ?_) (fun h => by simp at h)
      walk_at "rds"
      refine ⟨a, _, _, rfl, s15 _ _ (s314 _ _ ho3), rfl, ?_⟩
      walk_at "rds"
      refine ⟨a, d, ls, m, 3, [], none, none, rfl, (hS3.same s314).same s15, by omega, fun ks' r16 us16 H16 hks' s16 hr16 er16 pr16 => ?_⟩
      cases hjs.uniq hks'
      walk_at "rds"
      refine rd_reprZ (Prs.list er16 pr16) (gB.mono (by decide) (by decide)) ?_
      walk_at "rds"
      have s1416 := same_trans s15 s16
      refine rd_slL (SqL.of (s1416 _ _ eu14)) (fun r17 hr17 => ?_)
      rw [show (some (3 : Int)) = some ((3 : Nat) : Int) from rfl, cutV_take]
      have s17 := same_upd (o := .lst (us14.take 3)) hr17
      have p17 : Prs (upd H16 r17 (.lst (us14.take 3))) (prT m (js.take 3)) (us14.take 3) := by
        have e3 : prT m (js.take 3) = (prT m js).take 3 := by
          unfold prT
          rw [List.map_take]
        rw [e3]
        exact ((pu14.same s1416).same s17).take 3
      walk_at "rds"
      refine rd_reprZ (Prs.list upd_same p17) (gB.mono (by decide) (by decide)) ?_
      have sEnd : Same H3 (upd H16 r17 (.lst (us14.take 3))) := same_trans s314 (same_trans s1416 s17)
      have qq := q _ (kpH3.trans (Keep.of_same sEnd)) (hD3.keep sEnd)
      walk_at "rds"
      have et : ∀ z : V, decide (z = z) = true := fun z => by simp
      rw [et]
      exact qq
end
section
variable {P : Program} {w : World} {K : PySem.W.Frag} {mg : Str → Option Value} {base : Heap}
def spTold (K : PySem.W.Frag) (C : Addr) : Sp := fun vs H Q _ => ∃ (a d : Addr) (ls : List Nat) (m : Tab) (x : V) (dd : PyData), vs = [.ref a, x] ∧ St C H a d ls m ∧ TxtOr K H x ∧ Dp K H x dd ∧ GoodZ 20 200000 dd ∧
  (∀ (key : List Nat) (v : Int), x = .str (tx key) → inB ls m x = true → getT m key = some v → ∀ H', Same H H' → Q (.int v) H') ∧ (inB ls m x = false → ∀ H', Same H H' → Q .non H')
theorem cl_told (T : Txt K mg) (hke : PySem.W.kitOne K (.ref (ca mg "NoKey")) (.type "KeyError") = some true) : ClG P w K mg base "_law_told" ["_law_store", "_law_key"] 6 (spTold K (SC mg)) := clG_of T.a__law_told fun f fd F => by
  have C_Store___getitem__ := met_get (P := P) (w := w) (base := base) T
  refine okG F sc__law_told (fun vs H Q E h => ?_) (fun cdv A outer s H vs Q E hgd hr h => ?_)
  · obtain ⟨a, d, ls, m, x, dd, rfl, _⟩ := h
    rfl
  · obtain ⟨a, d, ls, m, x, dd, rfl, hS, hx, hdp, hg, q1, q2⟩ := h
    refine ⟨_, (pss_cons (ps_set (i := 2) sc__law_told.nd rfl (Or.inl rfl) pe_non)
      (pss_cons (ps_try_as (i := 3) rfl rfl sc__law_told.nd rfl rfl ⟨rfl, by decide, .inl T.e_NoKey.1⟩ takes0 (fun W pn xe tk _ => (pss_one (ps_set (i := 2) sc__law_told.nd rfl (Or.inl rfl) (pe_getGS C_Store___getitem__ hr (by decide) (fun σ => passAt tk σ) (pv 0) (pv 1))))) (fun a oe cls d pn hz hf => (pss_one (ps_set (i := 2) sc__law_told.nd rfl (Or.inl rfl) (pe_ifExp (PW.pt (pw_and (pt_cmpR op_eq (pe_callB (r := rReprZ K) (call_reprU hgd hr.units) (by rfl) T.m_repr (by decide +kernel) (pa_cons (pe_xf T.e_NoKey.2.1.xf T.e_NoKey.2.2.1 hz hf (pv 3)) pa_nil)) (pe_callB (r := rReprZ K) (call_reprU hgd hr.units) (by rfl) T.m_repr (by decide +kernel) (pa_cons (pv 1) pa_nil)) (nomark _)) (pw_and1 (pt_val (pe_callB (call_isS hz hf) (by rfl) T.m_isinstance (by decide +kernel) (pa_cons (pv 3) (pa_cons (pe_bltn (v := .ty "KeyError") (by rfl) T.m_KeyError (by decide +kernel) rfl) pa_nil))))))) pe_non (pe_strX [111, 116, 104, 101, 114] (by decide +kernel)))))))
      (pss_one (ps_ret (pv 2))))), ?_⟩
    walk_at "rds"
    obtain ⟨dx, ho⟩ := hS.o
    refine Un.rd_getS ?_
    walk_at "rds"
    refine ⟨a, dx, _, rfl, ho, a, d, ls, m, x, rfl, hS, hx, fun key v hk hin hv H1 s1 => ?_, fun hin d' H1 s1 e1 => ?_⟩
    · walk_at "rds"
      exact q1 key v hk hin hv H1 s1
    · refine ⟨true, T.e_NoKey.2.1.ex, fun _ a' ha' => ?_, fun h => Bool.noConfusion h⟩
      walk_at "rds"
      refine ⟨_, rfl, rfl, rfl, d', _, x, rfl, e1, rfl, ?_⟩
      walk_at "rds"
      refine rd_reprZ (Un.Dp.same s1 hdp) hg ?_
      walk_at "rds"
      refine rd_reprZ (Un.Dp.same s1 hdp) hg ?_
      walk_at "rds"
      refine rd_ite (fun _ => ?_) (fun h => by simp at h)
      walk_at "rds"
      refine ⟨_, "KeyError", true, d', _, rfl, rfl, rfl, e1, T.e_NoKey.2.1.is, hke, ?_⟩
      walk_at "rds"
      refine rd_ite (fun _ => ?_) (fun h => by cases h)
      walk_at "rds"
      exact q2 hin _ s1
end
--C _law_deed._law_key
section
variable {P : Program} {w : World} {K : PySem.W.Frag} {mg : Str → Option Value} {base : Heap}
/-- what the law's tables are like -/
structure TabOk (ls : List Nat) (N : Nat) (m : Tab) : Prop where
  len : m.length ≤ 100
  nd : (keysT m).Nodup
  kb : KB ls N m
  v : ∀ q ∈ m, 0 ≤ q.2 ∧ q.2 < 10 ^ 18
theorem mem_putT {m : Tab} {k : List Nat} {v : Int} {q : List Nat × Int} (h : q ∈ putT m k v) : q ∈ m ∨ q.2 = v := by
  unfold putT at h
  split at h
  · obtain ⟨p, hp, rfl⟩ := List.mem_map.mp h
    split
    · exact .inr rfl
    · exact .inl hp
  · rcases List.mem_append.mp h with h | h
    · exact .inl h
    · rw [List.mem_singleton.mp h]
      exact .inr rfl
theorem TabOk.mono {ls : List Nat} {N M : Nat} {m : Tab} (h : TabOk ls N m) (hn : N ≤ M) : TabOk ls M m := ⟨h.len, h.nd, fun k hk => ⟨(h.kb k hk).1, Nat.le_trans (h.kb k hk).2 hn⟩, h.v⟩
theorem TabOk.put {ls : List Nat} {N : Nat} {m : Tab} {k : List Nat} {v : Int} (h : TabOk ls N m) (h1 : ∀ c ∈ k, c ∈ ls) (h2 : k.length ≤ N) (h3 : k ∈ keysT m ∨ m.length ≤ 99) (v1 : 0 ≤ v) (v2 : v < 10 ^ 18) : TabOk ls N (putT m k v) := by
  refine ⟨?_, putT_nodup h.nd, ?_, ?_⟩
  · rw [← keys_len, putT_keys]
    split
    · rw [keys_len]
      exact h.len
    · rename_i hk
      have : m.length ≤ 99 := h3.resolve_left hk
      rw [List.length_append, keys_len]
      simp
      omega
  · intro j hj
    rw [putT_keys] at hj
    split at hj
    · exact h.kb j hj
    · rcases List.mem_append.mp hj with hj | hj
      · exact h.kb j hj
      · rw [List.mem_singleton.mp hj]
        exact ⟨h1, h2⟩
  · intro q hq
    rcases mem_putT hq with hq | hq
    · exact h.v q hq
    · rw [hq]
      exact ⟨v1, v2⟩
theorem TabOk.drops {ls : List Nat} {N : Nat} : ∀ {ks : List (List Nat)} {m : Tab}, TabOk ls N m → TabOk ls N (dropsT m ks)
  | [], _, h => h
  | j :: r, m, h => TabOk.drops (ks := r) (m := dropT m j) ⟨Nat.le_trans (List.length_filter_le _ _) h.len, dropT_nodup h.nd, fun k hk => h.kb k (mem_drop.mp hk).1, fun q hq => h.v q (List.mem_filter.mp hq).1⟩
theorem TabOk.puts {ls : List Nat} {N : Nat} {v : Int} (v1 : 0 ≤ v) (v2 : v < 10 ^ 18) : ∀ {ks : List (List Nat)} {m : Tab}, TabOk ls N m → (∀ k ∈ ks, k ∈ keysT m) → TabOk ls N (putsT m ks v)
  | [], _, h, _ => h
  | j :: r, m, h, hk => by
    have hj := hk j List.mem_cons_self
    have e : keysT (putT m j v) = keysT m := by rw [putT_keys, if_pos hj]
    exact TabOk.puts v1 v2 (ks := r) (m := putT m j v) (h.put (h.kb j hj).1 (h.kb j hj).2 (.inl hj) v1 v2) fun k hk' => by
      rw [e]
      exact hk k (List.mem_cons_of_mem _ hk')
theorem TabOk.ok {ls : List Nat} {N : Nat} {m : Tab} (h : TabOk ls N m) (hl : ∀ c ∈ ls, c ∈ alphabet) (hN : N ≤ 300) : ∀ q ∈ m, OkP q := fun q hq => by
  have hk := h.kb q.1 (List.mem_map.mpr ⟨q, hq, rfl⟩)
  have hv := h.v q hq
  have ha : ∀ c ∈ alphabet, c < 1000 := by decide
  refine ⟨by omega, fun c hc => ha c (hl c (hk.1 c hc)), ?_⟩
  have e : (10 : Int) ^ 18 < 2 ^ 60 := by decide
  omega
/-- all but four stay -/
def Keep4 (D L d t : Addr) (H H' : Hp) : Prop := ∀ b o, H b = some o → b ≠ D → b ≠ L → b ≠ d → b ≠ t → H' b = some o
theorem Keep.k4 {D L d t : Addr} {H H' : Hp} (h : Keep D L H H') : Keep4 D L d t H H' := fun b o hb h1 h2 _ _ => h b o hb h1 h2
theorem Keep4.trans {D L d t : Addr} {H H1 H2 : Hp} (a : Keep4 D L d t H H1) (b : Keep4 D L d t H1 H2) : Keep4 D L d t H H2 := fun c o hc h1 h2 h3 h4 => b c o (a c o hc h1 h2 h3 h4) h1 h2 h3 h4
theorem Same.k4 {D L d t : Addr} {H H' : Hp} (h : Same H H') : Keep4 D L d t H H' := fun b o hb _ _ _ _ => h b o hb
theorem Keep1.k4 {D L d t : Addr} {H H' : Hp} (h : Keep1 d H H') : Keep4 D L d t H H' := fun b o hb _ _ h3 _ => h b o hb h3
theorem Keep1.k4' {D L d t : Addr} {H H' : Hp} (h : Keep1 t H H') : Keep4 D L d t H H' := fun b o hb _ _ _ h4 => h b o hb h4
theorem Deal.k1 {D L d : Addr} {H H' : Hp} {kvs : List (Key × V)} (h : Deal D L H) (hd : H d = some (.dK kvs)) (k : Keep1 d H H') : Deal D L H' := by
  obtain ⟨h1, h2⟩ := h.dict hd
  obtain ⟨cs, m, e1, e2, r⟩ := h
  exact ⟨cs, m, k _ _ e1 h1.symm, k _ _ e2 h2.symm, r⟩
def spDeed (C : Addr) : Sp := fun vs H Q _ => ∃ (D L a d tb rt : Addr) (ls : List Nat) (m : Tab) (N : Nat) (lo : List Nat) (hi af : Option (List Nat)), vs = [.ref D, .str (tx ls), .ref a, .ref tb, .ref rt] ∧ Deal D L H ∧ St C H a d ls m ∧ H tb = some (.dK (encT m)) ∧ tb ≠ d ∧
  H rt = some (.tup [.str (tx lo), bnd hi, bnd af]) ∧ ls ≠ [] ∧ ls.length ≤ 100 ∧ (∀ c ∈ ls, c ∈ alphabet) ∧ TabOk ls N m ∧ 5 ≤ N ∧ N ≤ 200 ∧
  ∀ (n : Tab) (H' : Hp), TabOk ls (N + 1) n → Keep4 D L d tb H H' → Deal D L H' → H' d = some (.dK (encT n)) → H' tb = some (.dK (encT n)) → Q (.bl true) H'
theorem cl_deed (T : Txt K mg) : ClG P w K mg base "_law_deed" ["_law_deal_here", "_law_letters_here", "_law_store", "_law_table", "_law_reach"] 5 (spDeed (SC mg)) := clG_of T.a__law_deed fun f fd F => by
  have C__law_draw := cl_draw (P := P) (w := w) (base := base) T
  have C__law_any_key := cl_any (P := P) (w := w) (base := base) T
  have C__law_value := cl_value (P := P) (w := w) (base := base) T
  have C__law_spots := cl_spots (P := P) (w := w) (base := base) T
  have C__law_asked_right := cl_ask (P := P) (w := w) (base := base) T
  have C_Store___setitem__ := met_set (P := P) (w := w) (base := base) T
  have C_Store_take_k3 := at_take_k3 (P := P) (w := w) (base := base) T
  have C_Store_fill_k4 := at_fill_k4 (P := P) (w := w) (base := base) T
  refine okG F sc__law_deed (fun vs H Q E h => ?_) (fun cdv A outer s H vs Q E hgd hr h => ?_)
  · obtain ⟨D, L, a, d, tb, rt, ls, m, N, lo, hi, af, rfl, _⟩ := h
    rfl
  · obtain ⟨D, L, a, d, tb, rt, ls, m, N, lo, hi', af, rfl, hD, hS, htb, htd, hrt, hne, hls, hal, hT, hN1, hN2, q⟩ := h
    refine ⟨_, (pss_cons (ps_asg (pv 4) (pg_tup rfl (pgs_cons (pg_name (i := 5) sc__law_deed.nd rfl (Or.inl rfl)) (pgs_cons (pg_name (i := 6) sc__law_deed.nd rfl (Or.inl rfl)) (pgs_cons (pg_name (i := 7) sc__law_deed.nd rfl (Or.inl rfl)) pgs_nil)))))
      (pss_cons (ps_par3 (i := 8) (j := 9) (l := 10) (by rfl) sc__law_deed.nd rfl rfl rfl (by decide) (by decide) (by decide) rfl rfl rfl (pa_cons (pe_cl C__law_draw (hr.mono (by decide)) (by rfl) (pa_cons (pv 0) (pa_cons pe_int pa_nil))) (pa_cons (pe_cl C__law_any_key (hr.mono (by decide)) (by rfl) (pa_cons (pv 0) (pa_cons (pv 1) (pa_cons (pv 3) pa_nil)))) (pa_cons (pe_cl C__law_value (hr.mono (by decide)) (by rfl) (pa_cons (pv 0) pa_nil)) pa_nil))) (by rfl))
      (Evl.pss_cut (ps_if (PW.pt (pw_and (pt_cmpR op_gt (pe_callB call_lenD (by rfl) T.m_len (by decide +kernel) (pa_cons (pv 3) pa_nil)) pe_int (nomark _)) (pw_and1 (pt_cmp (pc_dnotin (by exact hu_of hr) (pv 9) (pv 3))))))
      (pss_one (ps_set (i := 9) sc__law_deed.nd rfl (Or.inl rfl) (pe_ix ix_list (pe_callB cr_sortedT (by rfl) T.m_sorted (by decide +kernel) (pa_cons (pe_lock (pe_lc (own := [("_law_one", 11)]) (g := gName 11) (tt := tYes) (by rfl) sc__law_deed.nd (pi_keys (pv 3)) (blkOk_by (own := [("_law_one", 11)]) (N := n__law_deed) (sc := defScope s__law_deed) (by decide +kernel)) (fun _ _ _ _ _ => (pg_name (i := 11) sc__law_deed.nd rfl (Or.inl rfl))) (fun _ _ _ _ _ => pts_nil) (fun _ _ _ _ _ => (pe_callTy call_strS (by rfl) T.m_str (by decide +kernel) (pa_cons (pv 11) pa_nil))))) pa_nil)) pe_int (fun _ _ => rfl))))
      pss_nil)
      (pss_cons (ps_set (i := 12) sc__law_deed.nd rfl (Or.inl rfl) (pe_cl C__law_spots (hr.mono (by decide)) (by rfl) (pa_cons (pv 3) (pa_cons (pv 5) (pa_cons (pv 6) (pa_cons (pv 7) pa_nil))))))
      (pss_cons (ps_if (pt_cmpR op_lt (pv 8) pe_int (nomark _))
      (pss_cons (ps_asg (pv 10) (pg_sub (pv 2) (pv 9) (set_G C_Store___setitem__ T.q_Store hr (by decide))))
      (pss_cons (ps_dput (by exact hu_of hr) (pv 3) (pv 9) (pv 10) rfl)
      (pss_one (ps_ret pe_bl))))
      pss_nil)
      (pss_cons (ps_if (pt_cmpR op_eq (pv 8) pe_int (nomark _))
      (Evl.pss_cut (ps_for PassesOwn.never rfl (pi_list (pv 12)) (pg_name (i := 11) sc__law_deed.nd rfl (Or.inl rfl))
      (pss_one (ps_expr (pe_dpop1 (pv 3) (pv 11) ⟨rfl, rfl, rfl, rfl⟩))))
      (pss_one (ps_ret (pe_cmpR op_eq (pe_callB (r := rReprZ K) (call_reprZ hgd hr) (by rfl) T.m_repr (by decide +kernel) (pa_cons (methN_G C_Store_take_k3 hr (by decide) (pv 2) (pa_cons (pv 5) (pa_cons (pv 6) pa_nil)) (pk_cons (pv 7) pk_nil)) pa_nil)) (pe_callTy call_str_int (by rfl) T.m_str (by decide +kernel) (pa_cons (pe_callB call_lenQ (by rfl) T.m_len (by decide +kernel) (pa_cons (pv 12) pa_nil)) pa_nil)) (nomark _)))))
      pss_nil)
      (pss_cons (ps_if (pt_cmpR op_eq (pv 8) pe_int (nomark _))
      (Evl.pss_cut (ps_for PassesOwn.never rfl (pi_list (pv 12)) (pg_name (i := 11) sc__law_deed.nd rfl (Or.inl rfl))
      (pss_one (ps_dput (by exact hu_of hr) (pv 3) (pv 11) (pv 10) rfl)))
      (pss_one (ps_ret (pe_cmpR op_eq (pe_callB (r := rReprZ K) (call_reprZ hgd hr) (by rfl) T.m_repr (by decide +kernel) (pa_cons (methN_G C_Store_fill_k4 hr (by decide) (pv 2) (pa_cons (pv 10) (pa_cons (pv 5) (pa_cons (pv 6) pa_nil))) (pk_cons (pv 7) pk_nil)) pa_nil)) (pe_callTy call_str_int (by rfl) T.m_str (by decide +kernel) (pa_cons (pe_callB call_lenQ (by rfl) T.m_len (by decide +kernel) (pa_cons (pv 12) pa_nil)) pa_nil)) (nomark _)))))
      pss_nil)
      (pss_one (ps_ret (pe_clG C__law_asked_right hgd (hr.mono (by decide)) (by rfl) (pa_cons (pv 0) (pa_cons (pv 2) (pa_cons (pv 3) (pa_cons (pv 4) pa_nil)))))))))))))), ?_⟩
    walk_at "rds"
    refine rd_gtup (SqT.of hrt) rfl ?_
    walk_at "rds"
    refine ⟨D, L, _, rfl, hD, by decide, by decide, fun fo H1 hf1 hf2 kp1 hD1 => ?_⟩
    walk_at "rds"
    have htb1 := hD.kd kp1 htb
    refine ⟨D, L, tb, ls, m, N, rfl, hD1, hne, hls, htb1, by have := hT.len; omega, hT.kb, hN1, by omega, fun key H2 hk1 hk2 kp2 hD2 => ?_⟩
    walk_at "rds"
    refine ⟨D, L, rfl, hD2, fun v H3 hv1 hv2 kp3 hD3 => ?_⟩
    have kpH := (kp1.trans kp2).trans kp3
    have htb3 := hD.kd kpH htb
    have hS3 := hS.kd hD kpH
    have hml := hT.len
    have hrtD : rt ≠ D ∧ rt ≠ L := by
      obtain ⟨cs, x, h1, h2, _⟩ := id hD
      constructor
      · rintro rfl
        rw [hrt] at h1
        cases h1
      · rintro rfl
        rw [hrt] at h2
        cases h2
    have hrt3 := kpH _ _ hrt hrtD.1 hrtD.2
    walk_at "rds"
    refine rd_cut (fun σ' H' => ∃ key', σ' = [some (.ref D), some (.str (tx ls)), some (.ref a), some (.ref tb), some (.ref rt), some (.str (tx lo)), some (bnd hi'), some (bnd af), some (.int fo), some (.str (tx key')), some (.int v), none, none] ∧ Same H3 H' ∧ (∀ c ∈ key', c ∈ ls) ∧ key'.length ≤ N + 1 ∧ (key' ∈ keysT m ∨ m.length ≤ 99)) ?_ ?_
    · walk_at "rds"
      refine ⟨tb, _, rfl, htb3, ?_⟩
      walk_at "rds"
      refine rd_ite (fun h98 => ?_) (fun h98 => ?_)
      · walk_at "rds"
        refine ⟨tb, _, rfl, DGet.k (k := Sum.inr (tx key)) htb3, ?_⟩
        rw [valV_enc]
        walk_at "rds"
        refine rd_ite (fun hno => ?_) (fun hno => ?_)
        · walk_at "rds"
          refine Un.rd_lock htb3 trivial fun od => ?_
          walk_at "rds"
          refine ⟨tb, od, rfl, .inl ⟨_, upd_same, fun e ne => ?_⟩⟩
          refine strs_of_keys htb3 ne (fun H4 s4 e4 H5 k5 eH => ⟨k5, ?_⟩) ?_
          · rw [eH]
            clear eH k5 ne
            have h98' : 98 < m.length := by
              have := of_decide_eq_true h98
              rw [encT_len] at this
              omega
            walk_at "rds"
            refine rd_sortT (SqL.of e4) (fun js p hjs hjp hp => ?_)
            have hjl : js.length = m.length := by rw [hjs.length_eq, keys_len]
            cases js with
            | nil =>
              simp at hjl
              omega
            | cons j0 js =>
              have hj0 : j0 ∈ keysT m := hjs.mem_iff.mp List.mem_cons_self
              walk_at "rds"
              refine rd_ixL (SqL.of upd_same) (v := .str (tx j0)) (by simp [atI, ixN]) ?_
              walk_at "rds"
              exact ⟨j0, rfl, same_trans s4 (same_upd hp), (hT.kb j0 hj0).1, by have := (hT.kb j0 hj0).2; omega, .inl hj0⟩
          · rintro i key2 H4 hk hK
            walk_at "rds"
            refine ⟨rfl, ?_⟩
            walk_at "rds"
            refine rd_ite (fun _ => ?_) (fun h => by cases h)
            walk_at "rds"
            exact hK.step ne (by omega) hk
        · have hin : key ∈ keysT m := Classical.byContradiction fun hc => by
            rw [getT_none hc] at hno
            cases hno
          exact ⟨key, rfl, same_refl _, hk1, hk2, .inl hin⟩
      · have : m.length ≤ 98 := by
          have := of_decide_eq_false h98
          rw [encT_len] at this
          omega
        exact ⟨key, rfl, same_refl _, hk1, hk2, .inr (by omega)⟩
    · rintro σ' H4 ⟨key', rfl, s4, hc1, hc2, hc3⟩
      have htb4 := s4 _ _ htb3
      have hS4 := hS3.same s4
      have hD4 := hD3.keep s4
      have hrt4 := s4 _ _ hrt3
      have kpH4 : Keep D L H H4 := kpH.trans (Keep.of_same s4)
      walk_at "rds"
      refine ⟨tb, m, lo, hi', af, rfl, htb4, by omega, fun ks r H5 hks s5 hr5 er5 => ?_⟩
      have htb5 := s5 _ _ htb4
      have hS5 := hS4.same s5
      have hD5 := hD4.keep s5
      have hrt5 := s5 _ _ hrt4
      have kpH5 : Keep D L H H5 := kpH4.trans (Keep.of_same s5)
      have hT1 : TabOk ls (N + 1) m := hT.mono (by omega)
      have hrd : r ≠ d := fun z => by
        rw [z, hS5.t] at er5
        cases er5
      have hrtb : r ≠ tb := fun z => by
        rw [z, htb5] at er5
        cases er5
      clear hr5 s5 s4 kpH4 hrt4 hD4 hS4 htb4 hrt3 htb3 hS3 kpH hD3 kp3 hD2 kp2 hD1 kp1 htb1
      walk_at "rds"
      refine rd_ite (fun hf3 => ?_) (fun hf3 => ?_)
      · obtain ⟨dx, ho⟩ := hS5.o
        walk_at "rds"
        refine ⟨a, _, _, rfl, ho, a, d, ls, m, key', v, rfl, hS5, ⟨hc1, by omega⟩, hv1, by omega, fun H6 k6 t6 => ?_⟩
        have htb6 := k6 _ _ htb5 htd
        walk_at "rds"
        refine ⟨tb, _, rfl, DPut.k (k := Sum.inr (tx key')) htb6 (by rw [encT_len]; exact small1000 (by omega)), ?_⟩
        rw [putK_enc]
        walk_at "rds"
        refine q (putT m key' v) _ (hT1.put hc1 hc2 hc3 hv1 hv2) (((Keep.k4 kpH5).trans (Keep1.k4 k6)).trans (Keep1.k4' (Keep1.put (Same.keep1 (same_refl _))))) ?_ (by rw [upd_ne htd.symm]; exact t6) upd_same
        exact (hD5.k1 hS5.t k6).k1 htb6 (Keep1.put (Same.keep1 (same_refl _)))
      · walk_at "rds"
        have ei : ∀ z : Int, decide (V.int fo = V.int z) = decide (fo = z) := fun z => by
          rw [decide_eq_decide]
          exact ⟨fun h => V.int.inj h, fun h => by rw [h]⟩
        have eshow : ∀ z : Int, (PyData.int z).shown = Str.ofString (toString z) := fun z => by simp only [PyData.shown]
        have hlog : ((ks.length : Nat) : Int).natAbs.log2 < 1920 := by
          have h1 := hks.len
          have h2 : ((ks.length : Nat) : Int).natAbs < 2 ^ 60 := by omega
          have := PySem.Flt.log2_lt_of (k := 60) (by decide) h2
          omega
        have gks : GoodZ 20 200000 (.int ((ks.length : Nat) : Int)) := (int_good (by have h1 := hks.len; omega)).mono (by decide) (by decide)
        rw [ei]
        refine rd_ite (fun hf4 => ?_) (fun hf4 => ?_)
        · refine rd_cut (fun σ' H' => (∃ y, σ' = [some (.ref D), some (.str (tx ls)), some (.ref a), some (.ref tb), some (.ref rt), some (.str (tx lo)), some (bnd hi'), some (bnd af), some (.int fo), some (.str (tx key')), some (.int v), y, some (.ref r)]) ∧ Keep1 tb H5 H' ∧ H' tb = some (.dK (encT (dropsT m ks)))) ?_ ?_
          · walk_at "rds"
            refine ⟨_, rfl, ⟨_, SqL.of er5⟩, for_list (K := K) (a := r) (xs := ks.map fun k => V.str (tx k)) (fun i σ' H' => (∃ y, σ' = [some (.ref D), some (.str (tx ls)), some (.ref a), some (.ref tb), some (.ref rt), some (.str (tx lo)), some (bnd hi'), some (bnd af), some (.int fo), some (.str (tx key')), some (.int v), y, some (.ref r)]) ∧ Keep1 tb H5 H' ∧ H' tb = some (.dK (encT (dropsT m (ks.take i))))) ⟨⟨_, rfl⟩, Same.keep1 (same_refl _), htb5⟩ (fun i σ' H' _ h => SqL.of (h.2.1 _ _ er5 hrtb)) ?_ ?_⟩
            · rintro i x σ' H6 hx ⟨⟨y, rfl⟩, k6, t6⟩
              obtain ⟨key2, hk, rfl⟩ := get_map hx
              have hin : key2 ∈ keysT (dropsT m (ks.take i)) := mem_drops.mpr ⟨hks.mem (List.mem_of_getElem? hk), not_before (hks.nodup hT.nd) hk⟩
              obtain ⟨v2, hv2'⟩ := getT_some hin
              walk_at "rds"
              refine ⟨tb, rfl, .inl ⟨_, .inl t6⟩, ?_⟩
              walk_at "rds"
              refine ⟨_, Sum.inr (tx key2), .int v2, t6, rfl, by rw [valV_enc, hv2']; rfl, ⟨_, rfl⟩, k6.put, ?_⟩
              rw [upd_same, dropK_enc, drops_snoc hk]
            · rintro σ' H6 ⟨hσ, k6, t6⟩
              rw [List.length_map, List.take_length] at t6
              exact ⟨hσ, k6, t6⟩
          · rintro σ' H6 ⟨⟨y, rfl⟩, k6, t6⟩
            have hS6 : St (SC mg) H6 a d ls m := by
              obtain ⟨dx, ho⟩ := hS5.o
              refine ⟨⟨dx, k6 _ _ ho fun z => ?_⟩, k6 _ _ hS5.t htd.symm⟩
              rw [z, htb5] at ho
              cases ho
            obtain ⟨dx, ho⟩ := hS6.o
            walk_at "rds"
            refine ⟨a, _, _, rfl, ho, rfl, ?_⟩
            walk_at "rds"
            refine ⟨rfl, rfl, a, d, ls, m, lo, hi', af, rfl, hS6, hT.nd, by omega, fun ks' H7 hks' k7 t7 => ?_⟩
            cases hks.uniq hks'
            walk_at "rds"
            refine rd_reprZ (.int _) gks ?_
            walk_at "rds"
            refine rd_lenL (SqL.of (k7 _ _ (k6 _ _ er5 hrtb) hrd)) ?_
            rw [List.length_map]
            walk_at "rds"
            refine ⟨_, rfl, hlog, ?_⟩
            rw [eshow]
            walk_at "rds"
            have qq := q (dropsT m ks) H7 hT1.drops (((Keep.k4 kpH5).trans (Keep1.k4' k6)).trans (Keep1.k4 k7)) ((hD5.k1 htb5 k6).k1 hS6.t k7) t7 (k7 _ _ t6 htd)
            have et : ∀ z : V, decide (z = z) = true := fun z => by simp
            rw [et]
            exact qq
        · walk_at "rds"
          rw [ei]
          refine rd_ite (fun hf5 => ?_) (fun hf5 => ?_)
          · refine rd_cut (fun σ' H' => (∃ y, σ' = [some (.ref D), some (.str (tx ls)), some (.ref a), some (.ref tb), some (.ref rt), some (.str (tx lo)), some (bnd hi'), some (bnd af), some (.int fo), some (.str (tx key')), some (.int v), y, some (.ref r)]) ∧ Keep1 tb H5 H' ∧ H' tb = some (.dK (encT (putsT m ks v)))) ?_ ?_
            · walk_at "rds"
              refine ⟨_, rfl, ⟨_, SqL.of er5⟩, for_list (K := K) (a := r) (xs := ks.map fun k => V.str (tx k)) (fun i σ' H' => (∃ y, σ' = [some (.ref D), some (.str (tx ls)), some (.ref a), some (.ref tb), some (.ref rt), some (.str (tx lo)), some (bnd hi'), some (bnd af), some (.int fo), some (.str (tx key')), some (.int v), y, some (.ref r)]) ∧ Keep1 tb H5 H' ∧ H' tb = some (.dK (encT (putsT m (ks.take i) v)))) ⟨⟨_, rfl⟩, Same.keep1 (same_refl _), htb5⟩ (fun i σ' H' _ h => SqL.of (h.2.1 _ _ er5 hrtb)) ?_ ?_⟩
              · rintro i x σ' H6 hx ⟨⟨y, rfl⟩, k6, t6⟩
                obtain ⟨key2, hk, rfl⟩ := get_map hx
                have hlen : (encT (putsT m (ks.take i) v)).length < 1000 + 1 := by
                  rw [encT_len, ← keys_len, puts_keys (fun k h => hks.mem (List.mem_of_mem_take h)), keys_len]
                  omega
                walk_at "rds"
                refine ⟨tb, _, rfl, DPut.k (k := Sum.inr (tx key2)) t6 (small1000 (by omega)), ⟨_, rfl⟩, k6.put, ?_⟩
                rw [upd_same, putK_enc, puts_snoc hk]
              · rintro σ' H6 ⟨hσ, k6, t6⟩
                rw [List.length_map, List.take_length] at t6
                exact ⟨hσ, k6, t6⟩
            · rintro σ' H6 ⟨⟨y, rfl⟩, k6, t6⟩
              have hS6 : St (SC mg) H6 a d ls m := by
                obtain ⟨dx, ho⟩ := hS5.o
                refine ⟨⟨dx, k6 _ _ ho fun z => ?_⟩, k6 _ _ hS5.t htd.symm⟩
                rw [z, htb5] at ho
                cases ho
              obtain ⟨dx, ho⟩ := hS6.o
              walk_at "rds"
              refine ⟨a, _, _, rfl, ho, rfl, ?_⟩
              walk_at "rds"
              refine ⟨rfl, rfl, a, d, ls, m, v, lo, hi', af, rfl, hv1, hS6, by omega, fun ks' H7 hks' k7 t7 => ?_⟩
              cases hks.uniq hks'
              walk_at "rds"
              refine rd_reprZ (.int _) gks ?_
              walk_at "rds"
              refine rd_lenL (SqL.of (k7 _ _ (k6 _ _ er5 hrtb) hrd)) ?_
              rw [List.length_map]
              walk_at "rds"
              refine ⟨_, rfl, hlog, ?_⟩
              rw [eshow]
              walk_at "rds"
              have qq := q (putsT m ks v) H7 (hT1.puts hv1 hv2 fun k h => hks.mem h) (((Keep.k4 kpH5).trans (Keep1.k4' k6)).trans (Keep1.k4 k7)) ((hD5.k1 htb5 k6).k1 hS6.t k7) t7 (k7 _ _ t6 htd)
              have et : ∀ z : V, decide (z = z) = true := fun z => by simp
              rw [et]
              exact qq
          · walk_at "rds"
            exact ⟨D, L, a, d, tb, rt, ls, m, lo, hi', af, rfl, hD5, hS5, htb5, hrt5, by omega, hT.ok hal (by omega), fun H6 kp6 hD6 => q m H6 hT1 ((Keep.k4 kpH5).trans (Keep.k4 kp6)) hD6 (hD5.kd kp6 hS5.t) (hD5.kd kp6 htb5)⟩
end
--C _law_copy_right.if:_law_wide
--C _law_copy_right._law_spot
--E _law_copy_right
section
variable {P : Program} {w : World} {K : PySem.W.Frag} {mg : Str → Option Value} {base : Heap}
/-- [(key, table[key]) for key in table] -/
theorem prs_of_keys {H : Hp} {d e : Addr} {m : Tab} {od : Obj} {g : TG} {tt : TT} {te : TE} {vs : List Nat} {σ : L2.St} {Qd : Hp → Prop} (hd : H d = some (.dK (encT m))) (ne : upd H d (.frz od (.dK (encT m))) e = none) (hm : m.length ≤ 1000)
    (hs : ∀ (key : List Nat) (v : Int) (H2 : Hp) (Q' : VK) (B : Hp → Prop), key ∈ keysT m → getT m key = some v → H2 d = some (.frz od (.dK (encT m))) → (∀ p, H2 p = none → Q' (.ref p) (upd H2 p (.tup [.str (tx key), .int v]))) →
      g (.str (tx key)) (wipe σ vs) H2 fun σ2 H3 => wipe σ2 vs = wipe σ vs ∧ tt σ2 H3 fun b H4 => if b = true then te σ2 H4 Q' else B H4)
    (hq : ∀ us H2, Same H H2 → H2 e = some (.lst us) → Prs H2 (prT m (keysT m)) us → ∀ H3, H3 d = some (.frz od (.dK (encT m))) → upd H3 d (.dK (encT m)) = H2 → Qd H3) :
    ∃ W : Nat → Nat → Hp → Prop, (∃ n, W 0 n (upd (upd H d (.frz od (.dK (encT m)))) e (.lst []))) ∧ ∀ i n H, W i n H →
      ((Itk d od (encT m)).stop i H ∧ Qd H) ∨ ((Itk d od (encT m)).go i H ∧ ∃ Nx : Hp → Prop, (∀ H', Nx H' → ∃ m', m' < n ∧ W (i + 1) m' H') ∧ ∀ x H', (Itk d od (encT m)).yld i H x H' → g x (wipe σ vs) H' fun σ2 H2 => wipe σ2 vs = wipe σ vs ∧ tt σ2 H2 fun b H3 =>
        if b = true then te σ2 H3 fun y H4 => ∃ acc, H4 e = some (.lst acc) ∧ acc.length < sizeLine ∧ Nx (upd H4 e (.lst (acc ++ [y]))) else Nx H3) := by
  have hed : e ≠ d := fun z => by
    rw [z, upd_same] at ne
    cases ne
  have hee : H e = none := by
    rw [upd_ne hed] at ne
    exact ne
  have hkl := keys_len m
  refine lc_it walk_keys (fun i H' => (∀ b o, H b = some o → b ≠ d → H' b = some o) ∧ H' d = some (.frz od (.dK (encT m))) ∧ ∃ us, H' e = some (.lst us) ∧ Prs H' (prT m ((keysT m).take i)) us) ⟨fun b o hb hbd => ?_, ?_, [], upd_same, .nil⟩ (fun i H' _ h => h.2.1) ?_ ?_
  · have hbe : b ≠ e := fun z => by
      rw [z, hee] at hb
      cases hb
    rw [upd_ne hbe, upd_ne hbd]
    exact hb
  · rw [upd_ne hed.symm, upd_same]
  · rintro i x H1 H2 hi ⟨k1, k2, us, eu, pu⟩ ⟨rfl, k, v, hk, rfl⟩
    obtain ⟨key, hkey, rfl⟩ := keys_at hk
    have hin := List.mem_of_getElem? hkey
    obtain ⟨v', hv'⟩ := getT_some hin
    refine hs key v' _ _ _ hin hv' k2 (fun p hp => ?_)
    have hpe : e ≠ p := fun z => by
      rw [← z, eu] at hp
      cases hp
    have hpd : p ≠ d := fun z => by
      rw [z, k2] at hp
      cases hp
    have hHp : ∀ b o, H b = some o → b ≠ d → b ≠ p := fun b o hb hbd z => by
      rw [← z, k1 b o hb hbd] at hp
      cases hp
    have hz : us.length < sizeLine := by
      rw [← pu.len, prT_len, List.length_take]
      exact small1000 (by omega)
    refine ⟨us, by rw [upd_ne hpe]; exact eu, hz, fun b o hb hbd => ?_, ?_, _, upd_same, ?_⟩
    · have hbe : b ≠ e := fun z => by
        rw [z, hee] at hb
        cases hb
      rw [upd_ne hbe, upd_ne (hHp b o hb hbd)]
      exact k1 b o hb hbd
    · rw [upd_ne hed.symm, upd_ne hpd.symm]
      exact k2
    · have e1 : prT m ((keysT m).take (i + 1)) = prT m ((keysT m).take i) ++ [(key, v')] := by
        unfold prT
        rw [List.take_add_one, hkey, Option.toList_some, List.map_append]
        show _ ++ [(key, (getT m key).getD 0)] = _
        rw [hv']
        rfl
      rw [e1]
      refine (pu.keep fun T l h => ?_).app (Prs.one ?_)
      · have h1 : T ≠ e := fun z => by
          rw [z, eu] at h
          cases h
        have h2 : T ≠ p := fun z => by
          rw [z, hp] at h
          cases h
        rw [upd_ne h1, upd_ne h2]
        exact h
      · rw [upd_ne hpe.symm, upd_same]
  · rintro H3 ⟨k1, k2, us, eu, pu⟩
    rw [encT_len, ← keys_len, List.take_length] at pu
    refine hq us _ (fun b o hb => ?_) (by rw [upd_ne hed]; exact eu) (pu.keep fun T l h => ?_) H3 k2 rfl
    · by_cases hbd : b = d
      · subst hbd
        rw [upd_same]
        rw [hd] at hb
        exact hb
      · rw [upd_ne hbd]
        exact k1 b o hb hbd
    · have : T ≠ d := fun z => by
        rw [z, k2] at h
        cases h
      rw [upd_ne this]
      exact h
/-- a table without keys twice is the pairs of its keys -/
theorem prT_self : ∀ {m : Tab}, (keysT m).Nodup → prT m (keysT m) = m
  | [], _ => rfl
  | (k, v) :: r, h => by
    have hn : k ∉ keysT r := (List.nodup_cons.mp h).1
    have ih := prT_self (m := r) (List.nodup_cons.mp h).2
    have h1 : ∀ j ∈ keysT r, getT ((k, v) :: r) j = getT r j := fun j hj => by
      have : k ≠ j := fun e => hn (by rw [e]; exact hj)
      unfold getT
      rw [List.find?_cons_of_neg (by simpa using this)]
    have h2 : getT ((k, v) :: r) k = some v := by
      unfold getT
      rw [List.find?_cons_of_pos (by simp)]
      rfl
    show (k, (getT ((k, v) :: r) k).getD 0) :: (keysT r).map (fun j => (j, (getT ((k, v) :: r) j).getD 0)) = _
    rw [h2]
    have h3 : (keysT r).map (fun j => (j, (getT ((k, v) :: r) j).getD 0)) = prT r (keysT r) := by
      unfold prT
      exact List.map_congr_left fun j hj => by rw [h1 j hj]
    rw [h3, ih]
    rfl
/-- pairs in another order make an equal table -/
theorem eqTab_self {m : Tab} (h : (keysT m).Nodup) : eqTab m m = true := by
  unfold eqTab
  rw [decide_eq_true rfl, Bool.true_and, List.all_eq_true]
  intro p hp
  refine decide_eq_true ?_
  obtain ⟨a, b, rfl⟩ := List.append_of_mem hp
  have hn : p.1 ∉ keysT a := fun hm => by
    unfold keysT at h hm
    rw [List.map_append, List.map_cons] at h
    exact (List.nodup_append.mp h).2.2 p.1 hm p.1 List.mem_cons_self rfl
  unfold getT
  rw [List.find?_append]
  have e : a.find? (fun q => decide (q.1 = p.1)) = none := by
    rw [List.find?_eq_none]
    intro x hx
    simp only [decide_eq_true_eq]
    intro e
    exact hn (List.mem_map.mpr ⟨x, hx, e⟩)
  rw [e, Option.none_or, List.find?_cons_of_pos (by simp)]
  rfl
theorem getT_mem {m : Tab} {p : List Nat × Int} (h : (keysT m).Nodup) (hp : p ∈ m) : getT m p.1 = some p.2 := by
  have := eqTab_self h
  unfold eqTab at this
  rw [decide_eq_true rfl, Bool.true_and, List.all_eq_true] at this
  exact of_decide_eq_true (this p hp)
theorem eqTab_perm {m n : Tab} (h : (keysT n).Nodup) (hp : m.Perm n) : eqTab m n = true := by
  unfold eqTab
  rw [decide_eq_true hp.length_eq, Bool.true_and, List.all_eq_true]
  exact fun p hm => decide_eq_true (getT_mem h (hp.mem_iff.mp hm))
theorem Prs.perm {H : Hp} {us ws : List V} (hp : us.Perm ws) : ∀ {m : Tab}, Prs H m us → ∃ n, m.Perm n ∧ Prs H n ws := by
  induction hp with
  | nil => exact fun h => ⟨_, .refl _, h⟩
  | cons x _ ih =>
    intro m h
    cases h with
    | cons a b =>
      obtain ⟨n, h1, h2⟩ := ih b
      exact ⟨_, h1.cons _, .cons a h2⟩
  | swap x y l =>
    intro m h
    cases h with
    | cons a b =>
      cases b with
      | cons c e => exact ⟨_, .swap _ _ _, .cons c (.cons a e)⟩
  | trans _ _ ih1 ih2 =>
    intro m h
    obtain ⟨n, h1, h2⟩ := ih1 h
    obtain ⟨n2, h3, h4⟩ := ih2 h2
    exact ⟨n2, h1.trans h3, h4⟩
theorem putT_mem {m : Tab} {k : List Nat} {v : Int} : (k, v) ∈ putT m k v := by
  unfold putT
  split
  · rename_i h
    obtain ⟨p, hp, e⟩ := List.any_eq_true.mp h
    have e' : p.1 = k := of_decide_eq_true e
    exact List.mem_map.mpr ⟨p, hp, by rw [if_pos e', e']⟩
  · exact List.mem_append_right _ (List.mem_singleton.mpr rfl)
theorem eqTab_put {m : Tab} {k : List Nat} {v : Int} (h : getT m k ≠ some v) : eqTab (putT m k v) m = false := by
  unfold eqTab
  cases hl : decide ((putT m k v).length = m.length) with
  | false => rfl
  | true =>
    rw [Bool.true_and, List.all_eq_false]
    exact ⟨_, putT_mem, by simpa using h⟩
theorem nodup_sub_len : ∀ {l m : List Nat}, l.Nodup → (∀ c ∈ l, c ∈ m) → l.length ≤ m.length
  | [], _, _, _ => Nat.zero_le _
  | a :: r, m, hn, hs => by
    obtain ⟨h1, h2⟩ := List.nodup_cons.mp hn
    have ha : a ∈ m := hs a List.mem_cons_self
    have ih := nodup_sub_len (l := r) (m := m.erase a) h2 fun c hc => (List.mem_erase_of_ne fun e => h1 (by rw [← e]; exact hc)).mpr (hs c (List.mem_cons_of_mem _ hc))
    rw [List.length_erase_of_mem ha] at ih
    have : 0 < m.length := List.length_pos_of_mem ha
    rw [List.length_cons]
    omega
theorem ascB_of : ∀ {u : List Nat}, u.Pairwise (· < ·) → ascB u = true
  | [], _ => rfl
  | [a], _ => rfl
  | a :: b :: r, h => by
    have h1 : a < b := (List.pairwise_cons.mp h).1 b List.mem_cons_self
    have ih := ascB_of (u := b :: r) (List.pairwise_cons.mp h).2
    unfold ascB at ih ⊢
    show (((a, b) :: (b :: r).zip r).all fun p => decide ([p.1] < [p.2])) = true
    rw [List.all_cons, Bool.and_eq_true]
    refine ⟨decide_eq_true (List.cons_lt_cons_iff.mpr (.inl h1)), ?_⟩
    exact ih
theorem areB_of {u : List Nat} (h1 : 2 ≤ u.length) (h2 : u.length ≤ 5) (h3 : ∀ c ∈ u, c ∈ alphabet) (h4 : u.Pairwise (· < ·)) : areB u = true := by
  unfold areB consB
  rw [decide_eq_true h1, decide_eq_true h2, ascB_of h4, Bool.true_and, Bool.true_and, Bool.and_true, List.all_eq_true]
  exact fun c hc => decide_eq_true (h3 c hc)
theorem KR.perm {m n : Tab} {lo : List Nat} {hi af : Option (List Nat)} {ks : List (List Nat)} (h : KR n lo hi af ks) (p : (keysT n).Perm (keysT m)) : KR m lo hi af ks := ⟨h.1.trans (p.filter _), h.2⟩
theorem getT_perm {m n : Tab} (h : n.Perm m) (hn : (keysT n).Nodup) (hm : (keysT m).Nodup) {k : List Nat} (hk : k ∈ keysT m) : getT n k = getT m k := by
  obtain ⟨p, hp, rfl⟩ := List.mem_map.mp hk
  rw [getT_mem hm hp, getT_mem hn (h.mem_iff.mpr hp)]
theorem prT_perm {m n : Tab} (h : n.Perm m) (hn : (keysT n).Nodup) (hm : (keysT m).Nodup) {ks : List (List Nat)} (hk : ∀ k ∈ ks, k ∈ keysT m) : prT n ks = prT m ks := by
  unfold prT
  exact List.map_congr_left fun k h' => by rw [getT_perm h hn hm (hk k h')]
theorem Prs.refs {K : PySem.W.Frag} {H : Hp} : ∀ {m : Tab} {us : List V}, Prs H m us → ∃ ps : List Addr, us = ps.map V.ref ∧ Paired (fun p (kv : Key × V) => SqT K H p [kV kv.1, kv.2]) ps (encT m)
  | _, _, .nil => ⟨[], rfl, .nil⟩
  | _, _, .cons ⟨T, e, h⟩ t => by
    obtain ⟨ps, e2, p⟩ := Prs.refs (K := K) t
    exact ⟨T :: ps, by rw [e, e2]; rfl, .cons (SqT.of h) p⟩
theorem same_seqT {K : PySem.W.Frag} {H H' : Hp} {a : Addr} {xs : List V} (e : Same H H') (h : SqT K H a xs) : SqT K H' a xs := by
  rcases h with (h | ⟨o, h⟩) | h
  · exact .inl (.inl (e _ _ h))
  · exact .inl (.inr ⟨o, e _ _ h⟩)
  · exact .inr h
theorem eqTab_nil : ∀ m : Tab, eqTab [] m = eqTab m []
  | [] => rfl
  | _ :: _ => rfl
theorem shown_true : V.str (PyData.bool true).shown = V.str (tx [84, 114, 117, 101]) := by decide +kernel
def spCopy (C : Addr) : Sp := fun vs H Q _ => ∃ (D L a d tb : Addr) (ls : List Nat) (m : Tab) (N : Nat), vs = [.ref D, .str (tx ls), .ref a, .ref tb] ∧ Deal D L H ∧ St C H a d ls m ∧ H tb = some (.dK (encT m)) ∧ tb ≠ d ∧
  areB ls = true ∧ ls.Nodup ∧ TabOk ls N m ∧ N ≤ 300 ∧ ∀ H', Keep D L H H' → Deal D L H' → Q (.bl true) H'
theorem cl_copy (T : Txt K mg) : ClG P w K mg base "_law_copy_right" ["_law_deal_here", "_law_letters_here", "_law_store", "_law_table"] 7 (spCopy (SC mg)) := clG_of T.a__law_copy_right fun f fd F => by
  have C__law_mixed := cl_mixed (P := P) (w := w) (base := base) T
  have C__law_spots := cl_spots (P := P) (w := w) (base := base) T
  have C_Store___setitem__ := met_set (P := P) (w := w) (base := base) T
  have C_Store___eq__ := met_eq (P := P) (w := w) (base := base) T
  have C_Store_copied := met_copied (P := P) (w := w) (base := base) T
  have C_Store_pairs_1 := at_pairs_1 (P := P) (w := w) (base := base) T
  have C_Store_2 := mk_Store_2 (P := P) (w := w) (base := base) T
  obtain ⟨ET, hET, C_Store_1⟩ := mk_Store_1 (P := P) (w := w) (base := base) T
  refine okG F sc__law_copy_right (fun vs H Q E h => ?_) (fun cdv A outer s H vs Q E hgd hr h => ?_)
  · obtain ⟨D, L, a, d, tb, ls, m, N, rfl, _⟩ := h
    rfl
  · obtain ⟨D, L, a, d, tb, ls, m, N, rfl, hD, hS, htb, htd, hls, hlsn, hT, hN, q⟩ := h
    refine ⟨_, (pss_cons (ps_par (i := 4) (j := 5) (by rfl) sc__law_copy_right.nd rfl rfl (by decide) rfl rfl (pa_cons (pe_mtG0 C_Store_copied hr (by decide) (pv 2)) (pa_cons (pe_cl C__law_mixed (hr.mono (by decide)) (by rfl) (pa_cons (pv 0) (pa_cons (pe_lock (pe_lc (own := [("_law_key", 10)]) (g := gName 10) (tt := tYes) (by rfl) sc__law_copy_right.nd (pi_keys (pv 3)) (blkOk_by (own := [("_law_key", 10)]) (N := n__law_copy_right) (sc := defScope s__law_copy_right) (by decide +kernel)) (fun _ _ _ _ _ => (pg_name (i := 10) sc__law_copy_right.nd rfl (Or.inl rfl))) (fun _ _ _ _ _ => pts_nil) (fun _ _ _ _ _ => (pe_tup (pa_cons (pv 10) (pa_cons (pe_dget (by exact hu_of hr) (pv 3) (pv 10) (fun _ _ => rfl)) pa_nil)))))) pa_nil))) pa_nil)) (by rfl))
      (pss_cons (ps_if (PW.pt (pw_or (pt_cmpR op_ne (pe_callB (r := rReprZ K) (call_reprZ hgd hr) (by rfl) T.m_repr (by decide +kernel) (pa_cons (pe_cmpR (eq_G (T := RightO (ca mg "Store")) (right_o T.i_Store) C_Store___eq__ hr (by decide)) (pv 4) (pv 2) (nomark _)) pa_nil)) (pe_strX [84, 114, 117, 101] (by decide +kernel)) (nomark _)) (pw_or1 (pt_cmpR op_ne (pe_callB (r := rReprZ K) (call_reprZ hgd hr) (by rfl) T.m_repr (by decide +kernel) (pa_cons (pe_cmpR (eq_G (T := RightO (ca mg "Store")) (right_o T.i_Store) C_Store___eq__ hr (by decide)) (pe_mkD C_Store_2 hr (by decide) (by rfl) (pa_cons (pv 1) (pa_cons (pe_tupleOf (by rfl) T.m_tuple (pv 5)) pa_nil))) (pv 2) (nomark _)) pa_nil)) (pe_strX [84, 114, 117, 101] (by decide +kernel)) (nomark _)))))
      (pss_one (ps_ret pe_bl))
      pss_nil)
      (Evl.pss_cut (ps_set (i := 6) sc__law_copy_right.nd rfl (Or.inl rfl) (pe_ifExp (pt_cmpR (op_neE hr.units) (pv 5) (pe_lst pa_nil) (nomark _)) (pe_ix ix_tup (pe_ix ix_list (pv 5) pe_int (fun _ _ => rfl)) pe_int (fun _ _ => rfl)) (pe_strX [] (by decide +kernel))))
      (pss_cons (ps_asg (pe_op op_mod (pe_callTy call_intI (by rfl) T.m_int (by decide +kernel) (pa_cons (pe_op op_add (pe_dget2 (by exact hu_of hr) (pv 3) (pv 6) pe_int ⟨rfl, rfl, rfl, rfl⟩) pe_int) pa_nil)) pe_int) (pg_sub (pv 4) (pv 6) (set_G C_Store___setitem__ T.q_Store hr (by decide))))
      (pss_cons (ps_setLc (i := 7) (own := [("_law_key", 10)]) (g := gName 10) (tt := tYes) (by rfl) sc__law_copy_right.nd rfl rfl (sw_true rfl rfl rfl (by decide +kernel)) (pi_list (pe_cl C__law_spots (hr.mono (by decide)) (by rfl) (pa_cons (pv 3) (pa_cons (pe_strX [] (by decide +kernel)) (pa_cons pe_non (pa_cons pe_non pa_nil)))))) (blkOk_by (own := [("_law_key", 10)]) (N := n__law_copy_right) (sc := defScope s__law_copy_right) (by decide +kernel)) (fun _ _ _ _ _ => (pg_name (i := 10) sc__law_copy_right.nd rfl (Or.inl rfl))) (fun _ _ _ _ _ => pts_nil) (fun _ _ _ _ _ => (pe_tup (pa_cons (pv 10) (pa_cons (pe_dget (by exact hu_of hr) (pv 3) (pv 10) (fun _ _ => rfl)) pa_nil)))))
      (pss_cons (ps_if (PW.pt (pw_or (pt_cmpR (eq_G (T := RightO (ca mg "Store")) (right_o T.i_Store) C_Store___eq__ hr (by decide)) (pv 4) (pv 2) (nomark _)) (pw_or1 (pt_cmpR op_ne (pe_callB (r := rReprZ K) (call_reprZ hgd hr) (by rfl) T.m_repr (by decide +kernel) (pa_cons (pe_mtD0 C_Store_pairs_1 hr (by decide) (pv 2)) pa_nil)) (pe_callB (r := rReprZ K) (call_reprZ hgd hr) (by rfl) T.m_repr (by decide +kernel) (pa_cons (pv 7) pa_nil)) (nomark _)))))
      (pss_one (ps_ret pe_bl))
      pss_nil)
      (pss_cons (ps_set (i := 8) sc__law_copy_right.nd rfl (Or.inl rfl) (pe_ix ix_list (pe_lc (own := [("_law_sign", 11)]) (g := gName 11) (by rfl) sc__law_copy_right.nd (pi_str (pe_strX [97, 98, 99, 120, 121, 122] (by decide +kernel))) (blkOk_by (own := [("_law_sign", 11)]) (N := n__law_copy_right) (sc := defScope s__law_copy_right) (by decide +kernel)) (fun _ _ _ _ _ => (pg_name (i := 11) sc__law_copy_right.nd rfl (Or.inl rfl))) (fun _ _ _ _ _ => (pts_one (pt_cmpR op_notInX (pv 11) (pv 1) (by rfl)))) (fun _ _ _ _ _ => (pv 11))) pe_int (fun _ _ => rfl)))
      (pss_cons (ps_set (i := 9) sc__law_copy_right.nd rfl (Or.inl rfl) (pe_mkD C_Store_1 hr (by decide) (by rfl) (pa_cons (pe_bm PySem.F.plainAttrs_str PySem.F.slot_str_join PySem.F.type_str_join mt_joinX (pe_strX [] (by decide +kernel)) (pa_cons (pe_callB cr_sortedT (by rfl) T.m_sorted (by decide +kernel) (pa_cons (pe_lc (own := [("_law_sign", 11)]) (g := gName 11) (tt := tYes) (by rfl) sc__law_copy_right.nd (pi_str (pe_op op_addX (pe_slice sl_strX (pv 1) po_none (po_some pe_int)) (pv 8))) (blkOk_by (own := [("_law_sign", 11)]) (N := n__law_copy_right) (sc := defScope s__law_copy_right) (by decide +kernel)) (fun _ _ _ _ _ => (pg_name (i := 11) sc__law_copy_right.nd rfl (Or.inl rfl))) (fun _ _ _ _ _ => pts_nil) (fun _ _ _ _ _ => (pe_callTy call_strS (by rfl) T.m_str (by decide +kernel) (pa_cons (pv 11) pa_nil)))) pa_nil)) pa_nil)) pa_nil)))
      (pss_cons (ps_if (PW.pt (pw_or (pt_cmpR (eq_G (T := RightO (ca mg "Store")) (right_o T.i_Store) C_Store___eq__ hr (by decide)) (pv 9) (pe_mkD C_Store_1 hr (by decide) (by rfl) (pa_cons (pv 1) pa_nil)) (nomark _)) (pw_or (pt_cmpR (eq_G (T := RightO (ca mg "Store")) (right_o T.i_Store) C_Store___eq__ hr (by decide)) (pe_mkD C_Store_1 hr (by decide) (by rfl) (pa_cons (pv 1) pa_nil)) (pv 9) (nomark _)) (pw_or1 (pt_not (pt_cmpR (ne_G (T := RightO (ca mg "Store")) (right_o T.i_Store) T.ne_Store C_Store___eq__ hr (by decide)) (pv 9) (pe_mkD C_Store_1 hr (by decide) (by rfl) (pa_cons (pv 1) pa_nil)) (nomark _)))))))
      (pss_one (ps_ret pe_bl))
      pss_nil)
      (Evl.pss_cut (ps_if (pt_cmpR op_lt (pe_callB call_lenX (by rfl) T.m_len (by decide +kernel) (pa_cons (pv 1) pa_nil)) pe_int (nomark _))
      (pss_cons (ps_set (i := 9) sc__law_copy_right.nd rfl (Or.inl rfl) (pe_mkD C_Store_2 hr (by decide) (by rfl) (pa_cons (pe_fldK (K := K) (by rfl) (pv 9) (by rfl)) (pa_cons (pv 5) pa_nil))))
      (pss_one (ps_if (PW.pt (pw_or (pt_cmpR (eq_G (T := RightO (ca mg "Store")) (right_o T.i_Store) C_Store___eq__ hr (by decide)) (pv 9) (pv 2) (nomark _)) (pw_or (pt_cmpR (eq_G (T := RightO (ca mg "Store")) (right_o T.i_Store) C_Store___eq__ hr (by decide)) (pv 2) (pv 9) (nomark _)) (pw_or1 (pt_cmpR op_ne (pe_callB (r := rReprZ K) (call_reprZ hgd hr) (by rfl) T.m_repr (by decide +kernel) (pa_cons (pe_mtD0 C_Store_pairs_1 hr (by decide) (pv 9)) pa_nil)) (pe_callB (r := rReprZ K) (call_reprZ hgd hr) (by rfl) T.m_repr (by decide +kernel) (pa_cons (pv 7) pa_nil)) (nomark _))))))
      (pss_one (ps_ret pe_bl))
      pss_nil)))
      pss_nil)
      (pss_cons (ps_if (PW.pt (pw_or (pt_cmpR (eq_G (T := RightO (ca mg "Store")) (right_o T.i_Store) C_Store___eq__ hr (by decide)) (pv 2) (pv 5) (nomark _)) (pw_or (pt_cmpR (eq_G (T := RightO (ca mg "Store")) (right_o T.i_Store) C_Store___eq__ hr (by decide)) (pv 2) (pe_callTy (call_dictP rfl) (by rfl) T.m_dict (by decide +kernel) (pa_cons (pv 5) pa_nil)) (nomark _)) (pw_or (pt_cmpR (eq_G (T := RightO (ca mg "Store")) (right_o T.i_Store) C_Store___eq__ hr (by decide)) (pe_mkD C_Store_1 hr (by decide) (by rfl) (pa_cons (pv 1) pa_nil)) pe_dnewK (nomark _)) (pw_or1 (pt_not (pt_cmpR (ne_G (T := RightO (ca mg "Store")) (right_o T.i_Store) T.ne_Store C_Store___eq__ hr (by decide)) (pv 2) (pe_callTy (call_dictP rfl) (by rfl) T.m_dict (by decide +kernel) (pa_cons (pv 5) pa_nil)) (nomark _))))))))
      (pss_one (ps_ret pe_bl))
      pss_nil)
      (pss_one (ps_ret (pe_cmpR op_eq (pe_cmpR (eq_G (T := RightO (ca mg "Store")) (right_o T.i_Store) C_Store___eq__ hr (by decide)) (pe_mkD C_Store_1 hr (by decide) (by rfl) (pa_cons (pv 1) pa_nil)) (pv 2) (nomark _)) (pe_cmpR (op_eqT (by exact hu_of hr)) (pv 3) pe_dnewK (nomark _)) (nomark _))))))))))))))), ?_⟩
    walk_at "rds"
    obtain ⟨dx, ho⟩ := hS.o
    have hlen := hT.len
    have hal : ls.length ≤ 5 ∧ 2 ≤ ls.length ∧ consB alphabet ls = true := by
      unfold areB at hls
      obtain ⟨h1, h2⟩ := Bool.and_eq_true_iff.mp hls
      obtain ⟨h3, h4⟩ := Bool.and_eq_true_iff.mp h2
      obtain ⟨h5, h6⟩ := Bool.and_eq_true_iff.mp h4
      exact ⟨of_decide_eq_true h3, of_decide_eq_true h1, h5⟩
    have hov : ∀ q ∈ m, Ov ls q.1 ∧ 0 ≤ q.2 := fun q hq => ⟨⟨(hT.kb q.1 (List.mem_map.mpr ⟨q, hq, rfl⟩)).1, by have := (hT.kb q.1 (List.mem_map.mpr ⟨q, hq, rfl⟩)).2; omega⟩, (hT.v q hq).1⟩
    refine ⟨a, _, _, rfl, ho, rfl, ?_⟩
    walk_at "rds"
    refine ⟨a, d, ls, m, rfl, hS, hls, by omega, hT.nd, hov, by omega, fun x d1 H1 s1 hx hd1 hS1 => ?_⟩
    have htb1 := s1 _ _ htb
    walk_at "rds"
    refine Un.rd_lock htb1 trivial fun od => ?_
    walk_at "rds"
    refine ⟨tb, od, rfl, .inl ⟨_, upd_same, fun e ne => prs_of_keys htb1 ne (by omega) (fun key v H2 Q' B hk hv h2 hp => ?_) (fun us H2 s2 eu pu H3 h3 eH => ⟨h3, ?_⟩)⟩⟩
    · walk_at "rds"
      refine ⟨rfl, ?_⟩
      walk_at "rds"
      refine rd_ite (fun _ => ?_) (fun h => by cases h)
      walk_at "rds"
      refine ⟨tb, .int v, rfl, .inl ⟨_, Sum.inr (tx key), .inr ⟨_, h2⟩, rfl, by rw [valV_enc, hv]; rfl⟩, ?_⟩
      walk_at "rds"
      exact ⟨by show 2 ≤ sizeLine; decide, hp⟩
    rw [eH]
    rw [prT_self hT.nd] at pu
    walk_at "rds"
    clear eH h3
    have s12 := same_trans s1 s2
    have hul : us.length ≤ 100 := by
      rw [← pu.len]
      exact hlen
    have hxn2 : x ≠ e := fun z => by
      obtain ⟨dy, hy⟩ := hS1.o
      rw [z] at hy
      rw [s2 _ _ hy] at eu
      cases eu
    refine ⟨D, L, e, us, rfl, hD.keep s12, SqL.of eu, by omega, fun ws r H4 hp kp4 hD4 hrn hr => ?_⟩
    obtain ⟨n, hmn, pn⟩ := Prs.perm hp.symm (pu.keep fun T l h => kp4 _ _ h (fun z => by
      obtain ⟨c1, x1, h1, _⟩ := hD.keep s12
      rw [z, h1] at h
      cases h) (fun z => by
      obtain ⟨c1, x1, _, h1, _⟩ := hD.keep s12
      rw [z, h1] at h
      cases h))
    have hD2 := hD.keep s12
    have hS4 : St (SC mg) H4 a d ls m := (hS.same s12).kd hD2 kp4
    have hO4 : St (SC mg) H4 x d1 ls m := (hS1.same s2).kd hD2 kp4
    have htb4 := hD2.kd kp4 (s2 _ _ htb1)
    have kpH4 : Keep D L H H4 := (Keep.of_same s12).trans kp4
    have hn : (keysT n).Nodup := by
      have : (keysT m).Perm (keysT n) := hmn.map _
      exact this.nodup_iff.mp hT.nd
    have hovn : ∀ q ∈ n, Ov ls q.1 ∧ 0 ≤ q.2 := fun q hq => hov q (hmn.mem_iff.mpr hq)
    have hnl : n.length ≤ 100 := by
      rw [← hmn.length_eq]
      exact hlen
    have et : ∀ z : V, decide (z = z) = true := fun z => by simp
    obtain ⟨dx4, ho4⟩ := hO4.o
    obtain ⟨dy4, hs4⟩ := hS4.o
    have hT2 : (decide (ls = ls) && eqTab m m) = true := by rw [decide_eq_true rfl, eqTab_self hT.nd]; rfl
    walk_at "rds"
    refine ⟨x, dx4, _, rfl, ho4, ⟨a, rfl, .inl ⟨_, _, hs4⟩⟩, x, d1, ls, m, .ref a, true, rfl, hO4, .inl ⟨a, d, ls, m, rfl, hS4, hT2.symm⟩, fun H5 s5 => ⟨true, rfl, ?_⟩⟩
    walk_at "rds"
    refine rd_reprZ (.bl true) ((bool_good true).mono (by decide) (by decide)) ?_
    rw [shown_true]
    walk_at "rds"
    refine rd_ite (fun h => by simp at h) (fun _ => ?_)
    walk_at "rds"
    refine ⟨_, rfl, .inl ⟨r, ws, rfl, SqL.of (s5 _ _ hr), fun t6 ht6 => ?_⟩⟩
    have s56 := same_trans s5 (same_upd (o := .tup ws) ht6)
    have e6 : upd H5 t6 (.tup ws) t6 = some (.tup ws) := upd_same
    generalize upd H5 t6 (.tup ws) = H6 at s56 e6 ⊢
    walk_at "rds"
    refine make_end hls (by omega) (.inr (SqT.of e6)) (pn.same s56) hovn (by omega) (fun x7 d7 H7 s7 hx7 hd7 hS7 => ?_)
    rw [putsP_same n [] hn, List.nil_append] at hS7
    have s47 := same_trans s56 s7
    obtain ⟨dx7, ho7⟩ := hS7.o
    have hT3 : (decide (ls = ls) && eqTab n m) = true := by rw [decide_eq_true rfl, eqTab_perm hT.nd hmn.symm]; rfl
    walk_at "rds"
    refine ⟨x7, dx7, _, rfl, ho7, ⟨a, rfl, .inl ⟨_, _, s47 _ _ hs4⟩⟩, x7, d7, ls, n, .ref a, true, rfl, hS7, .inl ⟨a, d, ls, m, rfl, hS4.same s47, hT3.symm⟩, fun H8 s8 => ⟨true, rfl, ?_⟩⟩
    walk_at "rds"
    refine rd_reprZ (.bl true) ((bool_good true).mono (by decide) (by decide)) ?_
    rw [shown_true]
    walk_at "rds"
    refine rd_ite (fun h => by simp at h) (fun _ => ?_)
    have s48 := same_trans s47 s8
    clear s8 hT3 hS7 ho7 s7 hx7 hd7 s56 e6 ht6 s5
    walk_at "rds"
    refine rd_cut (fun σ' H' => ∃ sp, σ' = [some (.ref D), some (.str (tx ls)), some (.ref a), some (.ref tb), some (.ref x), some (.ref r), some (.str (tx sp)), none, none, none, none, none] ∧ Ov ls sp ∧ Same H4 H') ?_ ?_
    · walk_at "rds"
      refine ⟨Nat.zero_le _, fun e8 he8 => ?_⟩
      have s89 := same_trans s48 (same_upd (o := .lst []) he8)
      refine rd_neE (SqL.of (s89 _ _ hr)) (SqL.of upd_same) ?_
      walk_at "rds"
      refine rd_ite (fun hne => ?_) (fun _ => ?_)
      · cases pn with
        | nil => cases hne
        | @cons q0 w0 nt wt h0 pt =>
          obtain ⟨T0, rfl, hT0⟩ := h0
          walk_at "rds"
          refine rd_ixL (SqL.of (s89 _ _ hr)) (v := .ref T0) (by simp [atI, ixN]) ?_
          walk_at "rds"
          refine rd_ixT (SqT.of (s89 _ _ hT0)) (v := .str (tx q0.1)) (by rfl) ?_
          walk_at "rds"
          exact ⟨q0.1, rfl, (hovn q0 List.mem_cons_self).1, s89⟩
      · walk_at "rds"
        exact ⟨[], rfl, ⟨fun c h => (by cases h), Nat.zero_le _⟩, s89⟩
    · rintro σ' H9 ⟨sp, rfl, hsp, s49⟩
      have htb9 := s49 _ _ htb4
      walk_at "rds"
      refine ⟨tb, rfl, .inl ⟨_, .inl htb9⟩, ?_⟩
      walk_at "rds"
      refine ⟨_, DGet.k (k := Sum.inr (tx sp)) htb9, ?_⟩
      rw [valV_enc]
      obtain ⟨v0, hv0, hvn⟩ : ∃ v0 : Int, ((getT m sp).map V.int).getD (V.int 0) = .int v0 ∧ getT m sp ≠ some ((v0 + 1) % 5) := by
        cases getT m sp with
        | none => exact ⟨0, rfl, fun h => by cases h⟩
        | some v => exact ⟨v, rfl, fun h => by
            have := Option.some.inj h
            omega⟩
      rw [hv0]
      walk_at "rds"
      refine rd_I (by decide) ?_
      walk_at "rds"
      have hO9 := hO4.same s49
      obtain ⟨dx9, ho9⟩ := hO9.o
      refine ⟨x, _, _, rfl, ho9, x, d1, ls, m, sp, _, rfl, hO9, hsp, Int.emod_nonneg _ (by decide), by omega, fun H10 k10 t10 => ?_⟩
      have d1d : d1 ≠ d := fun z => by
        rw [z, hS.t] at hd1
        cases hd1
      have d1tb : d1 ≠ tb := fun z => by
        rw [z, htb] at hd1
        cases hd1
      have hS9 := hS4.same s49
      have hS10 : St (SC mg) H10 a d ls m := by
        obtain ⟨dz, hz⟩ := hS9.o
        refine ⟨⟨dz, k10 _ _ hz fun z => ?_⟩, k10 _ _ hS9.t d1d.symm⟩
        have := hO9.t
        rw [← z, hz] at this
        cases this
      have hO10 : St (SC mg) H10 x d1 ls (putT m sp ((v0 + 1) % 5)) := hO9.keep k10 t10
      have htb10 := k10 _ _ htb9 d1tb.symm
      have hD10 : Deal D L H10 := (hD4.keep s49).k1 hO9.t k10
      have kpH10 : Keep D L H H10 := fun b o hb h1 h2 => k10 _ _ (s49 _ _ (kpH4 b o hb h1 h2)) fun z => by
        rw [z, hd1] at hb
        cases hb
      walk_at "rds"
      refine ⟨tb, m, [], none, none, rfl, htb10, by omega, fun ks r11 H11 hks s11 hr11 er11 => ?_⟩
      have hkl := hks.len
      walk_at "rds"
      refine ⟨_, rfl, ⟨_, SqL.of er11⟩, fun e12 ne12 => lc_prs er11 ne12 (fun k h => hks.mem h) (by omega) (fun key v H12 Q' B hk hv s12' hp => ?_) (fun us12 H12 s12' eu12 pu12 => ?_)⟩
      · walk_at "rds"
        refine ⟨rfl, ?_⟩
        walk_at "rds"
        refine rd_ite (fun _ => ?_) (fun h => by cases h)
        walk_at "rds"
        refine ⟨tb, .int v, rfl, ?_, ?_⟩
        · have g := DGet.k (k := Sum.inr (tx key)) (s12' _ _ (s11 _ _ htb10))
          rw [valV_enc, hv] at g
          exact g
        walk_at "rds"
        exact ⟨by show 2 ≤ sizeLine; decide, hp⟩
      have s1012 := same_trans s11 s12'
      walk_at "rds"
      have hF : (decide (ls = ls) && eqTab (putT m sp ((v0 + 1) % 5)) m) = false := by rw [decide_eq_true rfl, eqTab_put hvn]; rfl
      have hO12 := hO10.same s1012
      have hS12 := hS10.same s1012
      obtain ⟨dx12, ho12⟩ := hO12.o
      obtain ⟨dy12, hs12⟩ := hS12.o
      refine ⟨x, dx12, _, rfl, ho12, ⟨a, rfl, .inl ⟨_, _, hs12⟩⟩, x, d1, ls, _, .ref a, false, rfl, hO12, .inl ⟨a, d, ls, m, rfl, hS12, hF.symm⟩, fun H13 s13 => ⟨false, rfl, ?_⟩⟩
      have s1013 := same_trans s1012 s13
      have gA : GoodZ 20 200000 (plD (prT m ks)) := (plD_good (prT_ok (hT.ok (fun c hc => of_decide_eq_true (List.all_eq_true.mp hal.2.2 c hc)) hN) fun k h => hks.mem h) (by rw [prT_len]; omega)).mono (by decide) (by decide)
      walk_at "rds"
      refine rd_ite (fun h => by cases h) (fun _ => ?_)
      walk_at "rds"
      refine ⟨a, _, _, rfl, s13 _ _ hs12, rfl, ?_⟩
      walk_at "rds"
      refine ⟨a, d, ls, m, [], none, none, rfl, hS12.same s13, by omega, fun ks' r14 us14 H14 hks' s14 hr14 er14 pr14 => ?_⟩
      cases hks.uniq hks'
      walk_at "rds"
      refine rd_reprZ (Prs.list er14 pr14) gA ?_
      walk_at "rds"
      have s1214 := same_trans s13 s14
      refine rd_reprZ (Prs.list (s1214 _ _ eu12) (pu12.same s1214)) gA ?_
      walk_at "rds"
      refine rd_ite (fun h => by simp at h) (fun _ => ?_)
      walk_at "rds"
      have s1014 := same_trans s1012 s1214
      have hS14 := hS10.same s1014
      have hO14 := hO10.same s1014
      have htb14 := s1014 _ _ htb10
      have hD14 := hD10.keep s1014
      have kpH14 : Keep D L H H14 := kpH10.trans (Keep.of_same s1014)
      have eu14 := s1214 _ _ eu12
      have pu14 := pu12.same s1214
      have s414 : ∀ b o, H4 b = some o → b ≠ d1 → H14 b = some o := fun b o hb hne => s1014 _ _ (k10 _ _ (s49 _ _ hb) hne)
      refine fun g hg => lc_text (l := [97, 98, 99, 120, 121, 122]) (fun i H' => Same H14 H' ∧ H' g = some (.lst (sgs ((([97, 98, 99, 120, 121, 122] : List Nat).take i).filter fun c => !decide (c ∈ ls))))) ⟨same_upd hg, upd_same⟩ ?_ ?_
      · rintro i c H15 hc ⟨s15, e15⟩
        have hfl := filt_len [97, 98, 99, 120, 121, 122] i fun c => !decide (c ∈ ls)
        walk_at "rds"
        refine ⟨rfl, ?_⟩
        walk_at "rds"
        rw [if_pos rfl]
        refine rd_ite (fun h => ?_) (fun h => ?_)
        · walk_at "rds"
          refine ⟨_, e15, by rw [sgs_len]; exact small1000 (by simp at hfl ⊢; omega), same_mut s15 hg, ?_⟩
          rw [upd_same, filt_snoc hc h]
          unfold sgs
          rw [List.map_append]
          rfl
        · refine ⟨s15, ?_⟩
          rw [filt_skip hc h]
          exact e15
      · rintro H15 ⟨s15, e15⟩
        rw [List.take_length] at e15
        walk_at "rds"
        obtain ⟨c0, rest, hfe⟩ : ∃ c0 rest, ([97, 98, 99, 120, 121, 122] : List Nat).filter (fun c => !decide (c ∈ ls)) = c0 :: rest := by
          cases hz : ([97, 98, 99, 120, 121, 122] : List Nat).filter (fun c => !decide (c ∈ ls)) with
          | cons c r => exact ⟨c, r, rfl⟩
          | nil =>
            have hall : ∀ c ∈ ([97, 98, 99, 120, 121, 122] : List Nat), c ∈ ls := fun c hc => by
              have := List.filter_eq_nil_iff.mp hz c hc
              simpa using this
            have := nodup_sub_len (l := [97, 98, 99, 120, 121, 122]) (by decide) hall
            simp at this
            omega
        rw [hfe] at e15
        have hc0 : c0 ∈ ([97, 98, 99, 120, 121, 122] : List Nat) ∧ c0 ∉ ls := by
          have h1 : c0 ∈ ([97, 98, 99, 120, 121, 122] : List Nat).filter (fun c => !decide (c ∈ ls)) := by rw [hfe]; exact List.mem_cons_self
          obtain ⟨h2, h3⟩ := List.mem_filter.mp h1
          exact ⟨h2, by simpa using h3⟩
        have hc0a : c0 ∈ alphabet := (by decide : ∀ c ∈ ([97, 98, 99, 120, 121, 122] : List Nat), c ∈ alphabet) c0 hc0.1
        have hasc : ls.Nodup := hlsn
        refine rd_ixL (SqL.of e15) (v := .str (tx [c0])) (by simp [atI, ixN, sgs]) ?_
        walk_at "rds"
        refine rd_slX (Nat.le_of_lt (small1000 (by omega))) ?_
        rw [show (some (4 : Int)) = some ((4 : Nat) : Int) from rfl, cutL_take]
        walk_at "rds"
        refine rd_addX (by rw [List.length_take]; exact Nat.le_of_lt (small1000 (by simp; omega))) ?_
        have hfl : (ls.take 4 ++ [c0]).length ≤ 5 ∧ 3 ≤ (ls.take 4 ++ [c0]).length := by
          rw [List.length_append, List.length_take]
          simp
          omega
        have hfn : (ls.take 4 ++ [c0]).Nodup := List.nodup_append.mpr ⟨hasc.sublist (List.take_sublist 4 ls), by simp, fun u hu v hv => by
          rw [List.mem_singleton.mp hv]
          rintro rfl
          exact hc0.2 (List.mem_of_mem_take hu)⟩
        have hfa : ∀ c ∈ ls.take 4 ++ [c0], c ∈ alphabet := fun c hc => by
          rcases List.mem_append.mp hc with h | h
          · exact of_decide_eq_true (List.all_eq_true.mp hal.2.2 c (List.mem_of_mem_take h))
          · rw [List.mem_singleton.mp h]
            exact hc0a
        have hcf : c0 ∈ ls.take 4 ++ [c0] := List.mem_append_right _ (List.mem_singleton.mpr rfl)
        have hsub : ls.length ≤ 4 → ∀ c ∈ ls, c ∈ ls.take 4 ++ [c0] := fun h c hc => by
          rw [List.take_of_length_le h]
          exact List.mem_append_left _ hc
        generalize ls.take 4 ++ [c0] = fs at hfl hfn hfa hcf hsub ⊢
        walk_at "rds"
        refine fun g2 hg2 => lc_text (l := fs) (fun i H' => Same H15 H' ∧ H' g2 = some (.lst (sgs (fs.take i)))) ⟨same_upd hg2, upd_same⟩ ?_ ?_
        · rintro i c H16 hc ⟨s16, e16⟩
          walk_at "rds"
          refine ⟨rfl, ?_⟩
          walk_at "rds"
          refine rd_ite (fun _ => ?_) (fun h => by cases h)
          walk_at "rds"
          refine ⟨_, e16, by rw [sgs_len, List.length_take]; exact small1000 (by omega), same_mut s16 hg2, ?_⟩
          rw [upd_same]
          unfold sgs
          rw [take_snoc _ hc]
        · rintro H16 ⟨s16, e16⟩
          rw [List.take_length] at e16
          have e16' : H16 g2 = some (.lst ((fs.map fun c => tx [c]).map V.str)) := by rw [e16, List.map_map]; rfl
          walk_at "rds"
          refine ⟨g2, _, rfl, SqL.of e16', fun ys p17 hp17 hso17 np17 => ?_⟩
          obtain ⟨wl, rfl, hwp, hwlt⟩ := sorted_signs hp17 hso17 hfn
          walk_at "rds"
          refine rd_joinX (ls := wl.map fun c => [c]) (SqL.of (by rw [upd_same, List.map_map, List.map_map]; rfl)) ?_ ?_
          · have : (List.map List.length (wl.map fun c => [c])).sum = wl.length := by
              rw [List.map_map]
              have : (List.length ∘ fun c : Nat => [c]) = fun _ => 1 := rfl
              rw [this, List.map_const', List.sum_replicate_nat]
              omega
            rw [this, hwp.length_eq]
            omega
          · rw [flat_ones]
            have s1517 : Same H14 (upd H16 p17 (.lst ((wl.map fun c => tx [c]).map V.str))) := same_trans s15 (same_trans s16 (same_upd np17))
            generalize upd H16 p17 (.lst ((wl.map fun c => tx [c]).map V.str)) = H17 at s1517 ⊢
            have hwB : areB wl = true := areB_of (by rw [hwp.length_eq]; omega) (by rw [hwp.length_eq]; omega) (fun c hc => hfa c (hwp.mem_iff.mp hc)) hwlt
            have hwl : wl.length ≤ 5 := by rw [hwp.length_eq]; omega
            have hne : wl ≠ ls := fun z => hc0.2 (by rw [← z]; exact hwp.mem_iff.mpr hcf)
            walk_at "rds"
            refine make_end hwB (by omega) (hET _) .nil (fun q hq => by cases hq) (Nat.zero_le _) (fun x18 d18 H18 s18 hx18 hd18 hS18 => ?_)
            walk_at "rds"
            have s1418 := same_trans s1517 s18
            obtain ⟨dy18, ho18⟩ := hS18.o
            have f1 : (decide (wl = ls) && eqTab (putsP [] []) (putsP [] [])) = false := by rw [decide_eq_false hne]; rfl
            have f2 : (decide (ls = wl) && eqTab (putsP [] []) (putsP [] [])) = false := by rw [decide_eq_false (Ne.symm hne)]; rfl
            refine make_end hls (by omega) (hET _) .nil (fun q hq => by cases hq) (Nat.zero_le _) (fun x19 d19 H19 s19 hx19 hd19 hS19 => ?_)
            obtain ⟨dy19, ho19⟩ := hS19.o
            walk_at "rds"
            refine ⟨x18, dy18, _, rfl, s19 _ _ ho18, ⟨x19, rfl, .inl ⟨_, _, ho19⟩⟩, x18, d18, wl, _, .ref x19, false, rfl, hS18.same s19, .inl ⟨x19, d19, ls, _, rfl, hS19, f1.symm⟩, fun H20 s20 => ⟨false, rfl, ?_⟩⟩
            walk_at "rds"
            refine rd_ite (fun h => by cases h) (fun _ => ?_)
            walk_at "rds"
            have hnil : ∀ q ∈ ([] : Tab), Ov ls q.1 ∧ 0 ≤ q.2 := fun q hq => by cases hq
            refine make_end hls (by omega) (hET _) .nil hnil (Nat.zero_le _) (fun x21 d21 H21 s21 hx21 hd21 hS21 => ?_)
            obtain ⟨dy21, ho21⟩ := hS21.o
            have s1821 := same_trans s19 (same_trans s20 s21)
            walk_at "rds"
            refine ⟨x21, dy21, _, rfl, ho21, ⟨x18, rfl, .inl ⟨_, _, s1821 _ _ ho18⟩⟩, x21, d21, ls, _, .ref x18, false, rfl, hS21, .inl ⟨x18, d18, wl, _, rfl, hS18.same s1821, f2.symm⟩, fun H22 s22 => ⟨false, rfl, ?_⟩⟩
            walk_at "rds"
            refine rd_ite (fun h => by cases h) (fun _ => ?_)
            walk_at "rds"
            have s1822 := same_trans s1821 s22
            clear s22 s1821 hS21 ho21 s21 hx21 hd21 s20 hS19 ho19 s19 hx19 hd19
            walk_at "rds"
            refine make_end hls (by omega) (hET _) .nil hnil (Nat.zero_le _) (fun x23 d23 H23 s23 hx23 hd23 hS23 => ?_)
            obtain ⟨dy23, ho23⟩ := hS23.o
            have s1823 := same_trans s1822 s23
            walk_at "rds"
            refine ⟨x18, dy18, _, rfl, s1823 _ _ ho18, ⟨x23, rfl, .inl ⟨_, _, ho23⟩⟩, x18, d18, wl, _, .ref x23, false, rfl, hS18.same s1823, .inl ⟨x23, d23, ls, _, rfl, hS23, f1.symm⟩, fun H24 s24 => ⟨false, rfl, ?_⟩⟩
            walk_at "rds"
            refine rd_ite (fun h => by cases h) (fun _ => ?_)
            walk_at "rds"
            have s1824 := same_trans s1823 s24
            clear s24 s1823 hS23 ho23 s23 hx23 hd23 s1822
            have s1424 := same_trans s1418 s1824
            have ho24 := s1824 _ _ ho18
            have s424 : ∀ b o, H4 b = some o → b ≠ d1 → H24 b = some o := fun b o hb hne => s1424 _ _ (s414 b o hb hne)
            have hr24 : H24 r = some (.lst ws) := s424 _ _ hr fun z => by
              rw [z, hO4.t] at hr
              cases hr
            have pn24 : Prs H24 n ws := pn.keep fun T l h => s424 _ _ h fun z => by
              rw [z, hO4.t] at h
              cases h
            have hS24 := hS14.same s1424
            have hD24 := hD14.keep s1424
            have htb24 := s1424 _ _ htb14
            have kpH24 : Keep D L H H24 := kpH14.trans (Keep.of_same s1424)
            have eu24 := s1424 _ _ eu14
            have pu24 := pu14.same s1424
            have hsubw : ls.length ≤ 4 → ∀ c ∈ ls, c ∈ wl := fun h c hc => hwp.mem_iff.mpr (hsub h c hc)
            clear s424 s1824 s1418 s1424 hS18 s18 hx18 hd18 ho18 s1517 e16' e16 s16 hg2 e15 s15 hg hS14 hD14 htb14 kpH14 eu14 pu14 s414
            walk_at "rds"
            refine rd_cut (fun σ' H' => ∃ y, σ' = [some (.ref D), some (.str (tx ls)), some (.ref a), some (.ref tb), some (.ref x), some (.ref r), some (.str (tx sp)), some (.ref e12), some (.str (tx [c0])), some (.ref y), none, none] ∧ Same H24 H') ?_ ?_
            · walk_at "rds"
              refine rd_lenX (Nat.le_of_lt (small1000 (by omega))) ?_
              walk_at "rds"
              refine rd_ite (fun h5 => ?_) (fun _ => ?_)
              · have hl5 : ls.length ≤ 4 := by
                  have := of_decide_eq_true h5
                  omega
                walk_at "rds"
                refine ⟨x18, _, dy18, _, _, rfl, ho24, T.k_Store, T.n_Store_letters, rfl, ?_⟩
                walk_at "rds"
                have hovw : ∀ q ∈ n, Ov wl q.1 ∧ 0 ≤ q.2 := fun q hq => ⟨⟨fun c hc => hsubw hl5 c ((hovn q hq).1.1 c hc), (hovn q hq).1.2⟩, (hovn q hq).2⟩
                refine make_end hwB (by omega) (.inl (SqL.of hr24)) pn24 hovw (by omega) (fun x25 d25 H25 s25 hx25 hd25 hS25 => ?_)
                rw [putsP_same n [] hn, List.nil_append] at hS25
                obtain ⟨dy25, ho25⟩ := hS25.o
                have hA25 := hS24.same s25
                obtain ⟨dz25, hz25⟩ := hA25.o
                have g1 : (decide (wl = ls) && eqTab n m) = false := by rw [decide_eq_false hne]; rfl
                have g2 : (decide (ls = wl) && eqTab m n) = false := by rw [decide_eq_false (Ne.symm hne)]; rfl
                walk_at "rds"
                refine ⟨x25, dy25, _, rfl, ho25, ⟨a, rfl, .inl ⟨_, _, hz25⟩⟩, x25, d25, wl, n, .ref a, false, rfl, hS25, .inl ⟨a, d, ls, m, rfl, hA25, g1.symm⟩, fun H26 s26 => ⟨false, rfl, ?_⟩⟩
                walk_at "rds"
                refine rd_ite (fun h => by cases h) (fun _ => ?_)
                walk_at "rds"
                refine ⟨a, dz25, _, rfl, s26 _ _ hz25, ⟨x25, rfl, .inl ⟨_, _, s26 _ _ ho25⟩⟩, a, d, ls, m, .ref x25, false, rfl, hA25.same s26, .inl ⟨x25, d25, wl, n, rfl, hS25.same s26, g2.symm⟩, fun H27 s27 => ⟨false, rfl, ?_⟩⟩
                walk_at "rds"
                refine rd_ite (fun h => by cases h) (fun _ => ?_)
                walk_at "rds"
                have s2527 := same_trans s26 s27
                refine ⟨x25, _, _, rfl, s2527 _ _ ho25, rfl, ?_⟩
                walk_at "rds"
                refine ⟨x25, d25, wl, n, [], none, none, rfl, hS25.same s2527, by omega, fun ks' r28 us28 H28 hks' s28 hr28 er28 pr28 => ?_⟩
                have hpk : (keysT n).Perm (keysT m) := hmn.symm.map _
                cases hks.uniq (KR.perm hks' hpk)
                rw [prT_perm hmn.symm hn hT.nd fun k h => hks.mem h] at pr28
                walk_at "rds"
                refine rd_reprZ (Prs.list er28 pr28) gA ?_
                walk_at "rds"
                have s2428 := same_trans s25 (same_trans s2527 s28)
                refine rd_reprZ (Prs.list (s2428 _ _ eu24) (pu24.same s2428)) gA ?_
                walk_at "rds"
                refine rd_ite (fun h => by simp at h) (fun _ => ?_)
                walk_at "rds"
                exact ⟨x25, rfl, s2428⟩
              · walk_at "rds"
                exact ⟨x18, rfl, same_refl _⟩
            · rintro σ' H25 ⟨y, rfl, s25⟩
              have hA25 := hS24.same s25
              obtain ⟨dz25, hz25⟩ := hA25.o
              have htb25 := s25 _ _ htb24
              have hr25 := s25 _ _ hr24
              have kpH25 : Keep D L H H25 := kpH24.trans (Keep.of_same s25)
              have hD25 := hD24.keep s25
              obtain ⟨ps, rfl, hps⟩ := Prs.refs (K := K) (pn24.same s25)
              walk_at "rds"
              refine ⟨a, dz25, _, rfl, hz25, ⟨r, rfl, .inr (.inl ⟨_, hr25⟩)⟩, a, d, ls, m, .ref r, false, rfl, hA25, .inr ⟨"list", .base (.lst hr25), by decide, rfl⟩, fun H26 s26 => ⟨false, rfl, ?_⟩⟩
              walk_at "rds"
              refine rd_ite (fun h => by cases h) (fun _ => ?_)
              walk_at "rds"
              refine ⟨r, ps, encT n, rfl, SqL.of (s26 _ _ hr25), Paired.mapP hps fun p q h => same_seqT s26 h, fun d27 hd27 => ?_⟩
              have s27 := same_trans s26 (same_upd (o := .dK (mergeK [] (encT n))) hd27)
              have e27 : upd H26 d27 (.dK (mergeK [] (encT n))) d27 = some (.dK (mergeK [] (encT n))) := upd_same
              generalize upd H26 d27 (.dK (mergeK [] (encT n))) = H27 at s27 e27 ⊢
              walk_at "rds"
              refine ⟨a, dz25, _, rfl, s27 _ _ hz25, ⟨d27, rfl, .inr (.inr ⟨_, e27⟩)⟩, a, d, ls, m, .ref d27, false, rfl, hA25.same s27, .inr ⟨"dict", .base (.dK e27), by decide, rfl⟩, fun H28 s28 => ⟨false, rfl, ?_⟩⟩
              walk_at "rds"
              refine rd_ite (fun h => by cases h) (fun _ => ?_)
              walk_at "rds"
              refine make_end hls (by omega) (hET _) .nil hnil (Nat.zero_le _) (fun x29 d29 H29 s29 hx29 hd29 hS29 => ?_)
              obtain ⟨dy29, ho29⟩ := hS29.o
              walk_at "rds"
              refine fun d30 hd30 => ?_
              have s30 := same_upd (o := .dK []) hd30
              have e30 : upd H29 d30 (.dK []) d30 = some (.dK []) := upd_same
              generalize upd H29 d30 (.dK []) = H30 at s30 e30 ⊢
              walk_at "rds"
              refine ⟨x29, dy29, _, rfl, s30 _ _ ho29, ⟨d30, rfl, .inr (.inr ⟨_, e30⟩)⟩, x29, d29, ls, _, .ref d30, false, rfl, hS29.same s30, .inr ⟨"dict", .base (.dK e30), by decide, rfl⟩, fun H31 s31 => ⟨false, rfl, ?_⟩⟩
              walk_at "rds"
              refine rd_ite (fun h => by cases h) (fun _ => ?_)
              walk_at "rds"
              have s2531 := same_trans s27 (same_trans s28 (same_trans s29 (same_trans s30 s31)))
              clear s31 s30 e30 s29 hS29 ho29 s28 s27 e27 s26
              refine ⟨r, ps, encT n, rfl, SqL.of (s2531 _ _ hr25), Paired.mapP hps fun p q h => same_seqT s2531 h, fun d32 hd32 => ?_⟩
              have s32 := same_trans s2531 (same_upd (o := .dK (mergeK [] (encT n))) hd32)
              have e32 : upd H31 d32 (.dK (mergeK [] (encT n))) d32 = some (.dK (mergeK [] (encT n))) := upd_same
              generalize upd H31 d32 (.dK (mergeK [] (encT n))) = H32 at s32 e32 ⊢
              walk_at "rds"
              refine ⟨a, dz25, _, rfl, s32 _ _ hz25, ⟨d32, rfl, .inr (.inr ⟨_, e32⟩)⟩, a, d, ls, m, .ref d32, false, rfl, hA25.same s32, .inr ⟨"dict", .base (.dK e32), by decide, rfl⟩, fun H33 s33 => ⟨false, rfl, ?_⟩⟩
              walk_at "rds"
              refine rd_ite (fun h => by cases h) (fun _ => ?_)
              walk_at "rds"
              refine make_end hls (by omega) (hET _) .nil hnil (Nat.zero_le _) (fun x34 d34 H34 s34 hx34 hd34 hS34 => ?_)
              obtain ⟨dy34, ho34⟩ := hS34.o
              have s2534 := same_trans s32 (same_trans s33 s34)
              walk_at "rds"
              refine ⟨x34, dy34, _, rfl, ho34, ⟨a, rfl, .inl ⟨_, _, s2534 _ _ hz25⟩⟩, x34, d34, ls, _, .ref a, (decide (ls = ls) && eqTab (putsP [] []) m), rfl, hS34, .inl ⟨a, d, ls, m, rfl, hA25.same s2534, rfl⟩, fun H35 s35 => ⟨_, rfl, ?_⟩⟩
              walk_at "rds"
              refine fun d36 hd36 => ?_
              have s36 := same_trans s2534 (same_trans s35 (same_upd (o := .dK []) hd36))
              have e36 : upd H35 d36 (.dK []) d36 = some (.dK (encT [])) := upd_same
              generalize upd H35 d36 (.dK []) = H36 at s36 e36 ⊢
              refine rd_eqT (s36 _ _ htb25) e36 ?_
              refine rd_eq rfl ?_
              have hB : (decide (ls = ls) && eqTab (putsP [] []) m) = eqTab m [] := by
                rw [decide_eq_true rfl, Bool.true_and]
                exact eqTab_nil m
              rw [hB]
              have : decide (V.bl (eqTab m []) = V.bl (eqTab m [])) = true := by simp
              rw [this]
              exact q _ (kpH25.trans (Keep.of_same s36)) (hD25.keep s36)
end
--C law._law_many
--C law._law_limit
--C law._law_has
--C law.if2
section
variable {P : Program} {w : World} {K : PySem.W.Frag} {mg : Str → Option Value} {base : Heap}
theorem TabOk.putsP {ls : List Nat} {N : Nat} : ∀ {ms m : Tab}, TabOk ls N m → m.length + ms.length ≤ 100 → (∀ q ∈ ms, (∀ c ∈ q.1, c ∈ ls) ∧ q.1.length ≤ N ∧ 0 ≤ q.2 ∧ q.2 < 10 ^ 18) → TabOk ls N (Un.putsP m ms)
  | [], _, h, _, _ => h
  | q :: r, m, h, hl, ho => by
    have hq := ho q List.mem_cons_self
    rw [List.length_cons] at hl
    refine TabOk.putsP (ms := r) (m := putT m q.1 q.2) (h.put hq.1 hq.2.1 (.inr (by omega)) hq.2.2.1 hq.2.2.2) ?_ fun p hp => ho p (List.mem_cons_of_mem _ hp)
    have := putsP_len [q] m
    simp only [List.length_cons, List.length_nil] at this
    have e : (Un.putsP m [q]) = putT m q.1 q.2 := rfl
    rw [e] at this
    omega
theorem Deal.kt {D L T : Addr} {H H' : Hp} {l : List V} (h : Deal D L H) (k : Keep D L H H') (e : H T = some (.tup l)) : H' T = some (.tup l) := by
  obtain ⟨cs, m, h1, h2, _⟩ := h
  exact k _ _ e (fun z => by rw [z, h1] at e; cases e) (fun z => by rw [z, h2] at e; cases e)
theorem Deal.none {D L p : Addr} {H : Hp} (h : Deal D L H) (n : H p = none) : p ≠ D ∧ p ≠ L := by
  obtain ⟨cs, m, h1, h2, _⟩ := h
  exact ⟨(ne_of_none h1 n).symm, (ne_of_none h2 n).symm⟩
theorem Deal.aside {D L p : Addr} {H : Hp} {o : HO} (d : Deal D L H) (h : p ≠ D ∧ p ≠ L) : Deal D L (upd H p o) := by
  obtain ⟨cs, m, a, b, c⟩ := d
  exact ⟨cs, m, by rw [upd_ne h.1.symm]; exact a, by rw [upd_ne h.2.symm]; exact b, c⟩
theorem one_good {z w : Nat} {a : PyData} (g : GoodZ z w a) : GoodZ (z + 1) (w + 10) (.list [a]) ∧ GoodZ (z + 1) (w + 10) (.tuple [a]) := by
  have gz := g.z
  have gw := g.w
  constructor
  · refine ⟨?_, ?_, ?_, ?_, ?_⟩
    · simp only [PyData.showable, PyData.showableAll, g.s, Bool.and_true]
    · simp only [PyData.hasDict, PyData.hasDictAll, g.n, Bool.or_false]
    · simp only [PyData.depth, PyData.depthAll]
      omega
    · simp only [PyData.leavesShort, PyData.leavesShortAll, g.l, Bool.and_true]
    · simp only [PyData.weight, PyData.weightAll]
      omega
  · refine ⟨?_, ?_, ?_, ?_, ?_⟩
    · simp only [PyData.showable, PyData.showableAll, g.s, Bool.and_true]
    · simp only [PyData.hasDict, PyData.hasDictAll, g.n, Bool.or_false]
    · simp only [PyData.depth, PyData.depthAll]
      omega
    · simp only [PyData.leavesShort, PyData.leavesShortAll, g.l, Bool.and_true]
    · simp only [PyData.weight, PyData.weightAll]
      omega
theorem odd_ok {ak : List Nat} {l1 t1 : Addr} {H24 : Hp} {od : V} (hod : od ∈ [V.str (tx ak), .str (tx ak), .non, .int 0, .ref l1, .ref t1, .bl true, .str (tx (ak ++ [64]))]) (g1 : H24 l1 = some (.lst [.str (tx ak)])) (g2 : H24 t1 = some (.tup [.str (tx ak)])) (hl : ak.length ≤ 500) (ha : ∀ c ∈ ak, c ∈ alphabet) :
    ∀ H', Same H24 H' → TxtOr K H' od ∧ ∃ dd, Dp K H' od dd ∧ GoodZ 20 200000 dd := by
  intro H' s
  have g1 := s _ _ g1
  have g2 := s _ _ g2
  have h1000 : ∀ c ∈ alphabet, c < 1000 := by decide
  have ga := str_good fun c hc => h1000 c (ha c hc)
  have gb : GoodZ 0 (ak ++ [64]).length (.str (tx (ak ++ [64]))) := str_good fun c hc => by
    rcases List.mem_append.mp hc with h | h
    · exact h1000 c (ha c h)
    · rw [List.mem_singleton.mp h]
      decide
  simp only [List.mem_cons, List.not_mem_nil, or_false] at hod
  rcases hod with rfl | rfl | rfl | rfl | rfl | rfl | rfl | rfl
  · exact ⟨.inl ⟨ak, rfl, by omega⟩, _, .str _, ga.mono (by decide) (by omega)⟩
  · exact ⟨.inl ⟨ak, rfl, by omega⟩, _, .str _, ga.mono (by decide) (by omega)⟩
  · exact ⟨.inr ⟨⟨_, .base .non, kit_ty (by decide +kernel)⟩, fun z h => by cases h⟩, _, .non, ⟨rfl, rfl, by decide +kernel, rfl, by decide +kernel⟩⟩
  · exact ⟨.inr ⟨⟨_, .base (.int 0), kit_ty (by decide +kernel)⟩, fun z h => by cases h⟩, _, .int 0, (int_good (by decide)).mono (by decide) (by decide)⟩
  · exact ⟨.inr ⟨⟨_, .base (.lst g1), kit_ty (by decide +kernel)⟩, fun z h => by cases h⟩, _, .lst (SqL.of g1) (.cons (.str _) .nil), (one_good ga).1.mono (by decide) (by omega)⟩
  · exact ⟨.inr ⟨⟨_, .base (.tup g2), kit_ty (by decide +kernel)⟩, fun z h => by cases h⟩, _, .tup (SqT.of g2) (.cons (.str _) .nil), (one_good ga).2.mono (by decide) (by omega)⟩
  · exact ⟨.inr ⟨⟨_, .base (.bl true), kit_ty (by decide +kernel)⟩, fun z h => by cases h⟩, _, .bl true, (bool_good true).mono (by decide) (by decide)⟩
  · exact ⟨.inl ⟨ak ++ [64], rfl, by rw [List.length_append, List.length_singleton]; omega⟩, _, .str _, gb.mono (by decide) (by rw [List.length_append, List.length_singleton]; omega)⟩
theorem in_enc {ls : List Nat} {m : Tab} {u : List Nat} (h : ∀ k ∈ keysT m, ∀ c ∈ k, c ∈ ls) : (valV (encT m) (Sum.inr (tx u))).isSome = inB ls m (.str (tx u)) := by
  show _ = (isTxtB ls (.str (tx u)) && decide ((tx u).cps.toList ∈ keysT m))
  rw [tx_cps, valV_enc]
  by_cases hk : u ∈ keysT m
  · obtain ⟨v, hv⟩ := getT_some hk
    have hc : isTxtB ls (.str (tx u)) = true := by
      show consB ls u = true
      unfold consB
      rw [List.all_eq_true]
      exact fun c hc => decide_eq_true (h u hk c hc)
    rw [hv, decide_eq_true hk, hc]
    rfl
  · rw [getT_none hk, decide_eq_false hk, Bool.and_false]
    rfl
theorem in_not {ls : List Nat} {m : Tab} {x : V} (h : ∀ z, x ≠ .str z) : inB ls m x = false := by
  cases x with
  | str z => exact (h z rfl).elim
  | _ => rfl
theorem shaped_int (v : Int) : SeqAt.shaped (.int v) = true := by
  unfold SeqAt.shaped
  simp [PyData.canLay0, PyData.depth]
theorem eqv_int (v : Int) : PyData.eqv (.int v) (.int v) = true := by simp [PyData.eqv]
theorem TabOk.nil (ls : List Nat) (N : Nat) : TabOk ls N [] := ⟨Nat.zero_le _, List.nodup_nil, fun k hk => by (cases hk), fun q hq => by (cases hq)⟩
def spLaw (K : PySem.W.Frag) : Sp := fun vs H Q _ => ∃ (a : Addr) (ns : List Int), vs = [.ref a] ∧ SqL K H a (ns.map V.int) ∧ ns.length ≤ 63 ∧ ∀ H', Q (.bl true) H'
set_option maxHeartbeats 0 in
theorem ok_law (T : Txt K mg) (hke : PySem.W.kitOne K (.ref (ca mg "NoKey")) (.type "KeyError") = some true) {f : Addr} {fd : FuncData} (F : Fun K "law" "law" s_law f fd) : FnG P w K mg base 9 f fd ["_law_script"] (spLaw K) := by
  have C__law_deal := cl_deal (P := P) (w := w) (base := base) T
  have C__law_draw := cl_draw (P := P) (w := w) (base := base) T
  have C__law_pick := cl_pick (P := P) (w := w) (base := base) T
  have C__law_letters := cl_letters (P := P) (w := w) (base := base) T
  have C__law_text := cl_text (P := P) (w := w) (base := base) T
  have C__law_value := cl_value (P := P) (w := w) (base := base) T
  have C__law_any_key := cl_any (P := P) (w := w) (base := base) T
  have C__law_deed := cl_deed (P := P) (w := w) (base := base) T
  have C__law_told := cl_told (P := P) (w := w) (base := base) T hke
  have C__law_copy_right := cl_copy (P := P) (w := w) (base := base) T
  have C_Store___contains__ := met_in (P := P) (w := w) (base := base) T
  have C_Store___len__ := met_len (P := P) (w := w) (base := base) T
  have C_Store_2 := mk_Store_2 (P := P) (w := w) (base := base) T
  refine okG F sc_law (fun vs H Q E h => ?_) (fun cdv A outer s H vs Q E hgd hr h => ?_)
  · obtain ⟨a, ns, rfl, _⟩ := h
    rfl
  · obtain ⟨a, ns, rfl, hS, hlen, q⟩ := h
    refine ⟨_, (Evl.pss_cut (ps_for PassesOwn.never rfl (pi_range1 (by rfl) T.m_range (pa_cons (pe_callB (call_max2X rfl) (by rfl) T.m_max (by decide +kernel) (pa_cons pe_int (pa_cons (pe_callB (call_min2X rfl) (by rfl) T.m_min (by decide +kernel) (pa_cons pe_int (pa_cons (pe_callB call_lenQ (by rfl) T.m_len (by decide +kernel) (pa_cons (pv 0) pa_nil)) pa_nil))) pa_nil))) pa_nil)) (pg_name (i := 1) sc_law.nd rfl (Or.inl rfl))
      (pss_cons (ps_set (i := 2) sc_law.nd rfl (Or.inr rfl) (pe_cl C__law_deal (hr.mono (by decide)) (by rfl) (pa_cons (pv 0) (pa_cons (pv 1) pa_nil))))
      (pss_cons (ps_asg (pe_tup (pa_cons (pe_cl C__law_letters (hr.mono (by decide)) (by rfl) (pa_cons (pv 2) (pa_cons pe_int pa_nil))) (pa_cons pe_dnewK pa_nil))) (pg_tup rfl (pgs_cons (pg_name (i := 3) sc_law.nd rfl (Or.inr rfl)) (pgs_cons (pg_name (i := 4) sc_law.nd rfl (Or.inl rfl)) pgs_nil))))
      (pss_cons (ps_asg (pe_ix ix_list (pe_lst (pa_cons (pe_tup (pa_cons pe_int (pa_cons pe_int pa_nil))) (pa_cons (pe_tup (pa_cons pe_int (pa_cons pe_int pa_nil))) (pa_cons (pe_tup (pa_cons pe_int (pa_cons pe_int pa_nil))) (pa_cons (pe_tup (pa_cons pe_int (pa_cons pe_int pa_nil))) (pa_cons (pe_tup (pa_cons pe_int (pa_cons pe_int pa_nil))) pa_nil)))))) (pe_cl C__law_draw (hr.mono (by decide)) (by rfl) (pa_cons (pv 2) (pa_cons pe_int pa_nil))) (fun _ _ => rfl)) (pg_tup rfl (pgs_cons (pg_name (i := 5) sc_law.nd rfl (Or.inl rfl)) (pgs_cons (pg_name (i := 6) sc_law.nd rfl (Or.inr rfl)) pgs_nil))))
      (Evl.pss_cut (ps_set (i := 5) sc_law.nd rfl (Or.inl rfl) (pe_ifExp (pt_cmpR op_lt (pv 5) pe_int (nomark _)) (pe_cl C__law_draw (hr.mono (by decide)) (by rfl) (pa_cons (pv 2) (pa_cons (pv 5) pa_nil))) pe_int))
      (pss_cons (ps_setLc (i := 8) (own := [("_law_turn", 7)]) (g := gName 7) (tt := tYes) (by rfl) sc_law.nd rfl rfl (sw_true rfl rfl rfl (by decide +kernel)) (pi_range1 (by rfl) T.m_range (pa_cons (pv 5) pa_nil)) (blkOk_by (own := [("_law_turn", 7)]) (N := n_law) (sc := defScope s_law) (by decide +kernel)) (fun _ _ _ _ _ => (pg_name (i := 7) sc_law.nd rfl (Or.inl rfl))) (fun _ _ _ _ _ => pts_nil) (fun _ _ _ _ _ => (pe_tup (pa_cons (pe_cl C__law_text (hr.mono (by decide)) (by rfl) (pa_cons (pv 2) (pa_cons (pv 3) (pa_cons (pv 6) pa_nil)))) (pa_cons (pe_cl C__law_value (hr.mono (by decide)) (by rfl) (pa_cons (pv 2) pa_nil)) pa_nil)))))
      (Evl.pss_cut (ps_for PassesOwn.never rfl (pi_list (pv 8)) (pg_tup rfl (pgs_cons (pg_name (i := 9) sc_law.nd rfl (Or.inl rfl)) (pgs_cons (pg_name (i := 10) sc_law.nd rfl (Or.inl rfl)) pgs_nil)))
      (pss_one (ps_dput (by exact hu_of hr) (pv 4) (pv 9) (pv 10) rfl)))
      (pss_cons (ps_set (i := 11) sc_law.nd rfl (Or.inl rfl) (pe_mkD C_Store_2 hr (by decide) (by rfl) (pa_cons (pv 3) (pa_cons (pv 8) pa_nil))))
      (Evl.pss_cut (ps_for PassesOwn.never rfl (pi_range1 (by rfl) T.m_range (pa_cons (pe_op op_add pe_int (pe_cl C__law_draw (hr.mono (by decide)) (by rfl) (pa_cons (pv 2) (pa_cons pe_int pa_nil)))) pa_nil)) (pg_name (i := 7) sc_law.nd rfl (Or.inl rfl))
      (Evl.pss_cut (ps_set (i := 12) sc_law.nd rfl (Or.inl rfl) (pe_ifExp (pt_cmpR op_eq (pe_cl C__law_draw (hr.mono (by decide)) (by rfl) (pa_cons (pv 2) (pa_cons pe_int pa_nil))) pe_int (nomark _)) (pe_cl C__law_any_key (hr.mono (by decide)) (by rfl) (pa_cons (pv 2) (pa_cons (pv 3) (pa_cons (pv 4) pa_nil)))) pe_non))
      (pss_cons (ps_par (i := 13) (j := 14) (by rfl) sc_law.nd rfl rfl (by decide) rfl rfl (pa_cons (pe_cl C__law_any_key (hr.mono (by decide)) (by rfl) (pa_cons (pv 2) (pa_cons (pv 3) (pa_cons (pv 4) pa_nil)))) (pa_cons (pe_cl C__law_any_key (hr.mono (by decide)) (by rfl) (pa_cons (pv 2) (pa_cons (pv 3) (pa_cons (pv 4) pa_nil)))) pa_nil)) (by rfl))
      (pss_cons (ps_asg (pe_ix ix_list (pe_lst (pa_cons (pe_tup (pa_cons (pv 13) (pa_cons (pv 14) pa_nil))) (pa_cons (pe_tup (pa_cons (pv 13) (pa_cons pe_non pa_nil))) (pa_cons (pe_tup (pa_cons (pe_strX [] (by decide +kernel)) (pa_cons (pv 14) pa_nil))) (pa_cons (pe_tup (pa_cons (pe_callB (call_minX rfl) (by rfl) T.m_min (by decide +kernel) (pa_cons (pe_callTy call_strS (by rfl) T.m_str (by decide +kernel) (pa_cons (pv 13) pa_nil)) (pa_cons (pe_callTy call_strS (by rfl) T.m_str (by decide +kernel) (pa_cons (pv 14) pa_nil)) pa_nil))) (pa_cons (pv 14) pa_nil))) pa_nil))))) (pe_cl C__law_draw (hr.mono (by decide)) (by rfl) (pa_cons (pv 2) (pa_cons pe_int pa_nil))) (fun _ _ => rfl)) (pg_tup rfl (pgs_cons (pg_name (i := 13) sc_law.nd rfl (Or.inl rfl)) (pgs_cons (pg_name (i := 14) sc_law.nd rfl (Or.inl rfl)) pgs_nil))))
      (pss_cons (ps_if (pt_not (pt_val (pe_clG C__law_deed hgd (hr.mono (by decide)) (by rfl) (pa_cons (pv 2) (pa_cons (pv 3) (pa_cons (pv 11) (pa_cons (pv 4) (pa_cons (pe_tup (pa_cons (pv 13) (pa_cons (pv 14) (pa_cons (pv 12) pa_nil)))) pa_nil))))))))
      (pss_one (ps_ret pe_bl))
      pss_nil)
      (pss_cons (ps_set (i := 15) sc_law.nd rfl (Or.inl rfl) (pe_cl C__law_any_key (hr.mono (by decide)) (by rfl) (pa_cons (pv 2) (pa_cons (pv 3) (pa_cons (pv 4) pa_nil)))))
      (pss_cons (ps_set (i := 16) sc_law.nd rfl (Or.inl rfl) (pe_cl C__law_pick (hr.mono (by decide)) (by rfl) (pa_cons (pv 2) (pa_cons (pe_lst (pa_cons (pv 15) (pa_cons (pv 15) (pa_cons pe_non (pa_cons pe_int (pa_cons (pe_lst (pa_cons (pv 15) pa_nil)) (pa_cons (pe_tup (pa_cons (pv 15) pa_nil)) (pa_cons pe_bl (pa_cons (pe_op op_addX (pv 15) (pe_strX [64] (by decide +kernel))) pa_nil))))))))) pa_nil))))
      (Evl.pss_cut (ps_set (i := 17) sc_law.nd rfl (Or.inl rfl) (pe_and (pe_callB call_isi (by rfl) T.m_isinstance (by decide +kernel) (pa_cons (pv 16) (pa_cons (pe_bltn (v := .ty "str") (by rfl) T.m_str (by decide +kernel) rfl) pa_nil))) (pe_one (pe_cmp (pc_din (by exact hu_of hr) (pv 16) (pv 4))))))
      (Evl.pss_cut (ps_if (PW.pt (pw_or (pt_cmpR op_ne (pe_callB (r := rReprZ K) (call_reprZ hgd hr) (by rfl) T.m_repr (by decide +kernel) (pa_cons (pe_cmpR (in_G C_Store___contains__ hr (by decide)) (pv 16) (pv 11) (by rfl)) pa_nil)) (pe_callB (r := rReprZ K) (call_reprZ hgd hr) (by rfl) T.m_repr (by decide +kernel) (pa_cons (pv 17) pa_nil)) (nomark _)) (pw_or1 (pt_cmpR (op_neD hr.units) (pe_clG C__law_told hgd (hr.mono (by decide)) (by rfl) (pa_cons (pv 11) (pa_cons (pv 16) pa_nil))) (pe_ifExp (pt_val (pv 17)) (pe_dget (by exact hu_of hr) (pv 4) (pv 16) (fun _ _ => rfl)) pe_non) (nomark _)))))
      (pss_one (ps_ret pe_bl))
      pss_nil)
      (pss_one (ps_if (PW.pt (pw_or (pt_cmpR op_ne (pe_callB (len_G C_Store___len__ hr (by decide)) (by rfl) T.m_len (by decide +kernel) (pa_cons (pv 11) pa_nil)) (pe_callB call_lenD (by rfl) T.m_len (by decide +kernel) (pa_cons (pv 4) pa_nil)) (nomark _)) (pw_or1 (pt_cmpR op_ne (pe_fldK (K := K) (by rfl) (pv 11) (by rfl)) (pv 3) (nomark _)))))
      (pss_one (ps_ret pe_bl))
      pss_nil)))))))))))
      (pss_one (ps_if (pt_not (pt_val (pe_clG C__law_copy_right hgd (hr.mono (by decide)) (by rfl) (pa_cons (pv 2) (pa_cons (pv 3) (pa_cons (pv 11) (pa_cons (pv 4) pa_nil)))))))
      (pss_one (ps_ret pe_bl))
      pss_nil)))))))))))
      (pss_one (ps_ret pe_bl))), ?_⟩
    walk_at "rds"
    refine rd_cut (fun σ' H' => True) ?_ (fun σ' H' _ => ?_)
    rotate_left
    · walk_at "rds"
      exact q _
    walk_at "rds"
    refine rd_lenL hS ?_
    walk_at "rds"
    refine rd_minI ?_
    walk_at "rds"
    obtain ⟨t0, ht0, ht1, ht2⟩ : ∃ t0 : Nat, (if (if ((ns.map V.int).length : Int) < 3 then ((ns.map V.int).length : Int) else 3) > 1 then (if ((ns.map V.int).length : Int) < 3 then ((ns.map V.int).length : Int) else 3) else 1) = (t0 : Int) ∧ 1 ≤ t0 ∧ t0 ≤ 3 := by
      by_cases h1 : ((ns.map V.int).length : Int) < 3
      · rw [if_pos h1]
        by_cases h2 : ((ns.map V.int).length : Int) > 1
        · rw [if_pos h2]; exact ⟨(ns.map V.int).length, rfl, by omega, by omega⟩
        · rw [if_neg h2]; exact ⟨1, rfl, by omega, by omega⟩
      · rw [if_neg h1, if_pos (by decide)]; exact ⟨3, rfl, by omega, by omega⟩
    rw [ht0]
    refine ⟨_, rfl, by omega, by omega, for_range (lo := 0) (n := ((t0 : Nat) : Int).toNat) (fun i σ' H' => Same H H' ∧ ∃ y1 y2 y3 y4 y5 y6 y7 y8 y9 y10 y11 y12 y13 y14 y15 y16 y17, σ' = [some (.ref a), y1, y2, y3, y4, y5, y6, y7, y8, y9, y10, y11, y12, y13, y14, y15, y16, y17]) ⟨same_refl _, _, _, _, _, _, _, _, _, _, _, _, _, _, _, _, _, _, rfl⟩ ?_ (fun _ _ _ => trivial)⟩
    rintro i σ' H0 hi ⟨s0, y1, y2, y3, y4, y5, y6, y7, y8, y9, y10, y11, y12, y13, y14, y15, y16, y17, rfl⟩
    rw [Int.toNat_natCast] at hi
    walk_at "rds"
    refine ⟨a, ns, _, rfl, Same.seq s0 hS, hlen, by omega, by omega, fun D L H1 nD nL s1 hd1 => ?_⟩
    walk_at "rds"
    refine ⟨D, L, 5, rfl, hd1, by decide, by decide, fun ls H2 hl1 hl2 hup hmem kp2 hd2 => ?_⟩
    have hhi : ls.length ≤ 5 := by omega
    have hne : ls ≠ [] := by
      rintro rfl
      simp at hl1
    have hare : areB ls = true := areB_of hl1 hhi hmem hup
    have hnd : ls.Nodup := hup.imp fun h => Nat.ne_of_lt h
    walk_at "rds"
    refine fun tb htb => ?_
    have s3 := same_upd (o := .dK []) htb
    have e3 : upd H2 tb (.dK []) tb = some (.dK (encT [])) := upd_same
    have hd3 := hd2.keep s3
    generalize upd H2 tb (.dK []) = H3 at s3 e3 hd3 ⊢
    walk_at "rds"
    refine ⟨by show 2 ≤ sizeLine; decide, fun p4 hp4 => ?_⟩
    refine rd_gtup (SqT.of upd_same) rfl ?_
    have s4 := same_trans s3 (same_upd (o := .tup [.str (tx ls), .ref tb]) hp4)
    have e4 := (same_upd (o := .tup [.str (tx ls), .ref tb]) hp4) _ _ e3
    have hd4 := hd3.keep (same_upd (o := .tup [.str (tx ls), .ref tb]) hp4)
    generalize upd H3 p4 (.tup [.str (tx ls), .ref tb]) = H4 at s4 e4 hd4 ⊢
    clear hd3 e3 s3
    walk_at "rds"
    have sG := same_refl H4
    refine ⟨by show 2 ≤ sizeLine; decide, fun q1 n1 => ?_⟩
    have f1 : upd H4 q1 (.tup [.int 12, .int 3]) q1 = some (.tup [.int 12, .int 3]) := upd_same
    have sG := same_trans sG (same_upd (o := .tup [.int 12, .int 3]) n1)
    generalize upd H4 q1 (.tup [.int 12, .int 3]) = G1 at sG f1 ⊢
    walk_at "rds"
    refine ⟨by show 2 ≤ sizeLine; decide, fun q2 n2 => ?_⟩
    have f1 := (same_upd (o := .tup [.int 12, .int 3]) n2) _ _ f1
    have f2 : upd G1 q2 (.tup [.int 12, .int 3]) q2 = some (.tup [.int 12, .int 3]) := upd_same
    have sG := same_trans sG (same_upd (o := .tup [.int 12, .int 3]) n2)
    generalize upd G1 q2 (.tup [.int 12, .int 3]) = G2 at sG f1 f2 ⊢
    walk_at "rds"
    refine ⟨by show 2 ≤ sizeLine; decide, fun q3 n3 => ?_⟩
    have f1 := (same_upd (o := .tup [.int 40, .int 4]) n3) _ _ f1
    have f2 := (same_upd (o := .tup [.int 40, .int 4]) n3) _ _ f2
    have f3 : upd G2 q3 (.tup [.int 40, .int 4]) q3 = some (.tup [.int 40, .int 4]) := upd_same
    have sG := same_trans sG (same_upd (o := .tup [.int 40, .int 4]) n3)
    generalize upd G2 q3 (.tup [.int 40, .int 4]) = G3 at sG f1 f2 f3 ⊢
    walk_at "rds"
    refine ⟨by show 2 ≤ sizeLine; decide, fun q4 n4 => ?_⟩
    have f1 := (same_upd (o := .tup [.int 3, .int 100]) n4) _ _ f1
    have f2 := (same_upd (o := .tup [.int 3, .int 100]) n4) _ _ f2
    have f3 := (same_upd (o := .tup [.int 3, .int 100]) n4) _ _ f3
    have f4 : upd G3 q4 (.tup [.int 3, .int 100]) q4 = some (.tup [.int 3, .int 100]) := upd_same
    have sG := same_trans sG (same_upd (o := .tup [.int 3, .int 100]) n4)
    generalize upd G3 q4 (.tup [.int 3, .int 100]) = G4 at sG f1 f2 f3 f4 ⊢
    walk_at "rds"
    refine ⟨by show 2 ≤ sizeLine; decide, fun q5 n5 => ?_⟩
    have f1 := (same_upd (o := .tup [.int 101, .int 9]) n5) _ _ f1
    have f2 := (same_upd (o := .tup [.int 101, .int 9]) n5) _ _ f2
    have f3 := (same_upd (o := .tup [.int 101, .int 9]) n5) _ _ f3
    have f4 := (same_upd (o := .tup [.int 101, .int 9]) n5) _ _ f4
    have f5 : upd G4 q5 (.tup [.int 101, .int 9]) q5 = some (.tup [.int 101, .int 9]) := upd_same
    have sG := same_trans sG (same_upd (o := .tup [.int 101, .int 9]) n5)
    generalize upd G4 q5 (.tup [.int 101, .int 9]) = G5 at sG f1 f2 f3 f4 f5 ⊢
    walk_at "rds"
    refine ⟨by show 5 ≤ sizeLine; decide, fun q6 n6 => ?_⟩
    have s6 := same_upd (o := .lst [.ref q1, .ref q2, .ref q3, .ref q4, .ref q5]) n6
    have f6 : upd G5 q6 (.lst [.ref q1, .ref q2, .ref q3, .ref q4, .ref q5]) q6 = some (.lst [.ref q1, .ref q2, .ref q3, .ref q4, .ref q5]) := upd_same
    have hq6D : q6 ≠ D ∧ q6 ≠ L := by
      obtain ⟨cs, m, h1, h2, _⟩ := hd4.keep sG
      exact ⟨(ne_of_none h1 n6).symm, (ne_of_none h2 n6).symm⟩
    have sG := same_trans sG s6
    have hall : ∀ v ∈ [V.ref q1, .ref q2, .ref q3, .ref q4, .ref q5], ∃ q x y, v = .ref q ∧ upd G5 q6 (.lst [.ref q1, .ref q2, .ref q3, .ref q4, .ref q5]) q = some (.tup [.int x, .int y]) ∧ 3 ≤ x ∧ x ≤ 101 ∧ 3 ≤ y ∧ y ≤ 100 := by
      intro v hv
      simp only [List.mem_cons, List.not_mem_nil, or_false] at hv
      rcases hv with rfl | rfl | rfl | rfl | rfl
      · exact ⟨q1, _, _, rfl, s6 _ _ f1, by decide, by decide, by decide, by decide⟩
      · exact ⟨q2, _, _, rfl, s6 _ _ f2, by decide, by decide, by decide, by decide⟩
      · exact ⟨q3, _, _, rfl, s6 _ _ f3, by decide, by decide, by decide, by decide⟩
      · exact ⟨q4, _, _, rfl, s6 _ _ f4, by decide, by decide, by decide, by decide⟩
      · exact ⟨q5, _, _, rfl, s6 _ _ f5, by decide, by decide, by decide, by decide⟩
    generalize upd G5 q6 (.lst [.ref q1, .ref q2, .ref q3, .ref q4, .ref q5]) = H5 at sG f6 hall ⊢
    clear f1 f2 f3 f4 f5 s6 n1 n2 n3 n4 n5 n6
    have hlen5 : [V.ref q1, .ref q2, .ref q3, .ref q4, .ref q5].length = 5 := rfl
    generalize [V.ref q1, .ref q2, .ref q3, .ref q4, .ref q5] = vs5 at f6 hall hlen5
    have hd5 := hd4.keep sG
    have e5 := sG _ _ e4
    walk_at "rds"
    refine ⟨D, L, 5, rfl, hd5, by decide, by decide, fun k5 H6 hk51 hk52 kp6 hd6 => ?_⟩
    obtain ⟨n5, rfl⟩ := Int.eq_ofNat_of_zero_le hk51
    have hn5 : n5 < vs5.length := by omega
    obtain ⟨q7, mx, sx, hv7, hq7, b1, b2, b3, b4⟩ := hall vs5[n5] (List.getElem_mem hn5)
    refine rd_ixL (SqL.of (kp6 _ _ f6 hq6D.1 hq6D.2)) (v := .ref q7) (atI_nat (by rw [List.getElem?_eq_getElem hn5, hv7])) ?_
    walk_at "rds"
    refine rd_gtup (SqT.of (hd5.kt kp6 hq7)) rfl ?_
    walk_at "rds"
    have e6 := hd5.kd kp6 e5
    have kp46 : Keep D L H4 H6 := (Keep.of_same sG).trans kp6
    clear hall hv7 hq7 f6 hlen5 hn5 hk51 hk52 hq6D kp6 hd5 e5 sG
    refine rd_cut (fun σ' H' => ∃ mn : Nat, σ' = [some (.ref a), some (.int (0 + (i : Nat))), some (.ref D), some (.str (tx ls)), some (.ref tb), some (.int (mn : Nat)), some (.int sx), y7, y8, y9, y10, y11, y12, y13, y14, y15, y16, y17] ∧ mn ≤ 100 ∧ Keep D L H6 H' ∧ Deal D L H') ?_ ?_
    · walk_at "rds"
      refine rd_ite (fun h101 => ?_) (fun _ => ?_)
      · walk_at "rds"
        have : mx < 101 := of_decide_eq_true h101
        refine ⟨D, L, _, rfl, hd6, by omega, by omega, fun k7 H7 hk71 hk72 kp7 hd7 => ?_⟩
        obtain ⟨n7, rfl⟩ := Int.eq_ofNat_of_zero_le hk71
        walk_at "rds"
        exact ⟨n7, rfl, by omega, kp7, hd7⟩
      · walk_at "rds"
        exact ⟨100, rfl, by omega, Keep.refl _, hd6⟩
    · rintro σ' H7 ⟨mn, rfl, hmn, kp7, hd7⟩
      have e7 := hd6.kd kp7 e6
      have kp47 := kp46.trans kp7
      clear kp46 kp7 e6 hd6
      walk_at "rds"
      refine ⟨_, rfl, by omega, by omega, fun e he => lc_range (n := ((mn : Nat) : Int).toNat) (fun i H' => Keep D L H7 H' ∧ Deal D L H' ∧ ∃ (ms : Tab) (us : List V), H' e = some (.lst us) ∧ Prs H' ms us ∧ ms.length = i ∧ ∀ q ∈ ms, (∀ c ∈ q.1, c ∈ ls) ∧ q.1.length ≤ 100 ∧ 0 ≤ q.2 ∧ q.2 < 10 ^ 18)
        ⟨Keep.new he, hd7.keep (same_upd he), [], [], upd_same, .nil, rfl, fun q hq => by cases hq⟩ ?_ ?_⟩
      · rintro i' H8 hi' ⟨kp8, hd8, ms, us, eu, pu, rfl, hms⟩
        rw [Int.toNat_natCast] at hi'
        have heD := hd7.none he
        walk_at "rds"
        refine ⟨rfl, ?_⟩
        walk_at "rds"
        refine rd_ite (fun _ => ?_) (fun h => by cases h)
        walk_at "rds"
        refine ⟨D, L, ls, sx, rfl, hd8, hne, by omega, by omega, by omega, fun t H9 ht1 ht2 kp9 hd9 => ?_⟩
        walk_at "rds"
        refine ⟨D, L, rfl, hd9, fun v H10 hv1 hv2 kp10 hd10 => ?_⟩
        walk_at "rds"
        refine ⟨by show 2 ≤ sizeLine; decide, fun p hp => ?_⟩
        have kp8' := kp9.trans kp10
        have eu10 := kp8' _ _ eu heD.1 heD.2
        have hpe : e ≠ p := fun z => by
          rw [z, hp] at eu10
          cases eu10
        refine ⟨us, by rw [upd_ne hpe]; exact eu10, by rw [← pu.len]; exact small1000 (by omega), ((kp8.trans kp8').trans (Keep.new hp)).mut he, (hd10.keep (same_upd hp)).aside heD, ms ++ [(t, v)], _, upd_same, ?_, by simp, ?_⟩
        · refine (pu.keep fun T l h => ?_).app (Prs.one ?_)
          · have h1 := hd8.kt kp8' h
            have n1 : T ≠ e := fun z => by
              rw [z, eu] at h
              cases h
            have n2 : T ≠ p := fun z => by
              rw [z, hp] at h1
              cases h1
            rw [upd_ne n1, upd_ne n2]
            exact h1
          · rw [upd_ne hpe.symm, upd_same]
        · intro q hq
          rcases List.mem_append.mp hq with hq | hq
          · exact hms q hq
          · rw [List.mem_singleton.mp hq]
            exact ⟨ht1, by show t.length ≤ 100; omega, hv1, hv2⟩
      · rintro H8 ⟨kp8, hd8, ms, us, eu, pu, hml, hms⟩
        rw [Int.toNat_natCast] at hml
        have e8 := hd7.kd kp8 e7
        have kp48 := kp47.trans kp8
        have hetb : e ≠ tb := fun z => by
          rw [z, e8] at eu
          cases eu
        clear kp47 kp8 e7 hd7 he
        walk_at "rds"
        refine rd_cut (fun σ' H' => ∃ z9 z10, σ' = [some (.ref a), some (.int (0 + (i : Nat))), some (.ref D), some (.str (tx ls)), some (.ref tb), some (.int (mn : Nat)), some (.int sx), y7, some (.ref e), z9, z10, y11, y12, y13, y14, y15, y16, y17] ∧ Keep1 tb H8 H' ∧ H' tb = some (.dK (encT (putsP [] ms)))) ?_ ?_
        · walk_at "rds"
          refine ⟨_, rfl, ⟨_, SqL.of eu⟩, for_list (K := K) (a := e) (xs := us) (fun i' σ' H' => (∃ z9 z10, σ' = [some (.ref a), some (.int (0 + (i : Nat))), some (.ref D), some (.str (tx ls)), some (.ref tb), some (.int (mn : Nat)), some (.int sx), y7, some (.ref e), z9, z10, y11, y12, y13, y14, y15, y16, y17]) ∧ Keep1 tb H8 H' ∧ H' tb = some (.dK (encT (putsP [] (ms.take i'))))) ⟨⟨_, _, rfl⟩, Same.keep1 (same_refl _), e8⟩ (fun i' σ' H' _ h => SqL.of (h.2.1 _ _ eu hetb)) ?_ ?_⟩
          · rintro i' x σ' H9 hx ⟨⟨z9, z10, rfl⟩, k9, t9⟩
            obtain ⟨⟨key, v⟩, hms', ⟨U, rfl, hU⟩⟩ := pu.get hx
            have hUd : U ≠ tb := fun z => by
              rw [z, e8] at hU
              cases hU
            have hlen9 := putsP_len (ms.take i') []
            rw [List.length_take, List.length_nil] at hlen9
            refine rd_gtup (SqT.of (k9 _ _ hU hUd)) rfl ?_
            walk_at "rds"
            refine ⟨tb, _, rfl, DPut.k (k := Sum.inr (tx key)) t9 (by rw [encT_len]; exact small1000 (by omega)), ⟨_, _, rfl⟩, k9.put, ?_⟩
            rw [upd_same, putK_enc, putsP_snoc hms']
          · rintro σ' H9 ⟨⟨z9, z10, hσ⟩, k9, t9⟩
            rw [← pu.len, List.take_length] at t9
            exact ⟨z9, z10, hσ, k9, t9⟩
        · rintro σ' H9 ⟨z9, z10, rfl, k9, t9⟩
          have hd9 : Deal D L H9 := hd8.k1 e8 k9
          have hB9 : ∀ b o, H b = some o → b ≠ D ∧ b ≠ L ∧ b ≠ tb ∧ H9 b = some o := fun b o hb => by
            have hb0 := s0 _ _ hb
            have hbD : b ≠ D := fun z => by
              rw [z, nD] at hb0
              cases hb0
            have hbL : b ≠ L := fun z => by
              rw [z, nL] at hb0
              cases hb0
            have hb2 := kp2 _ _ (s1 _ _ hb0) hbD hbL
            have hbt : b ≠ tb := fun z => by
              rw [z, htb] at hb2
              cases hb2
            exact ⟨hbD, hbL, hbt, k9 _ _ (kp48 _ _ (s4 _ _ hb2) hbD hbL) hbt⟩
          have eu9 := k9 _ _ eu hetb
          have pn9 : Prs H9 ms us := pu.keep fun T l h => k9 _ _ h fun z => by
            rw [z, e8] at h
            cases h
          have hT0 : TabOk ls 105 (Un.putsP [] ms) := TabOk.putsP (TabOk.nil ls 105) (by rw [List.length_nil]; omega) fun q hq => ⟨(hms q hq).1, Nat.le_trans (hms q hq).2.1 (by decide), (hms q hq).2.2⟩
          walk_at "rds"
          refine make_end hare (by omega) (.inl (SqL.of eu9)) pn9 (fun q hq => ⟨⟨(hms q hq).1, Nat.le_trans (hms q hq).2.1 (by decide)⟩, (hms q hq).2.2.1⟩) (by omega) (fun x d H10 s10 hx hdn hS10 => ?_)
          have htb10 := s10 _ _ t9
          have hd10 := hd9.keep s10
          have htd : tb ≠ d := fun z => by
            rw [← z, t9] at hdn
            cases hdn
          have hB10 : ∀ b o, H b = some o → b ≠ D ∧ b ≠ L ∧ b ≠ tb ∧ b ≠ d ∧ H10 b = some o := fun b o hb => by
            obtain ⟨h1, h2, h3, h4⟩ := hB9 b o hb
            exact ⟨h1, h2, h3, fun z => by (rw [z, hdn] at h4; cases h4), s10 _ _ h4⟩
          generalize Un.putsP [] ms = m0 at hT0 hS10 htb10
          clear hB9 hx hdn s10 pn9 eu9 t9 k9 hd9 hms pu eu hd8 e8 kp48 hetb hd4 e4 s4 htb kp2 s1 nD nL b1 b2 b3 b4 hml hd2 hd1
          walk_at "rds"
          refine rd_cut (fun σ' H' => ∃ m', (∃ z7 z9 z10 z12 z13 z14 z15 z16 z17, σ' = [some (.ref a), some (.int (0 + (i : Nat))), some (.ref D), some (.str (tx ls)), some (.ref tb), some (.int (mn : Nat)), some (.int sx), z7, some (.ref e), z9, z10, some (.ref x), z12, z13, z14, z15, z16, z17]) ∧ TabOk ls 160 m' ∧ St (SC mg) H' x d ls m' ∧ H' tb = some (.dK (encT m')) ∧ Deal D L H' ∧ Keep4 D L d tb H10 H') ?_ ?_
          · walk_at "rds"
            refine ⟨D, L, 31, rfl, hd10, by decide, by decide, fun k11 H11 hk111 hk112 kp11 hd11 => ?_⟩
            obtain ⟨n11, rfl⟩ := Int.eq_ofNat_of_zero_le hk111
            walk_at "rds"
            have en : ((20 : Int) + (n11 : Nat)).toNat = 20 + n11 := by omega
            refine ⟨_, rfl, by omega, by omega, for_range (lo := 0) (n := ((20 : Int) + (n11 : Nat)).toNat) (fun j σ' H' => ∃ m', (∃ z7 z9 z10 z12 z13 z14 z15 z16 z17, σ' = [some (.ref a), some (.int (0 + (i : Nat))), some (.ref D), some (.str (tx ls)), some (.ref tb), some (.int (mn : Nat)), some (.int sx), z7, some (.ref e), z9, z10, some (.ref x), z12, z13, z14, z15, z16, z17]) ∧ TabOk ls (105 + j) m' ∧ St (SC mg) H' x d ls m' ∧ H' tb = some (.dK (encT m')) ∧ Deal D L H' ∧ Keep4 D L d tb H10 H') ⟨m0, ⟨_, _, _, _, _, _, _, _, _, rfl⟩, hT0, hS10.kd hd10 kp11, hd10.kd kp11 htb10, hd11, Keep.k4 kp11⟩ ?_ ?_⟩
            · rintro j σ' H12 hj ⟨m, ⟨z7, z9, z10, z12, z13, z14, z15, z16, z17, rfl⟩, hT, hS12, htb12, hd12, k12⟩
              rw [en] at hj
              have hml := hT.len
              walk_at "rds"
              refine rd_cut (fun σ' H' => ∃ af : Option (List Nat), σ' = [some (.ref a), some (.int (0 + (i : Nat))), some (.ref D), some (.str (tx ls)), some (.ref tb), some (.int (mn : Nat)), some (.int sx), some (.int (0 + (j : Nat))), some (.ref e), z9, z10, some (.ref x), some (bnd af), z13, z14, z15, z16, z17] ∧ Keep D L H12 H' ∧ Deal D L H') ?_ ?_
              · walk_at "rds"
                refine ⟨D, L, 3, rfl, hd12, by decide, by decide, fun k13 H13 hk131 hk132 kp13 hd13 => ?_⟩
                walk_at "rds"
                refine rd_ite (fun _ => ?_) (fun _ => ?_)
                · walk_at "rds"
                  refine ⟨D, L, tb, ls, m, 105 + j, rfl, hd13, hne, by omega, hd12.kd kp13 htb12, by omega, hT.kb, by omega, by omega, fun t H14 ht1 ht2 kp14 hd14 => ?_⟩
                  walk_at "rds"
                  exact ⟨some t, rfl, kp13.trans kp14, hd14⟩
                · walk_at "rds"
                  exact ⟨none, rfl, kp13, hd13⟩
              · rintro σ' H13 ⟨af, rfl, kp13, hd13⟩
                have htb13 := hd12.kd kp13 htb12
                walk_at "rds"
                refine ⟨D, L, tb, ls, m, 105 + j, rfl, hd13, hne, by omega, htb13, by omega, hT.kb, by omega, by omega, fun lo H14 hlo1 hlo2 kp14 hd14 => ?_⟩
                walk_at "rds"
                refine ⟨D, L, tb, ls, m, 105 + j, rfl, hd14, hne, by omega, hd13.kd kp14 htb13, by omega, hT.kb, by omega, by omega, fun hh H15 hh1 hh2 kp15 hd15 => ?_⟩
                have kp1215 := (kp13.trans kp14).trans kp15
                clear kp13 kp14 kp15 hd13 hd14 htb13
                walk_at "rds"
                have sG := same_refl H15
                refine ⟨by show 2 ≤ sizeLine; decide, fun r1 n1 => ?_⟩
                have f1 : upd H15 r1 (.tup [.str (tx lo), .str (tx hh)]) r1 = some (.tup [.str (tx lo), .str (tx hh)]) := upd_same
                have sG := same_trans sG (same_upd (o := .tup [.str (tx lo), .str (tx hh)]) n1)
                generalize upd H15 r1 (.tup [.str (tx lo), .str (tx hh)]) = J1 at sG f1 ⊢
                walk_at "rds"
                refine ⟨by show 2 ≤ sizeLine; decide, fun r2 n2 => ?_⟩
                have f1 := (same_upd (o := .tup [.str (tx lo), .non]) n2) _ _ f1
                have f2 : upd J1 r2 (.tup [.str (tx lo), .non]) r2 = some (.tup [.str (tx lo), .non]) := upd_same
                have sG := same_trans sG (same_upd (o := .tup [.str (tx lo), .non]) n2)
                generalize upd J1 r2 (.tup [.str (tx lo), .non]) = J2 at sG f1 f2 ⊢
                walk_at "rds"
                refine ⟨by show 2 ≤ sizeLine; decide, fun r3 n3 => ?_⟩
                have f1 := (same_upd (o := .tup [.str (tx []), .str (tx hh)]) n3) _ _ f1
                have f2 := (same_upd (o := .tup [.str (tx []), .str (tx hh)]) n3) _ _ f2
                have f3 : upd J2 r3 (.tup [.str (tx []), .str (tx hh)]) r3 = some (.tup [.str (tx []), .str (tx hh)]) := upd_same
                have sG := same_trans sG (same_upd (o := .tup [.str (tx []), .str (tx hh)]) n3)
                generalize upd J2 r3 (.tup [.str (tx []), .str (tx hh)]) = J3 at sG f1 f2 f3 ⊢
                walk_at "rds"
                refine rd_minX (fun mi _ => ?_)
                walk_at "rds"
                refine ⟨by show 2 ≤ sizeLine; decide, fun r4 n4 => ?_⟩
                have f1 := (same_upd (o := .tup [.str (tx mi), .str (tx hh)]) n4) _ _ f1
                have f2 := (same_upd (o := .tup [.str (tx mi), .str (tx hh)]) n4) _ _ f2
                have f3 := (same_upd (o := .tup [.str (tx mi), .str (tx hh)]) n4) _ _ f3
                have f4 : upd J3 r4 (.tup [.str (tx mi), .str (tx hh)]) r4 = some (.tup [.str (tx mi), .str (tx hh)]) := upd_same
                have sG := same_trans sG (same_upd (o := .tup [.str (tx mi), .str (tx hh)]) n4)
                generalize upd J3 r4 (.tup [.str (tx mi), .str (tx hh)]) = J4 at sG f1 f2 f3 f4 ⊢
                walk_at "rds"
                refine ⟨by show 4 ≤ sizeLine; decide, fun r5 n5 => ?_⟩
                have s5 := same_upd (o := .lst [.ref r1, .ref r2, .ref r3, .ref r4]) n5
                have f5 : upd J4 r5 (.lst [.ref r1, .ref r2, .ref r3, .ref r4]) r5 = some (.lst [.ref r1, .ref r2, .ref r3, .ref r4]) := upd_same
                have hr5D := (hd15.keep sG).none n5
                have sG := same_trans sG s5
                have hall : ∀ v ∈ [V.ref r1, .ref r2, .ref r3, .ref r4], ∃ r lo' hi', v = .ref r ∧ upd J4 r5 (.lst [.ref r1, .ref r2, .ref r3, .ref r4]) r = some (.tup [.str (tx lo'), bnd hi']) := by
                  intro v hv
                  simp only [List.mem_cons, List.not_mem_nil, or_false] at hv
                  rcases hv with rfl | rfl | rfl | rfl
                  · exact ⟨r1, lo, some hh, rfl, s5 _ _ f1⟩
                  · exact ⟨r2, lo, none, rfl, s5 _ _ f2⟩
                  · exact ⟨r3, [], some hh, rfl, s5 _ _ f3⟩
                  · exact ⟨r4, mi, some hh, rfl, s5 _ _ f4⟩
                generalize upd J4 r5 (.lst [.ref r1, .ref r2, .ref r3, .ref r4]) = H16 at sG f5 hall ⊢
                clear f1 f2 f3 f4 s5 n1 n2 n3 n4 n5
                have hlen4 : [V.ref r1, .ref r2, .ref r3, .ref r4].length = 4 := rfl
                generalize [V.ref r1, .ref r2, .ref r3, .ref r4] = vs4 at f5 hall hlen4
                have hd16 := hd15.keep sG
                walk_at "rds"
                refine ⟨D, L, 4, rfl, hd16, by decide, by decide, fun k17 H17 hk171 hk172 kp17 hd17 => ?_⟩
                obtain ⟨n17, rfl⟩ := Int.eq_ofNat_of_zero_le hk171
                have hn17 : n17 < vs4.length := by omega
                obtain ⟨r6, lo2, hi2, hv6, hr6⟩ := hall vs4[n17] (List.getElem_mem hn17)
                refine rd_ixL (SqL.of (kp17 _ _ f5 hr5D.1 hr5D.2)) (v := .ref r6) (atI_nat (by rw [List.getElem?_eq_getElem hn17, hv6])) ?_
                walk_at "rds"
                refine rd_gtup (SqT.of (hd16.kt kp17 hr6)) rfl ?_
                have kp1217 := kp1215.trans ((Keep.of_same sG).trans kp17)
                clear hall hv6 hr6 f5 hlen4 hn17 hk171 hk172 hr5D kp17 hd16 sG kp1215 hd15
                walk_at "rds"
                refine ⟨by show 3 ≤ sizeLine; decide, fun rt hrt => ?_⟩
                have s18 := same_upd (o := .tup [.str (tx lo2), bnd hi2, bnd af]) hrt
                have f18 : upd H17 rt (.tup [.str (tx lo2), bnd hi2, bnd af]) rt = some (.tup [.str (tx lo2), bnd hi2, bnd af]) := upd_same
                generalize upd H17 rt (.tup [.str (tx lo2), bnd hi2, bnd af]) = H18 at s18 f18 ⊢
                have kp1218 := kp1217.trans (Keep.of_same s18)
                have hd18 := hd17.keep s18
                have hS18 := hS12.kd hd12 kp1218
                have htb18 := hd12.kd kp1218 htb12
                walk_at "rds"
                refine ⟨D, L, x, d, tb, rt, ls, m, 105 + j, lo2, hi2, af, rfl, hd18, hS18, htb18, htd, f18, hne, by omega, hmem, hT, by omega, by omega, fun n H19 hTn k19 hd19 hsd19 htb19 => ?_⟩
                have hS19 : St (SC mg) H19 x d ls n := by
                  obtain ⟨dx, ho⟩ := hS18.o
                  obtain ⟨cs, mm, h1, h2, _⟩ := hd18
                  refine ⟨⟨dx, k19 _ _ ho (fun z => ?_) (fun z => ?_) (fun z => ?_) (fun z => ?_)⟩, hsd19⟩
                  · rw [z, h1] at ho
                    cases ho
                  · rw [z, h2] at ho
                    cases ho
                  · rw [z, hS18.t] at ho
                    cases ho
                  · rw [z, htb18] at ho
                    cases ho
                have k1219 : Keep4 D L d tb H10 H19 := (k12.trans (Keep.k4 kp1218)).trans k19
                have hnl := hTn.len
                clear k19 hsd19 htb18 hS18 hd18 kp1218 f18 s18 hrt hd17 kp1217
                walk_at "rds"
                refine rd_ite (fun h => by cases h) (fun _ => ?_)
                walk_at "rds"
                refine ⟨D, L, tb, ls, n, 105 + j + 1, rfl, hd19, hne, by omega, htb19, by omega, hTn.kb, by omega, by omega, fun ak H20 ak1 ak2 kp20 hd20 => ?_⟩
                walk_at "rds"
                refine ⟨by show 1 ≤ sizeLine; decide, fun l1 nl1 => ?_⟩
                have f1 : upd H20 l1 (.lst [.str (tx ak)]) l1 = some (.lst [.str (tx ak)]) := upd_same
                have sG := same_upd (o := .lst [.str (tx ak)]) nl1
                have hl1D := hd20.none nl1
                generalize upd H20 l1 (.lst [.str (tx ak)]) = H21 at f1 sG ⊢
                walk_at "rds"
                refine ⟨by show 1 ≤ sizeLine; decide, fun t1 nt1 => ?_⟩
                have f1 := (same_upd (o := .tup [.str (tx ak)]) nt1) _ _ f1
                have f2 : upd H21 t1 (.tup [.str (tx ak)]) t1 = some (.tup [.str (tx ak)]) := upd_same
                have sG := same_trans sG (same_upd (o := .tup [.str (tx ak)]) nt1)
                generalize upd H21 t1 (.tup [.str (tx ak)]) = H22 at f1 f2 sG ⊢
                walk_at "rds"
                refine rd_addX (Nat.le_of_lt (small1000 (by rw [List.length_singleton]; omega))) ?_
                walk_at "rds"
                refine ⟨by show 8 ≤ sizeLine; decide, fun e8 ne8 => ?_⟩
                have he8D := (hd20.keep sG).none ne8
                have s8 := same_upd (o := .lst [.str (tx ak), .str (tx ak), .non, .int 0, .ref l1, .ref t1, .bl true, .str (tx (ak ++ [64]))]) ne8
                have f1 := s8 _ _ f1
                have f2 := s8 _ _ f2
                have f8 : upd H22 e8 (.lst [.str (tx ak), .str (tx ak), .non, .int 0, .ref l1, .ref t1, .bl true, .str (tx (ak ++ [64]))]) e8 = some (.lst [.str (tx ak), .str (tx ak), .non, .int 0, .ref l1, .ref t1, .bl true, .str (tx (ak ++ [64]))]) := upd_same
                have sG := same_trans sG s8
                generalize upd H22 e8 (.lst [.str (tx ak), .str (tx ak), .non, .int 0, .ref l1, .ref t1, .bl true, .str (tx (ak ++ [64]))]) = H23 at f1 f2 f8 sG ⊢
                have hd23 := hd20.keep sG
                walk_at "rds"
                refine ⟨D, L, .ref e8, _, rfl, hd23, .inl ⟨e8, rfl, he8D.1, he8D.2, SqL.of f8⟩, by show 0 < 8; decide, by show 8 ≤ 1000; decide, fun od H24 hod kp24 hd24 => ?_⟩
                have g1 := kp24 _ _ f1 hl1D.1 hl1D.2
                have g2 := hd23.kt kp24 f2
                have hodd := odd_ok (K := K) hod g1 g2 (by omega) (fun c hc => hmem c (ak1 c hc))
                have kp1924 := kp20.trans ((Keep.of_same sG).trans kp24)
                clear hod g1 g2 f1 f2 f8 s8 he8D hl1D nl1 nt1 ne8 hd23 sG hd20 kp20
                have htb24 := hd19.kd kp1924 htb19
                have hS24 := hS19.kd hd19 kp1924
                have k24 : Keep4 D L d tb H10 H24 := k1219.trans (Keep.k4 kp1924)
                clear kp1924 k1219 hS19 htb19 hd19
                have hkl : ∀ k ∈ keysT n, ∀ c ∈ k, c ∈ ls := fun k hk => (hTn.kb k hk).1
                walk_at "rds"
                refine rd_cut (fun σ' H' => σ' = [some (.ref a), some (.int (0 + (i : Nat))), some (.ref D), some (.str (tx ls)), some (.ref tb), some (.int (mn : Nat)), some (.int sx), some (.int (0 + (j : Nat))), some (.ref e), z9, z10, some (.ref x), some (bnd af), some (.str (tx lo2)), some (bnd hi2), some (.str (tx ak)), some od, some (.bl (inB ls n od))] ∧ Same H24 H') ?_ ?_
                · walk_at "rds"
                  rcases (hodd _ (same_refl _)).1 with ⟨u, rfl, hu⟩ | ⟨⟨t, ty, kt⟩, hn⟩
                  · refine rd_isB (b := true) (.base (.str _)) (kit_ty (by decide +kernel)) ?_
                    walk_at "rds"
                    refine rd_ite (fun _ => ?_) (fun h => by cases h)
                    walk_at "rds"
                    refine ⟨tb, _, rfl, DGet.k (k := Sum.inr (tx u)) htb24, ?_⟩
                    rw [in_enc hkl]
                    walk_at "rds"
                    exact ⟨rfl, same_refl _⟩
                  · refine rd_isi ty kt ?_
                    walk_at "rds"
                    refine rd_ite (fun h => by cases h) (fun _ => ?_)
                    walk_at "rds"
                    rw [in_not hn]
                    exact ⟨rfl, same_refl _⟩
                · rintro σ' H25 ⟨rfl, s25⟩
                  have hS25 := hS24.same s25
                  have htb25 := s25 _ _ htb24
                  obtain ⟨dx25, ho25⟩ := hS25.o
                  walk_at "rds"
                  refine rd_cut (fun σ' H' => σ' = [some (.ref a), some (.int (0 + (i : Nat))), some (.ref D), some (.str (tx ls)), some (.ref tb), some (.int (mn : Nat)), some (.int sx), some (.int (0 + (j : Nat))), some (.ref e), z9, z10, some (.ref x), some (bnd af), some (.str (tx lo2)), some (bnd hi2), some (.str (tx ak)), some od, some (.bl (inB ls n od))] ∧ Same H24 H') ?_ ?_
                  · walk_at "rds"
                    refine ⟨x, dx25, _, rfl, ho25, x, d, ls, n, od, rfl, hS25, (hodd _ s25).1, fun H26 s26 => ⟨_, rfl, ?_⟩⟩
                    walk_at "rds"
                    refine rd_reprZ (.bl _) ((bool_good _).mono (by decide) (by decide)) ?_
                    walk_at "rds"
                    refine rd_reprZ (.bl _) ((bool_good _).mono (by decide) (by decide)) ?_
                    walk_at "rds"
                    refine rd_ite (fun h => by simp at h) (fun _ => ?_)
                    walk_at "rds"
                    have s2426 := same_trans s25 s26
                    obtain ⟨hto, dd, hdp, hgo⟩ := hodd _ s2426
                    refine ⟨x, d, ls, n, od, dd, rfl, hS25.same s26, hto, hdp, hgo, fun key v hk hin hv H27 s27 => ?_, fun hin H27 s27 => ?_⟩
                    · walk_at "rds"
                      rw [hin]
                      refine rd_ite (fun _ => ?_) (fun h => by cases h)
                      walk_at "rds"
                      subst hk
                      refine ⟨tb, .int v, rfl, ?_, ?_⟩
                      · have g := DGet.k (k := Sum.inr (tx key)) (s27 _ _ (s26 _ _ htb25))
                        rw [valV_enc, hv] at g
                        exact g
                      refine ⟨.int v, .int v, .int v, .int v, shaped_int v, shaped_int v, ?_⟩
                      rw [eqv_int]
                      walk_at "rds"
                      refine rd_ite (fun h => by cases h) (fun _ => ?_)
                      walk_at "rds"
                      exact ⟨rfl, same_trans s2426 s27⟩
                    · walk_at "rds"
                      rw [hin]
                      refine rd_ite (fun h => by cases h) (fun _ => ?_)
                      walk_at "rds"
                      refine ⟨.none, .none, .non, .non, by decide +kernel, by decide +kernel, ?_⟩
                      have ee : PyData.eqv .none .none = true := by decide +kernel
                      rw [ee]
                      walk_at "rds"
                      refine rd_ite (fun h => by cases h) (fun _ => ?_)
                      walk_at "rds"
                      exact ⟨rfl, same_trans s2426 s27⟩
                  · rintro σ' H27 ⟨rfl, s27⟩
                    have hS27 := hS24.same s27
                    have htb27 := s27 _ _ htb24
                    obtain ⟨dx27, ho27⟩ := hS27.o
                    walk_at "rds"
                    refine ⟨x, dx27, _, rfl, ho27, x, d, ls, n, rfl, hS27, fun H28 s28 => ⟨n.length, rfl, by omega, ?_⟩⟩
                    walk_at "rds"
                    refine ⟨tb, _, rfl, s28 _ _ htb27, ?_⟩
                    walk_at "rds"
                    refine rd_ite (fun h => by simp [encT_len] at h) (fun _ => ?_)
                    walk_at "rds"
                    refine ⟨x, _, dx27, _, _, rfl, s28 _ _ ho27, T.k_Store, T.n_Store_letters, rfl, ?_⟩
                    walk_at "rds"
                    refine rd_ite (fun h => by simp at h) (fun _ => ?_)
                    walk_at "rds"
                    have s2428 := same_trans s27 s28
                    exact ⟨n, ⟨_, _, _, _, _, _, _, _, _, rfl⟩, hTn, hS24.same s2428, s2428 _ _ htb24, hd24.keep s2428, k24.trans (Same.k4 s2428)⟩
            · rintro σ' H12 ⟨m, hσ, hT, hr⟩
              rw [en] at hT
              exact ⟨m, hσ, hT.mono (by omega), hr⟩
          · rintro σ' H12 ⟨m, ⟨z7, z9, z10, z12, z13, z14, z15, z16, z17, rfl⟩, hT, hS12, htb12, hd12, k12⟩
            walk_at "rds"
            refine ⟨D, L, x, d, tb, ls, m, 160, rfl, hd12, hS12, htb12, htd, hare, hnd, hT, by omega, fun H13 kp13 hd13 => ?_⟩
            walk_at "rds"
            refine rd_ite (fun h => by cases h) (fun _ => ?_)
            walk_at "rds"
            refine ⟨fun b o hb => ?_, _, _, _, _, _, _, _, _, _, _, _, _, _, _, _, _, _, rfl⟩
            obtain ⟨h1, h2, h3, h4, h5⟩ := hB10 b o hb
            exact kp13 _ _ (k12 _ _ h5 h1 h2 h4 h3) h1 h2
end
set_option maxHeartbeats 4000000 in
theorem all_mk {l : PySem.W.OpenLaw} {w : World} {K : PySem.W.Frag} {h : Heap} {mg : Str → Option Value} {fa f1 f2 f3 f4 f5 f6 f7 f8 f9 f10 f11 f12 f13 f14 f15 f16 f17 f18 f19 f20 f21 f22 : Addr} (X : K.In h) (G : h.Ns mainGlobals mg) (hfa : mg "law" = some (.ref fa))
    {od1 od2 od3 od4 od5 od6 od7 od8 od9 od10 od11 od12 od13 od14 od15 od16 od17 od18 od19 od20 od21 od22 an1 an2 an3 an4 an5 an6 an7 an8 an9 an10 an11 an12 an13 an14 an15 an16 an17 an18 an19 an20 an21 an22 : Option Addr} {sl1 sl2 sl3 sl4 sl5 sl6 sl7 sl8 sl9 sl10 sl11 sl12 sl13 sl14 sl15 sl16 sl17 sl18 sl19 sl20 sl21 sl22 : Array (Option Value)} {oc1 oc2 oc3 oc4 oc5 oc6 oc7 oc8 oc9 oc10 oc11 oc12 oc13 oc14 oc15 oc16 oc17 oc18 oc19 oc20 oc21 oc22 kV1 kV2 kV3 kV4 kV5 kV6 kV7 kV8 kV9 kV10 kV11 kV12 kV13 kV14 kV15 kV16 kV17 kV18 kV19 kV20 kV21 kV22 dc1 dc2 dc3 dc4 dc5 dc6 dc7 dc8 dc9 dc10 dc11 dc12 dc13 dc14 dc15 dc16 dc17 dc18 dc19 dc20 dc21 dc22 pm1 pm2 pm3 pm4 pm5 pm6 pm7 pm8 pm9 pm10 pm11 pm12 pm13 pm14 pm15 pm16 pm17 pm18 pm19 pm20 pm21 pm22 ct1 ct2 ct3 ct4 ct5 ct6 ct7 ct8 ct9 ct10 ct11 ct12 ct13 ct14 ct15 ct16 ct17 ct18 ct19 ct20 ct21 ct22 cd1 cd2 cd3 cd4 cd5 cd6 cd7 cd8 cd9 cd10 cd11 cd12 cd13 cd14 cd15 cd16 cd17 cd18 cd19 cd20 cd21 cd22 : Value}
    {C1 C2 C3 C4 C5 N1 N2 N3 N4 N5 : Addr} {nm1 nm2 nm3 nm4 nm5 qn1 qn2 qn3 qn4 qn5 : Str} {bs1 bs2 bs3 bs4 bs5 sub1 sub2 sub3 sub4 sub5 : List Value} {sn1 sn2 sn3 sn4 sn5 : List Str} {ab1 ab2 ab3 ab4 ab5 : Bool} {col1 col2 col3 col4 col5 : Option Bool} {dd1 dd2 dd3 dd4 dd5 : Option Addr} {m0_1 m0_2 m0_3 m0_4 m0_5 m1_1 m1_2 m1_3 m1_4 m1_5 m2_1 m2_2 m2_3 m2_4 m2_5 m3_1 m3_2 m3_3 m3_4 m3_5 m5_1 m5_2 m5_3 m5_4 m5_5 : Option Value}
    {fI3 fI4 fI5 : Addr} {iod3 iod4 iod5 ian3 ian4 ian5 : Option Addr} {isl3 isl4 isl5 : Array (Option Value)} {ioc3 ioc4 ioc5 ikV3 ikV4 ikV5 idc3 idc4 idc5 ipm3 ipm4 ipm5 icd3 icd4 icd5 ict3 ict4 ict5 : Value}
    (g1 : PySem.W.nsIn K mainGlobals "UnderError" = some (some (.ref C1))) (x1 : K.lookup C1 = some (excClassObj nm1 qn1 C1 N1 bs1 [.type "ValueError", .type "Exception", .type "BaseException", .type "object"] true sn1 sub1 ab1 col1 dd1 m0_1 m1_1 m2_1 m3_1 m5_1 "ValueError.__new__")) (o1 : Un.clB K C1 = true)
    (e1 : PySem.W.excIn K C1 PySem.HandSPX.veTail "ValueError.__new__" = true)
    (g2 : PySem.W.nsIn K mainGlobals "InvalidLetters" = some (some (.ref C2))) (x2 : K.lookup C2 = some (excClassObj nm2 qn2 C2 N2 bs2 [.ref C1, .type "ValueError", .type "Exception", .type "BaseException", .type "object"] true sn2 sub2 ab2 col2 dd2 m0_2 m1_2 m2_2 m3_2 m5_2 "ValueError.__new__")) (o2 : Un.clB K C2 = true)
    (e2 : PySem.W.excIn K C2 PySem.HandSPX.veTail "ValueError.__new__" = true)
    (g3 : PySem.W.nsIn K mainGlobals "NoText" = some (some (.ref C3))) (x3 : K.lookup C3 = some (excClassObj nm3 qn3 C3 N3 bs3 [.ref C1, .type "ValueError", .type "Exception", .type "BaseException", .type "object"] true sn3 sub3 ab3 col3 dd3 m0_3 m1_3 m2_3 m3_3 m5_3 "ValueError.__new__")) (o3 : Un.clB K C3 = true)
    (n3 : PySem.W.findIn K (.ref C3) "value" = some none) (i3 : PySem.W.findIn K (.ref C3) "__init__" = some (some (.ref fI3))) (t3 : PySem.W.typeIn K (.ref fI3) = some (.type "function"))
    (li3 : K.lookup fI3 = some ⟨ioc3, iod3, .func (PySem.W.fnOf "__init__" "NoText.__init__" (defArgs s_NoText) (defBody s_NoText) (defScope s_NoText) .none ikV3 idc3 ipm3 ian3 icd3 ict3), isl3⟩) (ci3 : PySem.W.codeIn K icd3 "NoText.__init__" = true) (ki3 : PySem.W.keepIn K (.ref fI3) = true)
    (g4 : PySem.W.nsIn K mainGlobals "NoValue" = some (some (.ref C4))) (x4 : K.lookup C4 = some (excClassObj nm4 qn4 C4 N4 bs4 [.ref C1, .type "ValueError", .type "Exception", .type "BaseException", .type "object"] true sn4 sub4 ab4 col4 dd4 m0_4 m1_4 m2_4 m3_4 m5_4 "ValueError.__new__")) (o4 : Un.clB K C4 = true)
    (n4 : PySem.W.findIn K (.ref C4) "value" = some none) (i4 : PySem.W.findIn K (.ref C4) "__init__" = some (some (.ref fI4))) (t4 : PySem.W.typeIn K (.ref fI4) = some (.type "function"))
    (li4 : K.lookup fI4 = some ⟨ioc4, iod4, .func (PySem.W.fnOf "__init__" "NoValue.__init__" (defArgs s_NoValue) (defBody s_NoValue) (defScope s_NoValue) .none ikV4 idc4 ipm4 ian4 icd4 ict4), isl4⟩) (ci4 : PySem.W.codeIn K icd4 "NoValue.__init__" = true) (ki4 : PySem.W.keepIn K (.ref fI4) = true)
    (g5 : PySem.W.nsIn K mainGlobals "NoKey" = some (some (.ref C5))) (x5 : K.lookup C5 = some (excClassObj nm5 qn5 C5 N5 bs5 [.type "KeyError", .type "LookupError", .type "Exception", .type "BaseException", .type "object"] true sn5 sub5 ab5 col5 dd5 m0_5 m1_5 m2_5 m3_5 m5_5 "LookupError.__new__")) (o5 : Un.clB K C5 = true)
    (n5 : PySem.W.findIn K (.ref C5) "key" = some none) (i5 : PySem.W.findIn K (.ref C5) "__init__" = some (some (.ref fI5))) (t5 : PySem.W.typeIn K (.ref fI5) = some (.type "function"))
    (li5 : K.lookup fI5 = some ⟨ioc5, iod5, .func (PySem.W.fnOf "__init__" "NoKey.__init__" (defArgs s_NoKey) (defBody s_NoKey) (defScope s_NoKey) .none ikV5 idc5 ipm5 ian5 icd5 ict5), isl5⟩) (ci5 : PySem.W.codeIn K icd5 "NoKey.__init__" = true) (ki5 : PySem.W.keepIn K (.ref fI5) = true)
    (a1 : PySem.W.nsIn K mainGlobals "check_letters" = some (some (.ref f1))) (l1 : K.lookup f1 = some ⟨oc1, od1, .func (PySem.W.fnOf "check_letters" "check_letters" (defArgs s_check_letters) (defBody s_check_letters) (defScope s_check_letters) .none kV1 dc1 pm1 an1 cd1 ct1), sl1⟩) (c1 : PySem.W.codeIn K cd1 "check_letters" = true) (k1 : PySem.W.keepIn K (.ref f1) = true)
    (a2 : PySem.W.nsIn K mainGlobals "_are_letters" = some (some (.ref f2))) (l2 : K.lookup f2 = some ⟨oc2, od2, .func (PySem.W.fnOf "_are_letters" "_are_letters" (defArgs s__are_letters) (defBody s__are_letters) (defScope s__are_letters) .none kV2 dc2 pm2 an2 cd2 ct2), sl2⟩) (c2 : PySem.W.codeIn K cd2 "_are_letters" = true) (k2 : PySem.W.keepIn K (.ref f2) = true)
    (a3 : PySem.W.nsIn K mainGlobals "_consists_of" = some (some (.ref f3))) (l3 : K.lookup f3 = some ⟨oc3, od3, .func (PySem.W.fnOf "_consists_of" "_consists_of" (defArgs s__consists_of) (defBody s__consists_of) (defScope s__consists_of) .none kV3 dc3 pm3 an3 cd3 ct3), sl3⟩) (c3 : PySem.W.codeIn K cd3 "_consists_of" = true) (k3 : PySem.W.keepIn K (.ref f3) = true)
    (a4 : PySem.W.nsIn K mainGlobals "_ascends" = some (some (.ref f4))) (l4 : K.lookup f4 = some ⟨oc4, od4, .func (PySem.W.fnOf "_ascends" "_ascends" (defArgs s__ascends) (defBody s__ascends) (defScope s__ascends) .none kV4 dc4 pm4 an4 cd4 ct4), sl4⟩) (c4 : PySem.W.codeIn K cd4 "_ascends" = true) (k4 : PySem.W.keepIn K (.ref f4) = true)
    (a5 : PySem.W.nsIn K mainGlobals "is_text" = some (some (.ref f5))) (l5 : K.lookup f5 = some ⟨oc5, od5, .func (PySem.W.fnOf "is_text" "is_text" (defArgs s_is_text) (defBody s_is_text) (defScope s_is_text) .none kV5 dc5 pm5 an5 cd5 ct5), sl5⟩) (c5 : PySem.W.codeIn K cd5 "is_text" = true) (k5 : PySem.W.keepIn K (.ref f5) = true)
    (a6 : PySem.W.nsIn K mainGlobals "is_number" = some (some (.ref f6))) (l6 : K.lookup f6 = some ⟨oc6, od6, .func (PySem.W.fnOf "is_number" "is_number" (defArgs s_is_number) (defBody s_is_number) (defScope s_is_number) .none kV6 dc6 pm6 an6 cd6 ct6), sl6⟩) (c6 : PySem.W.codeIn K cd6 "is_number" = true) (k6 : PySem.W.keepIn K (.ref f6) = true)
    (a7 : PySem.W.nsIn K mainGlobals "check_value" = some (some (.ref f7))) (l7 : K.lookup f7 = some ⟨oc7, od7, .func (PySem.W.fnOf "check_value" "check_value" (defArgs s_check_value) (defBody s_check_value) (defScope s_check_value) .none kV7 dc7 pm7 an7 cd7 ct7), sl7⟩) (c7 : PySem.W.codeIn K cd7 "check_value" = true) (k7 : PySem.W.keepIn K (.ref f7) = true)
    (a8 : PySem.W.nsIn K mainGlobals "_keys" = some (some (.ref f8))) (l8 : K.lookup f8 = some ⟨oc8, od8, .func (PySem.W.fnOf "_keys" "_keys" (defArgs s__keys) (defBody s__keys) (defScope s__keys) .none kV8 dc8 pm8 an8 cd8 ct8), sl8⟩) (c8 : PySem.W.codeIn K cd8 "_keys" = true) (k8 : PySem.W.keepIn K (.ref f8) = true)
    (a9 : PySem.W.nsIn K mainGlobals "_law_deal" = some (some (.ref f9))) (l9 : K.lookup f9 = some ⟨oc9, od9, .func (PySem.W.fnOf "_law_deal" "_law_deal" (defArgs s__law_deal) (defBody s__law_deal) (defScope s__law_deal) .none kV9 dc9 pm9 an9 cd9 ct9), sl9⟩) (c9 : PySem.W.codeIn K cd9 "_law_deal" = true) (k9 : PySem.W.keepIn K (.ref f9) = true)
    (a10 : PySem.W.nsIn K mainGlobals "_law_draw" = some (some (.ref f10))) (l10 : K.lookup f10 = some ⟨oc10, od10, .func (PySem.W.fnOf "_law_draw" "_law_draw" (defArgs s__law_draw) (defBody s__law_draw) (defScope s__law_draw) .none kV10 dc10 pm10 an10 cd10 ct10), sl10⟩) (c10 : PySem.W.codeIn K cd10 "_law_draw" = true) (k10 : PySem.W.keepIn K (.ref f10) = true)
    (a11 : PySem.W.nsIn K mainGlobals "_law_pick" = some (some (.ref f11))) (l11 : K.lookup f11 = some ⟨oc11, od11, .func (PySem.W.fnOf "_law_pick" "_law_pick" (defArgs s__law_pick) (defBody s__law_pick) (defScope s__law_pick) .none kV11 dc11 pm11 an11 cd11 ct11), sl11⟩) (c11 : PySem.W.codeIn K cd11 "_law_pick" = true) (k11 : PySem.W.keepIn K (.ref f11) = true)
    (a12 : PySem.W.nsIn K mainGlobals "_law_mixed" = some (some (.ref f12))) (l12 : K.lookup f12 = some ⟨oc12, od12, .func (PySem.W.fnOf "_law_mixed" "_law_mixed" (defArgs s__law_mixed) (defBody s__law_mixed) (defScope s__law_mixed) .none kV12 dc12 pm12 an12 cd12 ct12), sl12⟩) (c12 : PySem.W.codeIn K cd12 "_law_mixed" = true) (k12 : PySem.W.keepIn K (.ref f12) = true)
    (a13 : PySem.W.nsIn K mainGlobals "_law_letters" = some (some (.ref f13))) (l13 : K.lookup f13 = some ⟨oc13, od13, .func (PySem.W.fnOf "_law_letters" "_law_letters" (defArgs s__law_letters) (defBody s__law_letters) (defScope s__law_letters) .none kV13 dc13 pm13 an13 cd13 ct13), sl13⟩) (c13 : PySem.W.codeIn K cd13 "_law_letters" = true) (k13 : PySem.W.keepIn K (.ref f13) = true)
    (a14 : PySem.W.nsIn K mainGlobals "_law_text" = some (some (.ref f14))) (l14 : K.lookup f14 = some ⟨oc14, od14, .func (PySem.W.fnOf "_law_text" "_law_text" (defArgs s__law_text) (defBody s__law_text) (defScope s__law_text) .none kV14 dc14 pm14 an14 cd14 ct14), sl14⟩) (c14 : PySem.W.codeIn K cd14 "_law_text" = true) (k14 : PySem.W.keepIn K (.ref f14) = true)
    (a15 : PySem.W.nsIn K mainGlobals "_law_value" = some (some (.ref f15))) (l15 : K.lookup f15 = some ⟨oc15, od15, .func (PySem.W.fnOf "_law_value" "_law_value" (defArgs s__law_value) (defBody s__law_value) (defScope s__law_value) .none kV15 dc15 pm15 an15 cd15 ct15), sl15⟩) (c15 : PySem.W.codeIn K cd15 "_law_value" = true) (k15 : PySem.W.keepIn K (.ref f15) = true)
    (a16 : PySem.W.nsIn K mainGlobals "_law_spots" = some (some (.ref f16))) (l16 : K.lookup f16 = some ⟨oc16, od16, .func (PySem.W.fnOf "_law_spots" "_law_spots" (defArgs s__law_spots) (defBody s__law_spots) (defScope s__law_spots) .none kV16 dc16 pm16 an16 cd16 ct16), sl16⟩) (c16 : PySem.W.codeIn K cd16 "_law_spots" = true) (k16 : PySem.W.keepIn K (.ref f16) = true)
    (a17 : PySem.W.nsIn K mainGlobals "_law_any_key" = some (some (.ref f17))) (l17 : K.lookup f17 = some ⟨oc17, od17, .func (PySem.W.fnOf "_law_any_key" "_law_any_key" (defArgs s__law_any_key) (defBody s__law_any_key) (defScope s__law_any_key) .none kV17 dc17 pm17 an17 cd17 ct17), sl17⟩) (c17 : PySem.W.codeIn K cd17 "_law_any_key" = true) (k17 : PySem.W.keepIn K (.ref f17) = true)
    (a18 : PySem.W.nsIn K mainGlobals "_law_asked_right" = some (some (.ref f18))) (l18 : K.lookup f18 = some ⟨oc18, od18, .func (PySem.W.fnOf "_law_asked_right" "_law_asked_right" (defArgs s__law_asked_right) (defBody s__law_asked_right) (defScope s__law_asked_right) .none kV18 dc18 pm18 an18 cd18 ct18), sl18⟩) (c18 : PySem.W.codeIn K cd18 "_law_asked_right" = true) (k18 : PySem.W.keepIn K (.ref f18) = true)
    (a19 : PySem.W.nsIn K mainGlobals "_law_told" = some (some (.ref f19))) (l19 : K.lookup f19 = some ⟨oc19, od19, .func (PySem.W.fnOf "_law_told" "_law_told" (defArgs s__law_told) (defBody s__law_told) (defScope s__law_told) .none kV19 dc19 pm19 an19 cd19 ct19), sl19⟩) (c19 : PySem.W.codeIn K cd19 "_law_told" = true) (k19 : PySem.W.keepIn K (.ref f19) = true)
    (a20 : PySem.W.nsIn K mainGlobals "_law_deed" = some (some (.ref f20))) (l20 : K.lookup f20 = some ⟨oc20, od20, .func (PySem.W.fnOf "_law_deed" "_law_deed" (defArgs s__law_deed) (defBody s__law_deed) (defScope s__law_deed) .none kV20 dc20 pm20 an20 cd20 ct20), sl20⟩) (c20 : PySem.W.codeIn K cd20 "_law_deed" = true) (k20 : PySem.W.keepIn K (.ref f20) = true)
    (a21 : PySem.W.nsIn K mainGlobals "_law_copy_right" = some (some (.ref f21))) (l21 : K.lookup f21 = some ⟨oc21, od21, .func (PySem.W.fnOf "_law_copy_right" "_law_copy_right" (defArgs s__law_copy_right) (defBody s__law_copy_right) (defScope s__law_copy_right) .none kV21 dc21 pm21 an21 cd21 ct21), sl21⟩) (c21 : PySem.W.codeIn K cd21 "_law_copy_right" = true) (k21 : PySem.W.keepIn K (.ref f21) = true)
    (a22 : PySem.W.nsIn K mainGlobals "law" = some (some (.ref f22))) (l22 : K.lookup f22 = some ⟨oc22, od22, .func (PySem.W.fnOf "law" "law" (defArgs s_law) (defBody s_law) (defScope s_law) .none kV22 dc22 pm22 an22 cd22 ct22), sl22⟩) (c22 : PySem.W.codeIn K cd22 "law" = true) (k22 : PySem.W.keepIn K (.ref f22) = true)
    (z1 : PySem.W.nsIn K mainGlobals "KeyError" = some none)
    (z2 : PySem.W.nsIn K mainGlobals "TypeError" = some none)
    (z3 : PySem.W.nsIn K mainGlobals "ValueError" = some none)
    (z4 : PySem.W.nsIn K mainGlobals "abs" = some none)
    (z5 : PySem.W.nsIn K mainGlobals "all" = some none)
    (z6 : PySem.W.nsIn K mainGlobals "bool" = some none)
    (z7 : PySem.W.nsIn K mainGlobals "dict" = some none)
    (z8 : PySem.W.nsIn K mainGlobals "int" = some none)
    (z9 : PySem.W.nsIn K mainGlobals "isinstance" = some none)
    (z10 : PySem.W.nsIn K mainGlobals "len" = some none)
    (z11 : PySem.W.nsIn K mainGlobals "list" = some none)
    (z12 : PySem.W.nsIn K mainGlobals "max" = some none)
    (z13 : PySem.W.nsIn K mainGlobals "min" = some none)
    (z14 : PySem.W.nsIn K mainGlobals "range" = some none)
    (z15 : PySem.W.nsIn K mainGlobals "repr" = some none)
    (z16 : PySem.W.nsIn K mainGlobals "sorted" = some none)
    (z17 : PySem.W.nsIn K mainGlobals "str" = some none)
    (z18 : PySem.W.nsIn K mainGlobals "tuple" = some none)
    (z19 : PySem.W.nsIn K mainGlobals "zip" = some none)
    {tq1 : Tok} (q1 : PySem.W.nsIn K mainGlobals "CHARACTERS" = some (some (.str "-./0123456789_abcdefghijklmnopqrstuvwxyz" tq1)))
    {tq2 : Tok} (q2 : PySem.W.nsIn K mainGlobals "FEWEST_LETTERS" = some (some (.int 2 tq2)))
    {tq3 : Tok} (q3 : PySem.W.nsIn K mainGlobals "MOST_LETTERS" = some (some (.int 5 tq3)))
    {OC1 : Addr} (og1 : PySem.W.nsIn K mainGlobals "Store" = some (some (.ref OC1))) (op1 : PySem.W.plainGet K OC1 Str.empty = true) (oh1 : PySem.W.hasDictIn K OC1 = true) (oo1 : PySem.W.plainOver K OC1 = true) (os1 : PySem.W.findIn K (.ref OC1) "__setattr__" = some (some (.builtin "object.__setattr__")))
    (oq1 : PySem.W.noSeq K OC1 = true) (oi1 : Un.insB K OC1 = true) (on1 : PySem.W.findIn K (.ref OC1) "__ne__" = some (some (.builtin "object.__ne__"))) (or1 : PySem.W.mroIn K OC1 (.type "object") = some true) (om1 : PySem.W.makesIn K OC1 = true) (ok1 : PySem.W.keepIn K (.ref OC1) = true)
    (of1_letters : PySem.W.findIn K (.ref OC1) "letters" = some none)
    (of1_table : PySem.W.findIn K (.ref OC1) "table" = some none)
    {mf1 : Addr} {mod1 man1 : Option Addr} {msl1 : Array (Option Value)} {moc1 mdc1 mpm1 mcd1 mct1 : Value}
    {mT1 : Addr}
    {mkv1 : Value}
    (ma1 : PySem.W.findIn K (.ref OC1) "__init__" = some (some (.ref mf1))) (mi1 : PySem.W.isFn K (.ref mf1) = true) (mn1 : PySem.W.fnIn K mf1 = true) (ml1 : K.lookup mf1 = some ⟨moc1, mod1, .func (PySem.W.fnOf "__init__" "Store.__init__" (defArgs s_Store___init__) (defBody s_Store___init__) (defScope s_Store___init__) (.ref mT1) mkv1 mdc1 mpm1 man1 mcd1 mct1), msl1⟩) (mc1 : PySem.W.codeIn K mcd1 "Store.__init__" = true) (mk1 : PySem.W.keepIn K (.ref mf1) = true)
    {mE1 : Addr} {mts1 mes1 : Array (Option Value)} {mtn1 : Nat} (mt1 : K.lookup mT1 = some ⟨.type "tuple", none, .seq #[.ref mE1] mtn1, mts1⟩) (me1 : K.lookup mE1 = some ⟨.type "tuple", none, .seq #[] 0, mes1⟩)
    {mf2 : Addr} {mod2 man2 : Option Addr} {msl2 : Array (Option Value)} {moc2 mdc2 mpm2 mcd2 mct2 : Value}
    {mkv2 : Value}
    (ma2 : PySem.W.findIn K (.ref OC1) "__setitem__" = some (some (.ref mf2))) (mi2 : PySem.W.isFn K (.ref mf2) = true) (mn2 : PySem.W.fnIn K mf2 = true) (ml2 : K.lookup mf2 = some ⟨moc2, mod2, .func (PySem.W.fnOf "__setitem__" "Store.__setitem__" (defArgs s_Store___setitem__) (defBody s_Store___setitem__) (defScope s_Store___setitem__) .none mkv2 mdc2 mpm2 man2 mcd2 mct2), msl2⟩) (mc2 : PySem.W.codeIn K mcd2 "Store.__setitem__" = true) (mk2 : PySem.W.keepIn K (.ref mf2) = true)
    {mf3 : Addr} {mod3 man3 : Option Addr} {msl3 : Array (Option Value)} {moc3 mdc3 mpm3 mcd3 mct3 : Value}
    {mkv3 : Value}
    (ma3 : PySem.W.findIn K (.ref OC1) "__getitem__" = some (some (.ref mf3))) (mi3 : PySem.W.isFn K (.ref mf3) = true) (mn3 : PySem.W.fnIn K mf3 = true) (ml3 : K.lookup mf3 = some ⟨moc3, mod3, .func (PySem.W.fnOf "__getitem__" "Store.__getitem__" (defArgs s_Store___getitem__) (defBody s_Store___getitem__) (defScope s_Store___getitem__) .none mkv3 mdc3 mpm3 man3 mcd3 mct3), msl3⟩) (mc3 : PySem.W.codeIn K mcd3 "Store.__getitem__" = true) (mk3 : PySem.W.keepIn K (.ref mf3) = true)
    {mf4 : Addr} {mod4 man4 : Option Addr} {msl4 : Array (Option Value)} {moc4 mdc4 mpm4 mcd4 mct4 : Value}
    {mkv4 : Value}
    (ma4 : PySem.W.findIn K (.ref OC1) "__contains__" = some (some (.ref mf4))) (mi4 : PySem.W.isFn K (.ref mf4) = true) (mn4 : PySem.W.fnIn K mf4 = true) (ml4 : K.lookup mf4 = some ⟨moc4, mod4, .func (PySem.W.fnOf "__contains__" "Store.__contains__" (defArgs s_Store___contains__) (defBody s_Store___contains__) (defScope s_Store___contains__) .none mkv4 mdc4 mpm4 man4 mcd4 mct4), msl4⟩) (mc4 : PySem.W.codeIn K mcd4 "Store.__contains__" = true) (mk4 : PySem.W.keepIn K (.ref mf4) = true)
    {mf5 : Addr} {mod5 man5 : Option Addr} {msl5 : Array (Option Value)} {moc5 mdc5 mpm5 mcd5 mct5 : Value}
    {mkv5 : Value}
    (ma5 : PySem.W.findIn K (.ref OC1) "__len__" = some (some (.ref mf5))) (mi5 : PySem.W.isFn K (.ref mf5) = true) (mn5 : PySem.W.fnIn K mf5 = true) (ml5 : K.lookup mf5 = some ⟨moc5, mod5, .func (PySem.W.fnOf "__len__" "Store.__len__" (defArgs s_Store___len__) (defBody s_Store___len__) (defScope s_Store___len__) .none mkv5 mdc5 mpm5 man5 mcd5 mct5), msl5⟩) (mc5 : PySem.W.codeIn K mcd5 "Store.__len__" = true) (mk5 : PySem.W.keepIn K (.ref mf5) = true)
    {mf6 : Addr} {mod6 man6 : Option Addr} {msl6 : Array (Option Value)} {moc6 mdc6 mpm6 mcd6 mct6 : Value}
    {mkv6 : Value}
    (ma6 : PySem.W.findIn K (.ref OC1) "__eq__" = some (some (.ref mf6))) (mi6 : PySem.W.isFn K (.ref mf6) = true) (mn6 : PySem.W.fnIn K mf6 = true) (ml6 : K.lookup mf6 = some ⟨moc6, mod6, .func (PySem.W.fnOf "__eq__" "Store.__eq__" (defArgs s_Store___eq__) (defBody s_Store___eq__) (defScope s_Store___eq__) .none mkv6 mdc6 mpm6 man6 mcd6 mct6), msl6⟩) (mc6 : PySem.W.codeIn K mcd6 "Store.__eq__" = true) (mk6 : PySem.W.keepIn K (.ref mf6) = true)
    {mf7 : Addr} {mod7 man7 : Option Addr} {msl7 : Array (Option Value)} {moc7 mdc7 mpm7 mcd7 mct7 : Value}
    {mT7 : Addr}
    {mD7 : Addr}
    (ma7 : PySem.W.findIn K (.ref OC1) "pairs" = some (some (.ref mf7))) (mi7 : PySem.W.isFn K (.ref mf7) = true) (mn7 : PySem.W.fnIn K mf7 = true) (ml7 : K.lookup mf7 = some ⟨moc7, mod7, .func (PySem.W.fnOf "pairs" "Store.pairs" (defArgs s_Store_pairs) (defBody s_Store_pairs) (defScope s_Store_pairs) (.ref mT7) (.ref mD7) mdc7 mpm7 man7 mcd7 mct7), msl7⟩) (mc7 : PySem.W.codeIn K mcd7 "Store.pairs" = true) (mk7 : PySem.W.keepIn K (.ref mf7) = true)
    {mts7 : Array (Option Value)} {mtn7 : Nat} {mv7_0 : Tok} (mt7 : K.lookup mT7 = some ⟨.type "tuple", none, .seq #[.str "" mv7_0, .none] mtn7, mts7⟩)
    (mw7_0_ : PySem.W.nsIn K mD7 "after" = some (some (.none)))
    {mf8 : Addr} {mod8 man8 : Option Addr} {msl8 : Array (Option Value)} {moc8 mdc8 mpm8 mcd8 mct8 : Value}
    {mT8 : Addr}
    {mD8 : Addr}
    (ma8 : PySem.W.findIn K (.ref OC1) "page" = some (some (.ref mf8))) (mi8 : PySem.W.isFn K (.ref mf8) = true) (mn8 : PySem.W.fnIn K mf8 = true) (ml8 : K.lookup mf8 = some ⟨moc8, mod8, .func (PySem.W.fnOf "page" "Store.page" (defArgs s_Store_page) (defBody s_Store_page) (defScope s_Store_page) (.ref mT8) (.ref mD8) mdc8 mpm8 man8 mcd8 mct8), msl8⟩) (mc8 : PySem.W.codeIn K mcd8 "Store.page" = true) (mk8 : PySem.W.keepIn K (.ref mf8) = true)
    {mts8 : Array (Option Value)} {mtn8 : Nat} {mv8_0 : Tok} (mt8 : K.lookup mT8 = some ⟨.type "tuple", none, .seq #[.str "" mv8_0, .none] mtn8, mts8⟩)
    (mw8_0_ : PySem.W.nsIn K mD8 "after" = some (some (.none)))
    {mf9 : Addr} {mod9 man9 : Option Addr} {msl9 : Array (Option Value)} {moc9 mdc9 mpm9 mcd9 mct9 : Value}
    {mD9 : Addr}
    (ma9 : PySem.W.findIn K (.ref OC1) "take" = some (some (.ref mf9))) (mi9 : PySem.W.isFn K (.ref mf9) = true) (mn9 : PySem.W.fnIn K mf9 = true) (ml9 : K.lookup mf9 = some ⟨moc9, mod9, .func (PySem.W.fnOf "take" "Store.take" (defArgs s_Store_take) (defBody s_Store_take) (defScope s_Store_take) .none (.ref mD9) mdc9 mpm9 man9 mcd9 mct9), msl9⟩) (mc9 : PySem.W.codeIn K mcd9 "Store.take" = true) (mk9 : PySem.W.keepIn K (.ref mf9) = true)
    (mw9_0_ : PySem.W.nsIn K mD9 "after" = some (some (.none)))
    {mf10 : Addr} {mod10 man10 : Option Addr} {msl10 : Array (Option Value)} {moc10 mdc10 mpm10 mcd10 mct10 : Value}
    {mD10 : Addr}
    (ma10 : PySem.W.findIn K (.ref OC1) "fill" = some (some (.ref mf10))) (mi10 : PySem.W.isFn K (.ref mf10) = true) (mn10 : PySem.W.fnIn K mf10 = true) (ml10 : K.lookup mf10 = some ⟨moc10, mod10, .func (PySem.W.fnOf "fill" "Store.fill" (defArgs s_Store_fill) (defBody s_Store_fill) (defScope s_Store_fill) .none (.ref mD10) mdc10 mpm10 man10 mcd10 mct10), msl10⟩) (mc10 : PySem.W.codeIn K mcd10 "Store.fill" = true) (mk10 : PySem.W.keepIn K (.ref mf10) = true)
    (mw10_0_ : PySem.W.nsIn K mD10 "after" = some (some (.none)))
    {mf11 : Addr} {mod11 man11 : Option Addr} {msl11 : Array (Option Value)} {moc11 mdc11 mpm11 mcd11 mct11 : Value}
    {mkv11 : Value}
    (ma11 : PySem.W.findIn K (.ref OC1) "copied" = some (some (.ref mf11))) (mi11 : PySem.W.isFn K (.ref mf11) = true) (mn11 : PySem.W.fnIn K mf11 = true) (ml11 : K.lookup mf11 = some ⟨moc11, mod11, .func (PySem.W.fnOf "copied" "Store.copied" (defArgs s_Store_copied) (defBody s_Store_copied) (defScope s_Store_copied) .none mkv11 mdc11 mpm11 man11 mcd11 mct11), msl11⟩) (mc11 : PySem.W.codeIn K mcd11 "Store.copied" = true) (mk11 : PySem.W.keepIn K (.ref mf11) = true)
    (hke : PySem.W.kitOne K (.ref C5) (.type "KeyError") = some true)
    : ∃ fd : FuncData, (∀ (s : Shared) (v : Value), BindsTo s fd ⟨[v], []⟩ [("_law_script", v)]) ∧ ∀ base : Heap, K.In base → base.Ns mainGlobals mg → FnG l.prog w K mg base 9 fa fd ["_law_script"] (spLaw K) := by
  have e := hfa.symm.trans (PySem.W.mg_of X G a22)
  cases e
  have F1 := fun_mk (st := s_check_letters) l1 c1 k1
  have b1 := F1.binds (ps := ["letters"]) fun _ _ _ _ _ _ us hl => match us, hl with | [_], _ => rfl
  have F2 := fun_mk (st := s__are_letters) l2 c2 k2
  have b2 := F2.binds (ps := ["value"]) fun _ _ _ _ _ _ us hl => match us, hl with | [_], _ => rfl
  have F3 := fun_mk (st := s__consists_of) l3 c3 k3
  have b3 := F3.binds (ps := ["characters", "text"]) fun _ _ _ _ _ _ us hl => match us, hl with | [_, _], _ => rfl
  have F4 := fun_mk (st := s__ascends) l4 c4 k4
  have b4 := F4.binds (ps := ["text"]) fun _ _ _ _ _ _ us hl => match us, hl with | [_], _ => rfl
  have F5 := fun_mk (st := s_is_text) l5 c5 k5
  have b5 := F5.binds (ps := ["letters", "value"]) fun _ _ _ _ _ _ us hl => match us, hl with | [_, _], _ => rfl
  have F6 := fun_mk (st := s_is_number) l6 c6 k6
  have b6 := F6.binds (ps := ["value"]) fun _ _ _ _ _ _ us hl => match us, hl with | [_], _ => rfl
  have F7 := fun_mk (st := s_check_value) l7 c7 k7
  have b7 := F7.binds (ps := ["value"]) fun _ _ _ _ _ _ us hl => match us, hl with | [_], _ => rfl
  have F8 := fun_mk (st := s__keys) l8 c8 k8
  have b8 := F8.binds (ps := ["store", "low", "high", "after"]) fun _ _ _ _ _ _ us hl => match us, hl with | [_, _, _, _], _ => rfl
  have F9 := fun_mk (st := s__law_deal) l9 c9 k9
  have b9 := F9.binds (ps := ["_law_script", "_law_base"]) fun _ _ _ _ _ _ us hl => match us, hl with | [_, _], _ => rfl
  have F10 := fun_mk (st := s__law_draw) l10 c10 k10
  have b10 := F10.binds (ps := ["_law_deal_here", "_law_many"]) fun _ _ _ _ _ _ us hl => match us, hl with | [_, _], _ => rfl
  have F11 := fun_mk (st := s__law_pick) l11 c11 k11
  have b11 := F11.binds (ps := ["_law_deal_here", "_law_some"]) fun _ _ _ _ _ _ us hl => match us, hl with | [_, _], _ => rfl
  have F12 := fun_mk (st := s__law_mixed) l12 c12 k12
  have b12 := F12.binds (ps := ["_law_deal_here", "_law_some"]) fun _ _ _ _ _ _ us hl => match us, hl with | [_, _], _ => rfl
  have F13 := fun_mk (st := s__law_letters) l13 c13 k13
  have b13 := F13.binds (ps := ["_law_deal_here", "_law_most"]) fun _ _ _ _ _ _ us hl => match us, hl with | [_, _], _ => rfl
  have F14 := fun_mk (st := s__law_text) l14 c14 k14
  have b14 := F14.binds (ps := ["_law_deal_here", "_law_letters_here", "_law_most"]) fun _ _ _ _ _ _ us hl => match us, hl with | [_, _, _], _ => rfl
  have F15 := fun_mk (st := s__law_value) l15 c15 k15
  have b15 := F15.binds (ps := ["_law_deal_here"]) fun _ _ _ _ _ _ us hl => match us, hl with | [_], _ => rfl
  have F16 := fun_mk (st := s__law_spots) l16 c16 k16
  have b16 := F16.binds (ps := ["_law_table", "_law_low", "_law_high", "_law_limit"]) fun _ _ _ _ _ _ us hl => match us, hl with | [_, _, _, _], _ => rfl
  have F17 := fun_mk (st := s__law_any_key) l17 c17 k17
  have b17 := F17.binds (ps := ["_law_deal_here", "_law_letters_here", "_law_table"]) fun _ _ _ _ _ _ us hl => match us, hl with | [_, _, _], _ => rfl
  have F18 := fun_mk (st := s__law_asked_right) l18 c18 k18
  have b18 := F18.binds (ps := ["_law_deal_here", "_law_store", "_law_table", "_law_reach"]) fun _ _ _ _ _ _ us hl => match us, hl with | [_, _, _, _], _ => rfl
  have F19 := fun_mk (st := s__law_told) l19 c19 k19
  have b19 := F19.binds (ps := ["_law_store", "_law_key"]) fun _ _ _ _ _ _ us hl => match us, hl with | [_, _], _ => rfl
  have F20 := fun_mk (st := s__law_deed) l20 c20 k20
  have b20 := F20.binds (ps := ["_law_deal_here", "_law_letters_here", "_law_store", "_law_table", "_law_reach"]) fun _ _ _ _ _ _ us hl => match us, hl with | [_, _, _, _, _], _ => rfl
  have F21 := fun_mk (st := s__law_copy_right) l21 c21 k21
  have b21 := F21.binds (ps := ["_law_deal_here", "_law_letters_here", "_law_store", "_law_table"]) fun _ _ _ _ _ _ us hl => match us, hl with | [_, _, _, _], _ => rfl
  have F22 := fun_mk (st := s_law) l22 c22 k22
  have b22 := F22.binds (ps := ["_law_script"]) fun _ _ _ _ _ _ us hl => match us, hl with | [_], _ => rfl
  have oc1 : ca mg "Store" = OC1 := ca_of (PySem.W.mg_of X G og1)
  have RO1_22 : mg "Store" = some (.ref (ca mg "Store")) := by rw [oc1]; exact PySem.W.mg_of X G og1
  have RO1_23 : Cls K (ca mg "Store") := by rw [oc1]; exact ⟨op1, oh1, oo1, os1⟩
  have RO1_24 : PySem.W.noSeq K (ca mg "Store") = true := by rw [oc1]; exact oq1
  have RO1_25 : InsK K (ca mg "Store") := by rw [oc1]; exact insB_ok oi1
  have RO1_26 : NeK K (ca mg "Store") := by rw [oc1]; exact ⟨on1, or1⟩
  have RO1_27 : NoAttr K (ca mg "Store") "letters" := by rw [oc1]; exact of1_letters
  have RO1_28 : NoAttr K (ca mg "Store") "table" := by rw [oc1]; exact of1_table
  have RO1_29 : AtI K (ca mg "Store") "__init__" "Store.__init__" s_Store___init__ := by rw [oc1]; exact ⟨mf1, mE1, _, ⟨⟨_, _, _, _, _, _, _, _, _, _, rfl, ml1, mc1, .inr ⟨by simp, mT1, _, [.ref mE1], mtn1, rfl, mt1, rfl, .cons rfl .nil⟩, .inl rfl⟩, mk1⟩, ⟨om1, ma1, mi1, ok1⟩, _, me1, rfl, rfl, rfl⟩
  have RO1_30 : AtM K (ca mg "Store") "__setitem__" "Store.__setitem__" s_Store___setitem__ ["self", "at", "worth"] := by rw [oc1]; exact ⟨mf2, _, (fun_mk (st := s_Store___setitem__) ml2 mc2 mk2), ⟨ma2, mi2, mk2⟩, mn2, (fun_mk (st := s_Store___setitem__) ml2 mc2 mk2).binds (ps := ["self", "at", "worth"]) fun _ _ _ _ _ _ us hl => match us, hl with | [_, _, _], _ => rfl⟩
  have RO1_31 : AtM K (ca mg "Store") "__getitem__" "Store.__getitem__" s_Store___getitem__ ["self", "at"] := by rw [oc1]; exact ⟨mf3, _, (fun_mk (st := s_Store___getitem__) ml3 mc3 mk3), ⟨ma3, mi3, mk3⟩, mn3, (fun_mk (st := s_Store___getitem__) ml3 mc3 mk3).binds (ps := ["self", "at"]) fun _ _ _ _ _ _ us hl => match us, hl with | [_, _], _ => rfl⟩
  have RO1_32 : AtM K (ca mg "Store") "__contains__" "Store.__contains__" s_Store___contains__ ["self", "x"] := by rw [oc1]; exact ⟨mf4, _, (fun_mk (st := s_Store___contains__) ml4 mc4 mk4), ⟨ma4, mi4, mk4⟩, mn4, (fun_mk (st := s_Store___contains__) ml4 mc4 mk4).binds (ps := ["self", "x"]) fun _ _ _ _ _ _ us hl => match us, hl with | [_, _], _ => rfl⟩
  have RO1_33 : AtM K (ca mg "Store") "__len__" "Store.__len__" s_Store___len__ ["self"] := by rw [oc1]; exact ⟨mf5, _, (fun_mk (st := s_Store___len__) ml5 mc5 mk5), ⟨ma5, mi5, mk5⟩, mn5, (fun_mk (st := s_Store___len__) ml5 mc5 mk5).binds (ps := ["self"]) fun _ _ _ _ _ _ us hl => match us, hl with | [_], _ => rfl⟩
  have RO1_34 : AtM K (ca mg "Store") "__eq__" "Store.__eq__" s_Store___eq__ ["self", "other"] := by rw [oc1]; exact ⟨mf6, _, (fun_mk (st := s_Store___eq__) ml6 mc6 mk6), ⟨ma6, mi6, mk6⟩, mn6, (fun_mk (st := s_Store___eq__) ml6 mc6 mk6).binds (ps := ["self", "other"]) fun _ _ _ _ _ _ us hl => match us, hl with | [_, _], _ => rfl⟩
  have RO1_35 : AtD K (ca mg "Store") "pairs" "Store.pairs" s_Store_pairs [V.str (tx []), V.non] [("after", V.non)] := by rw [oc1]; exact ⟨mf7, _, ⟨⟨_, _, _, _, _, _, _, _, _, _, rfl, ml7, mc7, .inr ⟨by simp, mT7, _, [.str "" mv7_0, .none], mtn7, rfl, mt7, rfl, (.cons ⟨_, rfl⟩ (.cons rfl .nil))⟩, .inr ⟨mD7, rfl, fun q hq => by rw [List.mem_singleton.mp hq]; exact ⟨_, mw7_0_, rfl⟩⟩⟩, mk7⟩, ⟨ma7, mi7, mk7⟩, mn7⟩
  have RO1_36 : AtD K (ca mg "Store") "page" "Store.page" s_Store_page [V.str (tx []), V.non] [("after", V.non)] := by rw [oc1]; exact ⟨mf8, _, ⟨⟨_, _, _, _, _, _, _, _, _, _, rfl, ml8, mc8, .inr ⟨by simp, mT8, _, [.str "" mv8_0, .none], mtn8, rfl, mt8, rfl, (.cons ⟨_, rfl⟩ (.cons rfl .nil))⟩, .inr ⟨mD8, rfl, fun q hq => by rw [List.mem_singleton.mp hq]; exact ⟨_, mw8_0_, rfl⟩⟩⟩, mk8⟩, ⟨ma8, mi8, mk8⟩, mn8⟩
  have RO1_37 : AtD K (ca mg "Store") "take" "Store.take" s_Store_take [] [("after", V.non)] := by rw [oc1]; exact ⟨mf9, _, ⟨⟨_, _, _, _, _, _, _, _, _, _, rfl, ml9, mc9, .inl ⟨rfl, rfl⟩, .inr ⟨mD9, rfl, fun q hq => by rw [List.mem_singleton.mp hq]; exact ⟨_, mw9_0_, rfl⟩⟩⟩, mk9⟩, ⟨ma9, mi9, mk9⟩, mn9⟩
  have RO1_38 : AtD K (ca mg "Store") "fill" "Store.fill" s_Store_fill [] [("after", V.non)] := by rw [oc1]; exact ⟨mf10, _, ⟨⟨_, _, _, _, _, _, _, _, _, _, rfl, ml10, mc10, .inl ⟨rfl, rfl⟩, .inr ⟨mD10, rfl, fun q hq => by rw [List.mem_singleton.mp hq]; exact ⟨_, mw10_0_, rfl⟩⟩⟩, mk10⟩, ⟨ma10, mi10, mk10⟩, mn10⟩
  have RO1_39 : AtM K (ca mg "Store") "copied" "Store.copied" s_Store_copied ["self"] := by rw [oc1]; exact ⟨mf11, _, (fun_mk (st := s_Store_copied) ml11 mc11 mk11), ⟨ma11, mi11, mk11⟩, mn11, (fun_mk (st := s_Store_copied) ml11 mc11 mk11).binds (ps := ["self"]) fun _ _ _ _ _ _ us hl => match us, hl with | [_], _ => rfl⟩
  have ox1 : OxC K C1 := Un.oxc_ve x1 o1
  have cc1 : ca mg "UnderError" = C1 := ca_of (PySem.W.mg_of X G g1)
  have E1 : Err0 K mg "UnderError" (ca mg "UnderError") := by rw [cc1]; exact ⟨PySem.W.mg_of X G g1, ox1, e1⟩
  have ox2 : OxC K C2 := Un.oxc_vs x2 o2
  have cc2 : ca mg "InvalidLetters" = C2 := ca_of (PySem.W.mg_of X G g2)
  have E2 : Err0 K mg "InvalidLetters" (ca mg "InvalidLetters") := by rw [cc2]; exact ⟨PySem.W.mg_of X G g2, ox2, e2⟩
  have ox3 : OxC K C3 := Un.oxc_vs x3 o3
  have cc3 : ca mg "NoText" = C3 := ca_of (PySem.W.mg_of X G g3)
  have FI3 := fun_mk (st := s_NoText) li3 ci3 ki3
  have bI3 := FI3.binds (ps := ["self", "value"]) fun _ _ _ _ _ _ us hl => match us, hl with | [_, _], _ => rfl
  have E3 : ErrI K mg "NoText" "NoText.__init__" "value" s_NoText (ca mg "NoText") := by rw [cc3]; exact ⟨PySem.W.mg_of X G g3, ox3, n3, _, _, i3, t3, FI3, bI3⟩
  have ox4 : OxC K C4 := Un.oxc_vs x4 o4
  have cc4 : ca mg "NoValue" = C4 := ca_of (PySem.W.mg_of X G g4)
  have FI4 := fun_mk (st := s_NoValue) li4 ci4 ki4
  have bI4 := FI4.binds (ps := ["self", "value"]) fun _ _ _ _ _ _ us hl => match us, hl with | [_, _], _ => rfl
  have E4 : ErrI K mg "NoValue" "NoValue.__init__" "value" s_NoValue (ca mg "NoValue") := by rw [cc4]; exact ⟨PySem.W.mg_of X G g4, ox4, n4, _, _, i4, t4, FI4, bI4⟩
  have ox5 : OxC K C5 := Un.oxc_ke x5 o5
  have cc5 : ca mg "NoKey" = C5 := ca_of (PySem.W.mg_of X G g5)
  have FI5 := fun_mk (st := s_NoKey) li5 ci5 ki5
  have bI5 := FI5.binds (ps := ["self", "key"]) fun _ _ _ _ _ _ us hl => match us, hl with | [_, _], _ => rfl
  have E5 : ErrI K mg "NoKey" "NoKey.__init__" "key" s_NoKey (ca mg "NoKey") := by rw [cc5]; exact ⟨PySem.W.mg_of X G g5, ox5, n5, _, _, i5, t5, FI5, bI5⟩
  have T : Txt K mg := ⟨⟨_, _, F1, PySem.W.mg_of X G a1, b1⟩, ⟨_, _, F2, PySem.W.mg_of X G a2, b2⟩, ⟨_, _, F3, PySem.W.mg_of X G a3, b3⟩, ⟨_, _, F4, PySem.W.mg_of X G a4, b4⟩, ⟨_, _, F5, PySem.W.mg_of X G a5, b5⟩, ⟨_, _, F6, PySem.W.mg_of X G a6, b6⟩, ⟨_, _, F7, PySem.W.mg_of X G a7, b7⟩, ⟨_, _, F8, PySem.W.mg_of X G a8, b8⟩, ⟨_, _, F9, PySem.W.mg_of X G a9, b9⟩, ⟨_, _, F10, PySem.W.mg_of X G a10, b10⟩, ⟨_, _, F11, PySem.W.mg_of X G a11, b11⟩, ⟨_, _, F12, PySem.W.mg_of X G a12, b12⟩, ⟨_, _, F13, PySem.W.mg_of X G a13, b13⟩, ⟨_, _, F14, PySem.W.mg_of X G a14, b14⟩, ⟨_, _, F15, PySem.W.mg_of X G a15, b15⟩, ⟨_, _, F16, PySem.W.mg_of X G a16, b16⟩, ⟨_, _, F17, PySem.W.mg_of X G a17, b17⟩, ⟨_, _, F18, PySem.W.mg_of X G a18, b18⟩, ⟨_, _, F19, PySem.W.mg_of X G a19, b19⟩, ⟨_, _, F20, PySem.W.mg_of X G a20, b20⟩, ⟨_, _, F21, PySem.W.mg_of X G a21, b21⟩, ⟨_, _, F22, PySem.W.mg_of X G a22, b22⟩, RO1_22, RO1_23, RO1_24, RO1_25, RO1_26, RO1_27, RO1_28, RO1_29, RO1_30, RO1_31, RO1_32, RO1_33, RO1_34, RO1_35, RO1_36, RO1_37, RO1_38, RO1_39, E5, PySem.W.mg_none_of X G z1, PySem.W.mg_none_of X G z2, PySem.W.mg_none_of X G z3, PySem.W.mg_none_of X G z4, PySem.W.mg_none_of X G z5, PySem.W.mg_none_of X G z6, PySem.W.mg_none_of X G z7, PySem.W.mg_none_of X G z8, PySem.W.mg_none_of X G z9, PySem.W.mg_none_of X G z10, PySem.W.mg_none_of X G z11, PySem.W.mg_none_of X G z12, PySem.W.mg_none_of X G z13, PySem.W.mg_none_of X G z14, PySem.W.mg_none_of X G z15, PySem.W.mg_none_of X G z16, PySem.W.mg_none_of X G z17, PySem.W.mg_none_of X G z18, PySem.W.mg_none_of X G z19, ⟨_, PySem.W.mg_of X G q1⟩, ⟨_, PySem.W.mg_of X G q2⟩, ⟨_, PySem.W.mg_of X G q3⟩⟩
  exact ⟨PySem.W.fnOf "law" "law" (defArgs s_law) (defBody s_law) (defScope s_law) .none kV22 dc22 pm22 an22 cd22 ct22, fun s v => .of_eq rfl, fun base _ _ => ok_law T (by rw [cc5]; exact hke) F22⟩
end Zk46
open PySem PySem.W PyProof.Rows
set_option maxRecDepth 100000 in
set_option maxHeartbeats 0 in
theorem PySem.Challenge.cw_undername_k46_whole_stores_over_long_scr_holds : PySem.Challenge.rw_undername_k46_whole_stores_over_long_scr.Holds := by
  w_on; o_law; k_head; (case hw => w_witness2)
  k_fill
  refine Un.walk_ofG (l := PySem.Challenge.rw_undername_k46_whole_stores_over_long_scr) (n := 63) (k := 9) (x := "_law_script") (sp := fun w => Zk46.spLaw _) rfl (by decide) rfl ⟨rfl, by decide, by decide⟩ (fun w h Y => PySem.W.kIn_of Y) ?F (fun _ _ a ns hl _ hS => ⟨a, ns, rfl, hS, hl, fun _ => rfl⟩)
  case F =>
    intro w mg fa h KX G hmg
    refine' Zk46.all_mk KX G hmg ?g1 ?x1 ?o1 ?e1 ?g2 ?x2 ?o2 ?e2 ?g3 ?x3 ?o3 ?n3 ?i3 ?t3 ?li3 ?ci3 ?ki3 ?g4 ?x4 ?o4 ?n4 ?i4 ?t4 ?li4 ?ci4 ?ki4 ?g5 ?x5 ?o5 ?n5 ?i5 ?t5 ?li5 ?ci5 ?ki5 ?a1 ?l1 ?c1 ?k1 ?a2 ?l2 ?c2 ?k2 ?a3 ?l3 ?c3 ?k3 ?a4 ?l4 ?c4 ?k4 ?a5 ?l5 ?c5 ?k5 ?a6 ?l6 ?c6 ?k6 ?a7 ?l7 ?c7 ?k7 ?a8 ?l8 ?c8 ?k8 ?a9 ?l9 ?c9 ?k9 ?a10 ?l10 ?c10 ?k10 ?a11 ?l11 ?c11 ?k11 ?a12 ?l12 ?c12 ?k12 ?a13 ?l13 ?c13 ?k13 ?a14 ?l14 ?c14 ?k14 ?a15 ?l15 ?c15 ?k15 ?a16 ?l16 ?c16 ?k16 ?a17 ?l17 ?c17 ?k17 ?a18 ?l18 ?c18 ?k18 ?a19 ?l19 ?c19 ?k19 ?a20 ?l20 ?c20 ?k20 ?a21 ?l21 ?c21 ?k21 ?a22 ?l22 ?c22 ?k22 ?z1 ?z2 ?z3 ?z4 ?z5 ?z6 ?z7 ?z8 ?z9 ?z10 ?z11 ?z12 ?z13 ?z14 ?z15 ?z16 ?z17 ?z18 ?z19 ?q1 ?q2 ?q3 ?og1 ?op1 ?oh1 ?oo1 ?os1 ?oq1 ?oi1 ?on1 ?or1 ?om1 ?ok1 ?of1_letters ?of1_table ?ma1 ?mi1 ?mn1 ?ml1 ?mc1 ?mk1 ?mt1 ?me1 ?ma2 ?mi2 ?mn2 ?ml2 ?mc2 ?mk2 ?ma3 ?mi3 ?mn3 ?ml3 ?mc3 ?mk3 ?ma4 ?mi4 ?mn4 ?ml4 ?mc4 ?mk4 ?ma5 ?mi5 ?mn5 ?ml5 ?mc5 ?mk5 ?ma6 ?mi6 ?mn6 ?ml6 ?mc6 ?mk6 ?ma7 ?mi7 ?mn7 ?ml7 ?mc7 ?mk7 ?mt7 ?mw7_0_ ?ma8 ?mi8 ?mn8 ?ml8 ?mc8 ?mk8 ?mt8 ?mw8_0_ ?ma9 ?mi9 ?mn9 ?ml9 ?mc9 ?mk9 ?mw9_0_ ?ma10 ?mi10 ?mn10 ?ml10 ?mc10 ?mk10 ?mw10_0_ ?ma11 ?mi11 ?mn11 ?ml11 ?mc11 ?mk11 ?hke
    (case g1 => k_is); (case x1 => k_is); (case o1 => kernel_rfl); (case e1 => kernel_rfl); (case g2 => k_is); (case x2 => k_is); (case o2 => kernel_rfl); (case e2 => kernel_rfl)
    (case g3 => k_is); (case x3 => k_is); (case o3 => kernel_rfl); (case n3 => k_is); (case i3 => k_is); (case t3 => k_is); (case li3 => k_is); (case ci3 => k_is)
    (case ki3 => k_is); (case g4 => k_is); (case x4 => k_is); (case o4 => kernel_rfl); (case n4 => k_is); (case i4 => k_is); (case t4 => k_is); (case li4 => k_is)
    (case ci4 => k_is); (case ki4 => k_is); (case g5 => k_is); (case x5 => k_is); (case o5 => kernel_rfl); (case n5 => k_is); (case i5 => k_is); (case t5 => k_is)
    (case li5 => k_is); (case ci5 => k_is); (case ki5 => k_is); (case a1 => k_is); (case l1 => k_is); (case c1 => k_is); (case k1 => k_is); (case a2 => k_is)
    (case l2 => k_is); (case c2 => k_is); (case k2 => k_is); (case a3 => k_is); (case l3 => k_is); (case c3 => k_is); (case k3 => k_is); (case a4 => k_is)
    (case l4 => k_is); (case c4 => k_is); (case k4 => k_is); (case a5 => k_is); (case l5 => k_is); (case c5 => k_is); (case k5 => k_is); (case a6 => k_is)
    (case l6 => k_is); (case c6 => k_is); (case k6 => k_is); (case a7 => k_is); (case l7 => k_is); (case c7 => k_is); (case k7 => k_is); (case a8 => k_is)
    (case l8 => k_is); (case c8 => k_is); (case k8 => k_is); (case a9 => k_is); (case l9 => k_is); (case c9 => k_is); (case k9 => k_is); (case a10 => k_is)
    (case l10 => k_is); (case c10 => k_is); (case k10 => k_is); (case a11 => k_is); (case l11 => k_is); (case c11 => k_is); (case k11 => k_is); (case a12 => k_is)
    (case l12 => k_is); (case c12 => k_is); (case k12 => k_is); (case a13 => k_is); (case l13 => k_is); (case c13 => k_is); (case k13 => k_is); (case a14 => k_is)
    (case l14 => k_is); (case c14 => k_is); (case k14 => k_is); (case a15 => k_is); (case l15 => k_is); (case c15 => k_is); (case k15 => k_is); (case a16 => k_is)
    (case l16 => k_is); (case c16 => k_is); (case k16 => k_is); (case a17 => k_is); (case l17 => k_is); (case c17 => k_is); (case k17 => k_is); (case a18 => k_is)
    (case l18 => k_is); (case c18 => k_is); (case k18 => k_is); (case a19 => k_is); (case l19 => k_is); (case c19 => k_is); (case k19 => k_is); (case a20 => k_is)
    (case l20 => k_is); (case c20 => k_is); (case k20 => k_is); (case a21 => k_is); (case l21 => k_is); (case c21 => k_is); (case k21 => k_is); (case a22 => k_is)
    (case l22 => k_is); (case c22 => k_is); (case k22 => k_is); (case z1 => k_is); (case z2 => k_is); (case z3 => k_is); (case z4 => k_is); (case z5 => k_is)
    (case z6 => k_is); (case z7 => k_is); (case z8 => k_is); (case z9 => k_is); (case z10 => k_is); (case z11 => k_is); (case z12 => k_is); (case z13 => k_is)
    (case z14 => k_is); (case z15 => k_is); (case z16 => k_is); (case z17 => k_is); (case z18 => k_is); (case z19 => k_is); (case q1 => k_is); (case q2 => k_is)
    (case q3 => k_is); (case og1 => k_is); (case op1 => k_is); (case oh1 => k_is); (case oo1 => k_is); (case os1 => k_is); (case oq1 => kernel_rfl); (case oi1 => kernel_rfl)
    (case on1 => k_is); (case or1 => k_is); (case om1 => k_is); (case ok1 => k_is); (case of1_letters => k_is); (case of1_table => k_is); (case ma1 => k_is); (case mi1 => k_is)
    (case mn1 => k_is); (case ml1 => k_is); (case mc1 => k_is); (case mk1 => k_is); (case mt1 => k_is); (case me1 => k_is); (case ma2 => k_is); (case mi2 => k_is)
    (case mn2 => k_is); (case ml2 => k_is); (case mc2 => k_is); (case mk2 => k_is); (case ma3 => k_is); (case mi3 => k_is); (case mn3 => k_is); (case ml3 => k_is)
    (case mc3 => k_is); (case mk3 => k_is); (case ma4 => k_is); (case mi4 => k_is); (case mn4 => k_is); (case ml4 => k_is); (case mc4 => k_is); (case mk4 => k_is)
    (case ma5 => k_is); (case mi5 => k_is); (case mn5 => k_is); (case ml5 => k_is); (case mc5 => k_is); (case mk5 => k_is); (case ma6 => k_is); (case mi6 => k_is)
    (case mn6 => k_is); (case ml6 => k_is); (case mc6 => k_is); (case mk6 => k_is); (case ma7 => k_is); (case mi7 => k_is); (case mn7 => k_is); (case ml7 => k_is)
    (case mc7 => k_is); (case mk7 => k_is); (case mt7 => k_is); (case mw7_0_ => k_is); (case ma8 => k_is); (case mi8 => k_is); (case mn8 => k_is); (case ml8 => k_is)
    (case mc8 => k_is); (case mk8 => k_is); (case mt8 => k_is); (case mw8_0_ => k_is); (case ma9 => k_is); (case mi9 => k_is); (case mn9 => k_is); (case ml9 => k_is)
    (case mc9 => k_is); (case mk9 => k_is); (case mw9_0_ => k_is); (case ma10 => k_is); (case mi10 => k_is); (case mn10 => k_is); (case ml10 => k_is); (case mc10 => k_is)
    (case mk10 => k_is); (case mw10_0_ => k_is); (case ma11 => k_is); (case mi11 => k_is); (case mn11 => k_is); (case ml11 => k_is); (case mc11 => k_is); (case mk11 => k_is)
    (case hke => kernel_rfl)
