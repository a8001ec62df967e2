import PyProof.Rows.All
import Wide.All
import OpenK.AllK
import Wide.FinOn
import HandS.ForMost
import HandS.ForExc
import HandS.Style
import HandS.Flow
import HandS.Evl
import HandS.RaiseMore
import HandS.StrMore
import HandS.Replace
import HandS.IsInst
import HandS.WideBits
import HandS.TupAny
import PyProof.ListStr
import PyProof.StrBlock2
import PySem.Challenge.RW_undername_k02_whole_raised_texts_and_roo
set_option Elab.async false
set_option linter.all false
set_option maxRecDepth 100000
namespace Un
open PySem PySem.Spec PyProof.Rows L2

/-! ### defs as they stand, and as they keep a promise -/
def At (K : PySem.W.Frag) (mg : Str → Option Value) (nm : Str) (st : Stmt) (ps : List Str) : Prop :=
  ∃ (f : Addr) (fd : FuncData), Fun K nm nm st f fd ∧ mg nm = some (.ref f) ∧ Binds K fd ps []
def Cl (P : Program) (w : World) (K : PySem.W.Frag) (mg : Str → Option Value) (base : Heap) (nm : Str) (ps : List Str) (k : Nat) (sp : Sp) : Prop :=
  ∃ (f : Addr) (fd : FuncData), mg nm = some (.ref f) ∧ FnOk P w K mg base CX0 k f fd ps sp ∧ PySem.W.keepIn K (.ref f) = true ∧ Binds K fd ps []
theorem cl_of {P : Program} {w : World} {K : PySem.W.Frag} {mg : Str → Option Value} {base : Heap} {nm : Str} {st : Stmt} {ps : List Str} {k : Nat} {sp : Sp}
    (a : At K mg nm st ps) (h : ∀ f fd, Fun K nm nm st f fd → FnOk P w K mg base CX0 k f fd ps sp) : Cl P w K mg base nm ps k sp := by
  obtain ⟨f, fd, F, m, b⟩ := a
  exact ⟨f, fd, m, h f fd F, F.kp, b⟩
section
variable {X : Cx} {nm : Str} {ps : List Str} {j k : Nat} {sp : Sp} {e : Expr} {es : List Expr} {t : TA} {p pos : Pos}
theorem pe_cl (c : Cl X.prog X.w X.K X.mg X.base nm ps k sp) (hr : Room k X.A) (hg : Gl X nm) (ha : PA X (e :: es) t)
    (hdb : (nm == ("__debug__" : Str)) = false := by decide) (he : starEach (e :: es) X.env = (false, eval e X.env) :: starEach es X.env := by rfl) (hpl : (backTo pos (starEach es X.env)).any (·.1) = false := by rfl) :
    PE X (.Call (.Name nm p) (e :: es) [] pos) (tCall sp [] E0 t) := by
  obtain ⟨f, fd, m, F, kp, b⟩ := c
  exact pe_call F hr hg m kp b .nil pass0 ha hdb he hpl
theorem pe_cl0 (c : Cl X.prog X.w X.K X.mg X.base nm ps k sp) (hr : Room k X.A) (hg : Gl X nm)
    (hdb : (nm == ("__debug__" : Str)) = false := by decide) : PE X (.Call (.Name nm p) [] [] pos) (tCall sp [] E0 tNil) := by
  obtain ⟨f, fd, m, F, kp, b⟩ := c
  exact pe_call0 F hr hg m kp b .nil pass0 hdb
end

/-! ### texts as lists of sgs -/
def tx (l : List Nat) : Str := ⟨l.toArray⟩
theorem tx_cps (l : List Nat) : (tx l).cps.toList = l := by simp [tx]
theorem tx_len (l : List Nat) : (tx l).length = l.length := by simp [tx, Str.length]
theorem tx_inj {a b : List Nat} (h : tx a = tx b) : a = b := by
  have := congrArg (fun s : Str => s.cps.toList) h
  simpa [tx] using this
theorem tx_eq {a b : List Nat} : tx a = tx b ↔ a = b := ⟨tx_inj, fun h => by rw [h]⟩
theorem tx_of (s : Str) : tx s.cps.toList = s := by
  cases s with
  | mk c => simp [tx]
theorem tx_app (a b : List Nat) : tx a ++ tx b = tx (a ++ b) := by
  have e : (tx a ++ tx b) = (⟨(tx a).cps ++ (tx b).cps⟩ : Str) := rfl
  rw [e]
  simp [tx]
theorem tx_one (c : Nat) : (⟨#[c]⟩ : Str) = tx [c] := rfl

/-! ### rules for built-ins -/
def scalR : V → Prop
  | .non => True
  | .bl _ => True
  | .int i => i.natAbs.log2 < 1920
  | .str x => (reprText x).length ≤ sizeLine
  | _ => False
def reprS : V → Str
  | .non => "None"
  | .bl b => if b then "True" else "False"
  | .int i => toString i
  | .str x => reprText x
  | _ => ""
def rRepr : List V → Hp → VK → Prop := fun xs H Q => ∃ x, xs = [x] ∧ scalR x ∧ Q (.str (reprS x)) H
section
variable {X : Cx}
theorem call_reprS : CallR X (.builtin "repr") rRepr := by
  intro pins s σ H xs us Q I r h
  obtain ⟨x, rfl, hx, q⟩ := h
  obtain ⟨u, rfl, rx⟩ := vals1 r
  cases x with
  | non => cases rx; exact PySem.P.repr_of_none ⟨.str _, H, I.tok _, ⟨_, rfl⟩, q⟩
  | bl b => cases rx; exact PySem.P.repr_of_bool ⟨.str _, H, I.tok _, ⟨_, rfl⟩, q⟩
  | int i => obtain ⟨t, rfl⟩ := rx; exact PySem.P.repr_of_int hx ⟨.str _, H, I.tok _, ⟨_, rfl⟩, q⟩
  | str y => obtain ⟨t, rfl⟩ := rx; exact PySem.P.repr_of_str ⟨.str _, H, I.tok _, ⟨_, rfl⟩, q⟩ (hsz := hx)
  | _ => exact hx.elim
def sgs (l : List Nat) : List V := l.map fun c => V.str (tx [c])
theorem vals_of_get : ∀ {xs : List V} {us : List Value}, xs.length = us.length → (∀ (i : Nat) (x : V) (u : Value), xs[i]? = some x → us[i]? = some u → RelV x u) → Vals xs us
  | [], [], _, _ => .nil
  | [], _ :: _, h, _ => by simp at h
  | _ :: _, [], h, _ => by simp at h
  | x :: xs, u :: us, h, f => .cons (f 0 x u rfl rfl) (vals_of_get (by simpa using h) fun i a b ha hb => f (i + 1) a b (by simpa using ha) (by simpa using hb))
theorem call_list_strR (hc : X.calm = true) : CallR X (.type "list") (fun xs H Q => ∃ l : List Nat, xs = [.str (tx l)] ∧ l.length ≤ sizeLine ∧ ∀ p, H p = none → Q (.ref p) (upd H p (.lst (sgs l)))) := by
  intro pins s σ H xs us Q I r h
  obtain ⟨l, rfl, hl, q⟩ := h
  obtain ⟨u, rfl, t, rfl⟩ := vals1 r
  have hs : (tx l).cps.size = l.length := by simp [tx]
  refine PySem.call_list_str (I.ok.hd hc) (tx l) t (fun h' tk acc' c' hk hS hacc => ?_) (hn := by rw [hs]; exact hl)
  obtain ⟨hsz, hget⟩ := hacc
  have hv : Vals (sgs l) acc'.toList := vals_of_get (show (sgs l).length = acc'.toList.length by rw [Array.length_toList (xs := acc'), hsz, hs]; simp [sgs]) fun i x u hx hu => by
    have hu' : acc'[i]? = some u := by rw [← Array.getElem?_toList]; exact hu
    obtain ⟨c, tk', hc', rfl⟩ := hget i u hu'
    have hc2 : l[i]? = some c := by
      have : (tx l).cps[i]? = l[i]? := by simp [tx]
      rw [← this]; exact hc'
    have : x = V.str (tx [c]) := by
      unfold sgs at hx
      rw [List.getElem?_map, hc2] at hx
      exact (Option.some.inj hx).symm
    subst this
    exact ⟨tk', rfl⟩
  exact ⟨.ref s.heap.objs.size, _, I.laid (t' := tk) hk (Nat.le_refl _) (show ObjOk X.prog X.w _ h' _ (.lst (sgs l)) from ⟨by simpa [sgs] using hl, acc'.toList, c', hv, by simpa using hS⟩), rfl, q _ (I.hok.fresh (Nat.le_refl _))⟩
def reps (n : Nat) (l : List Nat) : List Nat := (List.replicate n l).flatten
theorem reps_len (n : Nat) (l : List Nat) : (reps n l).length = n * l.length := by
  unfold reps
  induction n with
  | zero => simp
  | succ n ih =>
    rw [List.replicate_succ, List.flatten_cons, List.length_append, ih, Nat.add_mul, Nat.one_mul, Nat.add_comm]
theorem foldl_app (l : List Nat) : ∀ (n : Nat) (a : Array Nat), ((List.replicate n l.toArray).foldl (· ++ ·) a).toList = a.toList ++ (List.replicate n l).flatten
  | 0, a => by simp
  | n + 1, a => by
    rw [List.replicate_succ, List.foldl_cons, foldl_app l n, List.replicate_succ, List.flatten_cons]
    simp
theorem txt_mul (l : List Nat) (n : Int) : Txt.mul (tx l) n = tx (reps n.toNat l) := by
  unfold Txt.mul
  by_cases h : n < 1
  · rw [if_pos h]
    have : n.toNat = 0 := by omega
    rw [this]
    rfl
  · rw [if_neg h]
    by_cases h1 : (n == 1 || (tx l).length == 0) = true
    · rw [if_pos h1]
      rw [Bool.or_eq_true] at h1
      rcases h1 with h1 | h1
      · have : n = 1 := by simpa using h1
        subst this
        simp [reps]
      · have : l = [] := by simpa [tx, Str.length] using h1
        subst this
        simp [reps]
    · rw [if_neg h1]
      have e := foldl_app l n.toNat #[]
      have e2 : (List.replicate n.toNat (tx l).cps) = List.replicate n.toNat l.toArray := rfl
      rw [e2]
      generalize hg : List.foldl (fun x1 x2 => x1 ++ x2) #[] (List.replicate n.toNat l.toArray) = z at *
      unfold tx reps
      congr 1
      apply Array.ext'
      rw [e]
      simp
theorem op_mul_str : OpR X (binaryOp .Mult) (fun x y H Q => ∃ (l : List Nat) (n : Int), x = .str (tx l) ∧ y = .int n ∧ -100000 ≤ n ∧ n ≤ 100000 ∧ l.length * n.toNat ≤ 100000 ∧ Q (.str (tx (reps n.toNat l))) H) := by
  intro pins s σ H x y v u Q I rx ry h
  obtain ⟨l, n, rfl, rfl, hn0, hn, hl, q⟩ := h
  obtain ⟨t, rfl⟩ := rx
  obtain ⟨t', rfl⟩ := ry
  have hk : (tx l).length = l.length := tx_len l
  refine SB.mul (n := n) ⟨?_, fun h1 _ => ?_, fun h1 _ => ?_⟩ (fun t2 k => ⟨.str (tx (reps n.toNat l)), H, I.tok _, ⟨t2, by rw [txt_mul]⟩, q⟩)
  · simp only [Bool.or_eq_false_iff, decide_eq_false_iff_not]
    constructor <;> omega
  · rw [hk]
    have h2 : (l.length : Int) ≤ 100000 := by
      have : l.length * 1 ≤ l.length * n.toNat := Nat.mul_le_mul_left _ (by omega)
      omega
    have h3 : (100000 : Int) ≤ (2 ^ 63 - 1) / n := by
      refine (Int.le_ediv_iff_mul_le (by omega)).mpr ?_
      omega
    omega
  · rw [hk]
    unfold Builtin.Str.tooLong
    have : (100000 : Nat) ≤ sizeLine := by decide
    simp only [decide_eq_false_iff_not]
    omega

/-! ### rules for texts as lists of sgs -/
theorem pe_strX {x : Str} {j : Nat} {pos : Pos} (l : List Nat) (h : x = tx l) : PE X (.Constant (.str x) j pos) (tC (.str (tx l))) := by
  subst h
  exact pe_str
def rAddX : R2 := fun x y H Q => ∃ a b, x = .str (tx a) ∧ y = .str (tx b) ∧ a.length + b.length ≤ sizeLine ∧ Q (.str (tx (a ++ b))) H
theorem op_addX : OpR X (binaryOp .Add) rAddX := by
  intro pins s σ H x y v u Q I rx ry h
  obtain ⟨a, b, rfl, rfl, hz, q⟩ := h
  exact op_add_str pins s σ H _ _ v u Q I rx ry ⟨_, _, rfl, rfl, by rw [tx_len, tx_len]; exact hz, by rw [tx_app]; exact q⟩
def rMulX : R2 := fun x y H Q => ∃ (l : List Nat) (n : Int), x = .str (tx l) ∧ y = .int n ∧ -100000 ≤ n ∧ n ≤ 100000 ∧ l.length * n.toNat ≤ 100000 ∧ Q (.str (tx (reps n.toNat l))) H
theorem op_mulT : OpR X (binaryOp .Mult) rMulX := op_mul_str
def rInX (neg : Bool) : R2 := fun x y H Q => ∃ (c : Nat) (z : List Nat), x = .str (tx [c]) ∧ y = .str (tx z) ∧ Q (.bl (if neg then !decide (c ∈ z) else decide (c ∈ z))) H
theorem op_inX : OpR X (compareOp .In) (rInX false) := by
  intro pins s σ H x y v u Q I rx ry h
  obtain ⟨c, z, rfl, rfl, q⟩ := h
  exact op_in_sign pins s σ H _ _ v u Q I rx ry ⟨c, tx z, rfl, rfl, by rw [tx_cps]; exact q⟩
theorem op_notInX : OpR X (compareOp .NotIn) (rInX true) := by
  intro pins s σ H x y v u Q I rx ry h
  obtain ⟨c, z, rfl, rfl, q⟩ := h
  exact op_notIn_sign pins s σ H _ _ v u Q I rx ry ⟨c, tx z, rfl, rfl, by rw [tx_cps]; exact q⟩
def rLtX : R2 := fun x y H Q => ∃ a b, x = .str (tx a) ∧ y = .str (tx b) ∧ Q (.bl (decide (a < b))) H
theorem op_ltX : OpR X (compareOp .Lt) rLtX := by
  intro pins s σ H x y v u Q I rx ry h
  obtain ⟨a, b, rfl, rfl, q⟩ := h
  exact op_lt_str pins s σ H _ _ v u Q I rx ry ⟨_, _, rfl, rfl, by rw [tx_cps, tx_cps]; exact q⟩
def rLeX : R2 := fun x y H Q => ∃ a b, x = .str (tx a) ∧ y = .str (tx b) ∧ Q (.bl (!decide (b < a))) H
theorem rLenX_aux (l : List Nat) : ((tx l).length : Int) = (l.length : Int) := by rw [tx_len]
def rLenX : List V → Hp → VK → Prop := fun xs H Q => ∃ l, xs = [.str (tx l)] ∧ l.length ≤ sizeLine ∧ Q (.int (l.length : Nat)) H
theorem call_lenX : CallR X (.builtin "len") rLenX := by
  intro pins s σ H xs us Q I r h
  obtain ⟨l, rfl, hz, q⟩ := h
  exact call_len_str pins s σ H _ us Q I r ⟨tx l, rfl, by rw [tx_len]; exact hz, by rw [tx_len]; exact q⟩
def rIxX : R2 := fun x y H Q => ∃ (l : List Nat) (i : Int) (c : Nat), x = .str (tx l) ∧ y = .int i ∧ l.length ≤ sizeLine ∧ atI l i = some c ∧ Q (.str (tx [c])) H
theorem ix_strX : IxR X rIxX := by
  intro value slice pins s σ H x y v u Q I rx ry h hs
  obtain ⟨l, i, c, rfl, rfl, hz, ha, q⟩ := h
  exact ix_str value slice pins s σ H _ _ v u Q I rx ry ⟨tx l, i, c, rfl, rfl, by rw [tx_len]; exact hz, by rw [tx_cps]; exact ha, q⟩ hs
def cutL (l : List Nat) (lo hi : Option Int) : List Nat := (l.drop (HT.sIx l.length 0 lo)).take (HT.sIx l.length l.length hi - HT.sIx l.length 0 lo)
theorem cutS_tx (l : List Nat) (lo hi : Option Int) : cutS (tx l) lo hi = tx (cutL l lo hi) := by
  unfold cutS cutL
  rw [tx_len, tx_cps]
  rfl
def rSlX : V → Option Int → Option Int → Hp → VK → Prop := fun x lo hi H Q => ∃ l, x = .str (tx l) ∧ l.length ≤ sizeLine ∧ Q (.str (tx (cutL l lo hi))) H
theorem sl_strX : SlR X rSlX := by
  intro pins s σ H x v vl vu l u a Q I rx hsl pl pu h
  obtain ⟨z, rfl, hz, q⟩ := h
  exact sl_str pins s σ H _ v vl vu l u a Q I rx hsl pl pu ⟨tx z, rfl, by rw [tx_len]; exact hz, by rw [cutS_tx]; exact q⟩
/-- letters.index(c), each letter once -/
theorem occ_nodup {z : List Nat} (nd : z.Nodup) {i : Nat} {c : Nat} (h : z[i]? = some c) : ∃ rest, Builtin.Str.occurrences (tx z) (tx [c]) 0 (tx z).length 1 = i :: rest := by
  have hc : c ∈ z := List.mem_of_getElem? h
  have hf := PySem.StrLaws.found_one (tx z) c
  rw [tx_cps, decide_eq_true hc] at hf
  have hsp := PySem.StrLaws.occ_spec (tx z) (tx [c]) 0 (tx z).length 1
  have e1 : (⟨#[c]⟩ : Str) = tx [c] := rfl
  rw [e1] at hf
  cases ho : Builtin.Str.occurrences (tx z) (tx [c]) 0 (tx z).length 1 with
  | nil => rw [ho] at hf; simp at hf
  | cons j rest =>
    obtain ⟨hj, hs⟩ := hsp j (by rw [ho]; exact List.mem_cons_self)
    rw [tx_len, tx_len] at hj
    have hj2 : z[j]? = some c := by
      unfold Builtin.Str.subAt at hs
      have h3 : (tx z).cps.extract j (j + (tx [c]).length) = (tx [c]).cps := by simpa using hs
      have h4 := congrArg Array.toList h3
      rw [tx_len] at h4
      simp only [tx, List.length_cons, List.length_nil, Nat.zero_add, Array.toList_extract, List.extract_eq_take_drop] at h4
      have h5 : (List.take 1 (List.drop j z))[0]? = some c := by
        have : j + 1 - j = 1 := by omega
        rw [this] at h4
        rw [h4]; rfl
      simpa using h5
    have : j = i := by
      have l1 : j < z.length := (List.getElem?_eq_some_iff.mp hj2).1
      have l2 : i < z.length := (List.getElem?_eq_some_iff.mp h).1
      exact (List.getElem_inj (h₀ := l1) (h₁ := l2) nd).mp (by
        rw [List.getElem?_eq_getElem l1] at hj2
        rw [List.getElem?_eq_getElem l2] at h
        exact (Option.some.inj hj2).trans (Option.some.inj h).symm)
    subst this
    exact ⟨rest, rfl⟩
def rIndexX : V → List V → Hp → VK → Prop := fun x xs H Q => ∃ (z : List Nat) (c i : Nat), x = .str (tx z) ∧ xs = [.str (tx [c])] ∧ z.Nodup ∧ z[i]? = some c ∧ Q (.int (i : Nat)) H
theorem mt_indexT : MtR X "str.index" rIndexX := by
  intro pins s σ H x xs v us Q I rx rs h
  obtain ⟨z, c, i, rfl, rfl, nd, hi, q⟩ := h
  obtain ⟨rest, ho⟩ := occ_nodup nd hi
  exact mt_sindex pins s σ H _ _ v us Q I rx rs ⟨_, _, i, rest, rfl, rfl, ho, q⟩
theorem join_tx : ∀ ls : List (List Nat), Str.join ("" : Str) (ls.map tx) = tx ls.flatten
  | [] => rfl
  | [a] => by simp [Str.join]
  | a :: b :: r => by
    have h := join_tx (b :: r)
    rw [List.map_cons] at h
    have e : Str.join ("" : Str) (tx a :: tx b :: r.map tx) = tx a ++ "" ++ Str.join ("" : Str) (tx b :: r.map tx) := rfl
    rw [List.map_cons, List.map_cons, e, h, List.flatten_cons (l := a)]
    have e0 : ("" : Str) = tx [] := rfl
    rw [e0, tx_app, tx_app, List.append_nil]
def rJoinX (K : PySem.W.Frag) : V → List V → Hp → VK → Prop := fun x xs H Q => ∃ (p : Addr) (ls : List (List Nat)), x = .str (tx []) ∧ xs = [.ref p] ∧ SqL K H p (ls.map fun l => V.str (tx l)) ∧ (ls.map List.length).sum ≤ 16777216 ∧ Q (.str (tx ls.flatten)) H
theorem mt_joinX : MtR X "str.join" (rJoinX X.K) := by
  intro pins s σ H x xs v us Q I rx rs h
  obtain ⟨p, ls, rfl, rfl, hp, hz, q⟩ := h
  refine mt_join pins s σ H _ _ v us Q I rx rs ⟨tx [], p, ls.map tx, rfl, rfl, .inl ?_, ?_, ?_⟩
  · rw [List.map_map]; exact hp
  · have : (List.map (fun x => x.length) (List.map tx ls)) = ls.map List.length := by
      rw [List.map_map]; exact List.map_congr_left fun l _ => tx_len l
    rw [this]
    have e0 : (tx []).length = 0 := rfl
    rw [e0]; omega
  · have : Txt.join (tx []) (ls.map tx) = tx ls.flatten := (PySem.StrLaws.glued_eq_join _ _).trans (join_tx ls)
    rw [this]; exact q
end
end Un

namespace Un
open PySem PySem.Spec PyProof.Rows L2
section
variable {K : PySem.W.Frag} {σ : L2.St} {H : Hp} {Q : VK} {D : Ends} {i j : Nat} {v x y : V} {ta tb te : TE} {tr : TA} {t u c : TT} {r : R2} {g : TG} {tu tw : TS} {A B R : Prop}
theorem rd_var (h : σ[i]? = some (some v)) (q : Q v H) : tVar i σ H Q := ⟨v, h, q⟩
theorem rd_c (q : Q v H) : tC v σ H Q := q
theorem rd_op (h : ta σ H fun x H1 => tb σ H1 fun y H2 => r x y H2 Q) : tOp r ta tb σ H Q := h
theorem rd_un {r : V → Hp → VK → Prop} (h : ta σ H fun x H1 => r x H1 Q) : tUn r ta σ H Q := h
theorem rd_I0 {g : Int → Int → V} {a b : Int} (q : Q (g a b) H) : rI0 g (.int a) (.int b) H Q := ⟨a, b, rfl, rfl, q⟩
theorem rd_I {C : Int → Int → Prop} {g : Int → Int → V} {a b : Int} (hc : C a b) (q : Q (g a b) H) : rI C g (.int a) (.int b) H Q := ⟨a, b, rfl, rfl, hc, q⟩
theorem rd_U {g : Int → V} {a : Int} (q : Q (g a) H) : rU g (.int a) H Q := ⟨a, rfl, q⟩
theorem rd_eq (hs : scal x y = true) (q : Q (.bl (decide (x = y))) H) : rEq x y H Q := ⟨hs, q⟩
theorem rd_ne (hs : scal x y = true) (q : Q (.bl (!decide (x = y))) H) : rNe x y H Q := ⟨hs, q⟩
theorem rd_isN (q : Q (.bl (decide (x = .non))) H) : (fun x y H Q => y = V.non ∧ Q (.bl (decide (x = .non))) H : R2) x .non H Q := ⟨rfl, q⟩
theorem rd_test {Q : Bool → Hp → Prop} (h : te σ H fun x H' => ∃ k, x = .bl k ∧ Q k H') : tTest te σ H Q := h
theorem rd_B {Q : Bool → Hp → Prop} (h : te σ H fun x H' => ∃ k, x = .bl k ∧ Q k H') : tB te σ H Q := h
theorem rd_bl {b : Bool} {P : Bool → Prop} (q : P b) : ∃ k, V.bl b = V.bl k ∧ P k := ⟨b, rfl, q⟩
theorem rd_and {Q : Bool → Hp → Prop} (h : t σ H fun c H1 => if c = true then u σ H1 Q else Q false H1) : tAnd t u σ H Q := h
theorem rd_or {Q : Bool → Hp → Prop} (h : t σ H fun c H1 => if c = true then Q true H1 else u σ H1 Q) : tOr t u σ H Q := h
theorem rd_not {Q : Bool → Hp → Prop} (h : t σ H fun c H1 => Q (!c) H1) : tNot t σ H Q := h
theorem rd_andV (h : ta σ H fun x H1 => ∃ c, x = .bl c ∧ if c = true then tb σ H1 Q else Q (.bl false) H1) : tAndV ta tb σ H Q := h
theorem rd_orV (h : ta σ H fun x H1 => ∃ c, x = .bl c ∧ if c = true then Q (.bl true) H1 else tb σ H1 Q) : tOrV ta tb σ H Q := h
theorem rd_notV (h : ta σ H fun x H1 => ∃ c, x = .bl c ∧ Q (.bl (!c)) H1) : tNotV ta σ H Q := h
theorem rd_if (h : t σ H fun c H1 => if c = true then ta σ H1 Q else tb σ H1 Q) : tIf t ta tb σ H Q := h
theorem rd_ite {b : Bool} (h1 : b = true → A) (h2 : b = false → B) : if b = true then A else B := by
  cases b with
  | true => exact h1 rfl
  | false => exact h2 rfl
theorem rd_seq (h : tu { D with nx := tw D } σ H) : tSeq tu tw D σ H := h
theorem rd_asg (h : te σ H fun x H1 => g x σ H1 D.nx) : tAsg te g D σ H := h
theorem rd_gname {Q : L2.St → Hp → Prop} (h : Q (σ.set i (some v)) H) : gName i v σ H Q := h
theorem rd_gsub {to ti : TE} {t : TSet} {Q : L2.St → Hp → Prop} (h : to σ H fun o H1 => ti σ H1 fun i H2 => t o i v H2 fun H3 => Q σ H3) : gSub to ti t v σ H Q := h
theorem rd_gtup {n : Nat} {tt : TGs} {a : Addr} {xs : List V} {Q : L2.St → Hp → Prop} (h : SqT K H a xs) (hn : xs.length = n) (q : tt xs σ H Q) : gTup K n tt (.ref a) σ H Q := ⟨a, xs, rfl, h, hn, q⟩
theorem rd_gcons {t : TG} {u : TGs} {v : V} {vs : List V} {Q : L2.St → Hp → Prop} (h : t v σ H fun σ' H' => u vs σ' H' Q) : gCons t u (v :: vs) σ H Q := ⟨v, vs, rfl, h⟩
theorem rd_gnil {Q : L2.St → Hp → Prop} (h : Q σ H) : gNil [] σ H Q := ⟨rfl, h⟩
theorem rd_ifS (h : c σ H fun b H1 => if b = true then tu D σ H1 else tw D σ H1) : tIfS c tu tw D σ H := h
theorem rd_ret (h : te σ H D.rt) : tRet te D σ H := h
theorem rd_retN (h : D.rt .non H) : tRetN D σ H := h
theorem rd_drop (h : te σ H fun _ H1 => D.nx σ H1) : tDrop te D σ H := h
theorem rd_next (h : D.nx σ H) : tNext D σ H := h
theorem rd_break (h : D.bk σ H) : tBreak D σ H := h
theorem rd_cont (h : D.ct σ H) : tCont D σ H := h
theorem rd_call {sp : Sp} {dvs : List V} {E : XK} (h : tr σ H fun vs H1 => sp (vs ++ dvs) H1 Q E) : tCall sp dvs E tr σ H Q := h
theorem rd_cons {Q : List V → Hp → Prop} (h : te σ H fun x H1 => tr σ H1 fun xs H2 => Q (x :: xs) H2) : tCons te tr σ H Q := h
theorem rd_nil {Q : List V → Hp → Prop} (h : Q [] H) : tNil σ H Q := h
theorem rd_cb {r : List V → Hp → VK → Prop} (h : tr σ H fun vs H1 => r vs H1 Q) : tCB r tr σ H Q := h
theorem rd_bm {T : String} {r : V → List V → Hp → VK → Prop} (h : te σ H fun x H1 => tyV K T x H1 ∧ tr σ H1 fun xs H2 => r x xs H2 Q) : tBM K T r te tr σ H Q := h
theorem rd_bm0 {T : String} {r : V → List V → Hp → VK → Prop} (h : te σ H fun x H1 => tyV K T x H1 ∧ r x [] H1 Q) : tBM0 K T r te σ H Q := h
theorem rd_tyS {z : Str} (q : R) : tyV K "str" (.str z) H ∧ R := ⟨rfl, q⟩
theorem rd_tyL {p : Addr} {xs : List V} (h : SqL K H p xs) (q : R) : tyV K "list" (.ref p) H ∧ R := ⟨.inl ⟨rfl, _, h⟩, q⟩
theorem rd_lst (h : tr σ H fun xs H1 => xs.length ≤ sizeLine ∧ ∀ p, H1 p = none → Q (.ref p) (upd H1 p (.lst xs))) : tLst tr σ H Q := h
theorem rd_tup (h : tr σ H fun xs H1 => xs.length ≤ sizeLine ∧ ∀ p, H1 p = none → Q (.ref p) (upd H1 p (.tup xs))) : tTup tr σ H Q := h
theorem rd_sl {r : V → Option Int → Option Int → Hp → VK → Prop} {tl th : TO} (h : te σ H fun x H1 => tl σ H1 fun l H2 => th σ H2 fun u H3 => r x l u H3 Q) : tSl r te tl th σ H Q := h
theorem rd_part {Q : Option Int → Hp → Prop} (h : te σ H fun x H1 => ∃ i, x = .int i ∧ Q (some i) H1) : tPart te σ H Q := h
theorem rd_some {a : Int} {P : Int → Prop} (q : P a) : ∃ i, V.int a = .int i ∧ P i := ⟨a, rfl, q⟩
theorem rd_strE {z : Str} {P : Str → Prop} (q : P z) : ∃ y, V.str z = .str y ∧ P y := ⟨z, rfl, q⟩
theorem rd_one {a : V} {P : V → Prop} (q : P a) : ∃ x, [a] = [x] ∧ P x := ⟨a, rfl, q⟩
theorem rd_nopart {Q : Option Int → Hp → Prop} (h : Q none H) : tNoPart σ H Q := h
theorem rd_par {ta : TA} (h : ta σ H fun vs H1 => ∃ v w, vs = [v, w] ∧ D.nx ((σ.set i (some v)).set j (some w)) H1) : tPar i j ta D σ H := h
theorem rd_two {P : V → V → Prop} {a b : V} (q : P a b) : ∃ v w, [a, b] = [v, w] ∧ P v w := ⟨a, b, rfl, q⟩
/-- named rules -/
theorem rd_addX {a b : List Nat} (hz : a.length + b.length ≤ sizeLine) (q : Q (.str (tx (a ++ b))) H) : rAddX (.str (tx a)) (.str (tx b)) H Q := ⟨a, b, rfl, rfl, hz, q⟩
theorem rd_mulX {l : List Nat} {n : Int} (h1 : -100000 ≤ n) (h2 : n ≤ 100000) (h3 : l.length * n.toNat ≤ 100000) (q : Q (.str (tx (reps n.toNat l))) H) : rMulX (.str (tx l)) (.int n) H Q := ⟨l, n, rfl, rfl, h1, h2, h3, q⟩
theorem rd_inX {neg : Bool} {n : Nat} {z : List Nat} (q : Q (.bl (if neg then !decide (n ∈ z) else decide (n ∈ z))) H) : rInX neg (.str (tx [n])) (.str (tx z)) H Q := ⟨n, z, rfl, rfl, q⟩
theorem rd_ltX {a b : List Nat} (q : Q (.bl (decide (a < b))) H) : rLtX (.str (tx a)) (.str (tx b)) H Q := ⟨a, b, rfl, rfl, q⟩
theorem rd_lenX {l : List Nat} (hz : l.length ≤ sizeLine) (q : Q (.int (l.length : Nat)) H) : rLenX [.str (tx l)] H Q := ⟨l, rfl, hz, q⟩
theorem rd_ixX {l : List Nat} {a : Int} {n : Nat} (hz : l.length ≤ sizeLine) (h : atI l a = some n) (q : Q (.str (tx [n])) H) : rIxX (.str (tx l)) (.int a) H Q := ⟨l, a, n, rfl, rfl, hz, h, q⟩
theorem rd_slX {l : List Nat} {lo hi : Option Int} (hz : l.length ≤ sizeLine) (q : Q (.str (tx (cutL l lo hi))) H) : rSlX (.str (tx l)) lo hi H Q := ⟨l, rfl, hz, q⟩
theorem rd_indexX {z : List Nat} {n k : Nat} (nd : z.Nodup) (h : z[k]? = some n) (q : Q (.int (k : Nat)) H) : rIndexX (.str (tx z)) [.str (tx [n])] H Q := ⟨z, n, k, rfl, rfl, nd, h, q⟩
theorem rd_repr (hx : scalR x) (q : Q (.str (reprS x)) H) : rRepr [x] H Q := ⟨x, rfl, hx, q⟩
theorem rd_ixL {p : Addr} {xs : List V} {a : Int} (h : SqL K H p xs) (ha : atI xs a = some v) (q : Q v H) : rIxL K (.ref p) (.int a) H Q := ⟨p, xs, a, v, rfl, rfl, h, ha, q⟩
theorem rd_ixT {p : Addr} {xs : List V} {a : Int} (h : SqT K H p xs) (ha : atI xs a = some v) (q : Q v H) : rIxT K (.ref p) (.int a) H Q := ⟨p, xs, a, v, rfl, rfl, h, ha, q⟩
theorem rd_setL {p : Addr} {xs : List V} {a : Int} {n : Nat} {Q : Hp → Prop} (h : H p = some (.lst xs)) (ha : ixN xs.length a = some n) (q : Q (upd H p (.lst (xs.set n v)))) : rSetL (.ref p) (.int a) v H Q := ⟨p, xs, a, n, rfl, rfl, h, ha, q⟩
theorem rd_app {p : Addr} {xs : List V} (h : H p = some (.lst xs)) (hz : xs.length < sizeLine) (q : Q .non (upd H p (.lst (xs ++ [v])))) : rAppend (.ref p) [v] H Q := ⟨p, xs, v, rfl, rfl, h, hz, q⟩
theorem rd_pop {p : Addr} {xs : List V} (h : H p = some (.lst (xs ++ [v]))) (q : Q v (upd H p (.lst xs))) : rPop (.ref p) [] H Q := ⟨p, xs ++ [v], v, rfl, rfl, h, by simp, by rw [List.dropLast_concat]; exact q⟩
end
/-! ### heaps: what stays when two objects D and L change -/
def Keep (D L : Addr) (H H' : Hp) : Prop := ∀ a o, H a = some o → a ≠ D → a ≠ L → H' a = some o
theorem Keep.refl {D L : Addr} (H : Hp) : Keep D L H H := fun _ _ h _ _ => h
theorem Keep.trans {D L : Addr} {H H1 H2 : Hp} (a : Keep D L H H1) (b : Keep D L H1 H2) : Keep D L H H2 := fun c o h h1 h2 => b c o (a c o h h1 h2) h1 h2
theorem Keep.new {D L p : Addr} {H : Hp} {o : HO} (h : H p = none) : Keep D L H (upd H p o) := fun a u e _ _ => by
  rw [upd_ne (ne_of_none e h)]
  exact e
theorem Keep.own {D L p : Addr} {H : Hp} {o : HO} (h : p = D ∨ p = L) : Keep D L H (upd H p o) := fun a u e h1 h2 => by
  rw [upd_ne (by rcases h with h | h <;> (rw [h]; assumption))]
  exact e
theorem Keep.of_same {D L : Addr} {H H' : Hp} (h : Same H H') : Keep D L H H' := fun a o e _ _ => h a o e
theorem same_upd {H : Hp} {p : Addr} {o : HO} (h : H p = none) : Same H (upd H p o) := fun b x e => by
  rw [upd_ne (ne_of_none e h)]
  exact e
theorem mulW_of {i j : Int} (h1 : i.natAbs < 2 ^ 250) (h2 : j.natAbs < 2 ^ 250) : CMulW i j := wide_mul h1 h2 (by decide) (by decide) (by decide)

/-! ### flat lists as data -/
theorem dpAll_ints {K : PySem.W.Frag} {H : Hp} : ∀ ns : List Int, DpAll K H (ns.map V.int) (ns.map PyData.int)
  | [] => .nil
  | n :: r => .cons (.int n) (dpAll_ints r)
theorem canLay_ints : ∀ ns : List Int, PyData.canLayAll0 (ns.map PyData.int) = true
  | [] => by simp [PyData.canLayAll0]
  | n :: r => by
    have h := canLay_ints r
    simp [PyData.canLayAll0, PyData.canLay0, h]
theorem depth_ints : ∀ ns : List Int, PyData.depthAll (ns.map PyData.int) = 0
  | [] => by simp [PyData.depthAll]
  | n :: r => by
    have h := depth_ints r
    simp [PyData.depthAll, PyData.depth, h]
theorem shaped_ints (ns : List Int) : SeqAt.shaped (.list (ns.map PyData.int)) = true := by
  unfold SeqAt.shaped
  simp [PyData.canLay0, canLay_ints, PyData.depth, depth_ints]
theorem eqv_nil_list (ds : List PyData) : PyData.eqv (.list ds) (.list []) = ds.isEmpty := by
  cases ds <;> simp [PyData.eqv, PyData.eqvAll]
section
variable {K : PySem.W.Frag} {H : Hp} {Q : VK}
theorem rd_neNil {p e : Addr} {ns : List Int} (h1 : SqL K H p (ns.map V.int)) (h2 : SqL K H e []) (q : Q (.bl (!ns.isEmpty)) H) : rNeD K (.ref p) (.ref e) H Q :=
  ⟨.list (ns.map PyData.int), .list [], .lst h1 (dpAll_ints ns), .lst h2 .nil, shaped_ints ns, shaped_ints [], by
    rw [eqv_nil_list]
    cases ns <;> exact q⟩
theorem rd_int1 {i : Int} {x : List Int} (q : Q (.int i) H) : (∃ j, [V.int i] = [V.int j] ∧ Q (.int j) H) ∨ ∃ k, [V.int i] = [V.bl k] ∧ Q (.int (if k = true then 1 else 0)) H := .inl ⟨i, rfl, q⟩
end
theorem atI_last1 {xs : List V} {v : V} (h : xs.getLast? = some v) : atI xs (-1) = some v := by
  obtain ⟨ys, rfl⟩ : ∃ ys, xs = ys ++ [v] := by
    cases hx : xs with
    | nil => rw [hx] at h; simp at h
    | cons a r =>
      have := List.dropLast_concat_getLast (l := xs) (by rw [hx]; simp)
      rw [List.getLast?_eq_getLast (by rw [hx]; simp)] at h
      exact ⟨xs.dropLast, by rw [← hx, ← Option.some.inj h, this]⟩
  exact atI_last _ _

/-! ### built-ins under names -/
def rIntI : List V → Hp → VK → Prop := fun xs H Q => ∃ i, xs = [.int i] ∧ Q (.int i) H
def rIntB : List V → Hp → VK → Prop := fun xs H Q => ∃ b : Bool, xs = [.bl b] ∧ Q (.int (if b then 1 else 0)) H
def rStrS : List V → Hp → VK → Prop := fun xs H Q => ∃ a, xs = [.str a] ∧ Q (.str a) H
def rListX : List V → Hp → VK → Prop := fun xs H Q => ∃ l : List Nat, xs = [.str (tx l)] ∧ l.length ≤ sizeLine ∧ ∀ p, H p = none → Q (.ref p) (upd H p (.lst (sgs l)))
def rDivmod : List V → Hp → VK → Prop := fun xs H Q => ∃ i j, xs = [.int i, .int j] ∧ 0 < j ∧ j.natAbs.log2 < 9000 ∧ ∀ p, H p = none → Q (.ref p) (upd H p (.tup [.int (i / j), .int (i % j)]))
def rLenQ (K : PySem.W.Frag) : List V → Hp → VK → Prop := fun xs H Q => ∃ p ys, xs = [.ref p] ∧ (SqL K H p ys ∨ SqT K H p ys) ∧ Q (.int (ys.length : Nat)) H
def rSplitW (K : PySem.W.Frag) : List V → Hp → VK → Prop := fun xs H Q => ∃ p ys, xs = [.ref p] ∧ (SqL K H p ys ∨ SqT K H p ys) ∧ ∀ l, H l = none → Q (.ref l) (upd H l (.lst ys))
section
variable {X : Cx}
theorem call_intI : CallR X (.type "int") rIntI := fun pins s σ H xs us Q I r h => call_int1 pins s σ H xs us Q I r (.inl h)
theorem call_intB : CallR X (.type "int") rIntB := fun pins s σ H xs us Q I r h => call_int1 pins s σ H xs us Q I r (.inr h)
theorem call_strS : CallR X (.type "str") rStrS := SkE.call_str_str
theorem call_listX (hc : X.calm = true) : CallR X (.type "list") rListX := call_list_strR hc
theorem call_lenQ : CallR X (.builtin "len") (rLenQ X.K) := call_len_seq
theorem call_listQ : CallR X (.type "list") (rSplitW X.K) := call_list_of
end
section
variable {K : PySem.W.Frag} {H : Hp} {Q : VK}
theorem rd_intI {i : Int} (q : Q (.int i) H) : rIntI [.int i] H Q := ⟨i, rfl, q⟩
theorem rd_intB {b : Bool} (q : Q (.int (if b then 1 else 0)) H) : rIntB [.bl b] H Q := ⟨b, rfl, q⟩
theorem rd_strS {a : Str} (q : Q (.str a) H) : rStrS [.str a] H Q := ⟨a, rfl, q⟩
theorem rd_listX {l : List Nat} (hl : l.length ≤ sizeLine) (q : ∀ p, H p = none → Q (.ref p) (upd H p (.lst (sgs l)))) : rListX [.str (tx l)] H Q := ⟨l, rfl, hl, q⟩
theorem rd_lenL {p : Addr} {ys : List V} (h : SqL K H p ys) (q : Q (.int (ys.length : Nat)) H) : rLenQ K [.ref p] H Q := ⟨p, ys, rfl, .inl h, q⟩
theorem rd_lenT {p : Addr} {ys : List V} (h : SqT K H p ys) (q : Q (.int (ys.length : Nat)) H) : rLenQ K [.ref p] H Q := ⟨p, ys, rfl, .inr h, q⟩
theorem rd_all {p : Addr} {bs : List Bool} (h : SqL K H p (bs.map V.bl)) (q : Q (.bl (bs.all id)) H) : rAll K [.ref p] H Q := ⟨p, bs, rfl, h, q⟩
theorem rd_sortS {p : Addr} {zs : List Str} (h : SqL K H p (zs.map V.str)) (hl : zs.length < 64) (q : ∀ (ys : List Str) (p : Addr), ys.Perm zs → sortedS ys = true → H p = none → Q (.ref p) (upd H p (.lst (ys.map V.str)))) : rSortedS K [.ref p] H Q := ⟨p, zs, rfl, h, hl, q⟩
theorem rd_popAt {p : Addr} {xs : List V} {i : Nat} {y : V} (h : H p = some (.lst xs)) (hi : i < 2 ^ 62) (hy : xs[i]? = some y) (q : Q y (upd H p (.lst (xs.eraseIdx i)))) : rPopAt (.ref p) [.int (i : Nat)] H Q := by
  have hl : i < xs.length := (List.getElem?_eq_some_iff.mp hy).1
  refine ⟨p, xs, (i : Int), i, y, rfl, rfl, h, by omega, by omega, ?_, hy, q⟩
  unfold seqIndex?
  simp
  omega
theorem rd_joinX {p : Addr} {ls : List (List Nat)} (h : SqL K H p (ls.map fun l => V.str (tx l))) (hz : (ls.map List.length).sum ≤ 16777216) (q : Q (.str (tx ls.flatten)) H) : rJoinX K (.str (tx [])) [.ref p] H Q := ⟨p, ls, rfl, rfl, h, hz, q⟩
theorem rd_slL {p : Addr} {xs : List V} {lo hi : Option Int} (h : SqL K H p xs) (q : ∀ n, H n = none → Q (.ref n) (upd H n (.lst (cutV xs lo hi)))) : rSlL K (.ref p) lo hi H Q := ⟨p, xs, rfl, h, q⟩
theorem rd_revL {σ : L2.St} {te : TE} (h : te σ H fun x H1 => ∃ a xs, x = .ref a ∧ SqL K H1 a xs ∧ ∀ p, H1 p = none → Q (.ref p) (upd H1 p (.lst xs.reverse))) : tRevL K te σ H Q := h
end

/-! ### comprehensions and loops -/
theorem same_mut {H H' : Hp} {p : Addr} {o : HO} (e : Same H H') (h : H p = none) : Same H (upd H' p o) := fun a u ha => by
  rw [upd_ne (ne_of_none ha h)]
  exact e a u ha
theorem Keep.mut {D L p : Addr} {H H' : Hp} {o : HO} (e : Keep D L H H') (h : H p = none) : Keep D L H (upd H' p o) := fun a u ha h1 h2 => by
  rw [upd_ne (ne_of_none ha h)]
  exact e a u ha h1 h2
section
variable {K : PySem.W.Frag} {σ : L2.St} {H : Hp} {Q : VK} {D : Ends} {tl te : TE} {tt : TT} {g : TG} {tb : TS} {wi : TI} {vs : List Nat} {R : It → Hp → Prop}
theorem rd_lc (h : wi σ H fun J H1 => ∀ D, H1 D = none → ∃ W : Nat → Nat → Hp → Prop, (∃ m, W 0 m (upd H1 D (.lst []))) ∧ ∀ i m H, W i m H →
  (J.stop i H ∧ Q (.ref D) H) ∨ (J.go i H ∧ ∃ Nx : Hp → Prop, (∀ H', Nx H' → ∃ m', m' < m ∧ W (i + 1) m' H') ∧ ∀ x H', J.yld i H x H' → g x (wipe σ vs) H' fun σ2 H2 => wipe σ2 vs = wipe σ vs ∧ tt σ2 H2 fun b H3 =>
    if b = true then te σ2 H3 fun y H4 => ∃ acc, H4 D = some (.lst acc) ∧ acc.length < sizeLine ∧ Nx (upd H4 D (.lst (acc ++ [y]))) else Nx H3)) : tLc wi g tt te vs σ H Q := h
theorem rd_iList (h : tl σ H fun x H1 => ∃ a, x = .ref a ∧ (∃ xs, SqL K H1 a xs) ∧ R (Itl K a) H1) : iList K tl σ H R := h
theorem rd_iStr (h : tl σ H fun v H1 => ∃ x, v = .str x ∧ R (Its x) H1) : iStr tl σ H R := h
theorem rd_iTup (h : tl σ H fun x H1 => ∃ a, x = .ref a ∧ (∃ xs, SqT K H1 a xs) ∧ R (Itt K a) H1) : iTup K tl σ H R := h
theorem rd_for (h : wi σ H fun J H1 => ∃ W : Nat → Nat → L2.St → Hp → Prop, (∃ m, W 0 m σ H1) ∧ ∀ i m σ H, W i m σ H →
  (J.stop i H ∧ D.nx σ H) ∨ (J.go i H ∧ ∃ N : L2.St → Hp → Prop, (∀ σ' H', N σ' H' → ∃ m', m' < m ∧ W (i + 1) m' σ' H') ∧ ∀ x H', J.yld i H x H' → g x σ H' fun σ2 H2 => tb { D with nx := N, ct := N, bk := D.nx } σ2 H2)) : tFor wi g tb D σ H := h
theorem rd_rng1 {ta : TA} (h : ta σ H fun vs H1 => ∃ j : Int, vs = [.int j] ∧ -(2 ^ 62) ≤ j ∧ j < 2 ^ 62 ∧ R (Itr 0 j.toNat) H1) : iRng1 ta σ H R := h
theorem rd_rng2 {ta : TA} (h : ta σ H fun vs H1 => ∃ i j : Int, vs = [.int i, .int j] ∧ (-(2 ^ 62) ≤ i ∧ i < 2 ^ 62 ∧ -(2 ^ 62) ≤ j ∧ j < 2 ^ 62) ∧ R (Itr i (j - i).toNat) H1) : iRng2 ta σ H R := h
theorem rd_yes {Q : Bool → Hp → Prop} (h : Q true H) : tYes σ H Q := h
theorem rd_cut {t u : TS} (Mid : L2.St → Hp → Prop) (h : t { D with nx := Mid } σ H) (k : ∀ σ' H', Mid σ' H' → u D σ' H') : Evl.tCut t u D σ H := ⟨Mid, h, k⟩
end
theorem cutV_ints (ns : List Int) (lo hi : Option Int) : ∃ zs : List Int, cutV (ns.map V.int) lo hi = zs.map V.int ∧ zs.length ≤ ns.length := by
  refine ⟨(ns.drop (HT.sIx (ns.map V.int).length 0 lo)).take (HT.sIx (ns.map V.int).length (ns.map V.int).length hi - HT.sIx (ns.map V.int).length 0 lo), ?_, ?_⟩
  · unfold cutV
    rw [List.map_take, List.map_drop]
  · rw [List.length_take, List.length_drop]
    omega
theorem take_snoc {α β : Type} {xs : List α} {i : Nat} {x : α} (f : α → β) (h : xs[i]? = some x) : (xs.take (i + 1)).map f = (xs.take i).map f ++ [f x] := by
  rw [List.take_add_one, h, List.map_append]
  rfl
theorem get_map {α : Type} {xs : List α} {f : α → V} {i : Nat} {v : V} (h : (xs.map f)[i]? = some v) : ∃ x, xs[i]? = some x ∧ v = f x := by
  rw [List.getElem?_map] at h
  cases e : xs[i]? with
  | none => rw [e] at h; cases h
  | some x => rw [e] at h; exact ⟨x, rfl, (Option.some.inj h).symm⟩

/-! ### a sequence that is a list or a text -/
def rLenA (K : PySem.W.Frag) : List V → Hp → VK → Prop := fun xs H Q => rLenQ K xs H Q ∨ rLenX xs H Q
def rIxA (K : PySem.W.Frag) : R2 := fun x y H Q => rIxL K x y H Q ∨ rIxX x y H Q
theorem sgs_len (l : List Nat) : (sgs l).length = l.length := by simp [sgs]
section
variable {X : Cx}
theorem call_lenA : CallR X (.builtin "len") (rLenA X.K) := fun pins s σ H xs us Q I r h => h.elim (call_lenQ pins s σ H xs us Q I r) (call_lenX pins s σ H xs us Q I r)
theorem ix_any : IxR X (rIxA X.K) := ix_list.or ix_strX
end
section
variable {K : PySem.W.Frag} {H : Hp} {Q : VK} {v x : V} {ys : List V} {j : Nat}
theorem rd_lenA (h : (∃ a, v = .ref a ∧ SqL K H a ys) ∨ ∃ l, v = .str (tx l) ∧ ys = sgs l ∧ l.length ≤ sizeLine) (q : Q (.int (ys.length : Nat)) H) : rLenA K [v] H Q := by
  rcases h with ⟨a, rfl, h⟩ | ⟨l, rfl, rfl, h⟩
  · exact .inl ⟨a, ys, rfl, .inl h, q⟩
  · exact .inr ⟨l, rfl, h, by rw [sgs_len] at q; exact q⟩
theorem rd_ixA (h : (∃ a, v = .ref a ∧ SqL K H a ys) ∨ ∃ l, v = .str (tx l) ∧ ys = sgs l ∧ l.length ≤ sizeLine) (hj : ys[j]? = some x) (q : Q x H) : rIxA K v (.int (j : Nat)) H Q := by
  rcases h with ⟨a, rfl, h⟩ | ⟨l, rfl, rfl, h⟩
  · exact .inl ⟨a, ys, _, x, rfl, rfl, h, atI_nat hj, q⟩
  · obtain ⟨c, hc, rfl⟩ := get_map hj
    exact .inr ⟨l, _, c, rfl, rfl, h, atI_nat hc, q⟩
end

/-! ### sorted sgs -/
theorem perm_map {α β : Type} {f : α → β} : ∀ {ys : List β} {xs : List α}, ys.Perm (xs.map f) → ∃ zs : List α, zs.Perm xs ∧ ys = zs.map f := by
  intro ys xs h
  generalize hz : xs.map f = zs at h
  induction h generalizing xs with
  | nil => exact ⟨xs, List.Perm.refl _, hz.symm⟩
  | cons x h ih =>
    cases xs with
    | nil => simp at hz
    | cons a r =>
      rw [List.map_cons] at hz
      injection hz with h1 h2
      obtain ⟨zs, p, e⟩ := ih h2
      exact ⟨a :: zs, p.cons a, by rw [List.map_cons, h1, e]⟩
  | swap x y l =>
    cases xs with
    | nil => simp at hz
    | cons a r =>
      cases r with
      | nil => simp at hz
      | cons b t =>
        rw [List.map_cons, List.map_cons] at hz
        injection hz with h1 h2
        injection h2 with h2 h3
        exact ⟨b :: a :: t, List.Perm.swap _ _ _, by rw [List.map_cons, List.map_cons, h1, h2, h3]⟩
  | trans h1 h2 ih1 ih2 =>
    obtain ⟨zs, p, e⟩ := ih2 hz
    obtain ⟨ws, p2, e2⟩ := ih1 e.symm
    exact ⟨ws, p2.trans p, e2⟩
theorem ltCps_one (a b : Nat) : ltCps [a] [b] = decide (a < b) := by
  first | rfl | simp [ltCps]
theorem rising_signs : ∀ (ks : List Nat) (p : Nat), risingS (tx [p]) (ks.map fun c => tx [c]) = true → (p :: ks).Pairwise (· ≤ ·)
  | [], p, _ => by simp
  | k :: r, p, h => by
    rw [List.map_cons] at h
    unfold risingS at h
    rw [Bool.and_eq_true, tx_cps, tx_cps, ltCps_one] at h
    have h1 : p ≤ k := by simpa using h.1
    have h2 := rising_signs r k h.2
    refine List.Pairwise.cons (fun x hx => ?_) h2
    rcases List.mem_cons.mp hx with e | hx
    · omega
    · have := (List.pairwise_cons.mp h2).1 x hx
      omega
theorem sorted_signs {fs : List Nat} {ys : List Str} (hp : ys.Perm (fs.map fun c => tx [c])) (hs : sortedS ys = true) (nd : fs.Nodup) : ∃ ks : List Nat, ys = (ks.map fun c => tx [c]) ∧ ks.Perm fs ∧ ks.Pairwise (· < ·) := by
  obtain ⟨ks, p, rfl⟩ := perm_map hp
  refine ⟨ks, rfl, p, ?_⟩
  have hle : ks.Pairwise (· ≤ ·) := by
    cases ks with
    | nil => exact List.Pairwise.nil
    | cons a r => exact rising_signs r a hs
  have hne : ks.Nodup := p.nodup_iff.mpr nd
  exact (hle.and hne).imp fun h => by omega
theorem flat_ones : ∀ ks : List Nat, (ks.map fun c => [c]).flatten = ks
  | [] => rfl
  | k :: r => by rw [List.map_cons, List.flatten_cons, flat_ones r]; rfl
theorem eraseIdx_perm {α : Type} : ∀ {xs : List α} {i : Nat} {x : α}, xs[i]? = some x → (x :: xs.eraseIdx i).Perm xs
  | [], _, _, h => by simp at h
  | a :: r, 0, x, h => by
    have : a = x := by simpa using h
    subst this
    exact List.Perm.refl _
  | a :: r, i + 1, x, h => by
    have ih := eraseIdx_perm (xs := r) (i := i) (x := x) (by simpa using h)
    rw [List.eraseIdx_cons_succ]
    exact (List.Perm.swap _ _ _).trans (ih.cons a)
theorem sgs_erase (l : List Nat) (i : Nat) : (sgs l).eraseIdx i = sgs (l.eraseIdx i) := by
  unfold sgs
  induction l generalizing i with
  | nil => simp
  | cons a r ih =>
    cases i with
    | zero => simp
    | succ i => simp [ih]

/-! ### walks over a text -/
theorem lc_text {l : List Nat} {g : TG} {tt : TT} {te : TE} {vs : List Nat} {σ : L2.St} {H1 : Hp} {D : Addr} {Qd : Hp → Prop} (Pv : Nat → Hp → Prop) (h0 : Pv 0 (upd H1 D (.lst [])))
    (hs : ∀ (i c : Nat) H, l[i]? = some c → Pv i H → g (.str (tx [c])) (wipe σ vs) H fun σ2 H2 => wipe σ2 vs = wipe σ vs ∧ tt σ2 H2 fun b H3 =>
      if b = true then te σ2 H3 fun y H4 => ∃ acc, H4 D = some (.lst acc) ∧ acc.length < sizeLine ∧ Pv (i + 1) (upd H4 D (.lst (acc ++ [y]))) else Pv (i + 1) H3) (hd : ∀ H, Pv l.length H → Qd H) :
    ∃ W : Nat → Nat → Hp → Prop, (∃ m, W 0 m (upd H1 D (.lst []))) ∧ ∀ i m H, W i m H →
      ((Its (tx l)).stop i H ∧ Qd H) ∨ ((Its (tx l)).go i H ∧ ∃ Nx : Hp → Prop, (∀ H', Nx H' → ∃ m', m' < m ∧ W (i + 1) m' H') ∧ ∀ x H', (Its (tx l)).yld i H x H' → g x (wipe σ vs) H' fun σ2 H2 => wipe σ2 vs = wipe σ vs ∧ tt σ2 H2 fun b H3 =>
        if b = true then te σ2 H3 fun y H4 => ∃ acc, H4 D = some (.lst acc) ∧ acc.length < sizeLine ∧ Nx (upd H4 D (.lst (acc ++ [y]))) else Nx H3) := by
  have hsz : (tx l).cps.size = l.length := by simp [tx]
  refine ⟨fun i m H => m + i = l.length ∧ Pv i H, ⟨l.length, rfl, h0⟩, fun i m H h => ?_⟩
  obtain ⟨hm, p⟩ := h
  by_cases hi : i < l.length
  · refine .inr ⟨show i < (tx l).cps.size by rw [hsz]; exact hi, Pv (i + 1), fun H' p' => ⟨m - 1, by omega, by omega, p'⟩, fun x H' hy => ?_⟩
    obtain ⟨rfl, c, hc, rfl⟩ := hy
    have hc2 : l[i]? = some c := by simpa [tx] using hc
    exact hs i c _ hc2 p
  · have e : i = l.length := by omega
    subst e
    exact .inl ⟨show (tx l).cps.size ≤ l.length by rw [hsz]; exact Nat.le_refl _, hd H p⟩
theorem for_text {l : List Nat} {g : TG} {tb : TS} {D : Ends} {σ : L2.St} {H : Hp} (Pv : Nat → L2.St → Hp → Prop) (h0 : Pv 0 σ H)
    (hs : ∀ (i c : Nat) σ H, l[i]? = some c → Pv i σ H → g (.str (tx [c])) σ H fun σ2 H2 => tb { D with nx := Pv (i + 1), ct := Pv (i + 1), bk := D.nx } σ2 H2) (hd : ∀ σ H, Pv l.length σ H → D.nx σ H) :
    ∃ W : Nat → Nat → L2.St → Hp → Prop, (∃ m, W 0 m σ H) ∧ ∀ i m σ H, W i m σ H →
      ((Its (tx l)).stop i H ∧ D.nx σ H) ∨ ((Its (tx l)).go i H ∧ ∃ N : L2.St → Hp → Prop, (∀ σ' H', N σ' H' → ∃ m', m' < m ∧ W (i + 1) m' σ' H') ∧ ∀ x H', (Its (tx l)).yld i H x H' → g x σ H' fun σ2 H2 => tb { D with nx := N, ct := N, bk := D.nx } σ2 H2) := by
  have hsz : (tx l).cps.size = l.length := by simp [tx]
  refine ⟨fun i m σ H => m + i = l.length ∧ Pv i σ H, ⟨l.length, rfl, h0⟩, fun i m σ H h => ?_⟩
  obtain ⟨hm, p⟩ := h
  by_cases hi : i < l.length
  · refine .inr ⟨show i < (tx l).cps.size by rw [hsz]; exact hi, Pv (i + 1), fun σ' H' p' => ⟨m - 1, by omega, by omega, p'⟩, fun x H' hy => ?_⟩
    obtain ⟨rfl, c, hc, rfl⟩ := hy
    have hc2 : l[i]? = some c := by simpa [tx] using hc
    exact hs i c _ _ hc2 p
  · have e : i = l.length := by omega
    subst e
    exact .inl ⟨show (tx l).cps.size ≤ l.length by rw [hsz]; exact Nat.le_refl _, hd σ H p⟩
def rDivm : List V → Hp → VK → Prop := fun xs H Q => ∃ i j, xs = [.int i, .int j] ∧ 0 < j ∧ j < 1000000000 ∧ ∀ p, H p = none → Q (.ref p) (upd H p (.tup [.int (i / j), .int (i % j)]))
theorem call_divm {X : Cx} : CallR X (.builtin "divmod") rDivm := fun pins s σ H xs us Q I r h => by
  obtain ⟨i, j, e, h1, h2, q⟩ := h
  exact call_divmod pins s σ H xs us Q I r ⟨i, j, e, ⟨h1, by omega⟩, q⟩
theorem rd_divm {H : Hp} {Q : VK} {i j : Int} (h1 : 0 < j) (h2 : j < 1000000000) (q : ∀ p, H p = none → Q (.ref p) (upd H p (.tup [.int (i / j), .int (i % j)]))) : rDivm [.int i, .int j] H Q := ⟨i, j, rfl, h1, h2, q⟩
theorem rd_isiS {K : PySem.W.Frag} {H : Hp} {Q : VK} {z : Str} (q : Q (.bl true) H) : rIsi K [.str z, .ty "str"] H Q := ⟨_, _, _, _, true, rfl, .ty "str", .base (.str z), kit_ty (by decide +kernel), q⟩

theorem scal_int {i : Int} (h : i.natAbs < 2 ^ 250) : scalR (.int i) := Nat.lt_trans (PySem.Flt.log2_lt_of (by decide) h) (by decide)
theorem cut_zero (l : List Nat) (k : Nat) : cutL l none (some (k : Int)) = l.take k := by
  unfold cutL
  rw [HT.sIx_none, HT.sIx_nat, List.drop_zero, Nat.sub_zero]
  rcases Nat.le_total k l.length with h | h
  · rw [Nat.min_eq_left h]
  · rw [Nat.min_eq_right h, List.take_length, List.take_of_length_le h]
theorem mem_reps {n : Nat} {l : List Nat} {c : Nat} (h : c ∈ reps n l) : c ∈ l := by
  unfold reps at h
  rw [List.mem_flatten] at h
  obtain ⟨m, hm, hc⟩ := h
  rw [(List.mem_replicate.mp hm).2] at hc
  exact hc
end Un

namespace Un
open PySem PySem.Spec PyProof.Rows L2
/-! ### rstrip of one sign, startswith, order of texts -/
theorem tail_cut (g : Nat) : ∀ t : List Nat, ∃ p m, t = p ++ List.replicate m g ∧ ∀ c, p.getLast? = some c → c ≠ g := by
  intro t
  induction ht : t.length generalizing t with
  | zero =>
    have : t = [] := List.length_eq_zero_iff.mp ht
    subst this
    exact ⟨[], 0, rfl, fun c h => by cases h⟩
  | succ n ih =>
    have hne : t ≠ [] := by
      rintro rfl
      cases ht
    obtain ⟨q, d, rfl⟩ : ∃ q d, t = q ++ [d] := ⟨t.dropLast, t.getLast hne, (List.dropLast_concat_getLast hne).symm⟩
    by_cases hd : d = g
    · subst hd
      obtain ⟨p, m, e, h⟩ := ih q (by simpa using ht)
      exact ⟨p, m + 1, by rw [e, List.append_assoc, ← List.replicate_succ'], h⟩
    · exact ⟨q ++ [d], 0, by simp, fun c hc => by
        rw [List.getLast?_concat] at hc
        rw [← Option.some.inj hc]
        exact hd⟩
theorem takeWhile_rep (g : Nat) (f : Nat → Bool) (hf : ∀ c, f c = (c == g)) : ∀ (m : Nat) (r : List Nat), (∀ c, r.head? = some c → c ≠ g) → (List.replicate m g ++ r).takeWhile f = List.replicate m g
  | 0, [], _ => rfl
  | 0, c :: r, h => by
    have h1 := h c rfl
    show (c :: r).takeWhile f = []
    rw [List.takeWhile_cons, hf, if_neg (by simpa using h1)]
  | m + 1, r, h => by
    rw [List.replicate_succ, List.cons_append, List.takeWhile_cons, hf, if_pos (by simp), takeWhile_rep g f hf m r h]
theorem rstrip_tx {p : List Nat} {m g : Nat} (h : ∀ c, p.getLast? = some c → c ≠ g) : Txt.rstripChars (tx (p ++ List.replicate m g)) (tx [g]) = tx p := by
  have hlo : stripLo (tx [g]).cps.contains false (tx (p ++ List.replicate m g)) = 0 := rfl
  have hw : ((tx (p ++ List.replicate m g)).cps.toList.drop 0).reverse.takeWhile (tx [g]).cps.contains = List.replicate m g := by
    rw [tx_cps, List.drop_zero, List.reverse_append, List.reverse_replicate]
    refine takeWhile_rep g _ (fun c => ?_) m p.reverse (fun c hc => h c ?_)
    · show (#[g] : Array Nat).contains c = (c == g)
      simp [Array.contains]
    · rw [List.head?_reverse] at hc
      exact hc
  have hhi : stripHi (tx [g]).cps.contains true (tx (p ++ List.replicate m g)) 0 = p.length := by
    unfold stripHi
    rw [if_pos rfl, hw, tx_len, List.length_append, List.length_replicate]
    omega
  unfold Txt.rstripChars Txt.stripBy stripSame
  rw [hlo, hhi, tx_len, List.length_append, List.length_replicate]
  by_cases hm : m = 0
  · subst hm
    simp
  · rw [if_neg (by simp; omega)]
    unfold stripped
    rw [hlo, hhi]
    unfold Builtin.Str.strSub tx
    simp
def rRstX : V → List V → Hp → VK → Prop := fun x xs H Q => ∃ (p : List Nat) (m g : Nat), x = .str (tx (p ++ List.replicate m g)) ∧ xs = [.str (tx [g])] ∧ (∀ c, p.getLast? = some c → c ≠ g) ∧ p.length + m ≤ sizeLine ∧ Q (.str (tx p)) H
section
variable {X : Cx}
theorem mt_rstX : MtR X "str.rstrip" rRstX := by
  intro pins s σ H x xs v us Q I rx rs h
  obtain ⟨p, m, g, rfl, rfl, hp, hz, q⟩ := h
  exact mt_rstripChars pins s σ H _ _ v us Q I rx rs ⟨_, _, rfl, rfl, by rw [tx_len, List.length_append, List.length_replicate]; exact hz, by rw [rstrip_tx hp]; exact q⟩
theorem starts_tx (a b : List Nat) : Txt.startswith (tx a) (tx b) = b.isPrefixOf a := by
  unfold Txt.startswith Builtin.Str.subAt
  rw [tx_len, tx_len, Nat.zero_add, Bool.eq_iff_iff, List.isPrefixOf_iff_prefix, Bool.and_eq_true, decide_eq_true_eq, beq_iff_eq]
  have e : (tx a).cps.extract 0 b.length = (tx b).cps ↔ a.take b.length = b := by
    rw [← Array.toList_inj]
    simp [tx]
  rw [e]
  constructor
  · rintro ⟨h1, h2⟩
    rw [← h2]
    exact List.take_prefix _ _
  · rintro ⟨r, rfl⟩
    simp
def rStartX : V → List V → Hp → VK → Prop := fun x xs H Q => ∃ a b : List Nat, x = .str (tx a) ∧ xs = [.str (tx b)] ∧ Q (.bl (b.isPrefixOf a)) H
theorem mt_startX : MtR X "str.startswith" rStartX := by
  intro pins s σ H x xs v us Q I rx rs h
  obtain ⟨a, b, rfl, rfl, q⟩ := h
  exact mt_startswith pins s σ H _ _ v us Q I rx rs ⟨_, _, rfl, rfl, by rw [starts_tx]; exact q⟩
theorem op_leX : OpR X (compareOp .LtE) rLeX := by
  intro pins s σ H x y v u Q I rx ry h
  obtain ⟨a, b, rfl, rfl, q⟩ := h
  exact op_le_str pins s σ H _ _ v u Q I rx ry ⟨_, _, rfl, rfl, by rw [tx_cps, tx_cps]; exact q⟩
def rIsN1 : R2 := fun x y H Q => y = .non ∧ Q (.bl (decide (x = .non))) H
def rNotN1 : R2 := fun x y H Q => y = .non ∧ Q (.bl (!decide (x = .non))) H
theorem op_isN' : OpR X (compareOp .Is) rIsN1 := op_isN
theorem op_notN' : OpR X (compareOp .IsNot) rNotN1 := op_notN
end
section
variable {K : PySem.W.Frag} {H : Hp} {Q : VK} {x : V}
theorem rd_rstX {p : List Nat} {m g : Nat} (h : ∀ c, p.getLast? = some c → c ≠ g) (hz : p.length + m ≤ sizeLine) (q : Q (.str (tx p)) H) : rRstX (.str (tx (p ++ List.replicate m g))) [.str (tx [g])] H Q := ⟨p, m, g, rfl, rfl, h, hz, q⟩
theorem rd_startX {a b : List Nat} (q : Q (.bl (b.isPrefixOf a)) H) : rStartX (.str (tx a)) [.str (tx b)] H Q := ⟨a, b, rfl, rfl, q⟩
theorem rd_leX {a b : List Nat} (q : Q (.bl (!decide (b < a))) H) : rLeX (.str (tx a)) (.str (tx b)) H Q := ⟨a, b, rfl, rfl, q⟩
theorem rd_isN1 (q : Q (.bl (decide (x = .non))) H) : rIsN1 x .non H Q := ⟨rfl, q⟩
theorem rd_notN1 (q : Q (.bl (!decide (x = .non))) H) : rNotN1 x .non H Q := ⟨rfl, q⟩
theorem rd_eqNilNil {p e : Addr} (h1 : SqL K H p []) (h2 : SqL K H e []) (q : Q (.bl true) H) : rEqD K (.ref p) (.ref e) H Q := ⟨.list [], .list [], .lst h1 .nil, .lst h2 .nil, shaped_ints [], shaped_ints [], by rw [eqv_nil_list]; exact q⟩
theorem rd_neNilNil {p e : Addr} (h1 : SqL K H p []) (h2 : SqL K H e []) (q : Q (.bl false) H) : rNeD K (.ref p) (.ref e) H Q := ⟨.list [], .list [], .lst h1 .nil, .lst h2 .nil, shaped_ints [], shaped_ints [], by rw [eqv_nil_list]; exact q⟩
theorem rd_cat {p q : Addr} {xs ys : List V} (h1 : H p = some (.lst xs)) (h2 : H q = some (.lst ys)) (hz : xs.length + ys.length ≤ sizeLine) (k : ∀ n, H n = none → Q (.ref n) (upd H n (.lst (xs ++ ys)))) : rCat (.ref p) (.ref q) H Q := ⟨p, q, xs, ys, rfl, rfl, h1, h2, hz, k⟩
end
theorem reps_one (n g : Nat) : reps n [g] = List.replicate n g := by
  unfold reps
  induction n with
  | zero => rfl
  | succ n ih => rw [List.replicate_succ, List.flatten_cons, ih]; rfl
theorem atI_m1 {l : List Nat} {c : Nat} (h : l.getLast? = some c) : atI l (-1) = some c := by
  have hne : l ≠ [] := by
    rintro rfl
    cases h
  rw [List.getLast?_eq_getLast hne] at h
  rw [← Option.some.inj h]
  conv => lhs; rw [← List.dropLast_concat_getLast hne]
  exact atI_last _ _
theorem cut_m1 (l : List Nat) (c : Nat) : cutL (l ++ [c]) none (some (-1)) = l := by
  unfold cutL
  have h : HT.sIx (l ++ [c]).length (l ++ [c]).length (some (-1)) = l.length := by
    unfold HT.sIx
    rw [List.length_append]
    simp
    try omega
  rw [HT.sIx_none, h]
  simp
end Un

local macro_rules | `(tactic| walk_at "rd") => `(tactic| first
  | with_reducible refine' Un.rd_seq ?_
  | with_reducible refine' Un.rd_asg ?_
  | with_reducible refine' Un.rd_gname ?_
  | ((with_reducible refine' Un.rd_var ?k1 ?_); (case k1 => rfl))
  | with_reducible refine' Un.rd_c ?_
  | with_reducible refine' Un.rd_op ?_
  | with_reducible refine' Un.rd_I0 ?_
  | with_reducible refine' Un.rd_test ?_
  | with_reducible refine' Un.rd_bl ?_
  | with_reducible refine' Un.rd_ifS ?_
  | with_reducible refine' Un.rd_call ?_
  | with_reducible refine' Un.rd_cons ?_
  | with_reducible refine' Un.rd_nil ?_
  | with_reducible refine' Un.rd_ret ?_
  | with_reducible refine' Un.rd_retN ?_
  | with_reducible refine' Un.rd_drop ?_
  | with_reducible refine' Un.rd_next ?_
  | with_reducible refine' Un.rd_break ?_
  | with_reducible refine' Un.rd_cont ?_
  | with_reducible refine' Un.rd_cb ?_
  | with_reducible refine' Un.rd_bm ?_
  | with_reducible refine' Un.rd_bm0 ?_
  | with_reducible refine' Un.rd_tyS ?_
  | with_reducible refine' Un.rd_lst ?_
  | with_reducible refine' Un.rd_tup ?_
  | with_reducible refine' Un.rd_sl ?_
  | with_reducible refine' Un.rd_part ?_
  | with_reducible refine' Un.rd_some ?_
  | with_reducible refine' Un.rd_nopart ?_
  | with_reducible refine' Un.rd_un ?_
  | with_reducible refine' Un.rd_U ?_
  | with_reducible refine' Un.rd_B ?_
  | with_reducible refine' Un.rd_and ?_
  | with_reducible refine' Un.rd_or ?_
  | with_reducible refine' Un.rd_not ?_
  | with_reducible refine' Un.rd_andV ?_
  | with_reducible refine' Un.rd_orV ?_
  | with_reducible refine' Un.rd_notV ?_
  | with_reducible refine' Un.rd_if ?_
  | with_reducible refine' Un.rd_gsub ?_
  | with_reducible refine' Un.rd_gnil ?_
  | with_reducible refine' Un.rd_gcons ?_
  | with_reducible refine' Un.rd_two ?_
  | with_reducible refine' Un.rd_ltX ?_
  | with_reducible refine' Un.rd_inX ?_
  | ((with_reducible refine' Un.rd_eq ?k1 ?_); (case k1 => rfl))
  | ((with_reducible refine' Un.rd_ne ?k1 ?_); (case k1 => rfl))
  | with_reducible refine' Un.rd_intI ?_
  | with_reducible refine' Un.rd_intB ?_
  | with_reducible refine' Un.rd_strS ?_
  | with_reducible refine' Un.rd_strE ?_
  | with_reducible refine' Un.rd_one ?_
  | with_reducible refine' Un.rd_par ?_
  | with_reducible refine' Un.rd_revL ?_
  | with_reducible refine' Un.rd_lc ?_
  | with_reducible refine' Un.rd_iList ?_
  | with_reducible refine' Un.rd_iStr ?_
  | with_reducible refine' Un.rd_iTup ?_
  | with_reducible refine' Un.rd_for ?_
  | with_reducible refine' Un.rd_rng1 ?_
  | with_reducible refine' Un.rd_rng2 ?_
  | with_reducible refine' Un.rd_yes ?_
  | with_reducible refine' Un.rd_startX ?_
  | with_reducible refine' Un.rd_leX ?_
  | with_reducible refine' Un.rd_isN1 ?_
  | with_reducible refine' Un.rd_notN1 ?_
  | with_reducible refine' Un.rd_maxX ?_
  | with_reducible refine' Un.rd_iEnumX (l := []) ?_)
local macro_rules | `(tactic| walk_at "rds") => `(tactic| repeat walk_at "rd")

namespace Zk02
open PySem PySem.Spec PyProof.Rows L2 Un
def topS (i : Nat) : Stmt := PySem.Challenge.pw_undername_k02_whole_raised_texts_and_roo.main.body.getD i (.Pass ⟨0, 0, 0, 0⟩)
abbrev s_raised : Stmt := topS 1
abbrev n_raised : List Str := ["letters", "text", "head"]
theorem sc_raised : FnScope n_raised ["letters", "text"] (defScope s_raised) := ⟨rfl, rfl, rfl, by decide +kernel, rfl, by decide +kernel, by decide +kernel⟩
abbrev s_room : Stmt := topS 2
abbrev n_room : List Str := ["letters", "low", "high", "added"]
theorem sc_room : FnScope n_room ["letters", "low", "high"] (defScope s_room) := ⟨rfl, rfl, rfl, by decide +kernel, rfl, by decide +kernel, by decide +kernel⟩
abbrev s__law_deal : Stmt := topS 4
abbrev n__law_deal : List Str := ["_law_script", "_law_base", "_law_cell", "_law_cells", "_law_mixed"]
theorem sc__law_deal : FnScope n__law_deal ["_law_script", "_law_base"] (defScope s__law_deal) := ⟨rfl, rfl, rfl, by decide +kernel, rfl, by decide +kernel, by decide +kernel⟩
abbrev s__law_draw : Stmt := topS 5
abbrev n__law_draw : List Str := ["_law_deal_here", "_law_many", "_law_left"]
theorem sc__law_draw : FnScope n__law_draw ["_law_deal_here", "_law_many"] (defScope s__law_draw) := ⟨rfl, rfl, rfl, by decide +kernel, rfl, by decide +kernel, by decide +kernel⟩
abbrev s__law_pick : Stmt := topS 6
abbrev n__law_pick : List Str := ["_law_deal_here", "_law_some"]
theorem sc__law_pick : FnScope n__law_pick ["_law_deal_here", "_law_some"] (defScope s__law_pick) := ⟨rfl, rfl, rfl, by decide +kernel, rfl, by decide +kernel, by decide +kernel⟩
abbrev s__law_letters : Stmt := topS 7
abbrev n__law_letters : List Str := ["_law_deal_here", "_law_many", "_law_signs", "_law_found", "_law_turn", "_law_sign"]
theorem sc__law_letters : FnScope n__law_letters ["_law_deal_here", "_law_many"] (defScope s__law_letters) := ⟨rfl, rfl, rfl, by decide +kernel, rfl, by decide +kernel, by decide +kernel⟩
abbrev s__law_word : Stmt := topS 8
abbrev n__law_word : List Str := ["_law_deal_here", "_law_letters_here", "_law_most", "_law_k"]
theorem sc__law_word : FnScope n__law_word ["_law_deal_here", "_law_letters_here", "_law_most"] (defScope s__law_word) := ⟨rfl, rfl, rfl, by decide +kernel, rfl, by decide +kernel, by decide +kernel⟩
abbrev s__law_tail : Stmt := topS 9
abbrev n__law_tail : List Str := ["_law_deal_here", "_law_letters_here", "_law_sign"]
theorem sc__law_tail : FnScope n__law_tail ["_law_deal_here", "_law_letters_here"] (defScope s__law_tail) := ⟨rfl, rfl, rfl, by decide +kernel, rfl, by decide +kernel, by decide +kernel⟩
abbrev s__law_raised_right : Stmt := topS 10
abbrev n__law_raised_right : List Str := ["_law_deal_here", "_law_letters_here", "_law_text", "_law_told", "_law_others", "_law_near", "_law_below", "_law_turn", "_law_sign", "_law_one"]
theorem sc__law_raised_right : FnScope n__law_raised_right ["_law_deal_here", "_law_letters_here", "_law_text"] (defScope s__law_raised_right) := ⟨rfl, rfl, rfl, by decide +kernel, rfl, by decide +kernel, by decide +kernel⟩
abbrev s__law_walked : Stmt := topS 11
abbrev n__law_walked : List Str := ["_law_letters_here", "_law_low", "_law_high", "_law_many"]
theorem sc__law_walked : FnScope n__law_walked ["_law_letters_here", "_law_low", "_law_high"] (defScope s__law_walked) := ⟨rfl, rfl, rfl, by decide +kernel, rfl, by decide +kernel, by decide +kernel⟩
abbrev s_law : Stmt := topS 12
abbrev n_law : List Str := ["_law_script", "_law_deal_here", "_law_turn", "_law_letters_here", "_law_text", "_law_other", "_law_low", "_law_high"]
theorem sc_law : FnScope n_law ["_law_script"] (defScope s_law) := ⟨rfl, rfl, rfl, by decide +kernel, rfl, by decide +kernel, by decide +kernel⟩
/-- what the module's names hold -/
structure Txt (K : PySem.W.Frag) (mg : Str → Option Value) : Prop where
  a_raised : At K mg "raised" s_raised ["letters", "text"]
  a_room : At K mg "room" s_room ["letters", "low", "high"]
  a__law_deal : At K mg "_law_deal" s__law_deal ["_law_script", "_law_base"]
  a__law_draw : At K mg "_law_draw" s__law_draw ["_law_deal_here", "_law_many"]
  a__law_pick : At K mg "_law_pick" s__law_pick ["_law_deal_here", "_law_some"]
  a__law_letters : At K mg "_law_letters" s__law_letters ["_law_deal_here", "_law_many"]
  a__law_word : At K mg "_law_word" s__law_word ["_law_deal_here", "_law_letters_here", "_law_most"]
  a__law_tail : At K mg "_law_tail" s__law_tail ["_law_deal_here", "_law_letters_here"]
  a__law_raised_right : At K mg "_law_raised_right" s__law_raised_right ["_law_deal_here", "_law_letters_here", "_law_text"]
  a__law_walked : At K mg "_law_walked" s__law_walked ["_law_letters_here", "_law_low", "_law_high"]
  a_law : At K mg "law" s_law ["_law_script"]
  m_int : mg "int" = none
  m_len : mg "len" = none
  m_list : mg "list" = none
  m_range : mg "range" = none
  m_repr : mg "repr" = none
  m_sorted : mg "sorted" = none
  m_str : mg "str" = none
section
variable {P : Program} {w : World} {K : PySem.W.Frag} {mg : Str → Option Value} {base : Heap}
/-- the source of draws stands at D, its great cells at L -/
def Deal (D L : Addr) (H : Hp) : Prop := ∃ (cs : List Int) (m : Int), H D = some (.lst [.ref L, .int m]) ∧ H L = some (.lst (cs.map V.int)) ∧ 0 ≤ m ∧ m < 2147483647 ∧ cs.length ≤ 63
theorem Deal.ne {D L : Addr} {H : Hp} (d : Deal D L H) : D ≠ L := by
  obtain ⟨cs, m, h1, h2, _⟩ := d
  refine ne_of h1 h2 fun z => ?_
  have e : [V.ref L, V.int m] = cs.map V.int := by injection z
  cases cs with
  | nil => simp at e
  | cons c r => simp at e
theorem Deal.keep {D L : Addr} {H H' : Hp} (d : Deal D L H) (s : Same H H') : Deal D L H' := by
  obtain ⟨cs, m, h1, h2, h⟩ := d
  exact ⟨cs, m, s _ _ h1, s _ _ h2, h⟩
theorem Deal.new {D L p : Addr} {H : Hp} (d : Deal D L H) (h : H p = none) : p ≠ D ∧ p ≠ L := by
  obtain ⟨cs, m, h1, h2, _⟩ := d
  exact ⟨(ne_of_none h1 h).symm, (ne_of_none h2 h).symm⟩
def spDraw : Sp := fun vs H Q _ => ∃ (D L : Addr) (n : Int), vs = [.ref D, .int n] ∧ Deal D L H ∧ 0 < n ∧ n < 2 ^ 200 ∧ ∀ (k : Int) (H' : Hp), 0 ≤ k → k < n → Keep D L H H' → Deal D L H' → Q (.int k) H'
theorem cl_draw (T : Txt K mg) : Cl P w K mg base "_law_draw" ["_law_deal_here", "_law_many"] 1 spDraw := cl_of T.a__law_draw fun f fd F => by
  refine F.ok sc__law_draw (fun vs H Q E h => ?_) (fun cdv A outer s H vs Q E hr h => ?_)
  · obtain ⟨D, L, n, rfl, _⟩ := h
    rfl
  · obtain ⟨D, L, n, rfl, d, hn, hn2, q⟩ := h
    refine ⟨_, (Evl.pss_cut (ps_while PassesOwn.never (PW.pt (pw_and (pt_cmpR (op_neD hr.units) (pe_ix ix_list (pv 0) pe_int (fun _ _ => rfl)) (pe_lst pa_nil) (nomark _)) (pw_and1 (pt_cmpR op_eq (pe_ix ix_list (pe_ix ix_list (pv 0) pe_int (fun _ _ => rfl)) (pe_un un_neg pe_int) (fun _ _ => rfl)) pe_int (nomark _)))))
      (pss_one (ps_expr (pe_bm0 PySem.F.plainAttrs_list PySem.F.slot_list_pop PySem.F.type_list_pop mt_pop (pe_ix ix_list (pv 0) pe_int (fun _ _ => rfl))))))
      (pss_cons (ps_if (pt_cmpR (op_neD hr.units) (pe_ix ix_list (pv 0) pe_int (fun _ _ => rfl)) (pe_lst pa_nil) (nomark _))
      (pss_cons (ps_set (i := 2) sc__law_draw.nd rfl (Or.inl rfl) (pe_bm0 PySem.F.plainAttrs_list PySem.F.slot_list_pop PySem.F.type_list_pop mt_pop (pe_ix ix_list (pv 0) pe_int (fun _ _ => rfl))))
      (pss_cons (ps_expr (pe_bm PySem.F.plainAttrs_list PySem.F.slot_list_append PySem.F.type_list_append mt_append (pe_ix ix_list (pv 0) pe_int (fun _ _ => rfl)) (pa_cons (pe_op op_fdivW (pv 2) (pv 1)) pa_nil)))
      (pss_one (ps_ret (pe_op op_mod (pe_callTy call_intI (by rfl) T.m_int (by decide +kernel) (pa_cons (pv 2) pa_nil)) (pv 1))))))
      pss_nil)
      (pss_cons (ps_asg (pe_op op_mod (pe_callTy call_intI (by rfl) T.m_int (by decide +kernel) (pa_cons (pe_op op_mulW (pe_ix ix_list (pv 0) pe_int (fun _ _ => rfl)) pe_int) pa_nil)) pe_int) (pg_sub (pv 0) pe_int set_list))
      (pss_one (ps_ret (pe_op op_mod (pe_callTy call_intI (by rfl) T.m_int (by decide +kernel) (pa_cons (pe_op op_fdivW (pe_ix ix_list (pv 0) pe_int (fun _ _ => rfl)) pe_int) pa_nil)) (pv 1))))))), ?_⟩
    obtain ⟨cs, m, hD, hL, hm⟩ := d
    obtain ⟨hm1, hm2, hm3⟩ := hm
    -- the zeros at the end are thrown away
    refine ⟨fun σ H' => ∃ cs' : List Int, σ = [some (.ref D), some (.int n), none] ∧ cs'.length ≤ 63 ∧ Keep D L H H' ∧ H' D = some (.lst [.ref L, .int m]) ∧ H' L = some (.lst (cs'.map V.int)), ?_, ?_⟩
    · refine ⟨fun k σ H' => ∃ cs' : List Int, σ = [some (.ref D), some (.int n), none] ∧ k = cs'.length ∧ cs'.length ≤ 63 ∧ Keep D L H H' ∧ H' D = some (.lst [.ref L, .int m]) ∧ H' L = some (.lst (cs'.map V.int)), ⟨cs.length, cs, rfl, rfl, hm3, Keep.refl H, hD, hL⟩, ?_⟩
      rintro k σ H1 ⟨cs', rfl, rfl, hlen, kp, h1, h2⟩
      walk_at "rds"
      refine rd_ixL (SqL.of h1) (by rfl) ?_
      walk_at "rds"
      refine ⟨Nat.zero_le _, fun e he => ?_⟩
      have s1 : Same H1 (upd H1 e (.lst [])) := same_upd he
      have h1' := s1 _ _ h1
      have h2' := s1 _ _ h2
      have kp' : Keep D L H (upd H1 e (.lst [])) := kp.trans (Keep.of_same s1)
      refine rd_neNil (SqL.of h2') (SqL.of upd_same) ?_
      generalize upd H1 e (.lst []) = H2 at *
      clear s1
      walk_at "rds"
      refine rd_ite (fun hb => ?_) (fun hb => ?_)
      · -- the last cell
        have hne : cs' ≠ [] := by
          rintro rfl
          simp at hb
        obtain ⟨ys, z, rfl⟩ : ∃ ys z, cs' = ys ++ [z] := ⟨cs'.dropLast, cs'.getLast hne, (List.dropLast_concat_getLast hne).symm⟩
        have h2'' : H2 L = some (.lst (ys.map V.int ++ [.int z])) := by rw [h2', List.map_append]; rfl
        walk_at "rds"
        refine rd_ixL (SqL.of h1') (by rfl) ?_
        walk_at "rds"
        refine rd_ixL (SqL.of h2'') (atI_last _ _) ?_
        walk_at "rds"
        refine rd_ite (fun hz => ?_) (fun hz => ?_)
        · refine ⟨fun σ' H' => ∃ cs' : List Int, σ' = [some (.ref D), some (.int n), none] ∧ cs'.length < ys.length + 1 ∧ Keep D L H H' ∧ H' D = some (.lst [.ref L, .int m]) ∧ H' L = some (.lst (cs'.map V.int)), ?_, ?_⟩
          · rintro σ' H' ⟨cs2, e1, e2, e3, e4, e5⟩
            rw [List.length_append] at hlen
            exact ⟨cs2.length, by simpa using e2, cs2, e1, rfl, by simp at hlen; omega, e3, e4, e5⟩
          · walk_at "rds"
            refine rd_ixL (SqL.of h1') (by rfl) ?_
            refine rd_tyL (SqL.of h2'') ?_
            refine rd_pop h2'' ?_
            have hDL : D ≠ L := ne_of h1' h2'' fun z => by
              injection z with z
              cases ys <;> simp at z
            exact ⟨ys, rfl, Nat.lt_succ_self _, kp'.trans (Keep.own (.inr rfl)), by rw [upd_ne hDL]; exact h1', upd_same⟩
        · exact ⟨_, rfl, hlen, kp', h1', h2'⟩
      · exact ⟨_, rfl, hlen, kp', h1', h2'⟩
    · rintro σ' H1 ⟨cs', rfl, hlen, kp, h1, h2⟩
      walk_at "rds"
      refine rd_ixL (SqL.of h1) (by rfl) ?_
      walk_at "rds"
      refine ⟨Nat.zero_le _, fun e he => ?_⟩
      have s1 : Same H1 (upd H1 e (.lst [])) := same_upd he
      have h1' := s1 _ _ h1
      have h2' := s1 _ _ h2
      have kp' : Keep D L H (upd H1 e (.lst [])) := kp.trans (Keep.of_same s1)
      refine rd_neNil (SqL.of h2') (SqL.of upd_same) ?_
      generalize upd H1 e (.lst []) = H2 at *
      clear s1
      have hd : Deal D L H2 := ⟨cs', m, h1', h2', hm1, hm2, hlen⟩
      have hDL := hd.ne
      walk_at "rds"
      refine rd_ite (fun hb => ?_) (fun hb => ?_)
      · have hne : cs' ≠ [] := by
          rintro rfl
          simp at hb
        obtain ⟨ys, z, rfl⟩ : ∃ ys z, cs' = ys ++ [z] := ⟨cs'.dropLast, cs'.getLast hne, (List.dropLast_concat_getLast hne).symm⟩
        have h2'' : H2 L = some (.lst (ys.map V.int ++ [.int z])) := by rw [h2', List.map_append]; rfl
        rw [List.length_append] at hlen
        simp only [List.length_cons, List.length_nil] at hlen
        walk_at "rds"
        refine rd_ixL (SqL.of h1') (by rfl) ?_
        refine rd_tyL (SqL.of h2'') ?_
        refine rd_pop h2'' ?_
        have h1c : upd H2 L (.lst (ys.map V.int)) D = some (.lst [.ref L, .int m]) := by rw [upd_ne hDL]; exact h1'
        walk_at "rds"
        refine rd_ixL (SqL.of h1c) (by rfl) ?_
        refine rd_tyL (SqL.of upd_same) ?_
        walk_at "rds"
        refine rd_I (wide_div hn (b := 200) (by omega) (by decide) (by decide)) ?_
        walk_at "rds"
        refine rd_app upd_same (by rw [List.length_map]; exact small1000 (by omega)) ?_
        walk_at "rds"
        refine rd_I hn ?_
        rw [upd_upd]
        refine q (z % n) _ (Int.emod_nonneg _ (by omega)) (Int.emod_lt_of_pos _ hn) (kp'.trans (Keep.own (.inr rfl))) ⟨ys ++ [z / n], m, by rw [upd_ne hDL]; exact h1', ?_, hm1, hm2, by simpa using hlen⟩
        rw [upd_same, List.map_append]
        rfl
      · walk_at "rds"
        refine rd_ixL (SqL.of h1') (by rfl) ?_
        walk_at "rds"
        refine rd_I (mulW_of (by omega) (by decide)) ?_
        walk_at "rds"
        refine rd_I (by decide) ?_
        walk_at "rds"
        refine rd_setL h1' (by rfl) ?_
        walk_at "rds"
        refine rd_ixL (SqL.of upd_same) (by rfl) ?_
        walk_at "rds"
        refine rd_I (wide_div (b := 10) (by decide) (by decide) (by decide) (by decide)) ?_
        walk_at "rds"
        refine rd_I hn ?_
        refine q _ _ (Int.emod_nonneg _ (by omega)) (Int.emod_lt_of_pos _ hn) (kp'.trans (Keep.own (.inl rfl))) ⟨cs', m * 48271 % 2147483647, upd_same, by rw [upd_ne hDL.symm]; exact h2', Int.emod_nonneg _ (by decide), Int.emod_lt_of_pos _ (by decide), hlen⟩
/-- the source is made -/
def spDeal (K : PySem.W.Frag) : Sp := fun vs H Q _ => ∃ (a : Addr) (ns : List Int) (b : Int), vs = [.ref a, .int b] ∧ SqL K H a (ns.map V.int) ∧ ns.length ≤ 63 ∧ 0 ≤ b ∧ b ≤ 1000 ∧
  ∀ (D L : Addr) (H' : Hp), H D = none → H L = none → Same H H' → Deal D L H' → Q (.ref D) H'
theorem cl_deal (T : Txt K mg) : Cl P w K mg base "_law_deal" ["_law_script", "_law_base"] 1 (spDeal K) := cl_of T.a__law_deal fun f fd F => by
  refine F.ok sc__law_deal (fun vs H Q E h => ?_) (fun cdv A outer s H vs Q E hr h => ?_)
  · obtain ⟨a, ns, b, rfl, _⟩ := h
    rfl
  · obtain ⟨a, ns, b, rfl, hS, hlen, hb0, hb1, q⟩ := h
    refine ⟨_, (pss_cons (ps_setLc (i := 3) (own := [("_law_cell", 2)]) (g := gName 2) (tt := tYes) (by rfl) sc__law_deal.nd rfl rfl (sw_true rfl rfl rfl (by decide +kernel)) (pi_list (pe_slice sl_list (pv 0) (po_some (pv 1)) (po_some pe_int))) (blkOk_by (own := [("_law_cell", 2)]) (N := n__law_deal) (sc := defScope s__law_deal) (by decide +kernel)) (fun _ _ _ _ _ => (pg_name (i := 2) sc__law_deal.nd rfl (Or.inl rfl))) (fun _ _ _ _ _ => pts_nil) (fun _ _ _ _ _ => (pe_ifExp (pt_cmpR op_gt (pv 2) pe_int (nomark _)) (pv 2) (pe_op op_sub pe_int (pv 2)))))
      (pss_cons (ps_set (i := 4) sc__law_deal.nd rfl (Or.inl rfl) (pe_op op_add pe_int (pe_op op_mulW pe_int (pv 1))))
      (Evl.pss_cut (ps_for PassesOwn.never rfl (pi_list (pv 3)) (pg_name (i := 2) sc__law_deal.nd rfl (Or.inl rfl))
      (pss_one (ps_set (i := 4) sc__law_deal.nd rfl (Or.inl rfl) (pe_op op_mod (pe_callTy call_intI (by rfl) T.m_int (by decide +kernel) (pa_cons (pe_op op_add (pe_op op_mulW (pv 4) pe_int) (pe_op op_mod (pe_callTy call_intI (by rfl) T.m_int (by decide +kernel) (pa_cons (pv 2) pa_nil)) pe_int)) pa_nil)) pe_int))))
      (pss_one (ps_ret (pe_lst (pa_cons (pe_revL (pe_lc (own := [("_law_cell", 2)]) (g := gName 2) (by rfl) sc__law_deal.nd (pi_list (pv 3)) (blkOk_by (own := [("_law_cell", 2)]) (N := n__law_deal) (sc := defScope s__law_deal) (by decide +kernel)) (fun _ _ _ _ _ => (pg_name (i := 2) sc__law_deal.nd rfl (Or.inl rfl))) (fun _ _ _ _ _ => (pts_one (pt_cmpR op_ge (pv 2) (pe_op op_pow pe_int pe_int) (nomark _)))) (fun _ _ _ _ _ => (pv 2)))) (pa_cons (pv 4) pa_nil)))))))), ?_⟩
    walk_at "rds"
    refine rd_slL hS fun p np => ?_
    obtain ⟨zs, ez, hz⟩ := cutV_ints ns (some b) (some 63)
    rw [ez]
    have s1 : Same H (upd H p (.lst (zs.map V.int))) := same_upd np
    have hp : upd H p (.lst (zs.map V.int)) p = some (.lst (zs.map V.int)) := upd_same
    generalize upd H p (.lst (zs.map V.int)) = H1 at *
    refine ⟨_, rfl, ⟨_, SqL.of hp⟩, fun c nc => lc_list (K := K) (a := p) (xs := zs.map V.int) (fun i H' => Same H1 H' ∧ H' c = some (.lst ((zs.take i).map fun z => V.int (if 0 < z then z else 0 - z)))) ⟨same_upd nc, upd_same⟩ (fun i H' _ h => SqL.of (h.1 _ _ hp)) ?_ ?_⟩
    · rintro i x H2 hx ⟨s2, hc⟩
      obtain ⟨z, hz', rfl⟩ := get_map hx
      have hl : i < zs.length := (List.getElem?_eq_some_iff.mp hz').1
      walk_at "rds"
      refine ⟨rfl, ?_⟩
      walk_at "rds"
      refine rd_ite (fun _ => ?_) (fun h => by cases h)
      have hsz : ((zs.take i).map fun z => V.int (if 0 < z then z else 0 - z)).length < sizeLine := by
        rw [List.length_map, List.length_take]
        exact small1000 (by omega)
      walk_at "rds"
      refine rd_ite (fun h0 => ?_) (fun h0 => ?_)
      · walk_at "rds"
        refine ⟨_, hc, hsz, same_mut s2 nc, ?_⟩
        rw [upd_same, take_snoc _ hz', if_pos (of_decide_eq_true h0)]
      · walk_at "rds"
        refine ⟨_, hc, hsz, same_mut s2 nc, ?_⟩
        rw [upd_same, take_snoc _ hz', if_neg (of_decide_eq_false h0)]
    · rintro H2 ⟨s2, hc0⟩
      obtain ⟨cs, hcs, hc⟩ : ∃ cs : List Int, cs.length ≤ 63 ∧ H2 c = some (.lst (cs.map V.int)) := ⟨zs.map fun z => if 0 < z then z else 0 - z, by rw [List.length_map]; omega, by
        rw [hc0, List.length_map, List.take_length, List.map_map]
        rfl⟩
      have sH : Same H H2 := s1.trans s2
      clear hc0 s1 s2 hp nc np ez hz
      walk_at "rds"
      refine rd_I (mulW_of (by decide) (by omega)) ?_
      walk_at "rds"
      -- the number that is mixed
      refine rd_cut (fun σ' H' => ∃ (y : Option V) (m : Int), σ' = [some (.ref a), some (.int b), y, some (.ref c), some (.int m)] ∧ H' = H2 ∧ 0 ≤ m ∧ m < 2147483647) ?_ ?_
      · walk_at "rds"
        refine ⟨_, rfl, ⟨_, SqL.of hc⟩, for_list (K := K) (a := c) (xs := cs.map V.int) (fun i σ' H' => ∃ (y : Option V) (m : Int), σ' = [some (.ref a), some (.int b), y, some (.ref c), some (.int m)] ∧ H' = H2 ∧ 0 ≤ m ∧ m < 2147483647) ⟨none, 32416190 + 17 * b, rfl, rfl, by omega, by omega⟩ (fun i σ' H' _ h => ?_) ?_ (fun σ' H' h => h)⟩
        · obtain ⟨y, m, _, rfl, _⟩ := h
          exact SqL.of hc
        · rintro i x σ' H' hx ⟨y, m, rfl, rfl, hm1, hm2⟩
          obtain ⟨z, hz', rfl⟩ := get_map hx
          walk_at "rds"
          refine rd_I (mulW_of (by omega) (by decide)) ?_
          walk_at "rds"
          refine rd_I (by decide) ?_
          walk_at "rds"
          refine rd_I (by decide) ?_
          walk_at "rds"
          exact ⟨_, _, rfl, rfl, Int.emod_nonneg _ (by decide), Int.emod_lt_of_pos _ (by decide)⟩
      · rintro σ' H' ⟨y, m, rfl, rfl, hm1, hm2⟩
        walk_at "rds"
        refine ⟨_, rfl, ⟨_, SqL.of hc⟩, fun e ne => lc_list (K := K) (a := c) (xs := cs.map V.int) (fun i H3 => Same H' H3 ∧ ∃ ds : List Int, ds.length ≤ i ∧ H3 e = some (.lst (ds.map V.int))) ⟨same_upd ne, [], Nat.le_refl _, upd_same⟩ (fun i H3 _ h => SqL.of (h.1 _ _ hc)) ?_ ?_⟩
        · rintro i x H3 hx ⟨s3, ds, hd, he⟩
          obtain ⟨z, hz', rfl⟩ := get_map hx
          have hl : i < cs.length := (List.getElem?_eq_some_iff.mp hz').1
          walk_at "rds"
          refine ⟨rfl, ?_⟩
          walk_at "rds"
          refine rd_I ⟨by decide, by decide, by decide⟩ ?_
          walk_at "rds"
          refine rd_ite (fun h0 => ?_) (fun h0 => ?_)
          · walk_at "rds"
            refine ⟨_, he, by rw [List.length_map]; exact small1000 (by omega), same_mut s3 ne, ds ++ [z], by simpa using hd, ?_⟩
            rw [upd_same, List.map_append]
            rfl
          · exact ⟨s3, ds, by omega, he⟩
        · rintro H3 ⟨s3, ds, hd, he⟩
          rw [List.length_map] at hd
          refine ⟨e, _, rfl, SqL.of he, fun l nl => ?_⟩
          have e1 : (ds.map V.int).reverse = ds.reverse.map V.int := by rw [List.map_reverse]
          rw [e1]
          walk_at "rds"
          refine ⟨(by show 2 ≤ sizeLine; decide), fun d nd => ?_⟩
          have s4 : Same H3 (upd H3 l (.lst (ds.reverse.map V.int))) := same_upd nl
          have s5 := same_upd (o := .lst [V.ref l, V.int m]) nd
          have nl2 : H l = none := (sH.trans s3).free nl
          refine q d l _ ((sH.trans (s3.trans s4)).free nd) nl2 (sH.trans (s3.trans (s4.trans s5))) ⟨ds.reverse, m, upd_same, ?_, hm1, hm2, by rw [List.length_reverse]; omega⟩
          rw [upd_ne (ne_of_none upd_same nd), upd_same]
/-- a sequence to pick from: a list, or a text by its sgs -/
def SeqV (K : PySem.W.Frag) (H : Hp) (D L : Addr) (v : V) (ys : List V) : Prop := (∃ a, v = .ref a ∧ a ≠ D ∧ a ≠ L ∧ SqL K H a ys) ∨ (∃ l, v = .str (tx l) ∧ ys = sgs l)
def spPick (K : PySem.W.Frag) : Sp := fun vs H Q _ => ∃ (D L : Addr) (v : V) (ys : List V), vs = [.ref D, v] ∧ Deal D L H ∧ SeqV K H D L v ys ∧ 0 < ys.length ∧ ys.length ≤ 1000 ∧ ∀ (x : V) (H' : Hp), x ∈ ys → Keep D L H H' → Deal D L H' → Q x H'
theorem keep_seq {K : PySem.W.Frag} {H H' : Hp} {D L a : Addr} {ys : List V} (k : Keep D L H H') (h1 : a ≠ D) (h2 : a ≠ L) (h : SqL K H a ys) : SqL K H' a ys := by
  rcases h with (h | ⟨o, h⟩) | h
  · exact .inl (.inl (k _ _ h h1 h2))
  · exact .inl (.inr ⟨o, k _ _ h h1 h2⟩)
  · exact .inr h
theorem cl_pick (T : Txt K mg) : Cl P w K mg base "_law_pick" ["_law_deal_here", "_law_some"] 2 (spPick K) := cl_of T.a__law_pick fun f fd F => by
  have C__law_draw := cl_draw (P := P) (w := w) (base := base) T
  refine F.ok sc__law_pick (fun vs H Q E h => ?_) (fun cdv A outer s H vs Q E hr h => ?_)
  · obtain ⟨D, L, v, ys, rfl, _⟩ := h
    rfl
  · obtain ⟨D, L, v, ys, rfl, hd, hS, h0, h1, q⟩ := h
    refine ⟨_, (pss_one (ps_ret (pe_ix ix_any (pv 1) (pe_cl C__law_draw (hr.mono (by decide)) (by rfl) (pa_cons (pv 0) (pa_cons (pe_callB call_lenA (by rfl) T.m_len (by decide +kernel) (pa_cons (pv 1) pa_nil)) pa_nil))) (fun _ _ => rfl)))), ?_⟩
    walk_at "rds"
    refine rd_lenA (ys := ys) ?_ ?_
    · rcases hS with ⟨a, rfl, h2, h3, h4⟩ | ⟨l, rfl, rfl⟩
      · exact .inl ⟨a, rfl, h4⟩
      · exact .inr ⟨l, rfl, rfl, by rw [← sgs_len]; exact Nat.le_of_lt (small1000 h1)⟩
    walk_at "rds"
    refine ⟨D, L, _, rfl, hd, by omega, by omega, fun k H' hk1 hk2 kp hd' => ?_⟩
    obtain ⟨j, rfl⟩ := Int.eq_ofNat_of_zero_le hk1
    have hj : j < ys.length := by omega
    refine rd_ixA (ys := ys) (j := j) (x := ys[j]) ?_ (List.getElem?_eq_getElem hj) ?_
    · rcases hS with ⟨a, rfl, h2, h3, h4⟩ | ⟨l, rfl, rfl⟩
      · exact .inl ⟨a, rfl, keep_seq kp h2 h3 h4⟩
      · exact .inr ⟨l, rfl, rfl, by rw [← sgs_len]; exact Nat.le_of_lt (small1000 h1)⟩
    · exact q _ _ (List.getElem_mem hj) kp hd'
end
section
variable {P : Program} {w : World} {K : PySem.W.Frag} {mg : Str → Option Value} {base : Heap}
def alphabet : List Nat := [45, 46, 47, 48, 49, 50, 51, 52, 53, 54, 55, 56, 57, 95, 97, 98, 99, 100, 101, 102, 103, 104, 105, 106, 107, 108, 109, 110, 111, 112, 113, 114, 115, 116, 117, 118, 119, 120, 121, 122]
theorem alphabet_nodup : alphabet.Nodup := by decide
def spLetters : Sp := fun vs H Q _ => ∃ (D L : Addr) (n : Int), vs = [.ref D, .int n] ∧ Deal D L H ∧ 0 ≤ n ∧ n ≤ 39 ∧
  ∀ (ls : List Nat) (H' : Hp), (ls.length : Int) = n → ls.Pairwise (· < ·) → (∀ c ∈ ls, c ∈ alphabet) → Keep D L H H' → Deal D L H' → Q (.str (tx ls)) H'
theorem cl_letters (T : Txt K mg) : Cl P w K mg base "_law_letters" ["_law_deal_here", "_law_many"] 2 spLetters := cl_of T.a__law_letters fun f fd F => by
  have C__law_draw := cl_draw (P := P) (w := w) (base := base) T
  refine F.ok sc__law_letters (fun vs H Q E h => ?_) (fun cdv A outer s H vs Q E hr h => ?_)
  · obtain ⟨D, L, v, rfl, _⟩ := h
    rfl
  · obtain ⟨D, L, n, rfl, hd, h0, h1, q⟩ := h
    refine ⟨_, (pss_cons (ps_par (i := 2) (j := 3) (by rfl) sc__law_letters.nd rfl rfl (by decide) rfl rfl (pa_cons (pe_callTy (call_listX rfl) (by rfl) T.m_list (by decide +kernel) (pa_cons (pe_strX [45, 46, 47, 48, 49, 50, 51, 52, 53, 54, 55, 56, 57, 95, 97, 98, 99, 100, 101, 102, 103, 104, 105, 106, 107, 108, 109, 110, 111, 112, 113, 114, 115, 116, 117, 118, 119, 120, 121, 122] (by decide +kernel)) pa_nil)) (pa_cons (pe_lst pa_nil) pa_nil)) (by rfl))
      (Evl.pss_cut (ps_for PassesOwn.never rfl (pi_range1 (by rfl) T.m_range (pa_cons (pv 1) pa_nil)) (pg_name (i := 4) sc__law_letters.nd rfl (Or.inl rfl))
      (pss_one (ps_expr (pe_bm PySem.F.plainAttrs_list PySem.F.slot_list_append PySem.F.type_list_append mt_append (pv 3) (pa_cons (pe_bm PySem.F.plainAttrs_list PySem.F.slot_list_pop PySem.F.type_list_pop mt_popAt (pv 2) (pa_cons (pe_cl C__law_draw (hr.mono (by decide)) (by rfl) (pa_cons (pv 0) (pa_cons (pe_callB call_lenQ (by rfl) T.m_len (by decide +kernel) (pa_cons (pv 2) pa_nil)) pa_nil))) pa_nil)) pa_nil)))))
      (pss_one (ps_ret (pe_bm PySem.F.plainAttrs_str PySem.F.slot_str_join PySem.F.type_str_join mt_joinX (pe_strX [] (by decide +kernel)) (pa_cons (pe_callB cr_sortedS (by rfl) T.m_sorted (by decide +kernel) (pa_cons (pe_lc (own := [("_law_sign", 5)]) (g := gName 5) (tt := tYes) (by rfl) sc__law_letters.nd (pi_list (pv 3)) (blkOk_by (own := [("_law_sign", 5)]) (N := n__law_letters) (sc := defScope s__law_letters) (by decide +kernel)) (fun _ _ _ _ _ => (pg_name (i := 5) sc__law_letters.nd rfl (Or.inl rfl))) (fun _ _ _ _ _ => pts_nil) (fun _ _ _ _ _ => (pe_callTy call_strS (by rfl) T.m_str (by decide +kernel) (pa_cons (pv 5) pa_nil)))) pa_nil)) pa_nil)))))), ?_⟩
    walk_at "rds"
    refine rd_listX (l := alphabet) (by decide) fun s ns => ?_
    have s1 : Same H (upd H s (.lst (sgs alphabet))) := same_upd ns
    have hs1 : upd H s (.lst (sgs alphabet)) s = some (.lst (sgs alphabet)) := upd_same
    generalize upd H s (.lst (sgs alphabet)) = H1 at *
    walk_at "rds"
    refine ⟨Nat.zero_le _, fun g ng => ?_⟩
    have s2 : Same H1 (upd H1 g (.lst [])) := same_upd ng
    have hg1 : upd H1 g (.lst []) g = some (.lst []) := upd_same
    have hs2 := s2 _ _ hs1
    have hgs : g ≠ s := (ne_of_none hs1 ng).symm
    have ng0 : H g = none := s1.free ng
    generalize upd H1 g (.lst []) = H2 at *
    walk_at "rds"
    have hd2 := hd.keep (s1.trans s2)
    have sH := s1.trans s2
    obtain ⟨cs, m, hD, hL, _⟩ := id hd
    have sD : s ≠ D := (ne_of_none hD ns).symm
    have sL : s ≠ L := (ne_of_none hL ns).symm
    have gD : g ≠ D := (ne_of_none hD ng0).symm
    have gL : g ≠ L := (ne_of_none hL ng0).symm
    clear hD hL
    refine rd_cut (fun σ' H' => ∃ (y : Option V) (fs : List Nat), σ' = [some (.ref D), some (.int n), some (.ref s), some (.ref g), y, none] ∧ (fs.length : Int) = n ∧ fs.Nodup ∧ (∀ c ∈ fs, c ∈ alphabet) ∧ Keep D L H H' ∧ Deal D L H' ∧ H' g = some (.lst (sgs fs))) ?_ ?_
    · walk_at "rds"
      refine ⟨n, rfl, by omega, by omega, for_range (lo := 0) (n := n.toNat) (fun i σ' H' => ∃ (y : Option V) (fs zs : List Nat), σ' = [some (.ref D), some (.int n), some (.ref s), some (.ref g), y, none] ∧ fs.length = i ∧ (zs ++ fs).Perm alphabet ∧ Keep D L H H' ∧ Deal D L H' ∧ H' g = some (.lst (sgs fs)) ∧ H' s = some (.lst (sgs zs)))
        ⟨none, [], alphabet, rfl, rfl, by rw [List.append_nil], Keep.of_same sH, hd2, hg1, hs2⟩ ?_ ?_⟩
      · rintro i σ' H' hi ⟨y, fs, zs, rfl, hl, hp, kp, hd', hg', hs'⟩
        have hlen : zs.length + fs.length = 40 := by
          have := hp.length_eq
          rw [List.length_append] at this
          exact this
        walk_at "rds"
        refine rd_tyL (SqL.of hg') ?_
        walk_at "rds"
        refine rd_tyL (SqL.of hs') ?_
        walk_at "rds"
        refine rd_lenL (SqL.of hs') ?_
        walk_at "rds"
        rw [sgs_len]
        refine ⟨D, L, _, rfl, hd', by omega, by omega, fun k H3 hk1 hk2 kp3 hd3 => ?_⟩
        obtain ⟨j, rfl⟩ := Int.eq_ofNat_of_zero_le hk1
        have hj : j < zs.length := by omega
        have hs3 := kp3 _ _ hs' sD sL
        have hg3 := kp3 _ _ hg' gD gL
        walk_at "rds"
        refine rd_popAt (i := j) (y := V.str (tx [zs[j]])) hs3 (by omega) (by unfold sgs; rw [List.getElem?_map, List.getElem?_eq_getElem hj]; rfl) ?_
        rw [sgs_erase]
        have hd4 : Deal D L (upd H3 s (.lst (sgs (zs.eraseIdx j)))) := by
          obtain ⟨c1, m1, a1, a2, a3⟩ := hd3
          exact ⟨c1, m1, by rw [upd_ne sD.symm]; exact a1, by rw [upd_ne sL.symm]; exact a2, a3⟩
        have kp4 : Keep D L H (upd H3 s (.lst (sgs (zs.eraseIdx j)))) := (kp.trans kp3).mut ns
        have hg4 : upd H3 s (.lst (sgs (zs.eraseIdx j))) g = some (.lst (sgs fs)) := by rw [upd_ne hgs]; exact hg3
        have hs4 : upd H3 s (.lst (sgs (zs.eraseIdx j))) s = some (.lst (sgs (zs.eraseIdx j))) := upd_same
        generalize upd H3 s (.lst (sgs (zs.eraseIdx j))) = H4 at *
        walk_at "rds"
        refine rd_app hg4 (by rw [sgs_len]; exact small1000 (by omega)) ?_
        refine ⟨_, fs ++ [zs[j]], zs.eraseIdx j, rfl, by rw [List.length_append]; simp; exact hl, ?_, kp4.mut ng0, ?_, ?_, ?_⟩
        · have e1 := eraseIdx_perm (List.getElem?_eq_getElem hj)
          have e2 : (zs.eraseIdx j ++ (fs ++ [zs[j]])).Perm ((zs[j] :: zs.eraseIdx j) ++ fs) := by
            rw [← List.append_assoc]
            exact (List.perm_append_singleton _ _)
          exact e2.trans ((e1.append_right fs).trans hp)
        · obtain ⟨c1, m1, a1, a2, a3⟩ := hd4
          exact ⟨c1, m1, by rw [upd_ne gD.symm]; exact a1, by rw [upd_ne gL.symm]; exact a2, a3⟩
        · rw [upd_same]
          unfold sgs
          rw [List.map_append]
          rfl
        · rw [upd_ne hgs.symm]
          exact hs4
      · rintro σ' H' ⟨y, fs, zs, rfl, hl, hp, kp, hd', hg', hs'⟩
        have nd : (zs ++ fs).Nodup := hp.nodup_iff.mpr alphabet_nodup
        exact ⟨y, fs, rfl, by omega, (List.nodup_append.mp nd).2.1, fun c hc => hp.mem_iff.mp (List.mem_append_right _ hc), kp, hd', hg'⟩
    · rintro σ' H' ⟨y, fs, rfl, hl, nd, hmem, kp, hd', hg'⟩
      walk_at "rds"
      refine ⟨_, rfl, ⟨_, SqL.of hg'⟩, fun e ne => lc_list (K := K) (a := g) (xs := sgs fs) (fun i H3 => Same H' H3 ∧ H3 e = some (.lst (sgs (fs.take i)))) ⟨same_upd ne, upd_same⟩ (fun i H3 _ h => SqL.of (h.1 _ _ hg')) ?_ ?_⟩
      · rintro i x H3 hx ⟨s3, he⟩
        obtain ⟨c, hc, rfl⟩ := get_map hx
        have hl' : i < fs.length := (List.getElem?_eq_some_iff.mp hc).1
        walk_at "rds"
        refine ⟨rfl, ?_⟩
        walk_at "rds"
        refine rd_ite (fun _ => ?_) (fun h => by cases h)
        walk_at "rds"
        refine ⟨_, he, by rw [sgs_len, List.length_take]; exact small1000 (by omega), same_mut s3 ne, ?_⟩
        rw [upd_same]
        unfold sgs
        rw [take_snoc _ hc]
      · rintro H3 ⟨s3, he⟩
        rw [sgs_len, List.take_length] at he
        have he' : H3 e = some (.lst ((fs.map fun c => tx [c]).map V.str)) := by rw [he, List.map_map]; rfl
        walk_at "rds"
        refine rd_sortS (SqL.of he') (by rw [List.length_map]; omega) fun ys p hp hso np => ?_
        obtain ⟨ks, rfl, hk, hlt⟩ := sorted_signs hp hso nd
        walk_at "rds"
        refine rd_joinX (ls := ks.map fun c => [c]) (SqL.of (by rw [upd_same, List.map_map, List.map_map]; rfl)) ?_ ?_
        · have : (List.map List.length (ks.map fun c => [c])).sum = ks.length := by
            rw [List.map_map]
            have : (List.length ∘ fun c : Nat => [c]) = fun _ => 1 := rfl
            rw [this, List.map_const', List.sum_replicate_nat]
            omega
          rw [this, hk.length_eq]
          omega
        · rw [flat_ones]
          have kp3 : Keep D L H (upd H3 p (.lst ((ks.map fun c => tx [c]).map V.str))) := kp.trans (Keep.of_same (s3.trans (same_upd np)))
          exact q ks _ (by rw [hk.length_eq]; exact hl) hlt (fun c hc => hmem c (hk.mem_iff.mp hc)) kp3 (hd'.keep (s3.trans (same_upd np)))
def spWord : Sp := fun vs H Q _ => ∃ (D L : Addr) (ls : List Nat) (n : Int), vs = [.ref D, .str (tx ls), .int n] ∧ Deal D L H ∧ ls ≠ [] ∧ ls.length ≤ 100 ∧ 0 ≤ n ∧ n ≤ 100 ∧
  ∀ (t : List Nat) (H' : Hp), (∀ c ∈ t, c ∈ ls) → (t.length : Int) ≤ n → Keep D L H H' → Deal D L H' → Q (.str (tx t)) H'
theorem cl_word (T : Txt K mg) : Cl P w K mg base "_law_word" ["_law_deal_here", "_law_letters_here", "_law_most"] 3 spWord := cl_of T.a__law_word fun f fd F => by
  have C__law_draw := cl_draw (P := P) (w := w) (base := base) T
  have C__law_pick := cl_pick (P := P) (w := w) (base := base) T
  refine F.ok sc__law_word (fun vs H Q E h => ?_) (fun cdv A outer s H vs Q E hr h => ?_)
  · obtain ⟨D, L, ls, n, rfl, _⟩ := h
    rfl
  · obtain ⟨D, L, ls, n, rfl, hd, hne, hls, h0, h1, q⟩ := h
    have hpos : 0 < ls.length := List.length_pos_iff.mpr hne
    refine ⟨_, (pss_one (ps_ret (pe_bm PySem.F.plainAttrs_str PySem.F.slot_str_join PySem.F.type_str_join mt_joinX (pe_strX [] (by decide +kernel)) (pa_cons (pe_lc (own := [("_law_k", 3)]) (g := gName 3) (tt := tYes) (by rfl) sc__law_word.nd (pi_range1 (by rfl) T.m_range (pa_cons (pe_cl C__law_draw (hr.mono (by decide)) (by rfl) (pa_cons (pv 0) (pa_cons (pe_op op_add (pv 2) pe_int) pa_nil))) pa_nil)) (blkOk_by (own := [("_law_k", 3)]) (N := n__law_word) (sc := defScope s__law_word) (by decide +kernel)) (fun _ _ _ _ _ => (pg_name (i := 3) sc__law_word.nd rfl (Or.inl rfl))) (fun _ _ _ _ _ => pts_nil) (fun _ _ _ _ _ => (pe_cl C__law_pick (hr.mono (by decide)) (by rfl) (pa_cons (pv 0) (pa_cons (pv 1) pa_nil))))) pa_nil)))), ?_⟩
    walk_at "rds"
    refine ⟨D, L, _, rfl, hd, by omega, by omega, fun k H1 hk1 hk2 kp hd1 => ?_⟩
    refine ⟨k, rfl, by omega, by omega, fun e ne => lc_range (lo := 0) (n := k.toNat) (fun i H3 => ∃ t : List Nat, t.length = i ∧ (∀ c ∈ t, c ∈ ls) ∧ Keep D L H1 H3 ∧ Deal D L H3 ∧ H3 e = some (.lst (sgs t))) ⟨[], rfl, (fun _ h => by cases h), Keep.of_same (same_upd ne), hd1.keep (same_upd ne), upd_same⟩ ?_ ?_⟩
    · rintro i H3 hi ⟨t, ht, hmem, kp3, hd3, he⟩
      obtain ⟨cs, m, hD, hL, _⟩ := id hd1
      have eD : e ≠ D := (ne_of_none hD ne).symm
      have eL : e ≠ L := (ne_of_none hL ne).symm
      walk_at "rds"
      refine ⟨rfl, ?_⟩
      walk_at "rds"
      refine rd_ite (fun _ => ?_) (fun h => by cases h)
      walk_at "rds"
      refine ⟨D, L, _, sgs ls, rfl, hd3, .inr ⟨ls, rfl, rfl⟩, by rw [sgs_len]; exact hpos, by rw [sgs_len]; omega, fun x H4 hx kp4 hd4 => ?_⟩
      obtain ⟨c, hc, rfl⟩ := List.mem_map.mp hx
      have he4 := kp4 _ _ he eD eL
      refine ⟨_, he4, by rw [sgs_len]; exact small1000 (by omega), t ++ [c], by simp [ht], ?_, (kp3.trans kp4).mut ne, ?_, ?_⟩
      · intro d hd'
        rcases List.mem_append.mp hd' with h | h
        · exact hmem d h
        · rw [List.mem_singleton.mp h]; exact hc
      · obtain ⟨c1, m1, a1, a2, a3⟩ := hd4
        exact ⟨c1, m1, by rw [upd_ne eD.symm]; exact a1, by rw [upd_ne eL.symm]; exact a2, a3⟩
      · rw [upd_same]
        unfold sgs
        rw [List.map_append]
        rfl
    · rintro H3 ⟨t, ht, hmem, kp3, hd3, he⟩
      walk_at "rds"
      refine rd_joinX (ls := t.map fun c => [c]) (SqL.of (by rw [he, List.map_map]; rfl)) ?_ ?_
      · have : (List.map List.length (t.map fun c => [c])).sum = t.length := by
          rw [List.map_map]
          have : (List.length ∘ fun c : Nat => [c]) = fun _ => 1 := rfl
          rw [this, List.map_const', List.sum_replicate_nat]
          omega
        rw [this]
        omega
      · rw [flat_ones]
        exact q t _ hmem (by omega) (kp.trans kp3) hd3
end

section
variable {P : Program} {w : World} {K : PySem.W.Frag} {mg : Str → Option Value} {base : Heap}
/-- letters as the functions take them -/
structure Lets (ls : List Nat) : Prop where
  lo : 2 ≤ ls.length
  hi : ls.length ≤ 5
  up : ls.Pairwise (· < ·)
theorem Lets.nd {ls : List Nat} (h : Lets ls) : ls.Nodup := h.up.imp fun h => Nat.ne_of_lt h
theorem sz_of' {n : Nat} (h : n ≤ 1000) : n ≤ sizeLine := Nat.le_of_lt (small1000 h)
def ToldOk (ls p : List Nat) (told : V) : Prop := (p = [] ∧ told = .non) ∨ ∃ h c d i, p = h ++ [c] ∧ ls[i]? = some c ∧ ls[i + 1]? = some d ∧ told = .str (tx (h ++ [d]))
def spRaised : Sp := fun vs H Q _ => ∃ (ls p : List Nat) (m g : Nat), vs = [.str (tx ls), .str (tx (p ++ List.replicate m g))] ∧ Lets ls ∧ ls.getLast? = some g ∧ (∀ c ∈ p, c ∈ ls) ∧ p.length + m ≤ 100 ∧
  (∀ c, p.getLast? = some c → c ≠ g) ∧ ∀ told, ToldOk ls p told → Q told H
theorem next_letter {ls : List Nat} {g c : Nat} (hg : ls.getLast? = some g) (hc : c ∈ ls) (hn : c ≠ g) : ∃ i d, ls[i]? = some c ∧ ls[i + 1]? = some d := by
  obtain ⟨i, hi⟩ := List.getElem?_of_mem hc
  have hl : i < ls.length := (List.getElem?_eq_some_iff.mp hi).1
  have hne : i + 1 ≠ ls.length := by
    intro e
    rw [List.getLast?_eq_getElem?, show ls.length - 1 = i by omega, hi] at hg
    exact hn (Option.some.inj hg)
  exact ⟨i, ls[i + 1]'(by omega), hi, List.getElem?_eq_getElem (by omega)⟩
theorem cl_raised (T : Txt K mg) : Cl P w K mg base "raised" ["letters", "text"] 1 spRaised := cl_of T.a_raised fun f fd F => by
  refine F.ok sc_raised (fun vs H Q E h => ?_) (fun cdv A outer s H vs Q E hr h => ?_)
  · obtain ⟨ls, p, m, g, rfl, _⟩ := h
    rfl
  · obtain ⟨ls, p, m, g, rfl, hL, hg, hp, hz, hlast, q⟩ := h
    have hhi := hL.hi
    refine ⟨_, (pss_cons (ps_set (i := 2) sc_raised.nd rfl (Or.inl rfl) (pe_bm PySem.F.plainAttrs_str PySem.F.slot_str_rstrip PySem.F.type_str_rstrip mt_rstX (pv 1) (pa_cons (pe_ix ix_strX (pv 0) (pe_un un_neg pe_int) (fun _ _ => rfl)) pa_nil)))
      (pss_cons (ps_if (pt_cmpR op_eq (pv 2) (pe_strX [] (by decide +kernel)) (nomark _))
      (pss_one (ps_ret pe_non))
      pss_nil)
      (pss_one (ps_ret (pe_op op_addX (pe_slice sl_strX (pv 2) po_none (po_some (pe_un un_neg pe_int))) (pe_ix ix_strX (pv 0) (pe_op op_add (pe_bm PySem.F.plainAttrs_str PySem.F.slot_str_index PySem.F.type_str_index mt_indexT (pv 0) (pa_cons (pe_ix ix_strX (pv 2) (pe_un un_neg pe_int) (fun _ _ => rfl)) pa_nil)) pe_int) (fun _ _ => rfl))))))), ?_⟩
    walk_at "rds"
    refine rd_ixX (sz_of' (by omega)) (atI_m1 hg) ?_
    walk_at "rds"
    refine rd_rstX hlast (sz_of' (by omega)) ?_
    walk_at "rds"
    rcases List.eq_nil_or_concat p with rfl | ⟨h, c, rfl⟩
    · refine rd_ite (fun _ => ?_) (fun h => by simp at h)
      walk_at "rds"
      exact q _ (.inl ⟨rfl, rfl⟩)
    · rw [List.concat_eq_append] at *
      refine rd_ite (fun h => ?_) (fun _ => ?_)
      · have h1 := of_decide_eq_true h
        injection h1 with h1
        have h2 := tx_inj h1
        simp at h2
      · have hc : c ∈ ls := hp c (by simp)
        obtain ⟨i, d, hi, hd⟩ := next_letter hg hc (hlast c (by simp))
        have hlen : (h ++ [c]).length ≤ 100 := by omega
        walk_at "rds"
        refine rd_slX (sz_of' (by omega)) ?_
        walk_at "rds"
        refine rd_ixX (sz_of' (by omega)) (atI_last h c) ?_
        walk_at "rds"
        refine rd_indexX hL.nd hi ?_
        walk_at "rds"
        refine rd_ixX (n := d) (sz_of' (by omega)) (atI_nat (j := i + 1) hd) ?_
        rw [show cutL (h ++ [c]) none (some (-1)) = h from cut_m1 h c]
        refine rd_addX (sz_of' (by simp at hlen; simp; omega)) ?_
        exact q _ (.inr ⟨h, c, d, i, rfl, hi, hd, rfl⟩)
theorem app_lt : ∀ (p x y : List Nat), p ++ x < p ++ y ↔ x < y
  | [], x, y => Iff.rfl
  | a :: p, x, y => by
    rw [List.cons_append, List.cons_append, List.cons_lt_cons_iff]
    have ih := app_lt p x y
    constructor
    · rintro (h | ⟨_, h⟩)
      · omega
      · exact ih.mp h
    · exact fun h => .inr ⟨rfl, ih.mpr h⟩
theorem rep_lt (a : Nat) : ∀ k n : Nat, List.replicate k a < List.replicate n a ↔ k < n
  | 0, 0 => by simp
  | 0, n + 1 => by simp [List.replicate_succ]
  | k + 1, 0 => by simp [List.replicate_succ]
  | k + 1, n + 1 => by
    rw [List.replicate_succ, List.replicate_succ, List.cons_lt_cons_iff]
    have ih := rep_lt a k n
    constructor
    · rintro (h | ⟨_, h⟩)
      · omega
      · have := ih.mp h
        omega
    · exact fun h => .inr ⟨rfl, ih.mpr (by omega)⟩
/-- the room from low up to high, a the least letter -/
def roomV (a : Nat) (low high : List Nat) : V :=
  if low < high then (if high = low ++ List.replicate (high.length - low.length) a then .int ((high.length - low.length : Nat) : Int) else .non) else .int 0
def spRoom : Sp := fun vs H Q _ => ∃ (ls low : List Nat) (hv : V) (a : Nat), vs = [.str (tx ls), .str (tx low), hv] ∧ ls[0]? = some a ∧ ls.length ≤ 5 ∧ low.length ≤ 100 ∧
  ((hv = .non ∧ Q .non H) ∨ ∃ high, hv = .str (tx high) ∧ high.length ≤ 100 ∧ Q (roomV a low high) H)
theorem cl_room (T : Txt K mg) : Cl P w K mg base "room" ["letters", "low", "high"] 1 spRoom := cl_of T.a_room fun f fd F => by
  refine F.ok sc_room (fun vs H Q E h => ?_) (fun cdv A outer s H vs Q E hr h => ?_)
  · obtain ⟨ls, low, hv, a, rfl, _⟩ := h
    rfl
  · obtain ⟨ls, low, hv, a, rfl, ha, hl, hlow, hq⟩ := h
    refine ⟨_, (pss_cons (ps_if (pt_cmpR op_isN' (pv 2) pe_non (nomark _))
      (pss_one (ps_ret pe_non))
      pss_nil)
      (pss_cons (ps_if (pt_cmpR op_leX (pv 2) (pv 1) (nomark _))
      (pss_one (ps_ret pe_int))
      pss_nil)
      (pss_cons (ps_set (i := 3) sc_room.nd rfl (Or.inl rfl) (pe_op op_sub (pe_callB call_lenX (by rfl) T.m_len (by decide +kernel) (pa_cons (pv 2) pa_nil)) (pe_callB call_lenX (by rfl) T.m_len (by decide +kernel) (pa_cons (pv 1) pa_nil))))
      (pss_cons (ps_if (pt_cmpR op_eq (pv 2) (pe_op op_addX (pv 1) (pe_op op_mulT (pe_ix ix_strX (pv 0) pe_int (fun _ _ => rfl)) (pv 3))) (nomark _))
      (pss_one (ps_ret (pv 3)))
      pss_nil)
      (pss_one (ps_ret pe_non)))))), ?_⟩
    walk_at "rds"
    rcases hq with ⟨rfl, q⟩ | ⟨high, rfl, hhigh, q⟩
    · refine rd_ite (fun _ => ?_) (fun h => by simp at h)
      walk_at "rds"
      exact q
    · refine rd_ite (fun h => by simp at h) (fun _ => ?_)
      walk_at "rds"
      refine rd_ite (fun h => ?_) (fun h => ?_)
      · have h1 : ¬ low < high := by simpa using h
        walk_at "rds"
        unfold roomV at q
        rw [if_neg h1] at q
        exact q
      · have h1 : low < high := by
          simp at h
          exact h
        unfold roomV at q
        rw [if_pos h1] at q
        walk_at "rds"
        refine rd_lenX (sz_of' (by omega)) ?_
        walk_at "rds"
        refine rd_lenX (sz_of' (by omega)) ?_
        walk_at "rds"
        refine rd_ixX (sz_of' (by omega)) (atI_nat (j := 0) ha) ?_
        walk_at "rds"
        have e : ((high.length : Int) - (low.length : Int)).toNat = high.length - low.length := by omega
        refine rd_mulX (by omega) (by omega) (by rw [e]; simp; omega) ?_
        rw [e, reps_one]
        refine rd_addX (sz_of' (by rw [List.length_replicate]; omega)) ?_
        walk_at "rds"
        refine rd_ite (fun h => ?_) (fun h => ?_)
        · have h2 : high = low ++ List.replicate (high.length - low.length) a := by
            have := of_decide_eq_true h
            injection this with this
            exact tx_inj this
          rw [if_pos h2] at q
          have e2 : (((high.length - low.length : Nat) : Int)) = (high.length : Int) - (low.length : Int) := by
            have := congrArg List.length h2
            rw [List.length_append, List.length_replicate] at this
            omega
          rw [e2] at q
          walk_at "rds"
          exact q
        · have h2 : ¬ high = low ++ List.replicate (high.length - low.length) a := fun e => by
            have := of_decide_eq_false h
            exact this (congrArg (fun z => V.str (tx z)) e)
          rw [if_neg h2] at q
          walk_at "rds"
          exact q
/-- how far a walk by least letters has come -/
theorem walk_eq {a : Nat} {low high : List Nat} {k : Nat} (hk : 0 < k) (hlt : low ++ List.replicate (k - 1) a < high) (e : high = low ++ List.replicate (high.length - low.length) a) : k ≤ high.length - low.length := by
  rw [e] at hlt
  have h := (app_lt low _ _).mp hlt
  have h2 := (rep_lt a _ _).mp h
  omega
theorem lt_of_app {low high x : List Nat} (h : low ++ x < high) : low < high := by
  rcases x with _ | ⟨c, x⟩
  · rw [List.append_nil] at h
    exact h
  · have h1 : low ++ [] < low ++ (c :: x) := (app_lt low _ _).mpr (by simp)
    rw [List.append_nil] at h1
    exact List.lt_trans h1 h
def spWalked : Sp := fun vs H Q _ => ∃ (ls low high : List Nat) (a : Nat), vs = [.str (tx ls), .str (tx low), .str (tx high)] ∧ ls[0]? = some a ∧ ls.length ≤ 5 ∧ low.length ≤ 100 ∧ high.length ≤ 100 ∧ Q (roomV a low high) H
theorem cl_walked (T : Txt K mg) : Cl P w K mg base "_law_walked" ["_law_letters_here", "_law_low", "_law_high"] 1 spWalked := cl_of T.a__law_walked fun f fd F => by
  refine F.ok sc__law_walked (fun vs H Q E h => ?_) (fun cdv A outer s H vs Q E hr h => ?_)
  · obtain ⟨ls, low, hv, a, rfl, _⟩ := h
    rfl
  · obtain ⟨ls, low, high, a, rfl, ha, hl, hlow, hhigh, q⟩ := h
    refine ⟨_, (pss_cons (ps_set (i := 3) sc__law_walked.nd rfl (Or.inl rfl) pe_int)
      (Evl.pss_cut (ps_while PassesOwn.never (pt_cmpR op_ltX (pv 1) (pv 2) (nomark _))
      (pss_cons (ps_if (pt_cmpR op_gt (pe_callB call_lenX (by rfl) T.m_len (by decide +kernel) (pa_cons (pv 1) pa_nil)) (pe_callB call_lenX (by rfl) T.m_len (by decide +kernel) (pa_cons (pv 2) pa_nil)) (nomark _))
      (pss_one (ps_ret pe_non))
      pss_nil)
      (pss_cons (ps_set (i := 1) sc__law_walked.nd rfl (Or.inl rfl) (pe_op op_addX (pv 1) (pe_ix ix_strX (pv 0) pe_int (fun _ _ => rfl))))
      (pss_one (ps_set (i := 3) sc__law_walked.nd rfl (Or.inl rfl) (pe_op op_add (pv 3) pe_int))))))
      (pss_one (ps_ret (pe_ifExp (PW.pt (pw_or (pt_cmpR op_eq (pv 1) (pv 2) (nomark _)) (pw_or1 (pt_cmpR op_eq (pv 3) pe_int (nomark _))))) (pv 3) pe_non))))), ?_⟩
    walk_at "rds"
    refine rd_cut (fun σ' H' => H' = H ∧ ∃ k : Nat, σ' = [some (.str (tx ls)), some (.str (tx (low ++ List.replicate k a))), some (.str (tx high)), some (.int (k : Nat))] ∧ low.length + k ≤ 101 ∧ ¬ low ++ List.replicate k a < high ∧ (0 < k → low ++ List.replicate (k - 1) a < high)) ?_ ?_
    · refine ⟨fun m σ' H' => H' = H ∧ ∃ k : Nat, σ' = [some (.str (tx ls)), some (.str (tx (low ++ List.replicate k a))), some (.str (tx high)), some (.int (k : Nat))] ∧ low.length + k ≤ 101 ∧ (0 < k → low ++ List.replicate (k - 1) a < high) ∧ m = high.length + 1 - (low.length + k), ⟨_, rfl, 0, ?_, by omega, (fun h => by cases h), rfl⟩, ?_⟩
      · rw [List.replicate_zero, List.append_nil]
        rfl
      · rintro m σ' H' ⟨rfl, k, rfl, hk, hprev, rfl⟩
        walk_at "rds"
        refine rd_ite (fun h => ?_) (fun h => ?_)
        · have hlt : low ++ List.replicate k a < high := of_decide_eq_true h
          refine ⟨fun σ2 H2 => H2 = H' ∧ low.length + k ≤ high.length ∧ σ2 = [some (.str (tx ls)), some (.str (tx (low ++ List.replicate (k + 1) a))), some (.str (tx high)), some (.int ((k + 1 : Nat) : Int))], ?_, ?_⟩
          · rintro σ2 H2 ⟨rfl, hle, rfl⟩
            exact ⟨high.length + 1 - (low.length + (k + 1)), by omega, rfl, k + 1, rfl, by omega, fun _ => hlt, rfl⟩
          · have hlen : (low ++ List.replicate k a).length = low.length + k := by simp
            walk_at "rds"
            refine rd_lenX (sz_of' (by omega)) ?_
            walk_at "rds"
            refine rd_lenX (sz_of' (by omega)) ?_
            walk_at "rds"
            rw [hlen]
            refine rd_ite (fun h2 => ?_) (fun h2 => ?_)
            · have h3 : high.length < low.length + k := by
                have := of_decide_eq_true h2
                omega
              walk_at "rds"
              have hll : low < high := lt_of_app hlt
              unfold roomV at q
              rw [if_pos hll, if_neg] at q
              · exact q
              · intro e
                rw [e] at hlt
                have h4 := (rep_lt a _ _).mp ((app_lt low _ _).mp hlt)
                have h5 := congrArg List.length e
                rw [List.length_append, List.length_replicate] at h5
                omega
            · have h3 : low.length + k ≤ high.length := by
                have := of_decide_eq_false h2
                omega
              walk_at "rds"
              refine rd_ixX (sz_of' (by omega)) (atI_nat (j := 0) ha) ?_
              walk_at "rds"
              refine rd_addX (sz_of' (by rw [hlen]; simp; omega)) ?_
              walk_at "rds"
              refine ⟨rfl, h3, ?_⟩
              rw [List.append_assoc, ← List.replicate_succ']
              rfl
        · exact ⟨rfl, k, rfl, hk, of_decide_eq_false h, hprev⟩
    · rintro σ' H' ⟨rfl, k, rfl, hk, hge, hprev⟩
      have hq0 : k = 0 → roomV a low high = .int 0 := fun e => by
        subst e
        rw [List.replicate_zero, List.append_nil] at hge
        unfold roomV
        rw [if_neg hge]
      walk_at "rds"
      refine rd_ite (fun h => ?_) (fun h => ?_)
      · have h1 : low ++ List.replicate k a = high := by
          have := of_decide_eq_true h
          injection this with this
          exact tx_inj this
        refine iteT ?_
        walk_at "rds"
        by_cases hk0 : k = 0
        · rw [hq0 hk0] at q
          subst hk0
          exact q
        · have hll : low < high := lt_of_app (hprev (by omega))
          have e1 : high.length - low.length = k := by
            rw [← h1, List.length_append, List.length_replicate]
            omega
          unfold roomV at q
          rw [if_pos hll, e1, if_pos h1.symm] at q
          exact q
      · have h1 : ¬ low ++ List.replicate k a = high := fun e => of_decide_eq_false h (congrArg (fun z => V.str (tx z)) e)
        walk_at "rds"
        refine rd_ite (fun h2 => ?_) (fun h2 => ?_)
        · have hk0 : k = 0 := by
            have := of_decide_eq_true h2
            injection this with this
            omega
          walk_at "rds"
          rw [hq0 hk0] at q
          subst hk0
          exact q
        · have hk0 : 0 < k := by
            have h3 := of_decide_eq_false h2
            rcases Nat.eq_zero_or_pos k with e | e
            · subst e
              exact (h3 rfl).elim
            · exact e
          walk_at "rds"
          have hll : low < high := lt_of_app (hprev hk0)
          unfold roomV at q
          rw [if_pos hll, if_neg] at q
          · exact q
          · intro e
            have h3 := walk_eq hk0 (hprev hk0) e
            rcases Nat.lt_or_eq_of_le h3 with h4 | h4
            · apply hge
              rw [e]
              exact (app_lt low _ _).mpr ((rep_lt a _ _).mpr h4)
            · rw [← h4] at e
              exact h1 e.symm
def spTail : Sp := fun vs H Q _ => ∃ (D L : Addr) (ls : List Nat), vs = [.ref D, .str (tx ls)] ∧ Deal D L H ∧ Lets ls ∧ ∀ (t : List Nat) (H' : Hp), (∀ c ∈ t, c ∈ ls) → t.length ≤ 4 → Keep D L H H' → Deal D L H' → Q (.str (tx t)) H'
theorem cl_tail (T : Txt K mg) : Cl P w K mg base "_law_tail" ["_law_deal_here", "_law_letters_here"] 3 spTail := cl_of T.a__law_tail fun f fd F => by
  have C__law_draw := cl_draw (P := P) (w := w) (base := base) T
  have C__law_pick := cl_pick (P := P) (w := w) (base := base) T
  refine F.ok sc__law_tail (fun vs H Q E h => ?_) (fun cdv A outer s H vs Q E hr h => ?_)
  · obtain ⟨D, L, ls, rfl, _⟩ := h
    rfl
  · obtain ⟨D, L, ls, rfl, hd, hL, q⟩ := h
    have hlo := hL.lo
    have hhi := hL.hi
    refine ⟨_, (pss_cons (ps_set (i := 2) sc__law_tail.nd rfl (Or.inl rfl) (pe_cl C__law_pick (hr.mono (by decide)) (by rfl) (pa_cons (pv 0) (pa_cons (pe_lst (pa_cons (pe_ix ix_strX (pv 1) pe_int (fun _ _ => rfl)) (pa_cons (pe_ix ix_strX (pv 1) (pe_un un_neg pe_int) (fun _ _ => rfl)) (pa_cons (pe_cl C__law_pick (hr.mono (by decide)) (by rfl) (pa_cons (pv 0) (pa_cons (pv 1) pa_nil))) pa_nil)))) pa_nil))))
      (pss_one (ps_ret (pe_op op_mulT (pv 2) (pe_cl C__law_draw (hr.mono (by decide)) (by rfl) (pa_cons (pv 0) (pa_cons pe_int pa_nil))))))), ?_⟩
    walk_at "rds"
    have h0 : ls[0]? = some (ls[0]'(by omega)) := List.getElem?_eq_getElem _
    have hne : ls ≠ [] := List.ne_nil_of_length_pos (by omega)
    have h1 : ls.getLast? = some (ls.getLast hne) := List.getLast?_eq_getLast hne
    refine rd_ixX (sz_of' (by omega)) (atI_nat (j := 0) h0) ?_
    walk_at "rds"
    refine rd_ixX (sz_of' (by omega)) (atI_m1 h1) ?_
    walk_at "rds"
    refine ⟨D, L, _, sgs ls, rfl, hd, .inr ⟨ls, rfl, rfl⟩, by rw [sgs_len]; omega, by rw [sgs_len]; omega, fun x H1 hx kp1 hd1 => ?_⟩
    obtain ⟨c, hc, rfl⟩ := List.mem_map.mp hx
    walk_at "rds"
    refine ⟨(by show 3 ≤ sizeLine; decide), fun p np => ?_⟩
    walk_at "rds"
    obtain ⟨pD, pL⟩ := hd1.new np
    refine ⟨D, L, _, _, rfl, hd1.keep (same_upd np), .inl ⟨p, rfl, pD, pL, SqL.of upd_same⟩, (by show 0 < 3; decide), (by show 3 ≤ 1000; decide), fun x H2 hx2 kp2 hd2 => ?_⟩
    obtain ⟨b, rfl, hb⟩ : ∃ b, x = .str (tx [b]) ∧ b ∈ ls := by
      simp only [List.mem_cons, List.not_mem_nil, or_false] at hx2
      rcases hx2 with rfl | rfl | rfl
      · exact ⟨_, rfl, List.getElem_mem _⟩
      · exact ⟨_, rfl, List.getLast_mem hne⟩
      · exact ⟨_, rfl, hc⟩
    walk_at "rds"
    refine ⟨D, L, 5, rfl, hd2, by decide, by decide, fun k H3 hk1 hk2 kp3 hd3 => ?_⟩
    refine rd_mulX (by omega) (by omega) (by simp; omega) ?_
    rw [reps_one]
    refine q _ _ (fun d hd' => by rw [(List.mem_replicate.mp hd').2]; exact hb) (by rw [List.length_replicate]; omega) ?_ hd3
    exact kp1.trans ((Keep.of_same (same_upd np)).trans (kp2.trans kp3))
/-- the law's look at the raised text -/
def spRight : Sp := fun vs H Q _ => ∃ (D L : Addr) (ls t : List Nat), vs = [.ref D, .str (tx ls), .str (tx t)] ∧ Deal D L H ∧ Lets ls ∧ (∀ c ∈ t, c ∈ ls) ∧ t.length ≤ 50 ∧ ∀ H' : Hp, Keep D L H H' → Deal D L H' → Q (.bl true) H'
theorem cl_right (T : Txt K mg) : Cl P w K mg base "_law_raised_right" ["_law_deal_here", "_law_letters_here", "_law_text"] 4 spRight := cl_of T.a__law_raised_right fun f fd F => by
  have C__law_draw := cl_draw (P := P) (w := w) (base := base) T
  have C__law_word := cl_word (P := P) (w := w) (base := base) T
  have C_raised := cl_raised (P := P) (w := w) (base := base) T
  refine F.ok sc__law_raised_right (fun vs H Q E h => ?_) (fun cdv A outer s H vs Q E hr h => ?_)
  · obtain ⟨D, L, ls, t, rfl, _⟩ := h
    rfl
  · obtain ⟨D, L, ls, t, rfl, hd, hL, ht, htl, q⟩ := h
    have hlo := hL.lo
    have hhi := hL.hi
    have hne : ls ≠ [] := List.ne_nil_of_length_pos (by omega)
    obtain ⟨g, hg⟩ : ∃ g, ls.getLast? = some g := ⟨_, List.getLast?_eq_getLast hne⟩
    have hgm : g ∈ ls := by
      rw [List.getLast?_eq_getLast hne] at hg
      rw [← Option.some.inj hg]
      exact List.getLast_mem hne
    obtain ⟨p, m, et, hlast⟩ := tail_cut g t
    have hpm : p.length + m ≤ 50 := by
      rw [et, List.length_append, List.length_replicate] at htl
      exact htl
    have hp : ∀ c ∈ p, c ∈ ls := fun c hc => ht c (by rw [et]; exact List.mem_append_left _ hc)
    refine ⟨_, (pss_cons (ps_set (i := 3) sc__law_raised_right.nd rfl (Or.inr rfl) (pe_cl C_raised (hr.mono (by decide)) (by rfl) (pa_cons (pv 1) (pa_cons (pv 2) pa_nil))))
      (pss_cons (ps_setLc (i := 4) (own := [("_law_turn", 7)]) (g := gName 7) (tt := tYes) (by rfl) sc__law_raised_right.nd rfl rfl (sw_true rfl rfl rfl (by decide +kernel)) (pi_range1 (by rfl) T.m_range (pa_cons pe_int pa_nil)) (blkOk_by (own := [("_law_turn", 7)]) (N := n__law_raised_right) (sc := defScope s__law_raised_right) (by decide +kernel)) (fun _ _ _ _ _ => (pg_name (i := 7) sc__law_raised_right.nd rfl (Or.inl rfl))) (fun _ _ _ _ _ => pts_nil) (fun _ _ _ _ _ => (pe_op op_addX (pe_op op_addX (pv 2) (pe_cl C__law_word (hr.mono (by decide)) (by rfl) (pa_cons (pv 0) (pa_cons (pv 1) (pa_cons pe_int pa_nil))))) (pe_op op_mulT (pe_ix ix_strX (pv 1) (pe_un un_neg pe_int) (fun _ _ => rfl)) (pe_cl C__law_draw (hr.mono (by decide)) (by rfl) (pa_cons (pv 0) (pa_cons pe_int pa_nil)))))))
      (pss_cons (ps_if (pt_cmpR op_isN' (pv 3) pe_non (nomark _))
      (pss_one (ps_ret (pe_cmpR (op_eqD hr.units) (pe_lc (own := [("_law_sign", 8)]) (g := gName 8) (by rfl) sc__law_raised_right.nd (pi_str (pv 2)) (blkOk_by (own := [("_law_sign", 8)]) (N := n__law_raised_right) (sc := defScope s__law_raised_right) (by decide +kernel)) (fun _ _ _ _ _ => (pg_name (i := 8) sc__law_raised_right.nd rfl (Or.inl rfl))) (fun _ _ _ _ _ => (pts_one (pt_cmpR op_ne (pv 8) (pe_ix ix_strX (pv 1) (pe_un un_neg pe_int) (fun _ _ => rfl)) (nomark _)))) (fun _ _ _ _ _ => (pv 8))) (pe_lst pa_nil) (nomark _))))
      pss_nil)
      (pss_cons (ps_if (PW.pt (pw_or (pt_cmpR (op_neD hr.units) (pe_lc (own := [("_law_one", 9)]) (g := gName 9) (by rfl) sc__law_raised_right.nd (pi_list (pv 4)) (blkOk_by (own := [("_law_one", 9)]) (N := n__law_raised_right) (sc := defScope s__law_raised_right) (by decide +kernel)) (fun _ _ _ _ _ => (pg_name (i := 9) sc__law_raised_right.nd rfl (Or.inl rfl))) (fun _ _ _ _ _ => (pts_one (pt_not (pt_cmpR op_ltX (pv 9) (pv 3) (nomark _))))) (fun _ _ _ _ _ => (pv 9))) (pe_lst pa_nil) (nomark _)) (pw_or1 (pt_val (pe_bm PySem.F.plainAttrs_str PySem.F.slot_str_startswith PySem.F.type_str_startswith mt_startX (pv 3) (pa_cons (pv 2) pa_nil))))))
      (pss_one (ps_ret pe_bl))
      pss_nil)
      (pss_cons (ps_if (pt_cmpR (op_neD hr.units) (pe_lc (own := [("_law_sign", 8)]) (g := gName 8) (by rfl) sc__law_raised_right.nd (pi_str (pv 3)) (blkOk_by (own := [("_law_sign", 8)]) (N := n__law_raised_right) (sc := defScope s__law_raised_right) (by decide +kernel)) (fun _ _ _ _ _ => (pg_name (i := 8) sc__law_raised_right.nd rfl (Or.inl rfl))) (fun _ _ _ _ _ => (pts_one (pt_cmpR op_notInX (pv 8) (pv 1) (by rfl)))) (fun _ _ _ _ _ => (pv 8))) (pe_lst pa_nil) (nomark _))
      (pss_one (ps_ret pe_bl))
      pss_nil)
      (pss_cons (ps_if (PW.pt (pw_or (pt_cmpR op_eq (pv 3) (pe_strX [] (by decide +kernel)) (nomark _)) (pw_or1 (pt_cmpR op_eq (pe_ix ix_strX (pv 3) (pe_un un_neg pe_int) (fun _ _ => rfl)) (pe_ix ix_strX (pv 1) pe_int (fun _ _ => rfl)) (nomark _)))))
      (pss_one (ps_ret pe_bl))
      pss_nil)
      (pss_cons (ps_set (i := 5) sc__law_raised_right.nd rfl (Or.inl rfl) (pe_ix ix_strX (pv 1) (pe_op op_sub (pe_bm PySem.F.plainAttrs_str PySem.F.slot_str_index PySem.F.type_str_index mt_indexT (pv 1) (pa_cons (pe_ix ix_strX (pv 3) (pe_un un_neg pe_int) (fun _ _ => rfl)) pa_nil)) pe_int) (fun _ _ => rfl)))
      (pss_cons (ps_set (i := 6) sc__law_raised_right.nd rfl (Or.inl rfl) (pe_op op_addX (pe_op op_addX (pe_slice sl_strX (pv 3) po_none (po_some (pe_un un_neg pe_int))) (pv 5)) (pe_op op_mulT (pe_ix ix_strX (pv 1) (pe_un un_neg pe_int) (fun _ _ => rfl)) (pe_op op_sub (pe_op op_add (pe_callB call_lenX (by rfl) T.m_len (by decide +kernel) (pa_cons (pv 2) pa_nil)) pe_int) (pe_callB call_lenX (by rfl) T.m_len (by decide +kernel) (pa_cons (pv 3) pa_nil))))))
      (pss_one (ps_ret (pe_and (pe_bm PySem.F.plainAttrs_str PySem.F.slot_str_startswith PySem.F.type_str_startswith mt_startX (pv 6) (pa_cons (pv 2) pa_nil)) (pe_one (pe_cmpR op_le (pe_callB call_lenX (by rfl) T.m_len (by decide +kernel) (pa_cons (pv 3) pa_nil)) (pe_callB call_lenX (by rfl) T.m_len (by decide +kernel) (pa_cons (pv 2) pa_nil)) (nomark _)))))))))))))), ?_⟩
    walk_at "rds"
    refine ⟨ls, p, m, g, by rw [et]; rfl, hL, hg, hp, by omega, hlast, fun told hT => ?_⟩
    walk_at "rds"
    -- the others
    refine ⟨6, rfl, by decide, by decide, fun e ne => lc_range (lo := 0) (n := (6 : Int).toNat) (fun i H' => ∃ ws : List (List Nat), ws.length ≤ i ∧ (∀ x ∈ ws, x.length ≤ 20) ∧ Keep D L H H' ∧ Deal D L H' ∧ H' e = some (.lst (ws.map fun x => V.str (tx (t ++ x))))) ⟨[], Nat.le_refl _, (fun _ h => by cases h), Keep.of_same (same_upd ne), hd.keep (same_upd ne), upd_same⟩ ?_ ?_⟩
    · rintro i H1 hi ⟨ws, hwl, hws, kp1, hd1, he⟩
      obtain ⟨eD, eL⟩ := hd.new ne
      walk_at "rds"
      refine ⟨rfl, ?_⟩
      walk_at "rds"
      refine rd_ite (fun _ => ?_) (fun h => by cases h)
      walk_at "rds"
      refine ⟨D, L, ls, 3, rfl, hd1, hne, by omega, by decide, by decide, fun z H2 hz hzl kp2 hd2 => ?_⟩
      have hz3 : z.length ≤ 3 := by omega
      refine rd_addX (sz_of' (by omega)) ?_
      walk_at "rds"
      refine rd_ixX (sz_of' (by omega)) (atI_m1 hg) ?_
      walk_at "rds"
      refine ⟨D, L, 9, rfl, hd2, by decide, by decide, fun k H3 hk1 hk2 kp3 hd3 => ?_⟩
      refine rd_mulX (by omega) (by omega) (by simp; omega) ?_
      rw [reps_one]
      refine rd_addX (sz_of' (by simp; omega)) ?_
      have he3 := kp3 _ _ (kp2 _ _ he eD eL) eD eL
      refine ⟨_, he3, by rw [List.length_map]; exact small1000 (by have : i < 6 := hi; omega), ws ++ [z ++ List.replicate k.toNat g], by simp; omega, ?_, (kp1.trans (kp2.trans kp3)).mut ne, ?_, ?_⟩
      · intro x hx
        rcases List.mem_append.mp hx with h | h
        · exact hws x h
        · rw [List.mem_singleton.mp h]
          simp
          omega
      · obtain ⟨c1, m1, a1, a2, a3⟩ := hd3
        exact ⟨c1, m1, by rw [upd_ne eD.symm]; exact a1, by rw [upd_ne eL.symm]; exact a2, a3⟩
      · rw [upd_same, List.map_append, List.map_singleton, List.append_assoc]
    · rintro H1 ⟨ws, hwl, hws, kp1, hd1, he⟩
      have hw6 : ws.length ≤ 6 := hwl
      obtain ⟨eD, eL⟩ := hd.new ne
      clear hwl
      walk_at "rds"
      rcases hT with ⟨rfl, rfl⟩ | ⟨h, c, d, i, rfl, hi, hdd, rfl⟩
      · -- the text is of greatest letters alone
        refine rd_ite (fun _ => ?_) (fun h => by simp at h)
        walk_at "rds"
        rw [List.nil_append] at et
        refine fun e2 ne2 => lc_text (l := t) (fun i H' => Same H1 H' ∧ H' e2 = some (.lst [])) ⟨same_upd ne2, upd_same⟩ ?_ ?_
        · rintro i c H2 hc ⟨s2, he2⟩
          have hcg : c = g := by
            have := List.mem_of_getElem? hc
            rw [et] at this
            exact (List.mem_replicate.mp this).2
          subst hcg
          walk_at "rds"
          refine ⟨rfl, ?_⟩
          walk_at "rds"
          refine rd_ixX (sz_of' (by omega)) (atI_m1 hg) ?_
          walk_at "rds"
          refine rd_ite (fun h => by simp at h) (fun _ => ?_)
          exact ⟨s2, he2⟩
        · rintro H2 ⟨s2, he2⟩
          walk_at "rds"
          refine ⟨Nat.zero_le _, fun e3 ne3 => ?_⟩
          refine rd_eqNilNil (SqL.of (same_upd ne3 _ _ he2)) (SqL.of upd_same) ?_
          exact q _ (kp1.trans (Keep.of_same (s2.trans (same_upd ne3)))) (hd1.keep (s2.trans (same_upd ne3)))
      · refine rd_ite (fun h => by simp at h) (fun _ => ?_)
        walk_at "rds"
        have hcd : c < d := by
          have l1 := (List.getElem?_eq_some_iff.mp hi)
          have l2 := (List.getElem?_eq_some_iff.mp hdd)
          obtain ⟨a1, b1⟩ := l1
          obtain ⟨a2, b2⟩ := l2
          have := List.pairwise_iff_getElem.mp hL.up i (i + 1) a1 a2 (by omega)
          rw [b1, b2] at this
          exact this
        have hdm : d ∈ ls := List.mem_of_getElem? hdd
        have hcm : c ∈ ls := List.mem_of_getElem? hi
        have hhl : h.length + 1 + m ≤ 50 := by simpa using hpm
        have hhm : ∀ x ∈ h, x ∈ ls := fun x hx => hp x (List.mem_append_left _ hx)
        have hbelow : ∀ x : List Nat, t ++ x < h ++ [d] := fun x => by
          rw [et, List.append_assoc, List.append_assoc, app_lt]
          rw [List.singleton_append, List.cons_lt_cons_iff]
          exact .inl hcd
        have hnp : t.isPrefixOf (h ++ [d]) = false := by
          cases e : t.isPrefixOf (h ++ [d]) with
          | false => rfl
          | true =>
            have h1 := List.isPrefixOf_iff_prefix.mp e
            rw [et, List.append_assoc, List.prefix_append_right_inj, List.singleton_append, List.cons_prefix_cons] at h1
            omega
        refine ⟨_, rfl, ⟨_, SqL.of he⟩, fun e2 ne2 => lc_list (K := K) (a := e) (xs := ws.map fun x => V.str (tx (t ++ x))) (fun i H' => Same H1 H' ∧ H' e2 = some (.lst [])) ⟨same_upd ne2, upd_same⟩ (fun i H' _ h => SqL.of (h.1 _ _ he)) ?_ ?_⟩
        · rintro i x H2 hx ⟨s2, he2⟩
          obtain ⟨w', hw', rfl⟩ := get_map hx
          walk_at "rds"
          refine ⟨rfl, ?_⟩
          walk_at "rds"
          rw [decide_eq_true (hbelow w')]
          exact iteF ⟨s2, he2⟩
        · rintro H2 ⟨s2, he2⟩
          have hd2 := hd1.keep s2
          walk_at "rds"
          refine ⟨Nat.zero_le _, fun e3 ne3 => ?_⟩
          refine rd_neNilNil (SqL.of (same_upd ne3 _ _ he2)) (SqL.of upd_same) ?_
          have s3 : Same H1 (upd H2 e3 (.lst [])) := s2.trans (same_upd ne3)
          generalize upd H2 e3 (.lst []) = H3 at *
          have hd3 := hd1.keep s3
          walk_at "rds"
          refine iteF ?_
          walk_at "rds"
          rw [hnp]
          refine iteF ?_
          walk_at "rds"
          -- the told text is over the letters
          refine fun e4 ne4 => lc_text (l := h ++ [d]) (fun i H' => Same H3 H' ∧ H' e4 = some (.lst [])) ⟨same_upd ne4, upd_same⟩ ?_ ?_
          · rintro i x H4 hx ⟨s4, he4⟩
            have hxm : x ∈ ls := by
              rcases List.mem_append.mp (List.mem_of_getElem? hx) with h1 | h1
              · exact hhm x h1
              · rw [List.mem_singleton.mp h1]
                exact hdm
            walk_at "rds"
            refine ⟨rfl, ?_⟩
            walk_at "rds"
            rw [decide_eq_true hxm]
            exact iteF ⟨s4, he4⟩
          · rintro H4 ⟨s4, he4⟩
            walk_at "rds"
            refine ⟨Nat.zero_le _, fun e5 ne5 => ?_⟩
            refine rd_neNilNil (SqL.of (same_upd ne5 _ _ he4)) (SqL.of upd_same) ?_
            have s5 : Same H3 (upd H4 e5 (.lst [])) := s4.trans (same_upd ne5)
            generalize upd H4 e5 (.lst []) = H5 at *
            have hd5 := hd3.keep s5
            have kp5 : Keep D L H H5 := kp1.trans (Keep.of_same (s3.trans s5))
            walk_at "rds"
            refine iteF ?_
            walk_at "rds"
            refine rd_ite (fun h1 => ?_) (fun _ => ?_)
            · have h2 := of_decide_eq_true h1
              injection h2 with h2
              have h3 := tx_inj h2
              simp at h3
            · have htold : (h ++ [d]).length ≤ 50 := by simp; omega
              have hd0 : ls[0]? = some (ls[0]'(by omega)) := List.getElem?_eq_getElem _
              walk_at "rds"
              refine rd_ixX (sz_of' (by omega)) (atI_last h d) ?_
              walk_at "rds"
              refine rd_ixX (sz_of' (by omega)) (atI_nat (j := 0) hd0) ?_
              walk_at "rds"
              refine rd_ite (fun h1 => ?_) (fun _ => ?_)
              · have h2 := of_decide_eq_true h1
                injection h2 with h2
                have h3 := tx_inj h2
                injection h3 with h3
                rw [← h3] at hd0
                have l2 := (List.getElem?_eq_some_iff.mp hdd).1
                have l0 := (List.getElem?_eq_some_iff.mp hd0).1
                have e0 : ls[i + 1] = ls[0] := by
                  rw [List.getElem?_eq_getElem l2] at hdd
                  rw [Option.some.inj hdd]
                  exact h3
                have := (List.getElem_inj hL.nd).mp e0
                omega
              · walk_at "rds"
                refine rd_ixX (sz_of' (by omega)) (atI_last h d) ?_
                walk_at "rds"
                refine rd_indexX hL.nd hdd ?_
                walk_at "rds"
                have ei : (((i + 1 : Nat) : Int) - 1) = ((i : Nat) : Int) := by omega
                rw [ei]
                refine rd_ixX (sz_of' (by omega)) (atI_nat hi) ?_
                walk_at "rds"
                refine rd_slX (sz_of' (by omega)) ?_
                rw [show cutL (h ++ [d]) none (some (-1)) = h from cut_m1 h d]
                walk_at "rds"
                refine rd_addX (sz_of' (by simp; omega)) ?_
                walk_at "rds"
                refine rd_ixX (sz_of' (by omega)) (atI_m1 hg) ?_
                walk_at "rds"
                refine rd_lenX (sz_of' (by omega)) ?_
                walk_at "rds"
                refine rd_lenX (sz_of' (by omega)) ?_
                walk_at "rds"
                have etl : t.length = h.length + 1 + m := by rw [et]; simp; omega
                have en : ((t.length : Int) + 2 - ((h ++ [d]).length : Nat)).toNat = m + 2 := by
                  rw [etl, List.length_append, List.length_singleton]
                  omega
                have e2' : ((h ++ [d]).length : Int) = h.length + 1 := by simp
                refine rd_mulX (by omega) (by omega) (by rw [en]; simp; omega) ?_
                rw [en, reps_one]
                refine rd_addX (sz_of' (by simp; omega)) ?_
                walk_at "rds"
                have hpre : t.isPrefixOf (h ++ [c] ++ List.replicate (m + 2) g) = true := by
                  refine List.isPrefixOf_iff_prefix.mpr ⟨List.replicate 2 g, ?_⟩
                  rw [et, List.append_assoc, List.replicate_append_replicate]
                rw [hpre]
                refine iteT ?_
                walk_at "rds"
                refine rd_lenX (sz_of' (by omega)) ?_
                walk_at "rds"
                refine rd_lenX (sz_of' (by omega)) ?_
                walk_at "rds"
                rw [decide_eq_true (show ((h ++ [d]).length : Int) ≤ (t.length : Nat) by omega)]
                exact q _ kp5 hd5
end
section
variable {P : Program} {w : World} {K : PySem.W.Frag} {mg : Str → Option Value} {base : Heap}
def spLaw (K : PySem.W.Frag) : Sp := fun vs H Q _ => ∃ (a : Addr) (ns : List Int), vs = [.ref a] ∧ SqL K H a (ns.map V.int) ∧ ns.length ≤ 63 ∧ ∀ H', Q (.bl true) H'
theorem scal_room (a : Nat) (low high : List Nat) (h : high.length ≤ 100) : scalR (roomV a low high) := by
  unfold roomV
  split
  · split
    · exact scal_int (by omega)
    · trivial
  · exact scal_int (by decide)
theorem ok_law (T : Txt K mg) {f : Addr} {fd : FuncData} (F : Fun K "law" "law" s_law f fd) : FnOk P w K mg base CX0 6 f fd ["_law_script"] (spLaw K) := by
  have C__law_deal := cl_deal (P := P) (w := w) (base := base) T
  have C__law_draw := cl_draw (P := P) (w := w) (base := base) T
  have C__law_pick := cl_pick (P := P) (w := w) (base := base) T
  have C__law_letters := cl_letters (P := P) (w := w) (base := base) T
  have C__law_word := cl_word (P := P) (w := w) (base := base) T
  have C__law_tail := cl_tail (P := P) (w := w) (base := base) T
  have C__law_raised_right := cl_right (P := P) (w := w) (base := base) T
  have C__law_walked := cl_walked (P := P) (w := w) (base := base) T
  have C_room := cl_room (P := P) (w := w) (base := base) T
  refine F.ok sc_law (fun vs H Q E h => ?_) (fun cdv A outer s H vs Q E hr h => ?_)
  · obtain ⟨a, ns, rfl, _⟩ := h
    rfl
  · obtain ⟨a, ns, rfl, hS, hlen, q⟩ := h
    refine ⟨_, (pss_cons (ps_set (i := 1) sc_law.nd rfl (Or.inl rfl) (pe_cl C__law_deal (hr.mono (by decide)) (by rfl) (pa_cons (pv 0) (pa_cons pe_int pa_nil))))
      (Evl.pss_cut (ps_for PassesOwn.never rfl (pi_range1 (by rfl) T.m_range (pa_cons pe_int pa_nil)) (pg_name (i := 2) sc_law.nd rfl (Or.inl rfl))
      (pss_cons (ps_set (i := 3) sc_law.nd rfl (Or.inl rfl) (pe_cl C__law_letters (hr.mono (by decide)) (by rfl) (pa_cons (pv 1) (pa_cons (pe_op op_add pe_int (pe_cl C__law_draw (hr.mono (by decide)) (by rfl) (pa_cons (pv 1) (pa_cons pe_int pa_nil)))) pa_nil))))
      (pss_cons (ps_set (i := 4) sc_law.nd rfl (Or.inl rfl) (pe_op op_addX (pe_cl C__law_word (hr.mono (by decide)) (by rfl) (pa_cons (pv 1) (pa_cons (pv 3) (pa_cons pe_int pa_nil)))) (pe_cl C__law_tail (hr.mono (by decide)) (by rfl) (pa_cons (pv 1) (pa_cons (pv 3) pa_nil)))))
      (pss_cons (ps_if (PW.pt (pw_or (pt_not (pt_val (pe_cl C__law_raised_right (hr.mono (by decide)) (by rfl) (pa_cons (pv 1) (pa_cons (pv 3) (pa_cons (pv 4) pa_nil)))))) (pw_or1 (pt_not (pt_val (pe_cl C__law_raised_right (hr.mono (by decide)) (by rfl) (pa_cons (pv 1) (pa_cons (pv 3) (pa_cons (pe_op op_mulT (pe_ix ix_strX (pv 3) (pe_un un_neg pe_int) (fun _ _ => rfl)) (pv 2)) pa_nil)))))))))
      (pss_one (ps_ret pe_bl))
      pss_nil)
      (pss_cons (ps_set (i := 5) sc_law.nd rfl (Or.inl rfl) (pe_lst (pa_cons (pe_op op_addX (pv 4) (pe_cl C__law_tail (hr.mono (by decide)) (by rfl) (pa_cons (pv 1) (pa_cons (pv 3) pa_nil)))) (pa_cons (pe_cl C__law_word (hr.mono (by decide)) (by rfl) (pa_cons (pv 1) (pa_cons (pv 3) (pa_cons pe_int pa_nil)))) (pa_cons (pe_slice sl_strX (pv 4) po_none (po_some (pe_cl C__law_draw (hr.mono (by decide)) (by rfl) (pa_cons (pv 1) (pa_cons pe_int pa_nil))))) pa_nil)))))
      (pss_cons (ps_set (i := 5) sc_law.nd rfl (Or.inl rfl) (pe_cl C__law_pick (hr.mono (by decide)) (by rfl) (pa_cons (pv 1) (pa_cons (pe_op op_cat (pv 5) (pe_lst (pa_cons (pe_op op_addX (pv 4) (pe_op op_mulT (pe_ix ix_strX (pv 3) pe_int (fun _ _ => rfl)) (pe_cl C__law_draw (hr.mono (by decide)) (by rfl) (pa_cons (pv 1) (pa_cons pe_int pa_nil))))) pa_nil))) pa_nil))))
      (Evl.pss_cut (ps_for PassesOwn.never rfl (pi_tup (pe_tup (pa_cons (pe_tup (pa_cons (pv 4) (pa_cons (pv 5) pa_nil))) (pa_cons (pe_tup (pa_cons (pv 5) (pa_cons (pv 4) pa_nil))) (pa_cons (pe_tup (pa_cons (pv 4) (pa_cons (pv 4) pa_nil))) (pa_cons (pe_tup (pa_cons (pe_strX [] (by decide +kernel)) (pa_cons (pv 5) pa_nil))) pa_nil)))))) (pg_tup rfl (pgs_cons (pg_name (i := 6) sc_law.nd rfl (Or.inl rfl)) (pgs_cons (pg_name (i := 7) sc_law.nd rfl (Or.inl rfl)) pgs_nil)))
      (pss_one (ps_if (pt_cmpR op_ne (pe_callB call_reprS (by rfl) T.m_repr (by decide +kernel) (pa_cons (pe_cl C_room (hr.mono (by decide)) (by rfl) (pa_cons (pv 3) (pa_cons (pv 6) (pa_cons (pv 7) pa_nil)))) pa_nil)) (pe_callB call_reprS (by rfl) T.m_repr (by decide +kernel) (pa_cons (pe_cl C__law_walked (hr.mono (by decide)) (by rfl) (pa_cons (pv 3) (pa_cons (pv 6) (pa_cons (pv 7) pa_nil)))) pa_nil)) (nomark _))
      (pss_one (ps_ret pe_bl))
      pss_nil)))
      (pss_one (ps_if (pt_cmpR op_notN' (pe_cl C_room (hr.mono (by decide)) (by rfl) (pa_cons (pv 3) (pa_cons (pv 4) (pa_cons pe_non pa_nil)))) pe_non (nomark _))
      (pss_one (ps_ret pe_bl))
      pss_nil)))))))))
      (pss_one (ps_ret pe_bl)))), ?_⟩
    walk_at "rds"
    refine ⟨a, ns, 0, rfl, hS, hlen, by decide, by decide, fun D L H1 nD nL s1 hd => ?_⟩
    walk_at "rds"
    refine rd_cut (fun σ' H' => True) ?_ (fun σ' H' _ => ?_)
    rotate_left
    · walk_at "rds"
      exact q _
    walk_at "rds"
    refine ⟨12, rfl, by decide, by decide, for_range (lo := 0) (n := (12 : Int).toNat) (fun i σ' H' => Deal D L H' ∧ ∃ y2 y3 y4 y5 y6 y7, σ' = [some (.ref a), some (.ref D), y2, y3, y4, y5, y6, y7]) ⟨hd, none, none, none, none, none, none, rfl⟩ ?_ (fun _ _ _ => trivial)⟩
    rintro i σ' H2 hi ⟨hd2, y2, y3, y4, y5, y6, y7, rfl⟩
    have hi12 : i < 12 := hi
    walk_at "rds"
    refine ⟨D, L, _, rfl, hd2, by decide, by decide, fun k H3 hk1 hk2 kp3 hd3 => ?_⟩
    walk_at "rds"
    refine ⟨D, L, _, rfl, hd3, by omega, by omega, fun ls H4 hl1 hup hmem kp4 hd4 => ?_⟩
    have hL : Lets ls := ⟨by omega, by omega, hup⟩
    have hlo := hL.lo
    have hhi := hL.hi
    have hne : ls ≠ [] := List.ne_nil_of_length_pos (by omega)
    obtain ⟨g, hg⟩ : ∃ g, ls.getLast? = some g := ⟨_, List.getLast?_eq_getLast hne⟩
    have hgm : g ∈ ls := by
      rw [List.getLast?_eq_getLast hne] at hg
      rw [← Option.some.inj hg]
      exact List.getLast_mem hne
    have ha0 : ls[0]? = some (ls[0]'(by omega)) := List.getElem?_eq_getElem _
    generalize ls[0]'(by omega) = b at ha0
    have hbm : b ∈ ls := List.mem_of_getElem? ha0
    walk_at "rds"
    refine ⟨D, L, ls, 4, rfl, hd4, hne, by omega, by decide, by decide, fun x H5 hx hxl kp5 hd5 => ?_⟩
    walk_at "rds"
    refine ⟨D, L, ls, rfl, hd5, hL, fun x2 H6 hx2 hxl2 kp6 hd6 => ?_⟩
    refine rd_addX (sz_of' (by omega)) ?_
    obtain ⟨t, et⟩ : ∃ t, t = x ++ x2 := ⟨_, rfl⟩
    have ht : ∀ c ∈ t, c ∈ ls := fun c hc => by
      rw [et] at hc
      rcases List.mem_append.mp hc with h | h
      · exact hx c h
      · exact hx2 c h
    have htl : t.length ≤ 8 := by rw [et, List.length_append]; omega
    rw [← et]
    clear et hx hxl hx2 hxl2
    walk_at "rds"
    refine ⟨D, L, ls, t, rfl, hd6, hL, ht, by omega, fun H7 kp7 hd7 => ?_⟩
    walk_at "rds"
    refine iteF ?_
    walk_at "rds"
    refine rd_ixX (sz_of' (by omega)) (atI_m1 hg) ?_
    walk_at "rds"
    refine rd_mulX (by omega) (by omega) (by simp; omega) ?_
    rw [reps_one]
    walk_at "rds"
    refine ⟨D, L, ls, _, rfl, hd7, hL, fun c hc => by rw [(List.mem_replicate.mp hc).2]; exact hgm, by rw [List.length_replicate]; omega, fun H8 kp8 hd8 => ?_⟩
    walk_at "rds"
    refine iteF ?_
    walk_at "rds"
    -- the other text
    refine ⟨D, L, ls, rfl, hd8, hL, fun x H9 hx hxl kp9 hd9 => ?_⟩
    refine rd_addX (sz_of' (by omega)) ?_
    walk_at "rds"
    refine ⟨D, L, ls, 6, rfl, hd9, hne, by omega, by decide, by decide, fun x2 H10 hx2 hxl2 kp10 hd10 => ?_⟩
    walk_at "rds"
    refine ⟨D, L, 9, rfl, hd10, by decide, by decide, fun k2 H11 hk21 hk22 kp11 hd11 => ?_⟩
    obtain ⟨n2, rfl⟩ := Int.eq_ofNat_of_zero_le hk21
    walk_at "rds"
    refine rd_slX (sz_of' (by omega)) ?_
    rw [cut_zero]
    walk_at "rds"
    refine ⟨(by show 3 ≤ sizeLine; decide), fun p np => ?_⟩
    obtain ⟨pD, pL⟩ := hd11.new np
    have hd12 := hd11.keep (same_upd (o := .lst [V.str (tx (t ++ x)), V.str (tx x2), V.str (tx (t.take n2))]) np)
    have hp12 : upd H11 p (.lst [V.str (tx (t ++ x)), V.str (tx x2), V.str (tx (t.take n2))]) p = some (.lst [V.str (tx (t ++ x)), V.str (tx x2), V.str (tx (t.take n2))]) := upd_same
    generalize upd H11 p (.lst [V.str (tx (t ++ x)), V.str (tx x2), V.str (tx (t.take n2))]) = H12 at *
    walk_at "rds"
    refine rd_ixX (sz_of' (by omega)) (atI_nat (j := 0) ha0) ?_
    walk_at "rds"
    refine ⟨D, L, 30, rfl, hd12, by decide, by decide, fun k3 H13 hk31 hk32 kp13 hd13 => ?_⟩
    refine rd_mulX (by omega) (by omega) (by simp; omega) ?_
    rw [reps_one]
    refine rd_addX (sz_of' (by simp; omega)) ?_
    walk_at "rds"
    refine ⟨(by show 1 ≤ sizeLine; decide), fun p2 np2 => ?_⟩
    walk_at "rds"
    have hp13 := kp13 _ _ hp12 pD pL
    have hd14 := hd13.keep (same_upd (o := .lst [V.str (tx (t ++ List.replicate k3.toNat b))]) np2)
    refine rd_cat (same_upd np2 _ _ hp13) upd_same (by show 4 ≤ sizeLine; decide) fun p3 np3 => ?_
    walk_at "rds"
    obtain ⟨p3D, p3L⟩ := hd14.new np3
    refine ⟨D, L, _, _, rfl, hd14.keep (same_upd np3), .inl ⟨p3, rfl, p3D, p3L, SqL.of upd_same⟩, (by show 0 < 4; decide), (by show 4 ≤ 1000; decide), fun v H15 hv kp15 hd15 => ?_⟩
    obtain ⟨o, rfl, hol⟩ : ∃ o, v = .str (tx o) ∧ o.length ≤ 60 := by
      simp only [List.mem_append, List.mem_cons, List.not_mem_nil, or_false] at hv
      rcases hv with (rfl | rfl | rfl) | rfl
      · exact ⟨_, rfl, by rw [List.length_append]; omega⟩
      · exact ⟨_, rfl, by omega⟩
      · exact ⟨_, rfl, by rw [List.length_take]; omega⟩
      · exact ⟨_, rfl, by simp; omega⟩
    clear hv
    walk_at "rds"
    refine rd_cut (fun σ' H' => Deal D L H' ∧ ∃ y2 y6 y7, σ' = [some (.ref a), some (.ref D), y2, some (.str (tx ls)), some (.str (tx t)), some (.str (tx o)), y6, y7]) ?_ ?_
    · walk_at "rds"
      refine ⟨(by show 2 ≤ sizeLine; decide), fun q1 n1 => ?_⟩
      have e1 := same_upd (o := .tup [V.str (tx t), V.str (tx o)]) n1
      have f1 : upd H15 q1 (.tup [V.str (tx t), V.str (tx o)]) q1 = some (.tup [V.str (tx t), V.str (tx o)]) := upd_same
      generalize upd H15 q1 (.tup [V.str (tx t), V.str (tx o)]) = G1 at *
      walk_at "rds"
      refine ⟨(by show 2 ≤ sizeLine; decide), fun q2 n2' => ?_⟩
      have e2 := same_upd (o := .tup [V.str (tx o), V.str (tx t)]) n2'
      have f2 : upd G1 q2 (.tup [V.str (tx o), V.str (tx t)]) q2 = some (.tup [V.str (tx o), V.str (tx t)]) := upd_same
      generalize upd G1 q2 (.tup [V.str (tx o), V.str (tx t)]) = G2 at *
      walk_at "rds"
      refine ⟨(by show 2 ≤ sizeLine; decide), fun q3 n3 => ?_⟩
      have e3 := same_upd (o := .tup [V.str (tx t), V.str (tx t)]) n3
      have f3 : upd G2 q3 (.tup [V.str (tx t), V.str (tx t)]) q3 = some (.tup [V.str (tx t), V.str (tx t)]) := upd_same
      generalize upd G2 q3 (.tup [V.str (tx t), V.str (tx t)]) = G3 at *
      walk_at "rds"
      refine ⟨(by show 2 ≤ sizeLine; decide), fun q4 n4 => ?_⟩
      have e4 := same_upd (o := .tup [V.str (tx []), V.str (tx o)]) n4
      have f4 : upd G3 q4 (.tup [V.str (tx []), V.str (tx o)]) q4 = some (.tup [V.str (tx []), V.str (tx o)]) := upd_same
      generalize upd G3 q4 (.tup [V.str (tx []), V.str (tx o)]) = G4 at *
      walk_at "rds"
      refine ⟨(by show 4 ≤ sizeLine; decide), fun q5 n5 => ?_⟩
      have e5 := same_upd (o := .tup [V.ref q1, V.ref q2, V.ref q3, V.ref q4]) n5
      have f5 : upd G4 q5 (.tup [V.ref q1, V.ref q2, V.ref q3, V.ref q4]) q5 = some (.tup [V.ref q1, V.ref q2, V.ref q3, V.ref q4]) := upd_same
      generalize upd G4 q5 (.tup [V.ref q1, V.ref q2, V.ref q3, V.ref q4]) = G5 at *
      have hall : ∀ x ∈ [V.ref q1, V.ref q2, V.ref q3, V.ref q4], ∃ (r : Addr) (lo hi : List Nat), x = .ref r ∧ G5 r = some (.tup [V.str (tx lo), V.str (tx hi)]) ∧ lo.length ≤ 60 ∧ hi.length ≤ 60 := by
        intro x hx
        simp only [List.mem_cons, List.not_mem_nil, or_false] at hx
        rcases hx with rfl | rfl | rfl | rfl
        · exact ⟨_, _, _, rfl, e5 _ _ (e4 _ _ (e3 _ _ (e2 _ _ f1))), by omega, by omega⟩
        · exact ⟨_, _, _, rfl, e5 _ _ (e4 _ _ (e3 _ _ f2)), by omega, by omega⟩
        · exact ⟨_, _, _, rfl, e5 _ _ (e4 _ _ f3), by omega, by omega⟩
        · exact ⟨_, _, _, rfl, e5 _ _ f4, by decide, by omega⟩
      have hdG : Deal D L G5 := hd15.keep (e1.trans (e2.trans (e3.trans (e4.trans e5))))
      clear e1 e2 e3 e4 e5 f1 f2 f3 f4 n1 n2' n3 n4 n5
      generalize [V.ref q1, V.ref q2, V.ref q3, V.ref q4] = zs at *
      refine ⟨q5, rfl, ⟨_, SqT.of f5⟩, for_tup (K := K) (a := q5) (xs := zs) (fun i σ' H' => H' = G5 ∧ ∃ y2 y6 y7, σ' = [some (.ref a), some (.ref D), y2, some (.str (tx ls)), some (.str (tx t)), some (.str (tx o)), y6, y7]) ⟨rfl, _, _, _, rfl⟩ (fun i σ' H' _ h => by rw [h.1]; exact SqT.of f5) ?_ ?_⟩
      · rintro i' x σ' H' hx ⟨rfl, z2, z6, z7, rfl⟩
        obtain ⟨r, lo, hi', rfl, hr', hlo', hhi'⟩ := hall x (List.mem_of_getElem? hx)
        refine rd_gtup (SqT.of hr') rfl ?_
        walk_at "rds"
        refine ⟨ls, lo, _, b, rfl, ha0, hhi, by omega, .inr ⟨hi', rfl, by omega, ?_⟩⟩
        walk_at "rds"
        refine rd_repr (scal_room _ _ _ (by omega)) ?_
        walk_at "rds"
        refine ⟨ls, lo, hi', b, rfl, ha0, hhi, by omega, by omega, ?_⟩
        walk_at "rds"
        refine rd_repr (scal_room _ _ _ (by omega)) ?_
        walk_at "rds"
        refine rd_ite (fun h => by simp at h) (fun _ => ?_)
        walk_at "rds"
        exact ⟨rfl, _, _, _, rfl⟩
      · rintro σ' H' ⟨rfl, z2, z6, z7, rfl⟩
        exact ⟨hdG, _, _, _, rfl⟩
    · rintro σ' H' ⟨hdG, z2, z6, z7, rfl⟩
      walk_at "rds"
      refine ⟨ls, t, _, b, rfl, ha0, hhi, by omega, .inl ⟨rfl, ?_⟩⟩
      walk_at "rds"
      refine rd_ite (fun h => by simp at h) (fun _ => ?_)
      walk_at "rds"
      exact ⟨hdG, _, _, _, _, _, _, rfl⟩
end
theorem all_mk {l : PySem.W.OpenLaw} {w : World} {K : PySem.W.Frag} {h : Heap} {mg : Str → Option Value} {fa f1 f2 f3 f4 f5 f6 f7 f8 f9 f10 f11 : Addr} (X : K.In h) (G : h.Ns mainGlobals mg) (hfa : mg "law" = some (.ref fa))
    {od1 od2 od3 od4 od5 od6 od7 od8 od9 od10 od11 an1 an2 an3 an4 an5 an6 an7 an8 an9 an10 an11 : Option Addr} {sl1 sl2 sl3 sl4 sl5 sl6 sl7 sl8 sl9 sl10 sl11 : Array (Option Value)} {oc1 oc2 oc3 oc4 oc5 oc6 oc7 oc8 oc9 oc10 oc11 kV1 kV2 kV3 kV4 kV5 kV6 kV7 kV8 kV9 kV10 kV11 dc1 dc2 dc3 dc4 dc5 dc6 dc7 dc8 dc9 dc10 dc11 pm1 pm2 pm3 pm4 pm5 pm6 pm7 pm8 pm9 pm10 pm11 cd1 cd2 cd3 cd4 cd5 cd6 cd7 cd8 cd9 cd10 cd11 ct1 ct2 ct3 ct4 ct5 ct6 ct7 ct8 ct9 ct10 ct11 : Value}
    (a1 : PySem.W.nsIn K mainGlobals "raised" = some (some (.ref f1))) (l1 : K.lookup f1 = some ⟨oc1, od1, .func (PySem.W.fnOf "raised" "raised" (defArgs s_raised) (defBody s_raised) (defScope s_raised) .none kV1 dc1 pm1 an1 cd1 ct1), sl1⟩) (c1 : PySem.W.codeIn K cd1 "raised" = true) (k1 : PySem.W.keepIn K (.ref f1) = true)
    (a2 : PySem.W.nsIn K mainGlobals "room" = some (some (.ref f2))) (l2 : K.lookup f2 = some ⟨oc2, od2, .func (PySem.W.fnOf "room" "room" (defArgs s_room) (defBody s_room) (defScope s_room) .none kV2 dc2 pm2 an2 cd2 ct2), sl2⟩) (c2 : PySem.W.codeIn K cd2 "room" = true) (k2 : PySem.W.keepIn K (.ref f2) = true)
    (a3 : PySem.W.nsIn K mainGlobals "_law_deal" = some (some (.ref f3))) (l3 : K.lookup f3 = some ⟨oc3, od3, .func (PySem.W.fnOf "_law_deal" "_law_deal" (defArgs s__law_deal) (defBody s__law_deal) (defScope s__law_deal) .none kV3 dc3 pm3 an3 cd3 ct3), sl3⟩) (c3 : PySem.W.codeIn K cd3 "_law_deal" = true) (k3 : PySem.W.keepIn K (.ref f3) = true)
    (a4 : PySem.W.nsIn K mainGlobals "_law_draw" = some (some (.ref f4))) (l4 : K.lookup f4 = some ⟨oc4, od4, .func (PySem.W.fnOf "_law_draw" "_law_draw" (defArgs s__law_draw) (defBody s__law_draw) (defScope s__law_draw) .none kV4 dc4 pm4 an4 cd4 ct4), sl4⟩) (c4 : PySem.W.codeIn K cd4 "_law_draw" = true) (k4 : PySem.W.keepIn K (.ref f4) = true)
    (a5 : PySem.W.nsIn K mainGlobals "_law_pick" = some (some (.ref f5))) (l5 : K.lookup f5 = some ⟨oc5, od5, .func (PySem.W.fnOf "_law_pick" "_law_pick" (defArgs s__law_pick) (defBody s__law_pick) (defScope s__law_pick) .none kV5 dc5 pm5 an5 cd5 ct5), sl5⟩) (c5 : PySem.W.codeIn K cd5 "_law_pick" = true) (k5 : PySem.W.keepIn K (.ref f5) = true)
    (a6 : PySem.W.nsIn K mainGlobals "_law_letters" = some (some (.ref f6))) (l6 : K.lookup f6 = some ⟨oc6, od6, .func (PySem.W.fnOf "_law_letters" "_law_letters" (defArgs s__law_letters) (defBody s__law_letters) (defScope s__law_letters) .none kV6 dc6 pm6 an6 cd6 ct6), sl6⟩) (c6 : PySem.W.codeIn K cd6 "_law_letters" = true) (k6 : PySem.W.keepIn K (.ref f6) = true)
    (a7 : PySem.W.nsIn K mainGlobals "_law_word" = some (some (.ref f7))) (l7 : K.lookup f7 = some ⟨oc7, od7, .func (PySem.W.fnOf "_law_word" "_law_word" (defArgs s__law_word) (defBody s__law_word) (defScope s__law_word) .none kV7 dc7 pm7 an7 cd7 ct7), sl7⟩) (c7 : PySem.W.codeIn K cd7 "_law_word" = true) (k7 : PySem.W.keepIn K (.ref f7) = true)
    (a8 : PySem.W.nsIn K mainGlobals "_law_tail" = some (some (.ref f8))) (l8 : K.lookup f8 = some ⟨oc8, od8, .func (PySem.W.fnOf "_law_tail" "_law_tail" (defArgs s__law_tail) (defBody s__law_tail) (defScope s__law_tail) .none kV8 dc8 pm8 an8 cd8 ct8), sl8⟩) (c8 : PySem.W.codeIn K cd8 "_law_tail" = true) (k8 : PySem.W.keepIn K (.ref f8) = true)
    (a9 : PySem.W.nsIn K mainGlobals "_law_raised_right" = some (some (.ref f9))) (l9 : K.lookup f9 = some ⟨oc9, od9, .func (PySem.W.fnOf "_law_raised_right" "_law_raised_right" (defArgs s__law_raised_right) (defBody s__law_raised_right) (defScope s__law_raised_right) .none kV9 dc9 pm9 an9 cd9 ct9), sl9⟩) (c9 : PySem.W.codeIn K cd9 "_law_raised_right" = true) (k9 : PySem.W.keepIn K (.ref f9) = true)
    (a10 : PySem.W.nsIn K mainGlobals "_law_walked" = some (some (.ref f10))) (l10 : K.lookup f10 = some ⟨oc10, od10, .func (PySem.W.fnOf "_law_walked" "_law_walked" (defArgs s__law_walked) (defBody s__law_walked) (defScope s__law_walked) .none kV10 dc10 pm10 an10 cd10 ct10), sl10⟩) (c10 : PySem.W.codeIn K cd10 "_law_walked" = true) (k10 : PySem.W.keepIn K (.ref f10) = true)
    (a11 : PySem.W.nsIn K mainGlobals "law" = some (some (.ref f11))) (l11 : K.lookup f11 = some ⟨oc11, od11, .func (PySem.W.fnOf "law" "law" (defArgs s_law) (defBody s_law) (defScope s_law) .none kV11 dc11 pm11 an11 cd11 ct11), sl11⟩) (c11 : PySem.W.codeIn K cd11 "law" = true) (k11 : PySem.W.keepIn K (.ref f11) = true)
    (z1 : PySem.W.nsIn K mainGlobals "int" = some none)
    (z2 : PySem.W.nsIn K mainGlobals "len" = some none)
    (z3 : PySem.W.nsIn K mainGlobals "list" = some none)
    (z4 : PySem.W.nsIn K mainGlobals "range" = some none)
    (z5 : PySem.W.nsIn K mainGlobals "repr" = some none)
    (z6 : PySem.W.nsIn K mainGlobals "sorted" = some none)
    (z7 : PySem.W.nsIn K mainGlobals "str" = some none)
    : ∃ fd : FuncData, (∀ (s : Shared) (v : Value), BindsTo s fd ⟨[v], []⟩ [("_law_script", v)]) ∧ ∀ base : Heap, K.In base → base.Ns mainGlobals mg → FnOk l.prog w K mg base CX0 6 fa fd ["_law_script"] (spLaw K) := by
  have e := hfa.symm.trans (PySem.W.mg_of X G a11)
  cases e
  have F1 := fun_mk (st := s_raised) l1 c1 k1
  have b1 := F1.binds (ps := ["letters", "text"]) fun _ _ _ _ _ _ us hl => match us, hl with | [_, _], _ => rfl
  have F2 := fun_mk (st := s_room) l2 c2 k2
  have b2 := F2.binds (ps := ["letters", "low", "high"]) fun _ _ _ _ _ _ us hl => match us, hl with | [_, _, _], _ => rfl
  have F3 := fun_mk (st := s__law_deal) l3 c3 k3
  have b3 := F3.binds (ps := ["_law_script", "_law_base"]) fun _ _ _ _ _ _ us hl => match us, hl with | [_, _], _ => rfl
  have F4 := fun_mk (st := s__law_draw) l4 c4 k4
  have b4 := F4.binds (ps := ["_law_deal_here", "_law_many"]) fun _ _ _ _ _ _ us hl => match us, hl with | [_, _], _ => rfl
  have F5 := fun_mk (st := s__law_pick) l5 c5 k5
  have b5 := F5.binds (ps := ["_law_deal_here", "_law_some"]) fun _ _ _ _ _ _ us hl => match us, hl with | [_, _], _ => rfl
  have F6 := fun_mk (st := s__law_letters) l6 c6 k6
  have b6 := F6.binds (ps := ["_law_deal_here", "_law_many"]) fun _ _ _ _ _ _ us hl => match us, hl with | [_, _], _ => rfl
  have F7 := fun_mk (st := s__law_word) l7 c7 k7
  have b7 := F7.binds (ps := ["_law_deal_here", "_law_letters_here", "_law_most"]) fun _ _ _ _ _ _ us hl => match us, hl with | [_, _, _], _ => rfl
  have F8 := fun_mk (st := s__law_tail) l8 c8 k8
  have b8 := F8.binds (ps := ["_law_deal_here", "_law_letters_here"]) fun _ _ _ _ _ _ us hl => match us, hl with | [_, _], _ => rfl
  have F9 := fun_mk (st := s__law_raised_right) l9 c9 k9
  have b9 := F9.binds (ps := ["_law_deal_here", "_law_letters_here", "_law_text"]) fun _ _ _ _ _ _ us hl => match us, hl with | [_, _, _], _ => rfl
  have F10 := fun_mk (st := s__law_walked) l10 c10 k10
  have b10 := F10.binds (ps := ["_law_letters_here", "_law_low", "_law_high"]) fun _ _ _ _ _ _ us hl => match us, hl with | [_, _, _], _ => rfl
  have F11 := fun_mk (st := s_law) l11 c11 k11
  have b11 := F11.binds (ps := ["_law_script"]) fun _ _ _ _ _ _ us hl => match us, hl with | [_], _ => rfl
  have T : Txt K mg := ⟨⟨_, _, F1, PySem.W.mg_of X G a1, b1⟩, ⟨_, _, F2, PySem.W.mg_of X G a2, b2⟩, ⟨_, _, F3, PySem.W.mg_of X G a3, b3⟩, ⟨_, _, F4, PySem.W.mg_of X G a4, b4⟩, ⟨_, _, F5, PySem.W.mg_of X G a5, b5⟩, ⟨_, _, F6, PySem.W.mg_of X G a6, b6⟩, ⟨_, _, F7, PySem.W.mg_of X G a7, b7⟩, ⟨_, _, F8, PySem.W.mg_of X G a8, b8⟩, ⟨_, _, F9, PySem.W.mg_of X G a9, b9⟩, ⟨_, _, F10, PySem.W.mg_of X G a10, b10⟩, ⟨_, _, F11, PySem.W.mg_of X G a11, b11⟩, PySem.W.mg_none_of X G z1, PySem.W.mg_none_of X G z2, PySem.W.mg_none_of X G z3, PySem.W.mg_none_of X G z4, PySem.W.mg_none_of X G z5, PySem.W.mg_none_of X G z6, PySem.W.mg_none_of X G z7⟩
  exact ⟨PySem.W.fnOf "law" "law" (defArgs s_law) (defBody s_law) (defScope s_law) .none kV11 dc11 pm11 an11 cd11 ct11, fun s v => .of_eq rfl, fun base _ _ => ok_law T F11⟩

end Zk02
open PySem PySem.W PyProof.Rows
set_option maxRecDepth 100000 in
set_option maxHeartbeats 0 in
theorem PySem.Challenge.cw_undername_k02_whole_raised_texts_and_roo_holds : PySem.Challenge.rw_undername_k02_whole_raised_texts_and_roo.Holds := by
  w_on; o_law; k_head; (case hw => w_witness2)
  k_fill
  refine L2.walk_of (l := PySem.Challenge.rw_undername_k02_whole_raised_texts_and_roo) (n := 63) (k := 6) (x := "_law_script") (CX := fun _ => L2.CX0) (sp := fun w => Zk02.spLaw _) rfl (by decide) rfl ⟨rfl, by decide, by decide⟩ (fun w h Y => PySem.W.kIn_of Y) ?F (fun _ _ a ns hl _ hS => ⟨a, ns, rfl, hS, hl, fun _ => rfl⟩) (fun _ _ _ _ _ h => h)
  case F =>
    intro w mg fa h KX G hmg
    refine' Zk02.all_mk KX G hmg ?a1 ?l1 ?c1 ?k1 ?a2 ?l2 ?c2 ?k2 ?a3 ?l3 ?c3 ?k3 ?a4 ?l4 ?c4 ?k4 ?a5 ?l5 ?c5 ?k5 ?a6 ?l6 ?c6 ?k6 ?a7 ?l7 ?c7 ?k7 ?a8 ?l8 ?c8 ?k8 ?a9 ?l9 ?c9 ?k9 ?a10 ?l10 ?c10 ?k10 ?a11 ?l11 ?c11 ?k11 ?z1 ?z2 ?z3 ?z4 ?z5 ?z6 ?z7
    (case a1 => k_is); (case l1 => k_is); (case c1 => k_is); (case k1 => k_is); (case a2 => k_is); (case l2 => k_is); (case c2 => k_is); (case k2 => k_is)
    (case a3 => k_is); (case l3 => k_is); (case c3 => k_is); (case k3 => k_is); (case a4 => k_is); (case l4 => k_is); (case c4 => k_is); (case k4 => k_is)
    (case a5 => k_is); (case l5 => k_is); (case c5 => k_is); (case k5 => k_is); (case a6 => k_is); (case l6 => k_is); (case c6 => k_is); (case k6 => k_is)
    (case a7 => k_is); (case l7 => k_is); (case c7 => k_is); (case k7 => k_is); (case a8 => k_is); (case l8 => k_is); (case c8 => k_is); (case k8 => k_is)
    (case a9 => k_is); (case l9 => k_is); (case c9 => k_is); (case k9 => k_is); (case a10 => k_is); (case l10 => k_is); (case c10 => k_is); (case k10 => k_is)
    (case a11 => k_is); (case l11 => k_is); (case c11 => k_is); (case k11 => k_is); (case z1 => k_is); (case z2 => k_is); (case z3 => k_is); (case z4 => k_is)
    (case z5 => k_is); (case z6 => k_is); (case z7 => k_is)
