import PyProof.Rows.All
import Wide.All
import OpenK.AllK
import Wide.FinOn
import HandS.ForMost
import HandS.Wide
import HandS.Evl
import HandS.IsInst
import HandS.TupAny
import HandS.TupMul
import HandS.TupLe
import HandS.Dict
import HandS.Conv
import PySem.Challenge.RW_onestepcourt_k06_roots_and_paths
set_option Elab.async false
set_option linter.all false
set_option maxRecDepth 100000
namespace Kit
open PySem PySem.Spec PyProof.Rows L2 Evl
abbrev St := L2.St
/-! ### facts of the text -/
structure GFn (K : PySem.W.Frag) (x qual : Str) (st : Stmt) (ps : List Str) where
  f : Addr
  fd : FuncData
  F : Fun K x qual st f fd
  b : Binds K fd ps []
structure GFn' (K : PySem.W.Frag) (mg : Str → Option Value) (x qual : Str) (st : Stmt) (ps : List Str) extends GFn K x qual st ps where
  g : mg x = some (.ref f)
structure GCl (K : PySem.W.Frag) (mg : Str → Option Value) (x : Str) (fI : Addr) where
  C : Addr
  cl : Cls K C
  M : Mk K C fI
  g : mg x = some (.ref C)
/-- an attribute read; a method's receiver; a new instance; an attribute stored -/
def FldOf (K : PySem.W.Frag) (f : Str) (x : V) (H : Hp) (Q : VK) : Prop := ∃ a C dx fs v, x = .ref a ∧ H a = some (.ins C dx fs) ∧ Cls K C ∧ NoAttr K C f ∧ fs.lookup f = some v ∧ Q v H
def InsOf (C : Addr) (m : Str) (x : V) (H : Hp) (R : Prop) : Prop := ∃ a dx fs, x = .ref a ∧ H a = some (.ins C dx fs) ∧ fs.lookup m = none ∧ R
def MakeOf (C : Addr) (sp : Sp) (E : XK) (vs : List V) (H : Hp) (Q : VK) : Prop := ∀ x dx, H x = none → H dx = none → dx ≠ x → sp (.ref x :: vs) (upd (upd H dx (.own x)) x (.ins C dx [])) (fun v H2 => v = .non ∧ Q (.ref x) H2) E
def PutOf (K : PySem.W.Frag) (f : Str) (y x : V) (H : Hp) (R : Hp → Prop) : Prop := ∃ a C dx fs, x = .ref a ∧ H a = some (.ins C dx fs) ∧ Cls K C ∧ NoAttr K C f ∧ fs.length < 1000 ∧ R (upd H a (.ins C dx (putF f y fs)))
/-- a new object of so many items -/
def Alloc (n : Nat) (o : HO) (H : Hp) (Q : VK) : Prop := n ≤ sizeLine ∧ ∀ p, H p = none → Q (.ref p) (upd H p o)
/-! ### a statement with its four ways out -/
def Sm (t : TS) (nx : St → Hp → Prop) (rt : VK) (bk ct : St → Hp → Prop) (σ : St) (H : Hp) : Prop := t ⟨nx, rt, bk, ct⟩ σ H
section
variable {σ : St} {H H1 H2 : Hp} {Q : VK} {R : Bool → Hp → Prop} {A : List V → Hp → Prop} {i n : Nat} {v x y : V} {ta tb te tv : TE} {tl tr : TA} {b : Bool} {K : PySem.W.Frag} {a C dx p : Addr} {fs : List (Str × V)} {f : Str} {t u c : TT}
theorem w_var (h : σ[i]? = some (some v)) (q : Q v H) : tVar i σ H Q := ⟨v, h, q⟩
theorem w_c (q : Q v H) : tC v σ H Q := q
theorem w_op {r : R2} (h : ta σ H fun x H1 => tb σ H1 fun y H2 => r x y H2 Q) : tOp r ta tb σ H Q := h
theorem w_un {r : V → Hp → VK → Prop} (h : ta σ H fun x H1 => r x H1 Q) : tUn r ta σ H Q := h
theorem w_cb {r : List V → Hp → VK → Prop} (h : tl σ H fun vs H1 => r vs H1 Q) : tCB r tl σ H Q := h
theorem w_nil (q : A [] H) : tNil σ H A := q
theorem w_cons (h : te σ H fun x H1 => tr σ H1 fun xs H2 => A (x :: xs) H2) : tCons te tr σ H A := h
theorem w_tup (h : tl σ H fun xs H1 => Alloc xs.length (.tup xs) H1 Q) : tTup tl σ H Q := h
theorem w_lst (h : tl σ H fun xs H1 => Alloc xs.length (.lst xs) H1 Q) : tLst tl σ H Q := h
theorem w_call {sp : Sp} {dvs : List V} {E : XK} (h : tl σ H fun vs H1 => sp (vs ++ dvs) H1 Q E) : tCall sp dvs E tl σ H Q := h
theorem w_test (h : te σ H fun x H' => ∃ k, x = .bl k ∧ R k H') : tTest te σ H R := h
theorem w_B (h : te σ H fun x H' => ∃ k, x = .bl k ∧ R k H') : tB te σ H R := h
theorem w_and (h : t σ H fun c H1 => if c = true then u σ H1 R else R false H1) : tAnd t u σ H R := h
theorem w_or (h : t σ H fun c H1 => if c = true then R true H1 else u σ H1 R) : tOr t u σ H R := h
theorem w_not (h : t σ H fun c H1 => R (!c) H1) : tNot t σ H R := h
theorem w_andV (h : ta σ H fun x H1 => ∃ c, x = .bl c ∧ if c = true then tb σ H1 Q else Q (.bl false) H1) : tAndV ta tb σ H Q := h
theorem w_orV (h : ta σ H fun x H1 => ∃ c, x = .bl c ∧ if c = true then Q (.bl true) H1 else tb σ H1 Q) : tOrV ta tb σ H Q := h
theorem w_notV (h : ta σ H fun x H1 => ∃ c, x = .bl c ∧ Q (.bl (!c)) H1) : tNotV ta σ H Q := h
theorem w_ifE (h : t σ H fun c H1 => if c = true then ta σ H1 Q else tb σ H1 Q) : tIf t ta tb σ H Q := h
theorem w_fld (h : ta σ H fun x H1 => FldOf K f x H1 Q) : tFld K ta f σ H Q := h
theorem w_rd {v : V} (h : H a = some (.ins C dx fs)) (cl : Cls K C) (n : NoAttr K C f) (l : fs.lookup f = some v) (q : Q v H) : FldOf K f (.ref a) H Q := ⟨a, C, dx, fs, v, rfl, h, cl, n, l, q⟩
theorem w_meth {m : Str} {sp : Sp} {E : XK} (h : ta σ H fun x H1 => InsOf C m x H1 (tl σ H1 fun vs H2 => sp (x :: vs) H2 Q E)) : tMeth C m sp [] E ta tl σ H Q := by
  have e : tMeth C m sp [] E ta tl σ H Q = (ta σ H fun x H1 => InsOf C m x H1 (tl σ H1 fun vs H2 => sp (x :: vs) H2 Q E)) := by unfold tMeth InsOf; simp only [List.append_nil]
  rw [e]; exact h
theorem w_ins {m : Str} {R : Prop} (h : H a = some (.ins C dx fs)) (l : fs.lookup m = none) (r : R) : InsOf C m (.ref a) H R := ⟨a, dx, fs, rfl, h, l, r⟩
theorem w_make {sp : Sp} {E : XK} (h : tl σ H fun vs H1 => MakeOf C sp E vs H1 Q) : tMake C sp [] E tl σ H Q := by
  have e : tMake C sp [] E tl σ H Q = (tl σ H fun vs H1 => MakeOf C sp E vs H1 Q) := by unfold tMake MakeOf; simp only [List.append_nil]
  rw [e]; exact h
theorem w_made {sp : Sp} {E : XK} {vs : List V} (h : ∀ x dx H2, H x = none → Ex H H2 → H2 x = some (.ins C dx []) → sp (.ref x :: vs) H2 (fun v H3 => v = .non ∧ Q (.ref x) H3) E) : MakeOf C sp E vs H Q :=
  fun x dx hx hd hn => h x dx _ hx (fun b o hb => by rw [upd_ne (ne_of_none hb hx), upd_ne (ne_of_none hb hd)]; exact hb) upd_same
theorem w_bl {k : Bool} (q : R k H) : ∃ k', V.bl k = .bl k' ∧ R k' H := ⟨k, rfl, q⟩
theorem w_blE {k : Bool} {P : Bool → Prop} (q : P k) : ∃ k', V.bl k = .bl k' ∧ P k' := ⟨k, rfl, q⟩
/-- operators -/
theorem w_I0 {g : Int → Int → V} {i j : Int} (q : Q (g i j) H) : rI0 g (.int i) (.int j) H Q := ⟨i, j, rfl, rfl, q⟩
theorem w_I {C : Int → Int → Prop} {g : Int → Int → V} {i j : Int} (hc : C i j) (q : Q (g i j) H) : rI C g (.int i) (.int j) H Q := ⟨i, j, rfl, rfl, hc, q⟩
theorem w_U {g : Int → V} {i : Int} (q : Q (g i) H) : rU g (.int i) H Q := ⟨i, rfl, q⟩
theorem w_eqI {i j : Int} (q : Q (.bl (decide (i = j))) H) : rEq (.int i) (.int j) H Q := ⟨rfl, by
  have e : decide (V.int i = V.int j) = decide (i = j) := by
    by_cases h : i = j
    · subst h; rw [decide_eq_true rfl, decide_eq_true rfl]
    · rw [decide_eq_false h, decide_eq_false (fun z => h (V.int.inj z))]
  rw [e]; exact q⟩
theorem w_neI {i j : Int} (q : Q (.bl (!decide (i = j))) H) : rNe (.int i) (.int j) H Q := ⟨rfl, by
  have e : decide (V.int i = V.int j) = decide (i = j) := by
    by_cases h : i = j
    · subst h; rw [decide_eq_true rfl, decide_eq_true rfl]
    · rw [decide_eq_false h, decide_eq_false (fun z => h (V.int.inj z))]
  rw [e]; exact q⟩
theorem w_eqB {i j : Bool} (q : Q (.bl (i == j)) H) : rEq (.bl i) (.bl j) H Q := ⟨rfl, by rw [dec_bl]; exact q⟩
theorem w_neB {i j : Bool} (q : Q (.bl (!(i == j))) H) : rNe (.bl i) (.bl j) H Q := ⟨rfl, by rw [dec_bl]; exact q⟩
theorem w_eqS {i : Str} (q : Q (.bl true) H) : rEq (.str i) (.str i) H Q := ⟨rfl, by rw [decide_eq_true rfl]; exact q⟩
theorem w_eqSF {i j : Str} (h : decide (i = j) = false) (q : Q (.bl false) H) : rEq (.str i) (.str j) H Q := ⟨rfl, by
  rw [decide_eq_false (fun z => of_decide_eq_false h (V.str.inj z))]; exact q⟩
theorem w_eqSd {i j : Str} (q : Q (.bl (decide (i = j))) H) : rEq (.str i) (.str j) H Q := ⟨rfl, by
  have e : decide (V.str i = V.str j) = decide (i = j) := by
    by_cases h : i = j
    · subst h; rw [decide_eq_true rfl, decide_eq_true rfl]
    · rw [decide_eq_false h, decide_eq_false (fun z => h (V.str.inj z))]
  rw [e]; exact q⟩
theorem w_neS {i : Str} (q : Q (.bl false) H) : rNe (.str i) (.str i) H Q := ⟨rfl, by rw [decide_eq_true rfl]; exact q⟩
theorem w_isN (q : Q (.bl (decide (x = .non))) H) : (fun (x y : V) (H : Hp) (Q : VK) => y = .non ∧ Q (.bl (decide (x = .non))) H) x .non H Q := ⟨rfl, q⟩
theorem w_ixL {p : Addr} {xs : List V} {i : Int} (h : SqL K H p xs) (ha : atI xs i = some v) (q : Q v H) : rIxL K (.ref p) (.int i) H Q := ⟨p, xs, i, v, rfl, rfl, h, ha, q⟩
theorem w_ixT {p : Addr} {xs : List V} {i : Int} (h : SqT K H p xs) (ha : atI xs i = some v) (q : Q v H) : rIxT K (.ref p) (.int i) H Q := ⟨p, xs, i, v, rfl, rfl, h, ha, q⟩
theorem w_inL {neg : Bool} {p : Addr} {xs : List V} (h : SqL K H p xs) (hx : flatV x = true) (ha : xs.all flatV = true) (q : Q (.bl (if neg then !inV x xs else inV x xs)) H) : rIn K neg x (.ref p) H Q := ⟨p, xs, rfl, Or.inl h, hx, ha, q⟩
theorem w_inT {neg : Bool} {p : Addr} {xs : List V} (h : SqT K H p xs) (hx : flatV x = true) (ha : xs.all flatV = true) (q : Q (.bl (if neg then !inV x xs else inV x xs)) H) : rIn K neg x (.ref p) H Q := ⟨p, xs, rfl, Or.inr h, hx, ha, q⟩
theorem w_call0 {sp : Sp} {E : XK} (h : tl σ H fun vs H1 => sp vs H1 Q E) : tCall sp [] E tl σ H Q := by
  have e : tCall sp [] E tl σ H Q = (tl σ H fun vs H1 => sp vs H1 Q E) := by unfold tCall; simp only [List.append_nil]
  rw [e]; exact h
theorem w_inLt {p : Addr} {xs : List V} (h : SqL K H p xs ∨ SqT K H p xs) (hb : (flatV x && xs.all flatV && inV x xs) = true) (q : Q (.bl true) H) : rIn K false x (.ref p) H Q := by
  simp only [Bool.and_eq_true] at hb
  exact ⟨p, xs, rfl, h, hb.1.1, hb.1.2, by rw [hb.2]; exact q⟩
theorem w_inLf {p : Addr} {xs : List V} (h : SqL K H p xs ∨ SqT K H p xs) (hb : (flatV x && xs.all flatV && !inV x xs) = true) (q : Q (.bl false) H) : rIn K false x (.ref p) H Q := by
  simp only [Bool.and_eq_true, Bool.not_eq_true'] at hb
  exact ⟨p, xs, rfl, h, hb.1.1, hb.1.2, by rw [hb.2]; exact q⟩
/-- built-ins by names -/
def rInt : List V → Hp → VK → Prop := fun xs H Q => (∃ i, xs = [.int i] ∧ Q (.int i) H) ∨ ∃ k, xs = [.bl k] ∧ Q (.int (if k then 1 else 0)) H
def rMax : List V → Hp → VK → Prop := fun xs H Q => ∃ i j, xs = [.int i, .int j] ∧ Q (.int (if j > i then j else i)) H
def rMin : List V → Hp → VK → Prop := fun xs H Q => ∃ i j, xs = [.int i, .int j] ∧ Q (.int (if j < i then j else i)) H
def rAbs : List V → Hp → VK → Prop := fun xs H Q => ∃ i, xs = [.int i] ∧ Q (.int (if i < 0 then -i else i)) H
def rTupS (K : PySem.W.Frag) : List V → Hp → VK → Prop := fun xs H Q => ∃ p ys, xs = [.ref p] ∧ ((SqL K H p ys ∧ ∀ l, H l = none → Q (.ref l) (upd H l (.tup ys))) ∨ (SqT K H p ys ∧ Q (.ref p) H))
theorem k_int {X : Cx} : CallR X (.type "int") rInt := call_int1
theorem k_max {X : Cx} (hc : X.calm = true) : CallR X (.builtin "max") rMax := call_max2 hc
theorem k_min {X : Cx} (hc : X.calm = true) : CallR X (.builtin "min") rMin := call_min2 hc
theorem k_abs {X : Cx} : CallR X (.builtin "abs") rAbs := call_abs
theorem k_len {X : Cx} : CallR X (.builtin "len") (rLenS X.K) := call_len_seq
theorem k_list {X : Cx} : CallR X (.type "list") (rListS X.K) := call_list_of
theorem k_tuple {X : Cx} : CallR X (.type "tuple") (rTupS X.K) := call_tuple_of
theorem w_int {i : Int} (q : Q (.int i) H) : rInt [.int i] H Q := .inl ⟨i, rfl, q⟩
theorem w_intB {k : Bool} (q : Q (.int (if k = true then 1 else 0)) H) : rInt [.bl k] H Q := .inr ⟨k, rfl, q⟩
theorem w_max {i j : Int} (q : Q (.int (if j > i then j else i)) H) : rMax [.int i, .int j] H Q := ⟨i, j, rfl, q⟩
theorem w_min {i j : Int} (q : Q (.int (if j < i then j else i)) H) : rMin [.int i, .int j] H Q := ⟨i, j, rfl, q⟩
theorem w_abs {i : Int} (q : Q (.int (if i < 0 then -i else i)) H) : rAbs [.int i] H Q := ⟨i, rfl, q⟩
theorem w_len {p : Addr} {xs : List V} (h : SqL K H p xs ∨ SqT K H p xs) (q : Q (.int (xs.length : Int)) H) : rLenS K [.ref p] H Q := ⟨p, xs, rfl, h, q⟩
theorem w_list {p : Addr} {xs : List V} (h : SqL K H p xs ∨ SqT K H p xs) (q : ∀ l H2, H l = none → Ex H H2 → H2 l = some (.lst xs) → Q (.ref l) H2) : rListS K [.ref p] H Q := ⟨p, xs, rfl, h, fun l hl => q l _ hl (Ex.new hl) upd_same⟩
theorem w_tuple {p : Addr} {xs : List V} (h : SqL K H p xs) (q : ∀ l H2, H l = none → Ex H H2 → H2 l = some (.tup xs) → Q (.ref l) H2) : rTupS K [.ref p] H Q := ⟨p, xs, rfl, .inl ⟨h, fun l hl => q l _ hl (Ex.new hl) upd_same⟩⟩
theorem w_tupleT {p : Addr} {xs : List V} (h : SqT K H p xs) (q : Q (.ref p) H) : rTupS K [.ref p] H Q := ⟨p, xs, rfl, .inr ⟨h, q⟩⟩
def rIsNo : R2 := fun x y H Q => y = .non ∧ Q (.bl (decide (x = .non))) H
def rNotNo : R2 := fun x y H Q => y = .non ∧ Q (.bl (!decide (x = .non))) H
theorem k_isN {X : Cx} : OpR X (compareOp .Is) rIsNo := op_isN
theorem k_notN {X : Cx} : OpR X (compareOp .IsNot) rNotNo := op_notN
theorem w_isNN (q : Q (.bl true) H) : rIsNo .non .non H Q := ⟨rfl, q⟩
theorem w_isNI {i : Int} (q : Q (.bl false) H) : rIsNo (.int i) .non H Q := ⟨rfl, q⟩
theorem w_isNB {i : Bool} (q : Q (.bl false) H) : rIsNo (.bl i) .non H Q := ⟨rfl, q⟩
theorem w_isNR {i : Addr} (q : Q (.bl false) H) : rIsNo (.ref i) .non H Q := ⟨rfl, q⟩
theorem w_notNN (q : Q (.bl false) H) : rNotNo .non .non H Q := ⟨rfl, q⟩
theorem w_notNI {i : Int} (q : Q (.bl true) H) : rNotNo (.int i) .non H Q := ⟨rfl, q⟩
theorem w_notNB {i : Bool} (q : Q (.bl true) H) : rNotNo (.bl i) .non H Q := ⟨rfl, q⟩
theorem w_notNR {i : Addr} (q : Q (.bl true) H) : rNotNo (.ref i) .non H Q := ⟨rfl, q⟩
theorem w_dget {td ty : TE} (h : td σ H fun x H1 => ty σ H1 fun y H2 => ∃ a v, x = .ref a ∧ DGet H2 a y (some v) ∧ Q v H2) : tDGet td ty σ H Q := h
theorem w_disp {trs : List (TE × TE)} (h : ∀ p H1, H p = none → Ex H H1 → H1 p = some (.dK []) → tPairs trs σ H1 fun ps H2 => H2 p = some (.dK []) ∧ ∃ kvs : List (Key × V), ps = kvs.map (fun kv => (kV kv.1, kv.2)) ∧ kvs.length ≤ 15 ∧ Q (.ref p) (upd H2 p (.dK (mergeK [] kvs)))) : tDisp trs σ H Q :=
  fun p hp => h p _ hp (Ex.new hp) upd_same
theorem w_pp {tk tv : TE} {r : List (TE × TE)} {B : List (V × V) → Hp → Prop} (h : tk σ H fun x H1 => tv σ H1 fun y H2 => tPairs r σ H2 fun ps H3 => B ((x, y) :: ps) H3) : tPairs ((tk, tv) :: r) σ H B := h
theorem w_pn {B : List (V × V) → Hp → Prop} (h : B [] H) : tPairs [] σ H B := h
theorem w_bm {T : String} {r : V → List V → Hp → VK → Prop} {to : TE} (h : to σ H fun x H1 => tyV K T x H1 ∧ tl σ H1 fun xs H2 => r x xs H2 Q) : tBM K T r to tl σ H Q := h
theorem w_bm0 {T : String} {r : V → List V → Hp → VK → Prop} {to : TE} (h : to σ H fun x H1 => tyV K T x H1 ∧ r x [] H1 Q) : tBM0 K T r to σ H Q := h
theorem w_tyL {p : Addr} {xs : List V} {W : Prop} (h : SqL K H p xs) (r : W) : tyV K "list" (.ref p) H ∧ W := ⟨Or.inl ⟨rfl, _, h⟩, r⟩
theorem w_app {l : Addr} {xs : List V} {y : V} (h : H l = some (.lst xs)) (hz : xs.length < 100000) (q : ∀ H2, (∀ b o, b ≠ l → H b = some o → H2 b = some o) → H2 l = some (.lst (xs ++ [y])) → Q .non H2) : rAppend (.ref l) [y] H Q :=
  ⟨l, xs, y, rfl, rfl, h, sz_lt hz, q _ (fun b o n hb => by rw [upd_ne n]; exact hb) upd_same⟩
theorem w_sl {r : V → Option Int → Option Int → Hp → VK → Prop} {to th : TO} (h : te σ H fun x H1 => to σ H1 fun l H2 => th σ H2 fun u H3 => r x l u H3 Q) : tSl r te to th σ H Q := h
theorem w_po {W : Option Int → Hp → Prop} (h : W none H) : tNoPart σ H W := h
def PartOf (W : Option Int → Hp → Prop) (x : V) (H : Hp) : Prop := ∃ i, x = .int i ∧ W (some i) H
theorem w_ps {W : Option Int → Hp → Prop} (h : te σ H fun x H1 => PartOf W x H1) : tPart te σ H W := h
theorem w_pi {W : Option Int → Hp → Prop} {i : Int} (h : W (some i) H) : PartOf W (.int i) H := ⟨i, rfl, h⟩
theorem w_slL {a : Addr} {xs : List V} {lo hi : Option Int} (h : SqL K H a xs) (q : ∀ p H2, H p = none → Ex H H2 → H2 p = some (.lst (cutV xs lo hi)) → Q (.ref p) H2) : rSlL K (.ref a) lo hi H Q := ⟨a, xs, rfl, h, fun p hp => q p _ hp (Ex.new hp) upd_same⟩
theorem cut_whole {xs : List V} {lo hi : Option Int} (h : HT.sIx xs.length 0 lo = 0 ∧ HT.sIx xs.length xs.length hi = xs.length) : cutV xs lo hi = xs := by
  unfold cutV
  rw [h.1, h.2]
  simp
theorem w_slT {a : Addr} {xs : List V} {lo hi : Option Int} (h : SqT K H a xs) (q : ∀ p H2, Ex H H2 → SqT K H2 p (cutV xs lo hi) → Q (.ref p) H2) : rSlA K (.ref a) lo hi H Q :=
  ⟨a, xs, rfl, h, fun e => q a H (Ex.refl H) (by rw [cut_whole e]; exact h), fun _ p hp => q p _ (Ex.new hp) (st_of upd_same)⟩
theorem w_catT {a b : Addr} {xs ys : List V} (h : SqT K H a xs) (h2 : SqT K H b ys) (hl : xs.length + ys.length ≤ 100000) (q : ∀ p H2, Ex H H2 → SqT K H2 p (xs ++ ys) → Q (.ref p) H2) : rCatA K (.ref a) (.ref b) H Q :=
  ⟨a, b, xs, ys, rfl, rfl, h, h2, sz_of hl, fun e => q b H (Ex.refl H) (by rw [e]; exact h2), fun _ e => q a H (Ex.refl H) (by rw [e, List.append_nil]; exact h), fun _ _ p hp => q p _ (Ex.new hp) (st_of upd_same)⟩
theorem w_catL {a b : Addr} {xs ys : List V} (h : H a = some (.lst xs)) (h2 : H b = some (.lst ys)) (hl : xs.length + ys.length ≤ 100000) (q : ∀ p H2, H p = none → Ex H H2 → H2 p = some (.lst (xs ++ ys)) → Q (.ref p) H2) : rCat (.ref a) (.ref b) H Q :=
  ⟨a, b, xs, ys, rfl, rfl, h, h2, sz_of hl, fun p hp => q p _ hp (Ex.new hp) upd_same⟩
theorem w_isi {x : V} {n : String} {t : String} {b : Bool} (ty : TyX K H x (.type t)) (e : kitB t n = some b) (q : Q (.bl b) H) : rIsi K [x, .ty n] H Q := ⟨x, .ty n, .type t, .type n, b, rfl, ClsV.ty n, ty, kit_ty e, q⟩
theorem w_isiInt {i : Int} {n : String} {b : Bool} (e : kitB "int" n = some b) (q : Q (.bl b) H) : rIsi K [.int i, .ty n] H Q := w_isi (.base (.int i)) e q
theorem w_isiNon {n : String} {b : Bool} (e : kitB "NoneType" n = some b) (q : Q (.bl b) H) : rIsi K [.non, .ty n] H Q := w_isi (.base .non) e q
theorem w_isiBl {i : Bool} {n : String} {b : Bool} (e : kitB "bool" n = some b) (q : Q (.bl b) H) : rIsi K [.bl i, .ty n] H Q := w_isi (.base (.bl i)) e q
theorem w_isiStr {i : Str} {n : String} {b : Bool} (e : kitB "str" n = some b) (q : Q (.bl b) H) : rIsi K [.str i, .ty n] H Q := w_isi (.base (.str i)) e q
theorem w_isiTup {p : Addr} {xs : List V} {n : String} {b : Bool} (h : SqT K H p xs) (e : kitB "tuple" n = some b) (q : Q (.bl b) H) : rIsi K [.ref p, .ty n] H Q := by
  rcases h with (h | ⟨o, h⟩) | ⟨o, _, _, h, c, _⟩
  · exact w_isi (.base (.tup h)) e q
  · exact w_isi (.fTuple h) e q
  · exact w_isi (.kTuple h c) e q
theorem w_isiLst {p : Addr} {xs : List V} {n : String} {b : Bool} (h : SqL K H p xs) (e : kitB "list" n = some b) (q : Q (.bl b) H) : rIsi K [.ref p, .ty n] H Q := by
  rcases h with (h | ⟨o, h⟩) | ⟨o, _, _, h, c, _⟩
  · exact w_isi (.base (.lst h)) e q
  · exact w_isi (.base (.frz h)) e q
  · exact w_isi (.kList h c) e q
theorem w_isiDK {p : Addr} {xs : List (Key × V)} {n : String} {b : Bool} (h : H p = some (.dK xs)) (e : kitB "dict" n = some b) (q : Q (.bl b) H) : rIsi K [.ref p, .ty n] H Q := w_isi (.base (.dK h)) e q
theorem w_neD {d e : PyData} (hx : Dp K H x d) (hy : Dp K H y e) (sd : SeqAt.shaped d = true) (se : SeqAt.shaped e = true) (q : Q (.bl (!PyData.eqv d e)) H) : rNeD K x y H Q := ⟨d, e, hx, hy, sd, se, q⟩
theorem w_eqD {d e : PyData} (hx : Dp K H x d) (hy : Dp K H y e) (sd : SeqAt.shaped d = true) (se : SeqAt.shaped e = true) (q : Q (.bl (PyData.eqv d e)) H) : rEqD K x y H Q := ⟨d, e, hx, hy, sd, se, q⟩
/-- a flat value as data -/
def flatD : V → PyData
  | .bl b => .bool b
  | .int i => .int i
  | .str x => .str x
  | _ => .none
def isFl : V → Bool
  | .non | .bl _ | .int _ | .str _ => true
  | _ => false
theorem dp_flat {v : V} (h : isFl v = true) : Dp K H v (flatD v) := by
  cases v <;> first | exact .non | exact .bl _ | exact .int _ | exact .str _ | cases h
theorem dp_flats : ∀ {vs : List V}, vs.all isFl = true → DpAll K H vs (vs.map flatD)
  | [], _ => .nil
  | v :: vs, h => by
    rw [List.all_cons, Bool.and_eq_true] at h
    exact .cons (dp_flat h.1) (dp_flats h.2)
theorem dp_lst {p : Addr} {vs : List V} (h : SqL K H p vs) (f : vs.all isFl = true) : Dp K H (.ref p) (.list (vs.map flatD)) := .lst h (dp_flats f)
theorem dp_tup {p : Addr} {vs : List V} (h : SqT K H p vs) (f : vs.all isFl = true) : Dp K H (.ref p) (.tuple (vs.map flatD)) := .tup h (dp_flats f)
theorem int_at {ns : List Int} {k : Int} (h0 : 0 ≤ k) (h : k < ((ns.map V.int).length : Int)) : ∃ c, atI (ns.map V.int) k = some (.int c) := by
  obtain ⟨j, rfl⟩ := Int.eq_ofNat_of_zero_le h0
  have hj : j < ns.length := by rw [List.length_map] at h; omega
  refine ⟨ns[j], atI_nat (j := j) ?_⟩
  rw [List.getElem?_map, List.getElem?_eq_getElem hj]
  rfl
/-- a new object -/
theorem w_new {m : Nat} {o : HO} (hm : m ≤ 100000) (k : ∀ p H2, H p = none → Ex H H2 → H2 p = some o → Q (.ref p) H2) : Alloc m o H Q :=
  ⟨sz_of hm, fun p hp => k p _ hp (Ex.new hp) upd_same⟩
/-- ifs over a known bool -/
theorem i_T {A B : Prop} (h : A) : if true = true then A else B := iteT h
theorem i_F {A B : Prop} (h : B) : if false = true then A else B := iteF h
theorem i_N {A B : Prop} {k : Bool} (h : if k = true then B else A) : if (!k) = true then A else B := by
  cases k
  · exact iteT (by rw [if_neg Bool.false_ne_true] at h; exact h)
  · exact iteF (by rw [if_pos rfl] at h; exact h)
theorem i_D {A B c : Prop} [Decidable c] (h1 : c → A) (h2 : ¬ c → B) : if decide c = true then A else B := by
  by_cases h : c
  · rw [decide_eq_true h]; exact iteT (h1 h)
  · rw [decide_eq_false h]; exact iteF (h2 h)
theorem i_R {A B : Prop} {α : Type} {x : α} [Decidable (x = x)] (h : A) : if decide (x = x) = true then A else B := by rw [decide_eq_true rfl]; exact iteT h
theorem i_DT {A B c : Prop} [Decidable c] (h : c) (h1 : A) : if decide c = true then A else B := by rw [decide_eq_true h]; exact iteT h1
theorem i_DF {A B c : Prop} [Decidable c] (h : ¬ c) (h1 : B) : if decide c = true then A else B := by rw [decide_eq_false h]; exact iteF h1
theorem i_B {A B : Prop} {k : Bool} (h1 : k = true → A) (h2 : k = false → B) : if k = true then A else B := by
  cases k
  · exact iteF (h2 rfl)
  · exact iteT (h1 rfl)
end
section
variable {σ : St} {H : Hp} {nx bk ct : St → Hp → Prop} {rt : VK} {t u : TS} {c : TT} {te : TE} {i : Nat} {K : PySem.W.Frag}
theorem m_norm {σ' : St} (e : σ = σ') (h : Sm t nx rt bk ct σ' H) : Sm t nx rt bk ct σ H := by rw [e]; exact h
theorem m_seq (h : Sm t (fun σ H => Sm u nx rt bk ct σ H) rt bk ct σ H) : Sm (tSeq t u) nx rt bk ct σ H := h
theorem m_cut (M : St → Hp → Prop) (h : Sm t M rt bk ct σ H) (k : ∀ σ H, M σ H → Sm u nx rt bk ct σ H) : Sm (tCut t u) nx rt bk ct σ H := ⟨M, h, k⟩
theorem m_asg (h : te σ H fun v H1 => nx (σ.set i (some v)) H1) : Sm (tAsg te (gName i)) nx rt bk ct σ H := h
theorem m_asgG {g : TG} (h : te σ H fun v H1 => g v σ H1 nx) : Sm (tAsg te g) nx rt bk ct σ H := h
theorem m_ret (h : te σ H rt) : Sm (tRet te) nx rt bk ct σ H := h
theorem m_retN (h : rt .non H) : Sm tRetN nx rt bk ct σ H := h
theorem m_drop (h : te σ H fun _ H1 => nx σ H1) : Sm (tDrop te) nx rt bk ct σ H := h
theorem m_next (h : nx σ H) : Sm tNext nx rt bk ct σ H := h
theorem m_brk (h : bk σ H) : Sm tBreak nx rt bk ct σ H := h
theorem m_cont (h : ct σ H) : Sm tCont nx rt bk ct σ H := h
theorem m_if (h : c σ H fun b H1 => if b = true then Sm t nx rt bk ct σ H1 else Sm u nx rt bk ct σ H1) : Sm (tIfS c t u) nx rt bk ct σ H := h
theorem m_fld {ta tv : TE} {f : Str} (h : tv σ H fun y H1 => ta σ H1 fun x H2 => PutOf K f y x H2 (nx σ)) : Sm (sFld K ta tv f) nx rt bk ct σ H := h
theorem m_aug {ti : TIp} {v : V} (hx : σ[i]? = some (some v)) (h : te σ H fun y H1 => ti v y H1 fun z H2 => nx (σ.set i (some z)) H2) : Sm (tAug i te ti) nx rt bk ct σ H := ⟨v, hx, h⟩
/-- o[i] = e over a list that stands in H by itself -/
theorem m_setL {p : Addr} {xs : List V} {k : Int} {j : Nat} {v : V} {Q : Hp → Prop} (h : H p = some (.lst xs)) (hj : ixN xs.length k = some j) (q : Q (upd H p (.lst (xs.set j v)))) : rSetL (.ref p) (.int k) v H Q := ⟨p, xs, k, j, rfl, rfl, h, hj, q⟩
theorem m_gsub {to ti : TE} {ts : TSet} {v : V} {Q : St → Hp → Prop} (h : to σ H fun o H1 => ti σ H1 fun i H2 => ts o i v H2 fun H3 => Q σ H3) : gSub to ti ts v σ H Q := h
/-- a loop over what J walks -/
def Fj (J : It) (g : TG) (t : TS) (nx : St → Hp → Prop) (rt : VK) (σ : St) (H : Hp) : Prop := ∃ W : Nat → Nat → St → Hp → Prop, (∃ m, W 0 m σ H) ∧ ∀ i m σ H, W i m σ H →
  (J.stop i H ∧ nx σ H) ∨ (J.go i H ∧ ∃ N : St → Hp → Prop, (∀ σ' H', N σ' H' → ∃ m', m' < m ∧ W (i + 1) m' σ' H') ∧ ∀ x H', J.yld i H x H' → g x σ H' fun σ2 H2 => t { nx := N, rt := rt, ct := N, bk := nx } σ2 H2)
theorem m_for {wi : TI} {g : TG} (h : wi σ H fun J H1 => Fj J g t nx rt σ H1) : Sm (tFor wi g t) nx rt bk ct σ H := h
theorem w_rng1 {tl : TA} {R : It → Hp → Prop} (h : tl σ H fun vs H1 => ∃ j : Int, vs = [.int j] ∧ -(2 ^ 62) ≤ j ∧ j < 2 ^ 62 ∧ R (Itr 0 j.toNat) H1) : iRng1 tl σ H R := h
theorem w_rng2 {tl : TA} {R : It → Hp → Prop} (h : tl σ H fun vs H1 => ∃ i j : Int, vs = [.int i, .int j] ∧ (-(2 ^ 62) ≤ i ∧ i < 2 ^ 62 ∧ -(2 ^ 62) ≤ j ∧ j < 2 ^ 62) ∧ R (Itr i (j - i).toNat) H1) : iRng2 tl σ H R := h
theorem w_itl {te : TE} {R : It → Hp → Prop} (h : te σ H fun x H1 => ∃ a, x = .ref a ∧ (∃ xs, SqL K H1 a xs) ∧ R (Itl K a) H1) : iList K te σ H R := h
theorem w_itt {te : TE} {R : It → Hp → Prop} (h : te σ H fun x H1 => ∃ a, x = .ref a ∧ (∃ xs, SqT K H1 a xs) ∧ R (Itt K a) H1) : iTup K te σ H R := h
theorem f_rng1 {j : Nat} {n : Int} (h0 : 0 ≤ n) (h1 : n ≤ 100000) (Pv : Nat → St → Hp → Prop) (p0 : Pv 0 σ H)
    (hs : ∀ (i : Nat) σ' H', (i : Int) < n → Pv i σ' H' → Sm t (Pv (i + 1)) rt nx (Pv (i + 1)) (σ'.set j (some (.int (i : Int)))) H') (hd : ∀ σ' H', Pv n.toNat σ' H' → nx σ' H') :
    ∃ k : Int, [V.int n] = [.int k] ∧ -(2 ^ 62) ≤ k ∧ k < 2 ^ 62 ∧ Fj (Itr 0 k.toNat) (gName j) t nx rt σ H := by
  refine ⟨n, rfl, by omega, by omega, for_range (D := ⟨nx, rt, nx, nx⟩) (lo := 0) (n := n.toNat) Pv p0 (fun i σ' H' hi p => ?_) hd⟩
  have e0 : (0 : Int) + (i : Int) = (i : Int) := Int.zero_add _
  show t { nx := Pv (i + 1), rt := rt, ct := Pv (i + 1), bk := nx } (σ'.set j (some (.int ((0 : Int) + (i : Int))))) H'
  rw [e0]
  exact hs i σ' H' (by omega) p
theorem f_rng2 {j : Nat} {lo n : Int} (h0 : -100000 ≤ lo ∧ lo ≤ 100000 ∧ -100000 ≤ n ∧ n ≤ 100000) (Pv : Nat → St → Hp → Prop) (p0 : Pv 0 σ H)
    (hs : ∀ (i : Nat) σ' H', lo + (i : Int) < n → Pv i σ' H' → Sm t (Pv (i + 1)) rt nx (Pv (i + 1)) (σ'.set j (some (.int (lo + (i : Int))))) H') (hd : ∀ σ' H', Pv (n - lo).toNat σ' H' → nx σ' H') :
    ∃ i k : Int, [V.int lo, V.int n] = [.int i, .int k] ∧ (-(2 ^ 62) ≤ i ∧ i < 2 ^ 62 ∧ -(2 ^ 62) ≤ k ∧ k < 2 ^ 62) ∧ Fj (Itr i (k - i).toNat) (gName j) t nx rt σ H :=
  ⟨lo, n, rfl, ⟨by omega, by omega, by omega, by omega⟩, for_range (D := ⟨nx, rt, nx, nx⟩) (lo := lo) (n := (n - lo).toNat) Pv p0 (fun i σ' H' hi p => hs i σ' H' (by omega) p) hd⟩
theorem f_list {g : TG} {a : Addr} {xs : List V} (hx : SqL K H a xs) (Pv : Nat → St → Hp → Prop) (p0 : Pv 0 σ H) (hl : ∀ i σ' H', i ≤ xs.length → Pv i σ' H' → SqL K H' a xs)
    (hs : ∀ i x σ' H', xs[i]? = some x → Pv i σ' H' → g x σ' H' fun σ2 H2 => Sm t (Pv (i + 1)) rt nx (Pv (i + 1)) σ2 H2) (hd : ∀ σ' H', Pv xs.length σ' H' → nx σ' H') :
    ∃ b, V.ref a = .ref b ∧ (∃ ys, SqL K H b ys) ∧ Fj (Itl K b) g t nx rt σ H := ⟨a, rfl, ⟨xs, hx⟩, for_list (D := ⟨nx, rt, nx, nx⟩) Pv p0 hl hs hd⟩
theorem f_tup {g : TG} {a : Addr} {xs : List V} (hx : SqT K H a xs) (Pv : Nat → St → Hp → Prop) (p0 : Pv 0 σ H) (hl : ∀ i σ' H', i ≤ xs.length → Pv i σ' H' → SqT K H' a xs)
    (hs : ∀ i x σ' H', xs[i]? = some x → Pv i σ' H' → g x σ' H' fun σ2 H2 => Sm t (Pv (i + 1)) rt nx (Pv (i + 1)) σ2 H2) (hd : ∀ σ' H', Pv xs.length σ' H' → nx σ' H') :
    ∃ b, V.ref a = .ref b ∧ (∃ ys, SqT K H b ys) ∧ Fj (Itt K b) g t nx rt σ H := ⟨a, rfl, ⟨xs, hx⟩, for_tup (D := ⟨nx, rt, nx, nx⟩) Pv p0 hl hs hd⟩
/-- a turn of a while -/
def Turn (W : Nat → St → Hp → Prop) (m : Nat) (t : TS) (nx : St → Hp → Prop) (rt : VK) (σ : St) (H : Hp) : Prop := ∃ N : St → Hp → Prop, (∀ σ' H', N σ' H' → ∃ m', m' < m ∧ W m' σ' H') ∧ t ⟨N, rt, nx, N⟩ σ H
theorem turn_go {W : Nat → St → Hp → Prop} {m : Nat} (h : Sm t (fun σ' H' => ∃ m', m' < m ∧ W m' σ' H') rt nx (fun σ' H' => ∃ m', m' < m ∧ W m' σ' H') σ H) : Turn W m t nx rt σ H := ⟨_, fun _ _ h => h, h⟩
theorem m_whileT (W : Nat → St → Hp → Prop) (m0 : Nat) (h0 : W m0 σ H) (hs : ∀ m σ' H', W m σ' H' → c σ' H' fun b H1 => if b = true then Turn W m t nx rt σ' H1 else nx σ' H1) : Sm (tWhile c t) nx rt bk ct σ H := ⟨W, ⟨m0, h0⟩, hs⟩
theorem m_while (W : Nat → St → Hp → Prop) (m0 : Nat) (h0 : W m0 σ H)
    (hs : ∀ m σ' H', W m σ' H' → c σ' H' fun b H1 => if b = true then Sm t (fun σ2 H2 => ∃ m', m' < m ∧ W m' σ2 H2) rt nx (fun σ2 H2 => ∃ m', m' < m ∧ W m' σ2 H2) σ' H1 else nx σ' H1)
    (mono : ∀ σ H (A B : Bool → Hp → Prop), (∀ b H, A b H → B b H) → c σ H A → c σ H B) : Sm (tWhile c t) nx rt bk ct σ H := by
  refine ⟨W, ⟨m0, h0⟩, fun m σ' H' hw => mono _ _ _ _ (fun b H1 h => ?_) (hs m σ' H' hw)⟩
  cases b
  · exact iteF (by rw [if_neg Bool.false_ne_true] at h; exact h)
  · refine iteT ⟨fun σ2 H2 => ∃ m', m' < m ∧ W m' σ2 H2, fun _ _ n => n, ?_⟩
    rw [if_pos rfl] at h
    exact h
end
theorem divW {i j : Int} (h : 0 < j) (hb : j < 2 ^ 250) : CDivW i j := wide_div (b := 250) h (by omega) (by decide) (by decide)
/-- a written tuple of texts and ints -/
def KTup (K : PySem.W.Frag) (a : Addr) (xs : List V) : Prop := ∃ (o : Obj) (its : Array Value) (n : Nat), K.lookup a = some o ∧ o.cls = .type "tuple" ∧ o.data = .seq its n ∧ its.size ≤ sizeLine ∧ Vals xs its.toList
def relB : V → Value → Bool
  | .int i, .int j _ => i == j
  | .str x, .str y _ => x == y
  | _, _ => false
def relsB : List V → List Value → Bool
  | [], [] => true
  | x :: xs, u :: us => relB x u && relsB xs us
  | _, _ => false
def tupB (o : Obj) (xs : List V) : Bool := (match o.cls with | .type t => t == "tuple" | _ => false) && match o.data with | .seq its _ => decide (its.size ≤ sizeLine) && relsB xs its.toList | _ => false
theorem relB_of : ∀ {x : V} {u : Value}, relB x u = true → RelV x u
  | .int i, .int j t, h => by
    have e : i = j := eq_of_beq h
    exact ⟨t, by rw [e]⟩
  | .str i, .str j t, h => by
    have e : i = j := eq_of_beq h
    exact ⟨t, by rw [e]⟩
theorem relsB_of : ∀ {xs : List V} {us : List Value}, relsB xs us = true → Vals xs us
  | [], [], _ => .nil
  | x :: xs, u :: us, h => by
    unfold relsB at h
    rw [Bool.and_eq_true] at h
    exact .cons (relB_of h.1) (relsB_of h.2)
theorem ktup_of {K : PySem.W.Frag} {a : Addr} {o : Obj} {xs : List V} (h : K.lookup a = some o) (t : tupB o xs = true) : KTup K a xs := by
  unfold tupB at t
  rw [Bool.and_eq_true] at t
  obtain ⟨t1, t2⟩ := t
  obtain ⟨cls, dd, data, sl⟩ := o
  cases data with
  | seq its n =>
    simp only [Bool.and_eq_true, decide_eq_true_eq] at t2
    cases cls with
    | type c =>
      have e : c = "tuple" := eq_of_beq t1
      subst e
      exact ⟨_, its, n, h, rfl, rfl, t2.1, relsB_of t2.2⟩
    | _ => cases t1
  | _ => cases t2
theorem KTup.sq {K : PySem.W.Frag} {a : Addr} {xs : List V} (h : KTup K a xs) (H : Hp) : SqT K H a xs := Or.inr h
theorem ok_body {X : Cx} {body : List Stmt} {t : TS} {Q : VK} {σ σ0 : St} {H : Hp} (h : PSs X body t) (e : σ0 = σ) (q : Sm t (fun _ H' => Q .non H') Q (fun _ _ => False) (fun _ _ => False) σ H) :
    ∃ t : TS, PSs X body t ∧ t { nx := fun _ H' => Q .non H', rt := Q } σ0 H := ⟨t, h, by subst e; exact q⟩
/-- all but one object as it was -/
def ExBut (p : Addr) (H H' : Hp) : Prop := ∀ b o, b ≠ p → H b = some o → H' b = some o
theorem ExBut.ex {p : Addr} {H0 H H' : Hp} (e : Ex H0 H) (h : H0 p = none) (m : ExBut p H H') : Ex H0 H' := fun b o hb => m b o (ne_of_none hb h) (e b o hb)
theorem ExBut.refl (p : Addr) (H : Hp) : ExBut p H H := fun _ _ _ h => h
theorem ExBut.trans {p : Addr} {H H1 H2 : Hp} (a : ExBut p H H1) (b : ExBut p H1 H2) : ExBut p H H2 := fun c o n h => b c o n (a c o n h)
theorem ExBut.of {p : Addr} {H H' : Hp} (e : Ex H H') : ExBut p H H' := fun b o _ h => e b o h
theorem ExBut.upd {p : Addr} {H H' : Hp} {o : HO} (e : ExBut p H H') : ExBut p H (upd H' p o) := fun b u n h => by rw [upd_ne n]; exact e b u n h
theorem ex_snoc {H H1 H2 : Hp} (b : Ex H1 H2) (a : Ex H H1) : Ex H H2 := a.trans b
theorem but_snoc {p : Addr} {H H1 H2 : Hp} (b : ExBut p H1 H2) (a : ExBut p H H1) : ExBut p H H2 := a.trans b
theorem but_snocE {p : Addr} {H H1 H2 : Hp} (b : Ex H1 H2) (a : ExBut p H H1) : ExBut p H H2 := a.trans (.of b)
theorem w_put {K : PySem.W.Frag} {H : Hp} {a C dx : Addr} {fs fs' : List (Str × V)} {f : Str} {y : V} {R : Hp → Prop} (h : H a = some (.ins C dx fs)) (cl : Cls K C) (n : NoAttr K C f) (hl : fs.length < 1000) (e : putF f y fs = fs') (q : ∀ H2, ExBut a H H2 → H2 a = some (.ins C dx fs') → R H2) : PutOf K f y (.ref a) H R :=
  ⟨a, C, dx, fs, rfl, h, cl, n, hl, q _ (ExBut.upd (ExBut.refl a H)) (by rw [e]; exact upd_same)⟩
theorem ex_but {p : Addr} {H0 H H' : Hp} (m : ExBut p H H') (h : H0 p = none) (e : Ex H0 H) : Ex H0 H' := ExBut.ex e h m
theorem but_get {p a : Addr} {H H' : Hp} {o : HO} (m : ExBut p H H') (n : a ≠ p) (h : H a = some o) : H' a = some o := m a o n h
theorem w_setL {p : Addr} {xs ys : List V} {k : Int} {j : Nat} {v : V} {H : Hp} {Q : Hp → Prop} (h : H p = some (.lst xs)) (hj : ixN xs.length k = some j) (e : xs.set j v = ys) (q : ∀ H2, ExBut p H H2 → H2 p = some (.lst ys) → Q H2) : rSetL (.ref p) (.int k) v H Q :=
  ⟨p, xs, k, j, rfl, rfl, h, hj, q _ (ExBut.upd (ExBut.refl p H)) (by rw [e]; exact upd_same)⟩
theorem ex_get {H1 H2 : Hp} {a : Addr} {o : HO} (e : Ex H1 H2) (h : H1 a = some o) : H2 a = some o := e a o h
theorem small {n m : Nat} (h : n ≤ m) (hm : m ≤ 1000) : n ≤ 1000 := Nat.le_trans h hm
end Kit

namespace Kit
open PySem PySem.Spec PyProof.Rows L2 Evl
/-! ### the walk by words: "wp" goes as far as it can, "wp1" one step; "hp": what stands at an address; "sq": a list, a tuple is there; "side": a side condition -/
end Kit

namespace Kit
open PySem PySem.Spec PyProof.Rows L2 Evl
/-! ### comprehensions -/
def Lcj (J : It) (g : TG) (tt : TT) (te : TE) (vs : List Nat) (σ : St) (H1 : Hp) (Q : VK) : Prop := ∀ D, H1 D = none → ∃ W : Nat → Nat → Hp → Prop, (∃ m, W 0 m (upd H1 D (.lst []))) ∧ ∀ i m H, W i m H →
  (J.stop i H ∧ Q (.ref D) H) ∨ (J.go i H ∧ ∃ Nx : Hp → Prop, (∀ H', Nx H' → ∃ m', m' < m ∧ W (i + 1) m' H') ∧ ∀ x H', J.yld i H x H' → g x (wipe σ vs) H' fun σ2 H2 => wipe σ2 vs = wipe σ vs ∧ tt σ2 H2 fun b H3 =>
    if b = true then te σ2 H3 fun y H4 => ∃ acc, H4 D = some (.lst acc) ∧ acc.length < sizeLine ∧ Nx (upd H4 D (.lst (acc ++ [y]))) else Nx H3)
section
variable {σ : St} {H : Hp} {Q : VK} {j : Nat} {vs : List Nat} {te : TE} {tt : TT} {K : PySem.W.Frag}
theorem w_lc {wi : TI} {g : TG} {tt : TT} (h : wi σ H fun J H1 => Lcj J g tt te vs σ H1 Q) : tLc wi g tt te vs σ H Q := h
theorem w_rng3 {tl : TA} {R : It → Hp → Prop} (h : tl σ H fun vs H1 => ∃ (i j c : Int) (n : Nat), vs = [.int i, .int j, .int c] ∧ RgC i j c n ∧ R (Itc i c n) H1) : iRng3 tl σ H R := h
/-- what J walks, while S stands -/
structure Walks (J : It) (n : Nat) (x : Nat → V) (S : Hp → Prop) : Prop where
  stop : ∀ H, S H → J.stop n H
  go : ∀ i H, S H → i < n → J.go i H
  yld : ∀ i H y H', S H → i < n → J.yld i H y H' → H' = H ∧ y = x i
theorem walks_rng {lo : Int} {n : Nat} : Walks (Itr lo n) n (fun i => .int (lo + i)) (fun _ => True) := ⟨fun _ _ => Nat.le_refl n, fun _ _ _ h => h, fun _ _ _ _ _ _ h => h⟩
theorem walks_rngC {lo c : Int} {n : Nat} : Walks (Itc lo c n) n (fun i => .int (lo + (i : Nat) * c)) (fun _ => True) := ⟨fun _ _ => Nat.le_refl n, fun _ _ _ h => h, fun _ _ _ _ _ _ h => h⟩
theorem walks_list {a : Addr} {xs : List V} : Walks (Itl K a) xs.length (fun i => (xs[i]?).getD .non) (fun H => SqL K H a xs) := by
  refine ⟨fun H h => ⟨xs, h, Nat.le_refl _⟩, fun i H h hi => ⟨xs, xs[i], h, List.getElem?_eq_getElem hi⟩, fun i H y H' h hi hy => ⟨hy.1, ?_⟩⟩
  rw [hy.2 xs h]
  rfl
theorem walks_tup {a : Addr} {xs : List V} : Walks (Itt K a) xs.length (fun i => (xs[i]?).getD .non) (fun H => SqT K H a xs) := by
  refine ⟨fun H h => ⟨xs, h, Nat.le_refl _⟩, fun i H h hi => ⟨xs, xs[i], h, List.getElem?_eq_getElem hi⟩, fun i H y H' h hi hy => ⟨hy.1, ?_⟩⟩
  rw [hy.2 xs h]
  rfl
/-- any turn's word: Iv by the new list's address, the turn, what it holds -/
theorem l_any {J : It} {n : Nat} {x : Nat → V} {S : Hp → Prop} (w : Walks J n x S) (hn : n ≤ 40000) (hw : ∀ v, wipe ((wipe σ vs).set j (some v)) vs = wipe σ vs)
    (Iv : Addr → Nat → List V → Hp → Prop) (hS : ∀ D i acc H', Iv D i acc H' → S H') (h0 : ∀ D, H D = none → Iv D 0 [] (upd H D (.lst [])))
    (he : ∀ D i acc H', H D = none → i < n → acc.length ≤ i → H' D = some (.lst acc) → Iv D i acc H' → ∀ R : Bool → Hp → Prop, (∀ H2, H2 D = some (.lst acc) → Iv D (i + 1) acc H2 → R false H2) →
      (∀ H2, (∀ R2 : VK, (∀ y H3, H3 D = some (.lst acc) → Iv D (i + 1) (acc ++ [y]) (upd H3 D (.lst (acc ++ [y]))) → R2 y H3) → te ((wipe σ vs).set j (some (x i))) H2 R2) → R true H2) → tt ((wipe σ vs).set j (some (x i))) H' R)
    (q : ∀ D acc H2, H D = none → acc.length ≤ n → H2 D = some (.lst acc) → Iv D n acc H2 → Q (.ref D) H2) : Lcj J (gName j) tt te vs σ H Q := by
  intro D hD
  refine ⟨fun i m H' => i ≤ n ∧ m = n - i ∧ ∃ acc, acc.length ≤ i ∧ H' D = some (.lst acc) ∧ Iv D i acc H', ⟨n, Nat.zero_le _, by omega, [], Nat.le_refl 0, upd_same, h0 D hD⟩, fun i m H' ⟨hi, hm, acc, ha, hd, iv⟩ => ?_⟩
  by_cases hlt : i < n
  · refine .inr ⟨w.go i H' (hS _ _ _ _ iv) hlt, fun H'' => ∃ acc, acc.length ≤ i + 1 ∧ H'' D = some (.lst acc) ∧ Iv D (i + 1) acc H'', fun H'' h => ⟨n - (i + 1), by omega, by omega, rfl, h⟩, fun y H'' hy => ?_⟩
    obtain ⟨rfl, rfl⟩ := w.yld i H' y H'' (hS _ _ _ _ iv) hlt hy
    refine ⟨hw _, ?_⟩
    refine he D i acc H'' hD hlt ha hd iv _ (fun H2 h2 iv2 => ?_) fun H2 h => ?_
    · exact iteF ⟨acc, by omega, h2, iv2⟩
    · refine iteT (h _ fun v H3 h3 iv3 => ?_)
      exact ⟨acc, h3, sz_lt (by omega), acc ++ [v], by rw [List.length_append]; exact Nat.succ_le_succ ha, upd_same, iv3⟩
  · have e : i = n := by omega
    subst e
    exact .inl ⟨w.stop H' (hS _ _ _ _ iv), q D acc H' hD ha hd iv⟩
/-- items that only make new objects, no test: Pe says what the i-th is -/
theorem l_grow {J : It} {n : Nat} {x : Nat → V} {S : Hp → Prop} (w : Walks J n x S) (hn : n ≤ 40000) (hw : ∀ v, wipe ((wipe σ vs).set j (some v)) vs = wipe σ vs)
    (s0 : S H) (sm : ∀ H1 H2, Ex H1 H2 → S H1 → S H2) (Pe : Addr → Nat → V → Hp → Prop) (pm : ∀ D i v H1 H2, ExBut D H1 H2 → Pe D i v H1 → Pe D i v H2)
    (he : ∀ D i acc H', H D = none → i < n → Ex H H' → H' D = some (.lst acc) → ∀ R : VK, (∀ v H2, Ex H' H2 → Pe D i v H2 → R v H2) → te ((wipe σ vs).set j (some (x i))) H' R)
    (q : ∀ D ys H2, H D = none → Ex H H2 → H2 D = some (.lst ys) → ys.length = n → (∀ i y, ys[i]? = some y → Pe D i y H2) → Q (.ref D) H2) : Lcj J (gName j) tYes te vs σ H Q := by
  refine l_any w hn hw (fun D i acc H' => H D = none ∧ Ex H H' ∧ acc.length = i ∧ ∀ k y, acc[k]? = some y → Pe D k y H') (fun D i acc H' h => sm _ _ h.2.1 s0) (fun D hD => ⟨hD, Ex.new hD, rfl, fun k y h => by simp at h⟩) ?_ ?_
  · intro D i acc H' hD hi ha hd ⟨_, e, hl, hp⟩ R r1 r2
    refine r2 H' fun R2 r => ?_
    refine he D i acc H' hD hi e hd R2 fun v H2 e2 pv => ?_
    have m1 : ExBut D H' (upd H2 D (.lst (acc ++ [v]))) := ExBut.upd (.of e2)
    have m2 : ExBut D H2 (upd H2 D (.lst (acc ++ [v]))) := ExBut.upd (.refl D H2)
    refine r v H2 (e2 D _ hd) ⟨hD, ExBut.ex e hD m1, by rw [List.length_append, hl]; rfl, fun k y hk => ?_⟩
    by_cases h : k < acc.length
    · rw [List.getElem?_append_left h] at hk
      exact pm D k y _ _ m1 (hp k y hk)
    · have hlen : k < (acc ++ [v]).length := (List.getElem?_eq_some_iff.mp hk).1
      rw [List.length_append] at hlen
      have e : k = acc.length := by simp at hlen; omega
      rw [e, List.getElem?_concat_length] at hk
      cases hk
      rw [e, hl]
      exact pm D i v _ _ m2 pv
  · intro D acc H2 hD _ hd ⟨_, e, hl, hp⟩
    exact q D acc H2 hD e hd hl hp
theorem eq_map {ys : List V} {n : Nat} {v : Nat → V} (hl : ys.length = n) (h : ∀ i y, ys[i]? = some y → y = v i) : ys = (List.range n).map v := by
  apply List.ext_getElem?
  intro i
  by_cases hi : i < n
  · rw [List.getElem?_map, List.getElem?_range hi, List.getElem?_eq_getElem (by omega)]
    exact congrArg some (h i _ (List.getElem?_eq_getElem (by omega)))
  · rw [List.getElem?_eq_none (by omega), List.getElem?_eq_none (by rw [List.length_map, List.length_range]; omega)]
/-- items that are told: the i-th is v i -/
theorem l_val {J : It} {n : Nat} {x : Nat → V} {S : Hp → Prop} (w : Walks J n x S) (hn : n ≤ 40000) (hw : ∀ v, wipe ((wipe σ vs).set j (some v)) vs = wipe σ vs)
    (s0 : S H) (sm : ∀ H1 H2, Ex H1 H2 → S H1 → S H2) (v : Nat → V)
    (he : ∀ i H', i < n → Ex H H' → ∀ R : VK, (∀ H2, Ex H' H2 → R (v i) H2) → te ((wipe σ vs).set j (some (x i))) H' R)
    (q : ∀ p H2, H p = none → Ex H H2 → H2 p = some (.lst ((List.range n).map v)) → Q (.ref p) H2) : Lcj J (gName j) tYes te vs σ H Q :=
  l_grow w hn hw s0 sm (fun _ i y _ => y = v i) (fun _ _ _ _ _ _ h => h) (fun D i acc H' hD hi e hd R r => he i H' hi e R fun H2 e2 => r _ H2 e2 rfl)
    fun D ys H2 hD e hd hl hp => q D H2 hD e (by rw [hd, eq_map hl hp])
/-- over range(n) -/
theorem l_rng1 {n : Int} (h0 : 0 ≤ n) (hn : n ≤ 40000) (hw : ∀ v, wipe ((wipe σ vs).set j (some v)) vs = wipe σ vs) (v : Nat → V)
    (he : ∀ (i : Nat) H', (i : Int) < n → Ex H H' → ∀ R : VK, (∀ H2, Ex H' H2 → R (v i) H2) → te ((wipe σ vs).set j (some (.int (i : Int)))) H' R)
    (q : ∀ p H2, H p = none → Ex H H2 → H2 p = some (.lst ((List.range n.toNat).map v)) → Q (.ref p) H2) :
    ∃ k : Int, [V.int n] = [.int k] ∧ -(2 ^ 62) ≤ k ∧ k < 2 ^ 62 ∧ Lcj (Itr 0 k.toNat) (gName j) tYes te vs σ H Q :=
  ⟨n, rfl, by omega, by omega, l_val walks_rng (by omega) hw trivial (fun _ _ _ h => h) v (fun i H' hi e R r => by
    have e0 : (0 : Int) + (i : Int) = (i : Int) := Int.zero_add _
    show te ((wipe σ vs).set j (some (.int (0 + (i : Int))))) H' R
    rw [e0]
    exact he i H' (by omega) e R r) q⟩
/-- over range(0, n, 2) -/
theorem l_rng2 {n : Int} {m : Nat} (h0 : n = 2 * m) (hn : m ≤ 40000) (hw : ∀ v, wipe ((wipe σ vs).set j (some v)) vs = wipe σ vs) (v : Nat → V)
    (he : ∀ (i : Nat) H', i < m → Ex H H' → ∀ R : VK, (∀ H2, Ex H' H2 → R (v i) H2) → te ((wipe σ vs).set j (some (.int (2 * (i : Int))))) H' R)
    (q : ∀ p H2, H p = none → Ex H H2 → H2 p = some (.lst ((List.range m).map v)) → Q (.ref p) H2) :
    ∃ (a b c : Int) (k : Nat), [V.int 0, V.int n, V.int 2] = [.int a, .int b, .int c] ∧ RgC a b c k ∧ Lcj (Itc a c k) (gName j) tYes te vs σ H Q := by
  have hr : RgC 0 n 2 m := by
    refine ⟨by decide, by decide, ?_, ?_⟩
    · subst h0
      unfold Builtin.Range.small Builtin.Range.rangeSize
      rw [if_pos (show (2 : Int) > 0 by decide), if_pos (show (2 : Int) > 0 by decide)]
      have hf : ∀ x : Int, 0 ≤ x → x ≤ 100000 → Builtin.Range.rangeFitsLong x = true := fun x h1 h2 => by
        unfold Builtin.Range.rangeFitsLong
        simp only [Bool.and_eq_true, decide_eq_true_eq]
        omega
      have h3 : (0 : Int) ≤ (if (0 : Int) < 2 * (m : Int) then (2 * (m : Int) - 0 - 1) / 2 + 1 else 0) ∧ (if (0 : Int) < 2 * (m : Int) then (2 * (m : Int) - 0 - 1) / 2 + 1 else 0) ≤ 100000 := by split <;> omega
      rw [hf 0 (by omega) (by omega), hf (2 * (m : Int)) (by omega) (by omega), hf 2 (by omega) (by omega), hf _ h3.1 h3.2, hf (2 * (m : Int) + (2 - 1)) (by omega) (by omega)]
      simp
    · subst h0
      unfold Builtin.Range.rangeSize
      split <;> omega
  refine ⟨0, n, 2, m, rfl, hr, l_val walks_rngC hn hw trivial (fun _ _ _ h => h) v (fun i H' hi e R r => ?_) q⟩
  have e0 : (0 : Int) + (i : Int) * 2 = 2 * (i : Int) := by omega
  show te ((wipe σ vs).set j (some (.int (0 + (i : Int) * 2)))) H' R
  rw [e0]
  exact he i H' hi e R r
/-- over a list -/
theorem l_list {a : Addr} {xs : List V} (hx : SqL K H a xs) (hn : xs.length ≤ 40000) (hw : ∀ v, wipe ((wipe σ vs).set j (some v)) vs = wipe σ vs) (v : Nat → V)
    (he : ∀ (i : Nat) x H', xs[i]? = some x → Ex H H' → ∀ R : VK, (∀ H2, Ex H' H2 → R (v i) H2) → te ((wipe σ vs).set j (some x)) H' R)
    (q : ∀ p H2, H p = none → Ex H H2 → H2 p = some (.lst ((List.range xs.length).map v)) → Q (.ref p) H2) :
    ∃ b, V.ref a = .ref b ∧ (∃ ys, SqL K H b ys) ∧ Lcj (Itl K b) (gName j) tYes te vs σ H Q :=
  ⟨a, rfl, ⟨xs, hx⟩, l_val walks_list hn hw hx (fun _ _ e h => ex_l e h) v (fun i H' hi e R r => by
    have z : xs[i]? = some xs[i] := List.getElem?_eq_getElem hi
    show te ((wipe σ vs).set j (some ((xs[i]?).getD .non))) H' R
    rw [z]
    exact he i xs[i] H' z e R r) q⟩
theorem l_tup {a : Addr} {xs : List V} (hx : SqT K H a xs) (hn : xs.length ≤ 40000) (hw : ∀ v, wipe ((wipe σ vs).set j (some v)) vs = wipe σ vs) (v : Nat → V)
    (he : ∀ (i : Nat) x H', xs[i]? = some x → Ex H H' → ∀ R : VK, (∀ H2, Ex H' H2 → R (v i) H2) → te ((wipe σ vs).set j (some x)) H' R)
    (q : ∀ p H2, H p = none → Ex H H2 → H2 p = some (.lst ((List.range xs.length).map v)) → Q (.ref p) H2) :
    ∃ b, V.ref a = .ref b ∧ (∃ ys, SqT K H b ys) ∧ Lcj (Itt K b) (gName j) tYes te vs σ H Q :=
  ⟨a, rfl, ⟨xs, hx⟩, l_val walks_tup hn hw hx (fun _ _ e h => ex_t e h) v (fun i H' hi e R r => by
    have z : xs[i]? = some xs[i] := List.getElem?_eq_getElem hi
    show te ((wipe σ vs).set j (some ((xs[i]?).getD .non))) H' R
    rw [z]
    exact he i xs[i] H' z e R r) q⟩
end
end Kit

namespace Kit
open PySem PySem.Spec PyProof.Rows L2 Evl
/-! ### the rules that speak of the written part, with it named -/
section
variable (K : PySem.W.Frag) {X : Cx}
theorem ixL (h : X.K = K := by rfl) : IxR X (rIxL K) := h ▸ ix_list
theorem ixT (h : X.K = K := by rfl) : IxR X (rIxT K) := h ▸ ix_tup
theorem kLen (h : X.K = K := by rfl) : CallR X (.builtin "len") (rLenS K) := h ▸ call_len_seq
theorem kList (h : X.K = K := by rfl) : CallR X (.type "list") (rListS K) := h ▸ call_list_of
theorem kTuple (h : X.K = K := by rfl) : CallR X (.type "tuple") (rTupS K) := h ▸ call_tuple_of
theorem kIn (h : X.K = K := by rfl) : OpR X (compareOp .In) (rIn K false) := h ▸ op_in_seq
theorem kNotIn (h : X.K = K := by rfl) : OpR X (compareOp .NotIn) (rIn K true) := h ▸ op_notIn_seq
theorem kEqD (hu : X.A.units + 64 < cLine) (h : X.K = K := by rfl) : OpR X (compareOp .Eq) (rEqD K) := h ▸ op_eqD hu
theorem kNeD (hu : X.A.units + 64 < cLine) (h : X.K = K := by rfl) : OpR X (compareOp .NotEq) (rNeD K) := h ▸ op_neD hu
theorem kCat (h : X.K = K := by rfl) : OpR X (binaryOp .Add) (rCatA K) := h ▸ op_catA
theorem kRepT (h : X.K = K := by rfl) : OpR X (binaryOp .Mult) (rRepT K) := h ▸ op_repT
theorem kSlL (h : X.K = K := by rfl) : SlR X (rSlL K) := h ▸ sl_list
theorem kSlT (h : X.K = K := by rfl) : SlR X (rSlA K) := h ▸ sl_tupA
theorem kIsi (h : X.K = K := by rfl) : CallR X (.builtin "isinstance") (rIsi K) := h ▸ call_isi
theorem kFld {e : Expr} {ta : TE} {f : Str} {pos : Pos} (he : PE X e ta) (hb : attributeBase e f X.env (eval e X.env) = eval e X.env) (h : X.K = K := by rfl) : PE X (.Attribute e f pos) (tFld K ta f) := h ▸ pe_fld he hb
theorem kSet {o value : Expr} {ta tv : TE} {f : Str} {pos pos' : Pos} (ha : PE X o ta) (hv : PE X value tv) (hs : swapsWith value (some (.Attribute o f pos')) pos.line X.env = pure false) (h : X.K = K := by rfl) : PS X (.Assign [.Attribute o f pos'] value pos) (sFld K ta tv f) := h ▸ ps_fld ha hv hs
theorem kpList {tg l : Expr} {tl : TE} (hl : PE X l tl) (h : X.K = K := by rfl) : PI X tg l (iList K tl) := h ▸ pi_list hl
theorem kpTup {tg l : Expr} {tl : TE} (hl : PE X l tl) (h : X.K = K := by rfl) : PI X tg l (iTup K tl) := h ▸ pi_tup hl
theorem kgTup {es : List Expr} {k : Nat} {t : TGs} {n : Nat} {pos : Pos} (hc : X.calm = true) (hg : PGs X es t) (hn : (assignEach es X.env).length = n := by rfl) (hst : (assignEach es X.env).findIdx? (·.1) = none := by rfl) (h : X.K = K := by rfl) : PG X (.Tuple es k pos) (gTup K n t) := h ▸ pg_tup hc hg hn hst
end
end Kit

namespace Kit
open PySem PySem.Spec PyProof.Rows L2 Evl
/-! ### == of data -/
def isFlN : V → Bool
  | .non | .bl _ | .int _ => true
  | _ => false
theorem fln_fl : ∀ {vs : List V}, vs.all isFlN = true → vs.all isFl = true
  | [], _ => rfl
  | v :: vs, h => by
    rw [List.all_cons, Bool.and_eq_true] at h ⊢
    refine ⟨?_, fln_fl h.2⟩
    cases v <;> first | rfl | cases h.1
theorem flats_ok : ∀ {vs : List V}, vs.all isFlN = true → PyData.canLayAll0 (vs.map flatD) = true ∧ PyData.depthAll (vs.map flatD) = 0
  | [], _ => ⟨rfl, rfl⟩
  | v :: vs, h => by
    rw [List.all_cons, Bool.and_eq_true] at h
    obtain ⟨h1, h2⟩ := flats_ok h.2
    have h3 : (flatD v).canLay0 = true ∧ PyData.depth (flatD v) = 0 := by
      cases v <;> first | (cases h.1; done) | exact ⟨by simp [flatD, PyData.canLay0], by simp [flatD, PyData.depth]⟩
    rw [List.map_cons, PyData.canLayAll0, PyData.depthAll, h1, h2, h3.1, h3.2]
    exact ⟨rfl, rfl⟩
theorem shaped_tup {vs : List V} (h : vs.all isFlN = true) : SeqAt.shaped (.tuple (vs.map flatD)) = true := by
  obtain ⟨h1, h2⟩ := flats_ok h
  unfold SeqAt.shaped
  rw [PyData.canLay0, PyData.depth, h1, h2]
  rfl
theorem shaped_lst {vs : List V} (h : vs.all isFlN = true) : SeqAt.shaped (.list (vs.map flatD)) = true := by
  obtain ⟨h1, h2⟩ := flats_ok h
  unfold SeqAt.shaped
  rw [PyData.canLay0, PyData.depth, h1, h2]
  rfl
theorem ints_fln : ∀ r : List Int, (r.map V.int).all isFlN = true
  | [] => rfl
  | _ :: r => by
    rw [List.map_cons, List.all_cons, ints_fln r]
    rfl
theorem eqvAll_ints : ∀ r s : List Int, PyData.eqvAll ((r.map V.int).map flatD) ((s.map V.int).map flatD) = decide (r = s)
  | [], [] => by simp [PyData.eqvAll]
  | [], _ :: _ => by simp [PyData.eqvAll]
  | _ :: _, [] => by simp [PyData.eqvAll]
  | x :: r, y :: s => by
    show PyData.eqvAll (.int x :: (r.map V.int).map flatD) (.int y :: (s.map V.int).map flatD) = _
    rw [PyData.eqvAll, eqvAll_ints r s]
    by_cases h : x = y
    · subst h
      simp [PyData.eqv]
    · simp [PyData.eqv, h]
section
variable {H : Hp} {Q : VK} {K : PySem.W.Frag} {a b : Addr} {r s : List Int}
theorem w_neTT (h1 : SqT K H a (r.map V.int)) (h2 : SqT K H b (s.map V.int)) (q : Q (.bl (!decide (r = s))) H) : rNeD K (.ref a) (.ref b) H Q :=
  w_neD (dp_tup h1 (fln_fl (ints_fln r))) (dp_tup h2 (fln_fl (ints_fln s))) (shaped_tup (ints_fln r)) (shaped_tup (ints_fln s)) (by rw [PyData.eqv, eqvAll_ints]; exact q)
theorem w_eqTT (h1 : SqT K H a (r.map V.int)) (h2 : SqT K H b (s.map V.int)) (q : Q (.bl (decide (r = s))) H) : rEqD K (.ref a) (.ref b) H Q :=
  w_eqD (dp_tup h1 (fln_fl (ints_fln r))) (dp_tup h2 (fln_fl (ints_fln s))) (shaped_tup (ints_fln r)) (shaped_tup (ints_fln s)) (by rw [PyData.eqv, eqvAll_ints]; exact q)
theorem w_neLL (h1 : SqL K H a (r.map V.int)) (h2 : SqL K H b (s.map V.int)) (q : Q (.bl (!decide (r = s))) H) : rNeD K (.ref a) (.ref b) H Q :=
  w_neD (dp_lst h1 (fln_fl (ints_fln r))) (dp_lst h2 (fln_fl (ints_fln s))) (shaped_lst (ints_fln r)) (shaped_lst (ints_fln s)) (by rw [PyData.eqv, eqvAll_ints]; exact q)
theorem w_eqLL (h1 : SqL K H a (r.map V.int)) (h2 : SqL K H b (s.map V.int)) (q : Q (.bl (decide (r = s))) H) : rEqD K (.ref a) (.ref b) H Q :=
  w_eqD (dp_lst h1 (fln_fl (ints_fln r))) (dp_lst h2 (fln_fl (ints_fln s))) (shaped_lst (ints_fln r)) (shaped_lst (ints_fln s)) (by rw [PyData.eqv, eqvAll_ints]; exact q)
end
end Kit

set_option Elab.async false
set_option linter.all false
namespace KM
/-! ### rows, their levels, roots and paths, for any fold f -/
section
variable (f : Int → Int → Int)
def pairs : List Int → List Int
  | x :: y :: r => f x y :: pairs r
  | _ => []
def levs : Nat → List Int → List (List Int)
  | 0, r => [r]
  | k + 1, r => r :: levs k (pairs f r)
def rootM : Nat → List Int → Int
  | 0, r => r.headD 0
  | k + 1, r => rootM k (pairs f r)
def nb (p : Nat) : Nat := if p % 2 = 0 then p + 1 else p - 1
def pathM : Nat → List Int → Nat → List Int
  | 0, _, _ => []
  | k + 1, r, p => (r[nb p]?).getD 0 :: pathM k (pairs f r) (p / 2)
def rootBy : Nat → Int → List Int → Int
  | _, d, [] => d
  | p, d, x :: r => rootBy (p / 2) (if p % 2 = 0 then f d x else f x d) r
variable {f}
theorem pairs_len : ∀ (r : List Int) {n : Nat}, r.length = 2 * n → (pairs f r).length = n
  | [], 0, _ => rfl
  | [], n + 1, h => by simp at h
  | [_], n, h => by simp at h; omega
  | x :: y :: r, 0, h => by simp at h
  | x :: y :: r, n + 1, h => by
    have h2 : r.length = 2 * n := by simp at h; omega
    show (f x y :: pairs f r).length = n + 1
    rw [List.length_cons, pairs_len r h2]
theorem pairs_get : ∀ (r : List Int) {i : Nat} {x y : Int}, r[2 * i]? = some x → r[2 * i + 1]? = some y → (pairs f r)[i]? = some (f x y)
  | [], i, _, _, h, _ => by simp at h
  | [_], 0, _, _, _, h => by simp at h
  | [_], i + 1, _, _, h, _ => by
    rw [show 2 * (i + 1) = 2 * i + 1 + 1 by omega] at h
    simp at h
  | a :: b :: r, 0, x, y, h, h2 => by
    have e1 : a = x := by simpa using h
    have e2 : b = y := by simpa using h2
    subst e1 e2
    rfl
  | a :: b :: r, i + 1, x, y, h, h2 => by
    rw [show 2 * (i + 1) = 2 * i + 1 + 1 by omega] at h
    rw [show 2 * (i + 1) + 1 = 2 * i + 1 + 1 + 1 by omega] at h2
    exact pairs_get r (i := i) (by simpa using h) (by simpa using h2)
theorem pairs_append : ∀ (a b : List Int) {n : Nat}, a.length = 2 * n → pairs f (a ++ b) = pairs f a ++ pairs f b
  | [], b, _, _ => rfl
  | [_], _, n, h => by simp at h; omega
  | x :: y :: r, b, 0, h => by simp at h
  | x :: y :: r, b, n + 1, h => by
    have h2 : r.length = 2 * n := by simp at h; omega
    show f x y :: pairs f (r ++ b) = f x y :: pairs f r ++ pairs f b
    rw [pairs_append r b h2]
    rfl
theorem two_pow (k : Nat) : 2 ^ (k + 1) = 2 * 2 ^ k := by rw [Nat.pow_succ]; omega
theorem root_halves : ∀ (k : Nat) (a b : List Int), a.length = 2 ^ k → b.length = 2 ^ k → rootM f (k + 1) (a ++ b) = f (rootM f k a) (rootM f k b)
  | 0, a, b, ha, hb => by
    match a, b, ha, hb with
    | [x], [y], _, _ => rfl
  | k + 1, a, b, ha, hb => by
    rw [two_pow] at ha hb
    show rootM f (k + 1) (pairs f (a ++ b)) = f (rootM f k (pairs f a)) (rootM f k (pairs f b))
    rw [pairs_append a b ha]
    exact root_halves k _ _ (pairs_len a ha) (pairs_len b hb)
theorem path_left : ∀ (k : Nat) (a b : List Int) (p : Nat), a.length = 2 ^ k → b.length = 2 ^ k → p < 2 ^ k → pathM f (k + 1) (a ++ b) p = pathM f k a p ++ [rootM f k b]
  | 0, a, b, p, ha, hb, hp => by
    match a, b, ha, hb with
    | [x], [y], _, _ =>
      have e : p = 0 := by omega
      subst e
      rfl
  | k + 1, a, b, p, ha, hb, hp => by
    have hp2 : nb p < a.length := by
      rw [ha, two_pow]
      rw [two_pow] at hp
      unfold nb
      split <;> omega
    rw [two_pow] at ha hb hp
    show ((a ++ b)[nb p]?).getD 0 :: pathM f (k + 1) (pairs f (a ++ b)) (p / 2) = (a[nb p]?).getD 0 :: pathM f k (pairs f a) (p / 2) ++ [rootM f k (pairs f b)]
    rw [pairs_append a b ha, path_left k _ _ (p / 2) (pairs_len a ha) (pairs_len b hb) (by omega), List.getElem?_append_left hp2]
    rfl
theorem path_right : ∀ (k : Nat) (a b : List Int) (p : Nat), a.length = 2 ^ k → b.length = 2 ^ k → p < 2 ^ k → pathM f (k + 1) (a ++ b) (2 ^ k + p) = pathM f k b p ++ [rootM f k a]
  | 0, a, b, p, ha, hb, hp => by
    match a, b, ha, hb with
    | [x], [y], _, _ =>
      have e : p = 0 := by omega
      subst e
      rfl
  | k + 1, a, b, p, ha, hb, hp => by
    rw [two_pow] at ha hb hp ⊢
    have hn : nb (2 * 2 ^ k + p) = a.length + nb p := by
      rw [ha]
      unfold nb
      by_cases h : p % 2 = 0
      · rw [if_pos h, if_pos (by omega)]; omega
      · rw [if_neg h, if_neg (by omega)]; omega
    have hd : (2 * 2 ^ k + p) / 2 = 2 ^ k + p / 2 := by omega
    show ((a ++ b)[nb (2 * 2 ^ k + p)]?).getD 0 :: pathM f (k + 1) (pairs f (a ++ b)) ((2 * 2 ^ k + p) / 2) = (b[nb p]?).getD 0 :: pathM f k (pairs f b) (p / 2) ++ [rootM f k (pairs f a)]
    rw [pairs_append a b ha, hd, path_right k _ _ (p / 2) (pairs_len a ha) (pairs_len b hb) (by omega), hn, List.getElem?_append_right (Nat.le_add_right _ _), Nat.add_sub_cancel_left]
    rfl
theorem path_len : ∀ (k : Nat) (r : List Int) (p : Nat), (pathM f k r p).length = k
  | 0, _, _ => rfl
  | k + 1, r, p => by
    show (_ :: pathM f k _ _).length = _
    rw [List.length_cons, path_len k]
theorem levs_len : ∀ (k : Nat) (r : List Int), (levs f k r).length = k + 1
  | 0, _ => rfl
  | k + 1, r => by
    show (r :: levs f k (pairs f r)).length = _
    rw [List.length_cons, levs_len k]
/-- the root by its path -/
theorem rootBy_path : ∀ (k : Nat) (r : List Int) (p : Nat) (d : Int), r.length = 2 ^ k → r[p]? = some d → rootBy f p d (pathM f k r p) = rootM f k r
  | 0, r, p, d, hr, hd => by
    match r, hr with
    | [x], _ =>
      cases p with
      | zero =>
        have e : x = d := by simpa using hd
        subst e
        rfl
      | succ p => simp at hd
  | k + 1, r, p, d, hr, hd => by
    rw [two_pow] at hr
    have hp : p < 2 * 2 ^ k := by
      have := (List.getElem?_eq_some_iff.mp hd).1
      omega
    have hl : (pairs f r).length = 2 ^ k := pairs_len r hr
    show rootBy f (p / 2) (if p % 2 = 0 then f d ((r[nb p]?).getD 0) else f ((r[nb p]?).getD 0) d) (pathM f k (pairs f r) (p / 2)) = rootM f k (pairs f r)
    refine rootBy_path k _ (p / 2) _ hl ?_
    by_cases h : p % 2 = 0
    · have e : nb p = p + 1 := by unfold nb; rw [if_pos h]
      have hq : p + 1 < r.length := by omega
      rw [if_pos h, e, List.getElem?_eq_getElem hq]
      refine pairs_get r (i := p / 2) ?_ ?_
      · rw [show 2 * (p / 2) = p by omega]; exact hd
      · rw [show 2 * (p / 2) + 1 = p + 1 by omega, List.getElem?_eq_getElem hq]; rfl
    · have e : nb p = p - 1 := by unfold nb; rw [if_neg h]
      have hq : p - 1 < r.length := by omega
      rw [if_neg h, e, List.getElem?_eq_getElem hq]
      refine pairs_get r (i := p / 2) ?_ ?_
      · rw [show 2 * (p / 2) = p - 1 by omega, List.getElem?_eq_getElem hq]; rfl
      · rw [show 2 * (p / 2) + 1 = p by omega]; exact hd
end
end KM

set_option Elab.async false
set_option linter.all false
set_option maxRecDepth 100000
set_option maxHeartbeats 4000000
namespace My
open PySem PySem.Spec PyProof.Rows L2
/-! ### the walk: "wp" goes as far as it can, "wp1" one step; "hp": what stands at an address; "ex": a heap grown; "sqL", "sqT": a list, a tuple to be read; "side": a side condition; "ix": an item -/
local macro_rules | `(tactic| walk_at "hp") => `(tactic| first | with_reducible assumption | exact Kit.ex_get (by with_reducible assumption) (by walk_at "hp") | fail)
local macro_rules | `(tactic| walk_at "ex") => `(tactic| first | with_reducible assumption | with_reducible exact Evl.Ex.refl _ | exact Kit.ex_snoc (by with_reducible assumption) (by walk_at "ex") | exact Kit.ex_but (by with_reducible assumption) (by with_reducible assumption) (by walk_at "ex") | fail)
local macro_rules | `(tactic| walk_at "but") => `(tactic| first | with_reducible assumption | with_reducible exact Kit.ExBut.refl _ _ | exact Kit.but_snoc (by with_reducible assumption) (by walk_at "but") | exact Kit.but_snocE (by with_reducible assumption) (by walk_at "but") | fail)
local macro_rules | `(tactic| walk_at "sqL") => `(tactic| first | with_reducible assumption | exact Evl.sq_of (by with_reducible assumption) | exact Evl.ex_l (by with_reducible assumption) (by walk_at "sqL") | fail)
local macro_rules | `(tactic| walk_at "sqT") => `(tactic| first | with_reducible assumption | exact Evl.st_of (by with_reducible assumption) | exact Evl.ex_t (by with_reducible assumption) (by walk_at "sqT") | fail)
local macro_rules | `(tactic| walk_at "sq2") => `(tactic| first | with_reducible assumption | exact Or.inr (Evl.st_of (by with_reducible assumption)) | exact Or.inl (Evl.sq_of (by with_reducible assumption)) | exact Or.inl (by walk_at "sqL") | exact Or.inr (by walk_at "sqT") | fail)
local macro_rules | `(tactic| walk_at "len") => `(tactic| (first | assumption | omega | fail))
local macro_rules | `(tactic| walk_at "len2") => `(tactic| first | exact Nat.le_of_ble_eq_true rfl | omega | (simp; omega) | fail)
local macro_rules | `(tactic| walk_at "side") => `(tactic| first | (with_reducible exact trivial) | (show (0 : Int) < _; omega) | (show (0 : Int) < _; decide) | (show L2.CDiv _ _; exact ⟨by omega, by omega⟩) | (show L2.CMul _ _; exact .inr ⟨by omega, by omega⟩) | (show L2.CMul _ _; exact .inl ⟨by omega, by omega⟩) | (show L2.CDivW _ _; exact Kit.divW (by omega) (by omega)) | (show L2.CDivW _ _; exact Kit.divW (by decide) (by decide)) | (show L2.CPow _ _; exact ⟨by decide, by decide, by decide⟩) | fail)
local macro_rules | `(tactic| walk_at "ix") => `(tactic| first | exact L2.atI_nat (j := 0) rfl | exact L2.atI_nat (j := 1) rfl | exact L2.atI_nat (j := 2) rfl | exact L2.atI_nat (j := 3) rfl | exact L2.atI_nat (j := 4) rfl | exact L2.atI_nat (j := 5) rfl | assumption | fail)
local macro_rules | `(tactic| walk_at "norm") => `(tactic| ((with_reducible show Kit.Sm _ _ _ _ _ (List.set _ _ _) _); refine Kit.m_norm (by simp only [List.set_cons_succ, List.set_cons_zero]; exact rfl) ?_))
local macro_rules | `(tactic| walk_at "wp1") => `(tactic| first
  | ((with_reducible show L2.tVar _ _ _ _); refine Kit.w_var rfl ?_)
  | with_reducible refine Kit.w_op ?_
  | with_reducible refine Kit.w_c ?_
  | with_reducible refine Kit.w_cons ?_
  | with_reducible refine Kit.w_nil ?_
  | ((with_reducible show Kit.Sm _ _ _ _ _ _ _); first
      | ((with_reducible show Kit.Sm _ _ _ _ _ (List.set _ _ _) _); refine Kit.m_norm (by simp only [List.set_cons_succ, List.set_cons_zero]; exact rfl) ?_)
      | with_reducible refine Kit.m_seq ?_
      | with_reducible refine Kit.m_asg ?_
      | with_reducible refine Kit.m_if ?_
      | with_reducible refine Kit.m_ret ?_
      | with_reducible refine Kit.m_next ?_
      | with_reducible refine Kit.m_asgG ?_
      | with_reducible refine Kit.m_drop ?_
      | with_reducible refine Kit.m_fld ?_
      | with_reducible refine Kit.m_for ?_
      | with_reducible refine Kit.m_retN ?_
      | with_reducible refine Kit.m_cont ?_
      | with_reducible refine Kit.m_brk ?_)
  | with_reducible refine Kit.w_test ?_
  | with_reducible refine Kit.w_bl ?_
  | with_reducible refine Kit.w_blE ?_
  | with_reducible refine Kit.w_I0 ?_
  | ((with_reducible show L2.rI _ _ _ _ _ _); refine Kit.w_I (by walk_at "side") ?_)
  | with_reducible refine Kit.w_eqI ?_
  | with_reducible refine Kit.i_T ?_
  | with_reducible refine Kit.i_F ?_
  | with_reducible refine Kit.i_N ?_
  | with_reducible refine Kit.i_R ?_
  | ((with_reducible refine Kit.i_D ?_ ?_) <;> intro _)
  | with_reducible refine Kit.w_cb ?_
  | with_reducible refine Kit.w_call0 ?_
  | ((with_reducible show Kit.Alloc _ _ _ _); refine Kit.w_new (by first | exact Nat.le_of_ble_eq_true rfl | walk_at "len") ?_; intro _ _ _ _ _)
  | with_reducible refine Kit.w_tup ?_
  | with_reducible refine Kit.w_lst ?_
  | ((with_reducible show L2.rEq (V.str _) _ _ _); first | with_reducible refine Kit.w_eqS ?_ | refine Kit.w_eqSF (by decide +kernel) ?_)
  | ((with_reducible show L2.rIxL _ _ (V.int _) _ _); refine Kit.w_ixL (by walk_at "sqL") (by walk_at "ix") ?_)
  | ((with_reducible show L2.rIxT _ _ (V.int _) _ _); refine Kit.w_ixT (by walk_at "sqT") (by walk_at "ix") ?_)
  | ((with_reducible show L2.rIn _ false _ _ _ _); first | refine Kit.w_inLt (by walk_at "sq2") (by decide +kernel) ?_ | refine Kit.w_inLf (by walk_at "sq2") (by decide +kernel) ?_)
  | with_reducible refine Kit.w_int ?_
  | with_reducible refine Kit.w_intB ?_
  | with_reducible refine Kit.w_not ?_
  | with_reducible refine Kit.w_and ?_
  | with_reducible refine Kit.w_or ?_
  | with_reducible refine Kit.w_B ?_
  | with_reducible refine Kit.w_ifE ?_
  | with_reducible refine Kit.w_fld ?_
  | with_reducible refine Kit.w_meth ?_
  | with_reducible refine Kit.w_sl ?_
  | with_reducible refine Kit.w_po ?_
  | with_reducible refine Kit.w_ps ?_
  | with_reducible refine Kit.w_pi ?_
  | ((with_reducible show L2.rSlL _ _ _ _ _ _); refine Kit.w_slL (by walk_at "sqL") ?_; intro _ _ _ _ _)
  | ((with_reducible show L2.rSlA _ _ _ _ _ _); refine Kit.w_slT (by walk_at "sqT") ?_; intro _ _ _ _)
  | ((with_reducible show L2.rCatA _ _ _ _ _); refine Kit.w_catT (by walk_at "sqT") (by walk_at "sqT") (by walk_at "len2") ?_; intro _ _ _ _)
  | ((with_reducible show L2.rCat _ _ _ _); refine Kit.w_catL (by walk_at "hp") (by walk_at "hp") (by walk_at "len2") ?_; intro _ _ _ _ _)
  | with_reducible refine Kit.w_bm ?_
  | with_reducible refine Kit.w_bm0 ?_
  | ((with_reducible show L2.tyV _ "list" _ _ ∧ _); refine Kit.w_tyL (by walk_at "sqL") ?_)
  | with_reducible refine Kit.w_make ?_
  | ((with_reducible refine Kit.w_made ?_); intro _ _ _ _ _ _)
  | with_reducible refine Kit.w_neI ?_
  | with_reducible refine Kit.w_un ?_
  | with_reducible refine Kit.w_U ?_
  | with_reducible refine Kit.w_andV ?_
  | with_reducible refine Kit.w_orV ?_
  | with_reducible refine Kit.w_notV ?_
  | with_reducible refine Kit.w_eqB ?_
  | with_reducible refine Kit.w_max ?_
  | with_reducible refine Kit.w_min ?_
  | with_reducible refine Kit.w_abs ?_
  | ((with_reducible show Evl.rLenS _ _ _ _); refine Kit.w_len (by walk_at "sq2") ?_)
  | ((with_reducible show Evl.rListS _ _ _ _); refine Kit.w_list (by walk_at "sq2") ?_; intro _ _ _ _ _)
  | ((with_reducible show Kit.rTupS _ _ _ _); first | (refine Kit.w_tuple (by walk_at "sqL") ?_; intro _ _ _ _ _) | refine Kit.w_tupleT (by walk_at "sqT") ?_)
  | ((with_reducible show Kit.rIsNo _ _ _ _); first | with_reducible refine Kit.w_isNN ?_ | with_reducible refine Kit.w_isNI ?_ | with_reducible refine Kit.w_isNB ?_ | with_reducible refine Kit.w_isNR ?_)
  | ((with_reducible show Kit.rNotNo _ _ _ _); first | with_reducible refine Kit.w_notNN ?_ | with_reducible refine Kit.w_notNI ?_ | with_reducible refine Kit.w_notNB ?_ | with_reducible refine Kit.w_notNR ?_)
  | with_reducible refine Kit.m_gsub ?_
  | ((with_reducible show L2.rSetL _ (V.int _) _ _ _); refine Kit.w_setL (by walk_at "hp") (by first | exact rfl | exact Evl.ixN_nat (by omega)) (by first | (simp only [List.set_cons_succ, List.set_cons_zero]; exact rfl) | exact rfl) ?_; intro _ _ _)
  | ((with_reducible show L2.rIsi _ _ _ _); first | refine Kit.w_isiInt (b := true) (by decide +kernel) ?_ | refine Kit.w_isiInt (b := false) (by decide +kernel) ?_ | refine Kit.w_isiNon (b := true) (by decide +kernel) ?_ | refine Kit.w_isiNon (b := false) (by decide +kernel) ?_ | refine Kit.w_isiBl (b := true) (by decide +kernel) ?_ | refine Kit.w_isiBl (b := false) (by decide +kernel) ?_ | refine Kit.w_isiStr (b := true) (by decide +kernel) ?_ | refine Kit.w_isiStr (b := false) (by decide +kernel) ?_ | refine Kit.w_isiTup (b := true) (by walk_at "sqT") (by decide +kernel) ?_ | refine Kit.w_isiTup (b := false) (by walk_at "sqT") (by decide +kernel) ?_ | refine Kit.w_isiLst (b := true) (by walk_at "sqL") (by decide +kernel) ?_ | refine Kit.w_isiLst (b := false) (by walk_at "sqL") (by decide +kernel) ?_)
  | ((with_reducible show L2.rNeD _ _ _ _ _); first | refine Kit.w_neTT (by walk_at "sqT") (by walk_at "sqT") ?_ | refine Kit.w_neLL (by walk_at "sqL") (by walk_at "sqL") ?_)
  | ((with_reducible show L2.rEqD _ _ _ _ _); first | refine Kit.w_eqTT (by walk_at "sqT") (by walk_at "sqT") ?_ | refine Kit.w_eqLL (by walk_at "sqL") (by walk_at "sqL") ?_)
  | with_reducible refine Kit.w_dget ?_
  | ((with_reducible refine Kit.w_disp ?_); intro _ _ _ _ _)
  | with_reducible refine Kit.w_pp ?_
  | with_reducible refine Kit.w_pn ?_
  | with_reducible refine Kit.w_rng1 ?_
  | with_reducible refine Kit.w_rng2 ?_
  | with_reducible refine Kit.w_rng3 ?_
  | with_reducible refine Kit.w_lc ?_
  | with_reducible refine Kit.w_itl ?_
  | with_reducible refine Kit.w_itt ?_
  | ((with_reducible refine Kit.i_B ?_ ?_) <;> intro _))
local macro_rules | `(tactic| walk_at "wp") => `(tactic| repeat' (walk_at "wp1"))

/-! ### the text by places -/
def topS (i : Nat) : Stmt := PySem.Challenge.pw_onestepcourt_k06_roots_and_paths.main.body.getD i (.Pass ⟨0, 0, 0, 0⟩)
abbrev s_root_of : Stmt := topS 2
abbrev N_root_of : List Str := ["digests", "row"]
theorem sc_root_of : FnScope N_root_of ["digests", "row"] (defScope s_root_of) := ⟨rfl, rfl, rfl, by decide +kernel, rfl, by decide +kernel, by decide +kernel⟩
abbrev s_path_of : Stmt := topS 3
abbrev N_path_of : List Str := ["digests", "row", "place"]
theorem sc_path_of : FnScope N_path_of ["digests", "row", "place"] (defScope s_path_of) := ⟨rfl, rfl, rfl, by decide +kernel, rfl, by decide +kernel, by decide +kernel⟩
abbrev s_root_by : Stmt := topS 4
abbrev N_root_by : List Str := ["digests", "place", "digest", "path", "root", "item"]
theorem sc_root_by : FnScope N_root_by ["digests", "place", "digest", "path"] (defScope s_root_by) := ⟨rfl, rfl, rfl, by decide +kernel, rfl, by decide +kernel, by decide +kernel⟩
abbrev s_levels_of : Stmt := topS 5
abbrev N_levels_of : List Str := ["digests", "row", "levels", "below", "k"]
theorem sc_levels_of : FnScope N_levels_of ["digests", "row"] (defScope s_levels_of) := ⟨rfl, rfl, rfl, by decide +kernel, rfl, by decide +kernel, by decide +kernel⟩
abbrev s_path_in : Stmt := topS 6
abbrev N_path_in : List Str := ["levels", "place", "path", "level", "neighbour"]
theorem sc_path_in : FnScope N_path_in ["levels", "place"] (defScope s_path_in) := ⟨rfl, rfl, rfl, by decide +kernel, rfl, by decide +kernel, by decide +kernel⟩
abbrev s_Digests___init : Stmt := inClass (topS 8) 0
abbrev N_Digests___init : List Str := ["self", "bits", "book"]
theorem sc_Digests___init : FnScope N_Digests___init ["self", "bits", "book"] (defScope s_Digests___init) := ⟨rfl, rfl, rfl, by decide +kernel, rfl, by decide +kernel, by decide +kernel⟩
abbrev s_Digests_fold : Stmt := inClass (topS 8) 2
abbrev N_Digests_fold : List Str := ["self", "left", "right", "mixed", "digest"]
theorem sc_Digests_fold : FnScope N_Digests_fold ["self", "left", "right"] (defScope s_Digests_fold) := ⟨rfl, rfl, rfl, by decide +kernel, rfl, by decide +kernel, by decide +kernel⟩
abbrev s_Digests__noted : Stmt := inClass (topS 8) 7
abbrev N_Digests__noted : List Str := ["self", "kind", "text", "digest"]
theorem sc_Digests__noted : FnScope N_Digests__noted ["self", "kind", "text", "digest"] (defScope s_Digests__noted) := ⟨rfl, rfl, rfl, by decide +kernel, rfl, by decide +kernel, by decide +kernel⟩
abbrev s_law_draws : Stmt := topS 10
abbrev N_law_draws : List Str := ["script", "start", "most", "draws", "cell", "number", "mixed", "k"]
theorem sc_law_draws : FnScope N_law_draws ["script", "start", "most"] (defScope s_law_draws) := ⟨rfl, rfl, rfl, by decide +kernel, rfl, by decide +kernel, by decide +kernel⟩
abbrev s_law_mod : Stmt := topS 11
abbrev N_law_mod : List Str := ["bits"]
theorem sc_law_mod : FnScope N_law_mod ["bits"] (defScope s_law_mod) := ⟨rfl, rfl, rfl, by decide +kernel, rfl, by decide +kernel, by decide +kernel⟩
abbrev s_law_fold : Stmt := topS 13
abbrev N_law_fold : List Str := ["m", "x", "y", "z"]
theorem sc_law_fold : FnScope N_law_fold ["m", "x", "y"] (defScope s_law_fold) := ⟨rfl, rfl, rfl, by decide +kernel, rfl, by decide +kernel, by decide +kernel⟩
abbrev s_law_root : Stmt := topS 14
abbrev N_law_root : List Str := ["m", "row", "half"]
theorem sc_law_root : FnScope N_law_root ["m", "row"] (defScope s_law_root) := ⟨rfl, rfl, rfl, by decide +kernel, rfl, by decide +kernel, by decide +kernel⟩
abbrev s_law_path : Stmt := topS 15
abbrev N_law_path : List Str := ["m", "row", "place", "half"]
theorem sc_law_path : FnScope N_law_path ["m", "row", "place"] (defScope s_law_path) := ⟨rfl, rfl, rfl, by decide +kernel, rfl, by decide +kernel, by decide +kernel⟩
abbrev s_law : Stmt := topS 16
abbrev N_law : List Str := ["script", "draws", "bits", "m", "digests", "size", "row", "root", "place", "path", "k"]
theorem sc_law : FnScope N_law ["script"] (defScope s_law) := ⟨rfl, rfl, rfl, by decide +kernel, rfl, by decide +kernel, by decide +kernel⟩
/-! ### what the top has written -/
structure Txt (K : PySem.W.Frag) (mg : Str → Option Value) where
  f_root_of : Kit.GFn' K mg "root_of" "root_of" s_root_of ["digests", "row"]
  f_path_of : Kit.GFn' K mg "path_of" "path_of" s_path_of ["digests", "row", "place"]
  f_root_by : Kit.GFn' K mg "root_by" "root_by" s_root_by ["digests", "place", "digest", "path"]
  f_levels_of : Kit.GFn' K mg "levels_of" "levels_of" s_levels_of ["digests", "row"]
  f_path_in : Kit.GFn' K mg "path_in" "path_in" s_path_in ["levels", "place"]
  f_Digests___init : Kit.GFn K "__init__" "Digests.__init__" s_Digests___init ["self", "bits", "book"]
  f_Digests_fold : Kit.GFn K "fold" "Digests.fold" s_Digests_fold ["self", "left", "right"]
  f_Digests__noted : Kit.GFn K "_noted" "Digests._noted" s_Digests__noted ["self", "kind", "text", "digest"]
  f_law_draws : Kit.GFn' K mg "_law_draws" "_law_draws" s_law_draws ["script", "start", "most"]
  f_law_mod : Kit.GFn' K mg "_law_mod" "_law_mod" s_law_mod ["bits"]
  f_law_fold : Kit.GFn' K mg "_law_fold" "_law_fold" s_law_fold ["m", "x", "y"]
  f_law_root : Kit.GFn' K mg "_law_root" "_law_root" s_law_root ["m", "row"]
  f_law_path : Kit.GFn' K mg "_law_path" "_law_path" s_law_path ["m", "row", "place"]
  f_law : Kit.GFn' K mg "law" "law" s_law ["script"]
  c_Digests : Kit.GCl K mg "Digests" f_Digests___init.f
  m_Digests_fold : Meth K c_Digests.C "fold" f_Digests_fold.f
  m_Digests__noted : Meth K c_Digests.C "_noted" f_Digests__noted.f
  n_Digests_bits : NoAttr K c_Digests.C "_bits"
  n_Digests_book : NoAttr K c_Digests.C "_book"
  n_Digests_modulus : NoAttr K c_Digests.C "_modulus"
  z_abs : mg "abs" = none
  z_int : mg "int" = none
  z_isinstance : mg "isinstance" = none
  z_len : mg "len" = none
  z_list : mg "list" = none
  z_range : mg "range" = none
  z_tuple : mg "tuple" = none
def fl_Digests (v0 v1 v2 : V) : List (Str × V) := [("_bits", v0), ("_book", v1), ("_modulus", v2)]
section
variable {K : PySem.W.Frag} {mg : Str → Option Value} {H : Hp} {p C dx : Addr} {v0 v1 v2 : V} {Q : VK} {R : Prop}
theorem rd_Digests_bits (T : Txt K mg) (h : H p = some (.ins T.c_Digests.C dx (fl_Digests v0 v1 v2))) (q : Q v0 H) : Kit.FldOf K "_bits" (.ref p) H Q := Kit.w_rd h T.c_Digests.cl T.n_Digests_bits rfl q
theorem pt_Digests_bits (T : Txt K mg) {y : V} {W : Hp → Prop} (h : H p = some (.ins T.c_Digests.C dx (fl_Digests v0 v1 v2))) (q : ∀ H2, Kit.ExBut p H H2 → H2 p = some (.ins T.c_Digests.C dx (fl_Digests y v1 v2)) → W H2) : Kit.PutOf K "_bits" y (.ref p) H W := Kit.w_put h T.c_Digests.cl T.n_Digests_bits (Nat.lt_of_lt_of_le (Nat.lt_of_le_of_lt (Nat.le_refl 3) (by decide : 3 < 100)) (by decide)) rfl q
theorem in_Digests_bits (T : Txt K mg) {y : V} {W : Hp → Prop} (h : H p = some (.ins T.c_Digests.C dx [])) (q : ∀ H2, Kit.ExBut p H H2 → H2 p = some (.ins T.c_Digests.C dx ([("_bits", y)])) → W H2) : Kit.PutOf K "_bits" y (.ref p) H W := Kit.w_put h T.c_Digests.cl T.n_Digests_bits (Nat.lt_of_lt_of_le (Nat.lt_of_le_of_lt (Nat.le_refl 0) (by decide : 0 < 100)) (by decide)) rfl q
theorem rd_Digests_book (T : Txt K mg) (h : H p = some (.ins T.c_Digests.C dx (fl_Digests v0 v1 v2))) (q : Q v1 H) : Kit.FldOf K "_book" (.ref p) H Q := Kit.w_rd h T.c_Digests.cl T.n_Digests_book rfl q
theorem pt_Digests_book (T : Txt K mg) {y : V} {W : Hp → Prop} (h : H p = some (.ins T.c_Digests.C dx (fl_Digests v0 v1 v2))) (q : ∀ H2, Kit.ExBut p H H2 → H2 p = some (.ins T.c_Digests.C dx (fl_Digests v0 y v2)) → W H2) : Kit.PutOf K "_book" y (.ref p) H W := Kit.w_put h T.c_Digests.cl T.n_Digests_book (Nat.lt_of_lt_of_le (Nat.lt_of_le_of_lt (Nat.le_refl 3) (by decide : 3 < 100)) (by decide)) rfl q
theorem in_Digests_book (T : Txt K mg) {y : V} {W : Hp → Prop} (h : H p = some (.ins T.c_Digests.C dx [("_bits", v0)])) (q : ∀ H2, Kit.ExBut p H H2 → H2 p = some (.ins T.c_Digests.C dx ([("_bits", v0), ("_book", y)])) → W H2) : Kit.PutOf K "_book" y (.ref p) H W := Kit.w_put h T.c_Digests.cl T.n_Digests_book (Nat.lt_of_lt_of_le (Nat.lt_of_le_of_lt (Nat.le_refl 1) (by decide : 1 < 100)) (by decide)) rfl q
theorem rd_Digests_modulus (T : Txt K mg) (h : H p = some (.ins T.c_Digests.C dx (fl_Digests v0 v1 v2))) (q : Q v2 H) : Kit.FldOf K "_modulus" (.ref p) H Q := Kit.w_rd h T.c_Digests.cl T.n_Digests_modulus rfl q
theorem pt_Digests_modulus (T : Txt K mg) {y : V} {W : Hp → Prop} (h : H p = some (.ins T.c_Digests.C dx (fl_Digests v0 v1 v2))) (q : ∀ H2, Kit.ExBut p H H2 → H2 p = some (.ins T.c_Digests.C dx (fl_Digests v0 v1 y)) → W H2) : Kit.PutOf K "_modulus" y (.ref p) H W := Kit.w_put h T.c_Digests.cl T.n_Digests_modulus (Nat.lt_of_lt_of_le (Nat.lt_of_le_of_lt (Nat.le_refl 3) (by decide : 3 < 100)) (by decide)) rfl q
theorem in_Digests_modulus (T : Txt K mg) {y : V} {W : Hp → Prop} (h : H p = some (.ins T.c_Digests.C dx [("_bits", v0), ("_book", v1)])) (q : ∀ H2, Kit.ExBut p H H2 → H2 p = some (.ins T.c_Digests.C dx (fl_Digests v0 v1 y)) → W H2) : Kit.PutOf K "_modulus" y (.ref p) H W := Kit.w_put h T.c_Digests.cl T.n_Digests_modulus (Nat.lt_of_lt_of_le (Nat.lt_of_le_of_lt (Nat.le_refl 2) (by decide : 2 < 100)) (by decide)) rfl q
theorem me_Digests_fold (h : H p = some (.ins C dx (fl_Digests v0 v1 v2))) (r : R) : Kit.InsOf C "fold" (.ref p) H R := Kit.w_ins h rfl r
theorem me_Digests__noted (h : H p = some (.ins C dx (fl_Digests v0 v1 v2))) (r : R) : Kit.InsOf C "_noted" (.ref p) H R := Kit.w_ins h rfl r
end
local macro_rules | `(tactic| walk_at "wp1") => `(tactic| ((with_reducible show Kit.FldOf _ _ _ _ _); first | with_reducible refine rd_Digests_bits _ (by walk_at "hp") ?_ | with_reducible refine rd_Digests_book _ (by walk_at "hp") ?_ | with_reducible refine rd_Digests_modulus _ (by walk_at "hp") ?_))
local macro_rules | `(tactic| walk_at "wp1") => `(tactic| ((with_reducible show Kit.InsOf _ _ _ _ _); first | with_reducible refine me_Digests_fold (by walk_at "hp") ?_ | with_reducible refine me_Digests__noted (by walk_at "hp") ?_))
local macro_rules | `(tactic| walk_at "wp1") => `(tactic| ((with_reducible show Kit.PutOf _ _ _ _ _ _); first | (with_reducible refine pt_Digests_bits _ (by walk_at "hp") ?_; intro _ _ _) | (with_reducible refine in_Digests_bits _ (by walk_at "hp") ?_; intro _ _ _) | (with_reducible refine pt_Digests_book _ (by walk_at "hp") ?_; intro _ _ _) | (with_reducible refine in_Digests_book _ (by walk_at "hp") ?_; intro _ _ _) | (with_reducible refine pt_Digests_modulus _ (by walk_at "hp") ?_; intro _ _ _) | (with_reducible refine in_Digests_modulus _ (by walk_at "hp") ?_; intro _ _ _)))
theorem ex_done {Q : VK} {v u : V} {H H' : Hp} (q : ∀ H', Evl.Ex H H' → Q v H') (e : Evl.Ex H H') (h : v = u) : Q u H' := h ▸ q H' e
section
variable {P : Program} {w : World} {K : PySem.W.Frag} {mg : Str → Option Value} {base : Heap}

/-! ### digests without a book -/
def leafI (m x : Int) : Int := (48271 * x + 11) % m
def foldI (m x y : Int) : Int := (y * y + 3 * x + 7 * y + 1 + (69621 * x + 16807 * y + 5) * (69621 * x + 16807 * y + 5)) % m
def stepI (m d n : Int) : Int := ((d + n) * (d + 48611) + 52774 * n + 19) % m
def stateI (m : Int) (ns : List Int) : Int := ns.foldl (stepI m) 3
def Dg (m x : Int) : Prop := 0 ≤ x ∧ x < m
inductive IsBits : Int → Prop where
  | b7 : IsBits 7 | b13 : IsBits 13 | b31 : IsBits 31 | b61 : IsBits 61
theorem IsBits.or {b : Int} (h : IsBits b) : b = 7 ∨ b = 13 ∨ b = 31 ∨ b = 61 := by cases h <;> simp
theorem IsBits.m {b : Int} (h : IsBits b) : 0 < 2 ^ b.toNat - (1 : Int) ∧ 2 ^ b.toNat - (1 : Int) < 2 ^ 62 := by cases h <;> decide
structure DigN (C : Addr) (H : Hp) (d : Addr) (m : Int) : Prop where
  at_ : ∃ dx b, H d = some (.ins C dx (fl_Digests b .non (.int m)))
  pos : 0 < m
  lt : m < 2 ^ 62
theorem DigN.ex {C d : Addr} {H H' : Hp} {m : Int} (e : Evl.Ex H H') (h : DigN C H d m) : DigN C H' d m := let ⟨⟨dx, b, h⟩, p, l⟩ := h; ⟨⟨dx, b, e _ _ h⟩, p, l⟩
theorem DigN.but {C d p : Addr} {H H' : Hp} {m : Int} (e : Kit.ExBut p H H') (n : d ≠ p) (h : DigN C H d m) : DigN C H' d m := let ⟨⟨dx, b, h⟩, p, l⟩ := h; ⟨⟨dx, b, e _ _ n h⟩, p, l⟩
local macro_rules | `(tactic| walk_at "dig") => `(tactic| first | with_reducible assumption | exact DigN.ex (by with_reducible assumption) (by walk_at "dig") | fail)
theorem DigN.ins {C d : Addr} {H : Hp} {m : Int} {x : Str} {R : Prop} (h : DigN C H d m) (l : ∀ b, (fl_Digests b .non (.int m)).lookup x = none) (r : R) : Kit.InsOf C x (.ref d) H R := let ⟨⟨_, b, h⟩, _, _⟩ := h; Kit.w_ins h (l b) r
local macro_rules | `(tactic| walk_at "wp1") => `(tactic| ((with_reducible show Kit.InsOf _ _ _ _ _); refine DigN.ins (by walk_at "dig") (fun _ => rfl) ?_))
theorem fold_dg {m x y : Int} (h : 0 < m) : Dg m (foldI m x y) := ⟨Int.emod_nonneg _ (by omega), Int.emod_lt_of_pos _ h⟩
theorem leaf_dg {m x : Int} (h : 0 < m) : Dg m (leafI m x) := ⟨Int.emod_nonneg _ (by omega), Int.emod_lt_of_pos _ h⟩
def sp_Digests_init (C : Addr) : Sp := fun vs H Q _ => ∃ (p dx : Addr) (b : Int) (bk : V), vs = [.ref p, .int b, bk] ∧ H p = some (.ins C dx []) ∧ 0 ≤ b ∧ b ≤ 61 ∧ ∀ H', Kit.ExBut p H H' → H' p = some (.ins C dx (fl_Digests (.int b) bk (.int (2 ^ b.toNat - 1)))) → Q .non H'
theorem ok_Digests___init (T : Txt K mg) : FnOk P w K mg base CX0 1 T.f_Digests___init.f T.f_Digests___init.fd ["self", "bits", "book"] (sp_Digests_init T.c_Digests.C) := by
  refine T.f_Digests___init.F.ok sc_Digests___init (fun vs H Q E h => ?_) (fun cdv A outer s H vs Q E hr h => ?_)
  · obtain ⟨p, dx, b, bk, rfl, hp, b0, b1, q⟩ := h
    rfl
  obtain ⟨p, dx, b, bk, rfl, hp, b0, b1, q⟩ := h
  have nd := sc_Digests___init.nd
  refine Kit.ok_body (σ := [some _, some _, some _]) ((pss_cons (Kit.kSet K (pv 0) (pv 1) rfl)
    (pss_cons (Kit.kSet K (pv 0) (pv 2) rfl)
    (pss_one (Kit.kSet K (pv 0) (pe_op op_sub (pe_op op_shl pe_int (pv 1)) pe_int) rfl))))) rfl ?_
  walk_at "wp"
  refine Kit.w_I (show CPow 1 b from ⟨b0, by omega, by decide⟩) ?_
  walk_at "wp"
  rename_i f
  refine q _ (by walk_at "but") ?_
  rw [Int.one_mul] at f
  exact f
theorem use_Digests {C : Addr} {b : Int} {H : Hp} {Q : VK} {E : XK} (hb : IsBits b) (k : ∀ p H', H p = none → Evl.Ex H H' → DigN C H' p (2 ^ b.toNat - 1) → Q (.ref p) H') : Kit.MakeOf C (sp_Digests_init C) E [.int b, .non] H Q := by
  have b0 := hb.or
  refine Kit.w_made fun x dx H2 hx e h => ?_
  refine ⟨x, dx, b, .non, rfl, h, by omega, by omega, fun H3 m h3 => ⟨rfl, k x H3 hx (Kit.ex_but m hx e) ⟨⟨dx, _, h3⟩, ?_, ?_⟩⟩⟩
  all_goals rcases b0 with rfl | rfl | rfl | rfl <;> decide
local macro_rules | `(tactic| walk_at "wp1") => `(tactic| ((with_reducible show Kit.MakeOf _ (sp_Digests_init _) _ [_, V.non] _ _); refine use_Digests (by assumption) ?_; intro _ _ _ _ _))
def sp_noted (C : Addr) : Sp := fun vs H Q _ => ∃ (p dx : Addr) (b m k t d : V), vs = [.ref p, k, t, d] ∧ H p = some (.ins C dx (fl_Digests b .non m)) ∧ ∀ H', Evl.Ex H H' → Q d H'
theorem ok_Digests__noted (T : Txt K mg) : FnOk P w K mg base CX0 1 T.f_Digests__noted.f T.f_Digests__noted.fd ["self", "kind", "text", "digest"] (sp_noted T.c_Digests.C) := by
  refine T.f_Digests__noted.F.ok sc_Digests__noted (fun vs H Q E h => ?_) (fun cdv A outer s H vs Q E hr h => ?_)
  · obtain ⟨p, dx, b, m, k, t, d, rfl, hp, q⟩ := h
    rfl
  obtain ⟨p, dx, b, m, k, t, d, rfl, hp, q⟩ := h
  have nd := sc_Digests__noted.nd
  refine Kit.ok_body (σ := [some _, some _, some _, some _]) ((pss_cons (ps_if (pt_cmpR Kit.k_notN (Kit.kFld K (pv 0) rfl) pe_non (nomark _))
    (pss_one ps_never)
    pss_nil)
    (pss_one (ps_ret (pv 3))))) rfl ?_
  walk_at "wp"
  exact q _ (by walk_at "ex")
theorem use_noted {C p dx : Addr} {b m k t d : V} {H : Hp} {Q : VK} {E : XK} (hp : H p = some (.ins C dx (fl_Digests b .non m))) (q : ∀ H', Evl.Ex H H' → Q d H') : sp_noted C [.ref p, k, t, d] H Q E := ⟨p, dx, b, m, k, t, d, rfl, hp, q⟩
local macro_rules | `(tactic| walk_at "wp1") => `(tactic| ((with_reducible show sp_noted _ _ _ _ _); refine use_noted (by walk_at "hp") ?_; intro _ _))
theorem mulW {i j : Int} (ha : i.natAbs < 2 ^ 100) (hb : j.natAbs < 2 ^ 100) : CMulW i j := wide_mul (a := 100) (b := 100) ha hb (by decide) (by decide) (by decide)

def sp_fold (C : Addr) : Sp := fun vs H Q _ => ∃ (p : Addr) (m x y : Int), vs = [.ref p, .int x, .int y] ∧ DigN C H p m ∧ Dg m x ∧ Dg m y ∧ ∀ H', Evl.Ex H H' → Q (.int (foldI m x y)) H'
theorem ok_Digests_fold (T : Txt K mg) : FnOk P w K mg base CX0 2 T.f_Digests_fold.f T.f_Digests_fold.fd ["self", "left", "right"] (sp_fold T.c_Digests.C) := by
  have G_Digests__noted := ok_Digests__noted (P := P) (w := w) (base := base) T
  refine T.f_Digests_fold.F.ok sc_Digests_fold (fun vs H Q E h => ?_) (fun cdv A outer s H vs Q E hr h => ?_)
  · obtain ⟨p, m, x, y, rfl, ⟨⟨dx, b, hp⟩, m0, m1⟩, ⟨x0, x1⟩, ⟨y0, y1⟩, q⟩ := h
    rfl
  obtain ⟨p, m, x, y, rfl, ⟨⟨dx, b, hp⟩, m0, m1⟩, ⟨x0, x1⟩, ⟨y0, y1⟩, q⟩ := h
  have nd := sc_Digests_fold.nd
  have hr1 : Room 1 _ := hr.mono (by decide)
  refine Kit.ok_body (σ := [some _, some _, some _, none, none]) ((pss_cons (ps_set (i := 3) nd rfl (Or.inl rfl) (pe_op op_add (pe_op op_add (pe_op op_mul pe_int (pv 1)) (pe_op op_mul pe_int (pv 2))) pe_int))
    (pss_cons (ps_set (i := 4) nd rfl (Or.inl rfl) (pe_op op_add (pe_op op_add (pe_op op_add (pe_op op_add (pe_op op_mul (pv 2) (pv 2)) (pe_op op_mul pe_int (pv 1))) (pe_op op_mul pe_int (pv 2))) pe_int) (pe_op op_mulW (pv 3) (pv 3))))
    (pss_one (ps_ret (pe_meth (pv 0) T.c_Digests.cl T.m_Digests__noted G_Digests__noted hr1 T.f_Digests__noted.b .nil pass0 (pa_cons pe_str (pa_cons (pe_tup (pa_cons (pv 1) (pa_cons (pv 2) pa_nil))) (pa_cons (pe_op op_mod (pv 4) (Kit.kFld K (pv 0) rfl)) pa_nil))))))))) rfl ?_
  try dsimp only [L2.cxOf, L2.Cx.nox]
  walk_at "wp"
  refine Kit.w_I (mulW (by omega) (by omega)) ?_
  walk_at "wp"
  exact ex_done q (by walk_at "ex") rfl
theorem use_fold {C p : Addr} {m x y : Int} {H : Hp} {Q : VK} {E : XK} (h : DigN C H p m) (hx : Dg m x) (hy : Dg m y) (q : ∀ H', Evl.Ex H H' → Q (.int (foldI m x y)) H') : sp_fold C [.ref p, .int x, .int y] H Q E := ⟨p, m, x, y, rfl, h, hx, hy, q⟩

/-! ### rows and their levels -/
def iv (ns : List Int) : List V := ns.map V.int
theorem iv_at {r : List Int} {k : Nat} (h : k < r.length) : atI (iv r) (k : Int) = some (.int ((r[k]?).getD 0)) := by
  refine atI_nat (j := k) ?_
  unfold iv
  rw [List.getElem?_map, List.getElem?_eq_getElem h]
  rfl
theorem iv_at' {r : List Int} {z : Int} (k : Nat) (e : z = (k : Int)) (h : k < r.length) : atI (iv r) z = some (.int ((r[k]?).getD 0)) := by
  rw [e]
  exact iv_at h
theorem iv_len (r : List Int) : (iv r).length = r.length := List.length_map _
def AllDg (m : Int) (r : List Int) : Prop := ∀ x ∈ r, Dg m x
theorem AllDg.at {m : Int} {r : List Int} (h : AllDg m r) {k : Nat} (hk : k < r.length) : Dg m ((r[k]?).getD 0) := by
  rw [List.getElem?_eq_getElem hk]
  exact h _ (List.getElem_mem hk)
theorem pairs_at {f : Int → Int → Int} : ∀ (r : List Int) {m : Nat}, r.length = 2 * m → KM.pairs f r = (List.range m).map fun k => f ((r[2 * k]?).getD 0) ((r[2 * k + 1]?).getD 0) := by
  intro r m hr
  apply List.ext_getElem?
  intro i
  by_cases hi : i < m
  · rw [List.getElem?_map, List.getElem?_range hi]
    have h1 : 2 * i < r.length := by omega
    have h2 : 2 * i + 1 < r.length := by omega
    rw [KM.pairs_get r (List.getElem?_eq_getElem h1) (List.getElem?_eq_getElem h2)]
    show _ = some (f ((r[2 * i]?).getD 0) ((r[2 * i + 1]?).getD 0))
    rw [List.getElem?_eq_getElem h1, List.getElem?_eq_getElem h2]
    rfl
  · rw [List.getElem?_eq_none (by rw [KM.pairs_len r hr]; omega), List.getElem?_eq_none (by rw [List.length_map, List.length_range]; omega)]
theorem pairs_dg {m : Int} (hm : 0 < m) : ∀ r : List Int, AllDg m (KM.pairs (foldI m) r)
  | [] => fun x h => by cases h
  | [_] => fun x h => by cases h
  | a :: b :: r => fun x h => by
    rcases List.mem_cons.mp h with rfl | h
    · exact fold_dg hm
    · exact pairs_dg hm r x h
/-- lists at new addresses, one a row -/
def RowsAt (H0 H : Hp) : List Addr → List (List Int) → Prop
  | [], [] => True
  | p :: ps, r :: rs => H0 p = none ∧ H p = some (.lst (iv r)) ∧ p ∉ ps ∧ RowsAt H0 H ps rs
  | _, _ => False
theorem RowsAt.ex {H0 H H' : Hp} (e : Evl.Ex H H') : ∀ {ps : List Addr} {rs : List (List Int)}, RowsAt H0 H ps rs → RowsAt H0 H' ps rs
  | [], [], _ => trivial
  | _ :: _, _ :: _, ⟨a, b, c, d⟩ => ⟨a, e _ _ b, c, RowsAt.ex e d⟩
theorem RowsAt.but {q : Addr} {H0 H H' : Hp} (e : Kit.ExBut q H H') : ∀ {ps : List Addr} {rs : List (List Int)}, q ∉ ps → RowsAt H0 H ps rs → RowsAt H0 H' ps rs
  | [], [], _, _ => trivial
  | p :: ps, _ :: _, n, ⟨a, b, c, d⟩ => ⟨a, e _ _ (fun z => n (z ▸ List.mem_cons_self)) b, c, RowsAt.but e (fun z => n (List.mem_cons_of_mem _ z)) d⟩
theorem RowsAt.len {H0 H : Hp} : ∀ {ps : List Addr} {rs : List (List Int)}, RowsAt H0 H ps rs → ps.length = rs.length
  | [], [], _ => rfl
  | _ :: _, _ :: _, ⟨_, _, _, d⟩ => by rw [List.length_cons, List.length_cons, RowsAt.len d]
theorem RowsAt.get {H0 H : Hp} : ∀ {ps : List Addr} {rs : List (List Int)}, RowsAt H0 H ps rs → ∀ {i : Nat} {r : List Int}, rs[i]? = some r → ∃ p, ps[i]? = some p ∧ H0 p = none ∧ H p = some (.lst (iv r))
  | [], [], _, i, _, h => by simp at h
  | p :: ps, s :: rs, ⟨a, b, c, d⟩, 0, r, h => by
    have e : s = r := by simpa using h
    subst e
    exact ⟨p, rfl, a, b⟩
  | p :: ps, s :: rs, ⟨a, b, c, d⟩, i + 1, r, h => by
    obtain ⟨q, h1, h2⟩ := RowsAt.get d (i := i) (r := r) (by simpa using h)
    exact ⟨q, by simpa using h1, h2⟩
theorem RowsAt.mem {H0 H : Hp} : ∀ {ps : List Addr} {rs : List (List Int)}, RowsAt H0 H ps rs → ∀ {p : Addr}, p ∈ ps → ∃ xs, H p = some (.lst xs)
  | [], [], _, _, h => by cases h
  | q :: ps, s :: rs, ⟨a, b, c, d⟩, p, h => by
    rcases List.mem_cons.mp h with rfl | h
    · exact ⟨_, b⟩
    · exact RowsAt.mem d h
theorem RowsAt.snoc {H0 H : Hp} {q : Addr} {r : List Int} (hq : H0 q = none) (h : H q = some (.lst (iv r))) : ∀ {ps : List Addr} {rs : List (List Int)}, q ∉ ps → RowsAt H0 H ps rs → RowsAt H0 H (ps ++ [q]) (rs ++ [r])
  | [], [], _, _ => ⟨hq, h, by simp, trivial⟩
  | p :: ps, _ :: _, n, ⟨a, b, c, d⟩ => ⟨a, b, by
      intro z
      rcases List.mem_append.mp z with z | z
      · exact c z
      · exact n (List.mem_singleton.mp z ▸ List.mem_cons_self), RowsAt.snoc hq h (fun z => n (List.mem_cons_of_mem _ z)) d⟩
/-- a list of lists: the levels of a row -/
structure LevAt (H0 H : Hp) (l : Addr) (rs : List (List Int)) : Prop where
  ex : ∃ ps : List Addr, H l = some (.lst (ps.map V.ref)) ∧ RowsAt H0 H ps rs ∧ l ∉ ps ∧ H0 l = none
theorem LevAt.mono {H0 H H' : Hp} {l : Addr} {rs : List (List Int)} (e : Evl.Ex H H') (h : LevAt H0 H l rs) : LevAt H0 H' l rs := let ⟨ps, a, b, c, d⟩ := h.ex; ⟨ps, e _ _ a, b.ex e, c, d⟩
/-- the levels so far, by how far one has come -/
def LevSo (f : Int → Int → Int) (k : Nat) (row : List Int) (j : Nat) (rs : List (List Int)) : Prop := ∃ (pre : List (List Int)) (r : List Int), rs = pre ++ [r] ∧ r.length = 2 ^ j ∧ pre ++ KM.levs f j r = KM.levs f k row
theorem LevSo.next {f : Int → Int → Int} {k j : Nat} {row : List Int} {rs : List (List Int)} (h : LevSo f k row (j + 1) rs) : ∃ r, rs.getLast? = some r ∧ r.length = 2 * 2 ^ j ∧ LevSo f k row j (rs ++ [KM.pairs f r]) := by
  obtain ⟨pre, r, rfl, hr, e⟩ := h
  rw [KM.two_pow] at hr
  refine ⟨r, by simp, hr, pre ++ [r], KM.pairs f r, rfl, KM.pairs_len r hr, ?_⟩
  rw [List.append_assoc]
  exact e
def sp_levels_of (K : PySem.W.Frag) (C : Addr) : Sp := fun vs H Q _ => ∃ (p a : Addr) (m : Int) (r : List Int) (k : Nat), vs = [.ref p, .ref a] ∧ DigN C H p m ∧ (SqL K H a (iv r) ∨ SqT K H a (iv r)) ∧ AllDg m r ∧ r.length = 2 ^ k ∧ k ≤ 8 ∧
  ∀ l H', Evl.Ex H H' → LevAt H H' l (KM.levs (foldI m) k r) → Q (.ref l) H'
theorem ok_levels_of (T : Txt K mg) : FnOk P w K mg base CX0 3 T.f_levels_of.f T.f_levels_of.fd ["digests", "row"] (sp_levels_of K T.c_Digests.C) := by
  have G_Digests_fold := ok_Digests_fold (P := P) (w := w) (base := base) T
  refine T.f_levels_of.F.ok sc_levels_of (fun vs H Q E h => ?_) (fun cdv A outer s H vs Q E hr h => ?_)
  · obtain ⟨p, a, m, r, k, rfl, hd, ha, hx, hk, hk8, q⟩ := h
    rfl
  obtain ⟨p, a, m, r, k, rfl, hd, ha, hx, hk, hk8, q⟩ := h
  have nd := sc_levels_of.nd
  have hr2 : Room 2 _ := hr.mono (by decide)
  refine Kit.ok_body (σ := [some _, some _, none, none, none]) ((pss_cons (ps_set (i := 2) nd rfl (Or.inl rfl) (pe_lst (pa_cons (pe_callTy (Kit.kList K) (by rfl) T.z_list (by decide +kernel) (pa_cons (pv 1) pa_nil)) pa_nil)))
    (pss_cons (ps_while PassesOwn.never (pt_cmpR op_gt (pe_callB (Kit.kLen K) (by rfl) T.z_len (by decide +kernel) (pa_cons (pe_ix (Kit.ixL K) (pv 2) (pe_un un_neg pe_int) (fun _ _ => rfl)) pa_nil)) pe_int (nomark _))
    (pss_cons (ps_set (i := 3) nd rfl (Or.inr rfl) (pe_ix (Kit.ixL K) (pv 2) (pe_un un_neg pe_int) (fun _ _ => rfl)))
    (pss_one (ps_expr (pe_bm PySem.F.plainAttrs_list PySem.F.slot_list_append PySem.F.type_list_append mt_append (pv 2) (pa_cons (pe_lc (own := [("k", 4)]) (g := gName 4) (tt := tYes) (by rfl) nd (pi_range3 (by rfl) T.z_range (pa_cons pe_int (pa_cons (pe_callB (Kit.kLen K) (by rfl) T.z_len (by decide +kernel) (pa_cons (pv 3) pa_nil)) (pa_cons pe_int pa_nil)))) (blkOk_by (own := [("k", 4)]) (N := N_levels_of) (sc := defScope s_levels_of) (by decide +kernel)) (fun _ _ _ _ _ => pg_name (i := 4) nd rfl (Or.inl rfl)) (fun _ _ _ _ _ => pts_nil) (fun _ _ _ _ _ => (pe_meth (pv 0) T.c_Digests.cl T.m_Digests_fold G_Digests_fold hr2 T.f_Digests_fold.b .nil pass0 (pa_cons (pe_ix (Kit.ixL K) (pv 3) (pv 4) (fun _ _ => rfl)) (pa_cons (pe_ix (Kit.ixL K) (pv 3) (pe_op op_add (pv 4) pe_int) (fun _ _ => rfl)) pa_nil))))) pa_nil))))))
    (pss_one (ps_ret (pv 2)))))) rfl ?_
  try dsimp only [L2.cxOf, L2.Cx.nox]
  have hlen : (iv r).length ≤ 256 := by
    rw [iv_len, hk]
    exact Nat.pow_le_pow_right (by decide) hk8
  walk_at "wp"
  rename_i c H1 n1 e1 f1 l H2 n2 e2 f2
  refine Kit.m_whileT (fun j σ' H' => ∃ (rs : List (List Int)) (y3 y4 : Option V), σ' = [some (.ref p), some (.ref a), some (.ref l), y3, y4] ∧ Evl.Ex H H' ∧ LevAt H H' l rs ∧ LevSo (foldI m) k r j rs ∧ (∀ x ∈ rs, AllDg m x) ∧ rs.length + j = k + 1 ∧ j ≤ k) k
    ⟨[r], none, none, rfl, e1.trans e2, ⟨[c], f2, ⟨n1, e2 _ _ f1, by simp, trivial⟩, fun z => by
      rw [List.mem_singleton] at z
      exact ne_of_none f1 n2 z.symm, Evl.fresh_back e1 n2⟩, ⟨[], r, rfl, hk, rfl⟩, fun x z => by
      rw [List.mem_singleton] at z
      rw [z]; exact hx, by simp; omega, Nat.le_refl k⟩ ?_
  rintro j σ' H3 ⟨rs, y3, y4, rfl, e3, ⟨ps, g1, g2, g3, g4⟩, hso, hdg, hj, hjk⟩
  obtain ⟨pre, rl, rfl, hrl, hle⟩ := id hso
  obtain ⟨q0, hq0, _, hq1⟩ := g2.get (i := pre.length) (r := rl) (by simp)
  have hps : ps.length = pre.length + 1 := by rw [g2.len]; simp
  have hat : atI (ps.map V.ref) (-1) = some (.ref q0) := by
    have z : ps = ps.dropLast ++ [q0] := by
      have hne : ps ≠ [] := fun z => by rw [z] at hps; simp at hps
      have hl : ps.getLast hne = q0 := by
        have := List.getLast_eq_getElem hne
        rw [this]
        have h2 := (List.getElem?_eq_some_iff.mp hq0)
        obtain ⟨h3, h4⟩ := h2
        have h5 : ps.length - 1 = pre.length := by omega
        simp only [h5]
        exact h4
      rw [← hl]
      exact (List.dropLast_concat_getLast hne).symm
    rw [z, List.map_append]
    exact atI_last _ _
  have hlt : rl.length = 2 ^ j := hrl
  walk_at "wp"
  · rename_i hc
    rw [iv_len, hrl] at hc
    obtain ⟨j, rfl⟩ : ∃ i, j = i + 1 := ⟨j - 1, by
      have : j ≠ 0 := fun z => by subst z; simp at hc
      omega⟩
    refine Kit.turn_go ?_
    walk_at "wp"
    have hr2 : rl.length = 2 * 2 ^ j := by rw [hrl, KM.two_pow]
    have hb : 2 ^ j ≤ 256 := Nat.le_trans (Nat.pow_le_pow_right (by decide) (show j ≤ 8 by omega)) (by decide)
    have hdl := hdg rl (by simp)
    have hm := hd.pos
    refine Kit.l_rng2 (m := 2 ^ j) (by rw [iv_len, hr2]; omega) (by omega) (fun _ => rfl) (fun i => .int (foldI m ((rl[2 * i]?).getD 0) ((rl[2 * i + 1]?).getD 0))) ?_ ?_
    · intro i H4 hi e4 R rr
      walk_at "wp"
      refine Kit.w_ixL (Evl.sq_of (e4 _ _ hq1)) (iv_at' (2 * i) (by omega) (by omega)) ?_
      walk_at "wp"
      refine Kit.w_ixL (Evl.sq_of (e4 _ _ hq1)) (iv_at' (2 * i + 1) (by omega) (by omega)) ?_
      walk_at "wp"
      refine use_fold (by walk_at "dig") (hdl.at (by omega)) (hdl.at (by omega)) fun H5 e5 => ?_
      exact rr _ e5
    · intro q1 H4 n4 e4 f4
      rw [show (fun i : Nat => V.int (foldI m ((rl[2 * i]?).getD 0) ((rl[2 * i + 1]?).getD 0))) = V.int ∘ (fun i : Nat => foldI m ((rl[2 * i]?).getD 0) ((rl[2 * i + 1]?).getD 0)) from rfl, ← List.map_map, ← pairs_at rl hr2] at f4
      walk_at "wp"
      have hpl : ps.length ≤ 9 := by rw [hps]; simp at hj; omega
      refine Kit.w_app (e4 _ _ g1) (by rw [List.length_map]; omega) fun H5 m5 f5 => ?_
      have hql : q1 ≠ l := fun z => by
        have := e4 _ _ g1
        rw [z] at n4
        rw [n4] at g1
        cases g1
      have hqp : q1 ∉ ps := fun z => by
        obtain ⟨xs, hx⟩ := g2.mem z
        rw [n4] at hx
        cases hx
      have hlp : ∀ x ∈ ps, x ≠ l := fun x hx z => g3 (z ▸ hx)
      refine ⟨j, Nat.lt_succ_self j, pre ++ [rl] ++ [KM.pairs (foldI m) rl], _, _, rfl, ?_, ⟨ps ++ [q1], ?_, ?_, ?_, g4⟩, ?_, ?_, ?_, by omega⟩
      · exact Kit.ex_but m5 g4 (e3.trans e4)
      · rw [f5, List.map_append]; rfl
      · exact RowsAt.snoc (Evl.fresh_back e3 n4) (m5 _ _ hql f4) hqp ((g2.ex e4).but m5 g3)
      · intro z
        rcases List.mem_append.mp z with z | z
        · exact g3 z
        · exact hql (List.mem_singleton.mp z).symm
      · obtain ⟨r', hr', _, h⟩ := hso.next
        have : rl = r' := by simpa using hr'
        rw [← this] at h; exact h
      · intro x hx
        rcases List.mem_append.mp hx with hx | hx
        · exact hdg x hx
        · rw [List.mem_singleton.mp hx]
          exact pairs_dg hm rl
      · simp at hj ⊢; omega
  · rename_i hc
    rw [iv_len, hrl] at hc
    have hj0 : j = 0 := by
      cases j with
      | zero => rfl
      | succ j =>
        rw [KM.two_pow] at hc
        have : 0 < 2 ^ j := Nat.pow_pos (by decide)
        omega
    subst hj0
    exact q l H3 e3 (by rw [← hle]; exact ⟨ps, g1, g2, g3, g4⟩)
theorem use_levels_of {K : PySem.W.Frag} {C p a : Addr} {m : Int} {r : List Int} {k : Nat} {H : Hp} {Q : VK} {E : XK} (hd : DigN C H p m) (ha : SqL K H a (iv r) ∨ SqT K H a (iv r)) (hx : AllDg m r) (hk : r.length = 2 ^ k) (h8 : k ≤ 8)
    (q : ∀ l H', Evl.Ex H H' → LevAt H H' l (KM.levs (foldI m) k r) → Q (.ref l) H') : sp_levels_of K C [.ref p, .ref a] H Q E := ⟨p, a, m, r, k, rfl, hd, ha, hx, hk, h8, q⟩

/-! ### roots and paths -/
theorem LevAt.get {H0 H : Hp} {l : Addr} {rs : List (List Int)} (h : LevAt H0 H l rs) : ∃ ps : List Addr, H l = some (.lst (ps.map V.ref)) ∧ ps.length = rs.length ∧ ∀ (i : Nat) r, rs[i]? = some r → ∃ p, ps[i]? = some p ∧ H p = some (.lst (iv r)) := by
  obtain ⟨ps, a, b, _, _⟩ := h.ex
  exact ⟨ps, a, b.len, fun i r hi => let ⟨p, x, _, y⟩ := b.get hi; ⟨p, x, y⟩⟩
theorem levs_last {f : Int → Int → Int} : ∀ (k : Nat) (r : List Int), r.length = 2 ^ k → (KM.levs f k r)[k]? = some [KM.rootM f k r]
  | 0, [x], _ => rfl
  | k + 1, r, h => by
    rw [KM.two_pow] at h
    exact levs_last k _ (KM.pairs_len r h)
theorem ref_at {ps : List Addr} {k : Nat} {p : Addr} (h : ps[k]? = some p) : atI (ps.map V.ref) (k : Int) = some (.ref p) := by
  refine atI_nat (j := k) ?_
  rw [List.getElem?_map, h]
  rfl
theorem ref_last {ps : List Addr} {k : Nat} {p : Addr} (hl : ps.length = k + 1) (h : ps[k]? = some p) : atI (ps.map V.ref) (-1) = some (.ref p) := by
  have hne : ps ≠ [] := fun z => by rw [z] at hl; simp at hl
  have hq : ps.getLast hne = p := by
    rw [List.getLast_eq_getElem hne]
    obtain ⟨h3, h4⟩ := List.getElem?_eq_some_iff.mp h
    have h5 : ps.length - 1 = k := by omega
    simp only [h5]
    exact h4
  rw [← List.dropLast_concat_getLast hne, hq, List.map_append]
  exact atI_last _ _

def sp_root_of (K : PySem.W.Frag) (C : Addr) : Sp := fun vs H Q _ => ∃ (p a : Addr) (m : Int) (r : List Int) (k : Nat), vs = [.ref p, .ref a] ∧ DigN C H p m ∧ (SqL K H a (iv r) ∨ SqT K H a (iv r)) ∧ AllDg m r ∧ r.length = 2 ^ k ∧ k ≤ 8 ∧
  ∀ H', Evl.Ex H H' → Q (.int (KM.rootM (foldI m) k r)) H'
theorem ok_root_of (T : Txt K mg) : FnOk P w K mg base CX0 4 T.f_root_of.f T.f_root_of.fd ["digests", "row"] (sp_root_of K T.c_Digests.C) := by
  have G_levels_of := ok_levels_of (P := P) (w := w) (base := base) T
  refine T.f_root_of.F.ok sc_root_of (fun vs H Q E h => ?_) (fun cdv A outer s H vs Q E hr h => ?_)
  · obtain ⟨p, a, m, r, k, rfl, hd, ha, hx, hk, hk8, q⟩ := h
    rfl
  obtain ⟨p, a, m, r, k, rfl, hd, ha, hx, hk, hk8, q⟩ := h
  have nd := sc_root_of.nd
  have hr3 : Room 3 _ := hr.mono (by decide)
  refine Kit.ok_body (σ := [some _, some _]) ((pss_one (ps_ret (pe_ix (Kit.ixL K) (pe_ix (Kit.ixL K) (pe_call G_levels_of hr3 (by rfl) T.f_levels_of.g T.f_levels_of.F.kp T.f_levels_of.b .nil pass0 (pa_cons (pv 0) (pa_cons (pv 1) pa_nil))) (pe_un un_neg pe_int) (fun _ _ => rfl)) pe_int (fun _ _ => rfl))))) rfl ?_
  walk_at "wp"
  refine use_levels_of hd ha hx hk hk8 fun l H1 e1 hl => ?_
  obtain ⟨ps, g1, g2, g3⟩ := hl.get
  rw [KM.levs_len] at g2
  obtain ⟨q0, g4, g5⟩ := g3 k _ (levs_last k r hk)
  have hat := ref_last g2 g4
  walk_at "wp"
  exact q _ e1
theorem use_root_of {K : PySem.W.Frag} {C p a : Addr} {m : Int} {r : List Int} (k : Nat) {H : Hp} {Q : VK} {E : XK} (hd : DigN C H p m) (ha : SqL K H a (iv r) ∨ SqT K H a (iv r)) (hx : AllDg m r) (hk : r.length = 2 ^ k) (h8 : k ≤ 8)
    (q : ∀ H', Evl.Ex H H' → Q (.int (KM.rootM (foldI m) k r)) H') : sp_root_of K C [.ref p, .ref a] H Q E := ⟨p, a, m, r, k, rfl, hd, ha, hx, hk, h8, q⟩

theorem pathM_eq (f : Int → Int → Int) : ∀ (k : Nat) (r : List Int) (pl : Nat) (i : Nat) (s : List Int), (KM.levs f k r)[i]? = some s → i < k → (KM.pathM f k r pl)[i]? = some ((s[KM.nb (pl / 2 ^ i)]?).getD 0)
  | 0, _, _, _, _, _, h => by omega
  | k + 1, r, pl, 0, s, hs, _ => by
    have e : r = s := by simpa [KM.levs] using hs
    subst e
    simp [KM.pathM]
  | k + 1, r, pl, i + 1, s, hs, hi => by
    have h := pathM_eq f k (KM.pairs f r) (pl / 2) i s (by simpa [KM.levs] using hs) (by omega)
    have e : pl / 2 / 2 ^ i = pl / 2 ^ (i + 1) := by
      rw [Nat.div_div_eq_div_mul, KM.two_pow]
    rw [e] at h
    simpa [KM.pathM] using h
theorem levs_at_len {f : Int → Int → Int} : ∀ (k : Nat) (r : List Int) (i : Nat) (s : List Int), r.length = 2 ^ k → (KM.levs f k r)[i]? = some s → s.length = 2 ^ (k - i)
  | 0, r, 0, s, hr, hs => by
    have e : r = s := by simpa [KM.levs] using hs
    rw [← e, hr]
  | 0, r, i + 1, s, hr, hs => by simp [KM.levs] at hs
  | k + 1, r, 0, s, hr, hs => by
    have e : r = s := by simpa [KM.levs] using hs
    rw [← e, hr]
    rfl
  | k + 1, r, i + 1, s, hr, hs => by
    rw [KM.two_pow] at hr
    have h := levs_at_len k (KM.pairs f r) i s (KM.pairs_len r hr) (by simpa [KM.levs] using hs)
    rw [h, Nat.add_sub_add_right]
theorem nb_lt {k i pl : Nat} (hi : i < k) (hp : pl < 2 ^ k) : KM.nb (pl / 2 ^ i) < 2 ^ (k - i) := by
  have h1 : pl / 2 ^ i < 2 ^ (k - i) := by
    rw [Nat.div_lt_iff_lt_mul (Nat.pow_pos (by decide)), ← Nat.pow_add, Nat.sub_add_cancel (Nat.le_of_lt hi)]
    exact hp
  have h2 : 2 ^ (k - i) = 2 * 2 ^ (k - i - 1) := by
    rw [← KM.two_pow]
    congr 1
    omega
  unfold KM.nb
  rw [h2] at h1 ⊢
  generalize pl / 2 ^ i = z at *
  generalize 2 ^ (k - i - 1) = y at *
  split <;> omega
def sp_path_in (K : PySem.W.Frag) : Sp := fun vs H Q _ => ∃ (l : Addr) (ps : List Addr) (f : Int → Int → Int) (r : List Int) (k : Nat) (pl : Nat), vs = [.ref l, .int pl] ∧ H l = some (.lst (ps.map V.ref)) ∧ ps.length = k + 1 ∧ (∀ (i : Nat) s, (KM.levs f k r)[i]? = some s → ∃ p, ps[i]? = some p ∧ H p = some (.lst (iv s))) ∧
  r.length = 2 ^ k ∧ k ≤ 8 ∧ pl < 2 ^ k ∧ ∀ p H', H p = none → Evl.Ex H H' → H' p = some (.tup (iv (KM.pathM f k r pl))) → Q (.ref p) H'
theorem cut_butlast {xs : List V} {n : Nat} (h : xs.length = n + 1) : cutV xs none (some (-1)) = xs.take n := by
  unfold cutV
  rw [HT.sIx_none]
  have e : HT.sIx xs.length xs.length (some (-1)) = n := by
    unfold HT.sIx
    rw [h]
    simp
    omega
  rw [e]
  simp
theorem int_half {pl i : Nat} : ((pl / 2 ^ i : Nat) : Int) / 2 = ((pl / 2 ^ (i + 1) : Nat) : Int) := by
  rw [KM.two_pow, Nat.mul_comm, ← Nat.div_div_eq_div_mul]
  omega
theorem nb_even {z : Nat} (h : (z : Int) % 2 = 0) : (z : Int) + 1 = ((KM.nb z : Nat) : Int) := by
  unfold KM.nb
  rw [if_pos (by omega)]
  omega
theorem nb_odd {z : Nat} (h : ¬ (z : Int) % 2 = 0) : (z : Int) - 1 = ((KM.nb z : Nat) : Int) := by
  unfold KM.nb
  rw [if_neg (by omega)]
  omega
theorem ok_path_in (T : Txt K mg) : FnOk P w K mg base CX0 1 T.f_path_in.f T.f_path_in.fd ["levels", "place"] (sp_path_in K) := by
  refine T.f_path_in.F.ok sc_path_in (fun vs H Q E h => ?_) (fun cdv A outer s H vs Q E hr h => ?_)
  · obtain ⟨l, ps, f, r, k, pl, rfl, hl, hps, hlv, hk, hk8, hpl, q⟩ := h
    rfl
  obtain ⟨l, ps, f, r, k, pl, rfl, hl, hps, hlv, hk, hk8, hpl, q⟩ := h
  have nd := sc_path_in.nd
  refine Kit.ok_body (σ := [some _, some _, none, none, none]) ((pss_cons (ps_set (i := 2) nd rfl (Or.inl rfl) (pe_lst pa_nil))
    (pss_cons (ps_for PassesOwn.never rfl (Kit.kpList K (pe_slice (Kit.kSlL K) (pv 0) po_none (po_some (pe_un un_neg pe_int)))) (pg_name (i := 3) nd rfl (Or.inl rfl))
    (pss_cons (ps_set (i := 4) nd rfl (Or.inl rfl) (pe_ifExp (pt_cmpR op_eq (pe_op op_mod (pv 1) pe_int) pe_int (nomark _)) (pe_op op_add (pv 1) pe_int) (pe_op op_sub (pv 1) pe_int)))
    (pss_cons (ps_expr (pe_bm PySem.F.plainAttrs_list PySem.F.slot_list_append PySem.F.type_list_append mt_append (pv 2) (pa_cons (pe_ix (Kit.ixL K) (pv 3) (pv 4) (fun _ _ => rfl)) pa_nil)))
    (pss_one (ps_set (i := 1) nd rfl (Or.inl rfl) (pe_op op_fdiv (pv 1) pe_int))))))
    (pss_one (ps_ret (pe_callTy (Kit.kTuple K) (by rfl) T.z_tuple (by decide +kernel) (pa_cons (pv 2) pa_nil))))))) rfl ?_
  try dsimp only [L2.cxOf, L2.Cx.nox]
  walk_at "wp"
  rename_i pp H1 n1 e1 f1 c H2 n2 e2 f2
  rw [cut_butlast (n := k) (by rw [List.length_map, hps])] at f2
  have hxl : ((ps.map V.ref).take k).length = k := by rw [List.length_take, List.length_map, hps]; omega
  refine Kit.f_list (Evl.sq_of f2) (fun i σ' H' => ∃ y3 y4, σ' = [some (.ref l), some (.int ((pl / 2 ^ i : Nat) : Int)), some (.ref pp), y3, y4] ∧ Kit.ExBut pp H2 H' ∧ H' pp = some (.lst (iv ((KM.pathM f k r pl).take i)))) ⟨none, none, by simp, Kit.ExBut.refl _ _, by rw [e2 _ _ f1]; rfl⟩ ?_ ?_ ?_
  · rintro i σ' H' _ ⟨y3, y4, rfl, m, _⟩
    exact Evl.sq_of (m _ _ (fun z => by rw [z, e2 _ _ f1] at f2; rw [z, f1] at n2; cases n2) f2)
  · rintro i x σ' H' hx ⟨y3, y4, rfl, m, g⟩
    have hi : i < k := by
      have := (List.getElem?_eq_some_iff.mp hx).1
      rw [hxl] at this
      exact this
    have hil : i < (KM.levs f k r).length := by rw [KM.levs_len]; omega
    obtain ⟨p, hp1, hp2⟩ := hlv i _ (List.getElem?_eq_getElem hil)
    generalize hs : (KM.levs f k r)[i] = s at hp2
    have hs2 : (KM.levs f k r)[i]? = some s := by rw [List.getElem?_eq_getElem hil, hs]
    have hsl := levs_at_len k r i s hk hs2
    have ex : x = .ref p := by
      rw [List.getElem?_take_of_lt hi, List.getElem?_map, hp1] at hx
      exact (Option.some.inj hx).symm
    subst ex
    have hnp : p ≠ pp := ne_of_none hp2 n1
    have hp3 : H' p = some (.lst (iv s)) := m _ _ hnp (e2 _ _ (e1 _ _ hp2))
    have hnb := nb_lt hi hpl
    rw [← hsl] at hnb
    have hpath := pathM_eq f k r pl i s hs2 hi
    have htk : iv ((KM.pathM f k r pl).take (i + 1)) = iv ((KM.pathM f k r pl).take i) ++ [.int ((s[KM.nb (pl / 2 ^ i)]?).getD 0)] := by
      rw [List.take_add_one, hpath]
      unfold iv
      rw [List.map_append]
      rfl
    have hz : ((pl / 2 ^ i : Nat) : Int) / 2 = ((pl / 2 ^ (i + 1) : Nat) : Int) := int_half
    show Kit.Sm _ _ _ _ _ _ _
    have hlen : (iv ((KM.pathM f k r pl).take i)).length < 100000 := by
      rw [iv_len, List.length_take]
      omega
    walk_at "wp"
    all_goals rename_i hc
    · refine Kit.w_ixL (Evl.sq_of hp3) (iv_at' (KM.nb (pl / 2 ^ i)) (nb_even hc) hnb) ?_
      walk_at "wp"
      refine Kit.w_app g hlen fun H3 m3 f3 => ?_
      walk_at "wp"
      exact ⟨_, _, by rw [hz]; rfl, m.trans m3, by rw [f3, htk]⟩
    · refine Kit.w_ixL (Evl.sq_of hp3) (iv_at' (KM.nb (pl / 2 ^ i)) (nb_odd hc) hnb) ?_
      walk_at "wp"
      refine Kit.w_app g hlen fun H3 m3 f3 => ?_
      walk_at "wp"
      exact ⟨_, _, by rw [hz]; rfl, m.trans m3, by rw [f3, htk]⟩
  · rintro σ' H' ⟨y3, y4, rfl, m, g⟩
    rw [hxl, List.take_of_length_le (by rw [KM.path_len]; exact Nat.le_refl k)] at g
    walk_at "wp"
    rename_i p H3 n3 e3 f3
    have e : Evl.Ex H H' := Kit.ex_but m n1 (e1.trans e2)
    exact q p H3 (Evl.fresh_back e n3) (e.trans e3) f3
theorem use_path_in {K : PySem.W.Frag} {l : Addr} {f : Int → Int → Int} {r : List Int} {k : Nat} (pl : Nat) {z : Int} {H0 H : Hp} {Q : VK} {E : XK} (hl : LevAt H0 H l (KM.levs f k r)) (hk : r.length = 2 ^ k) (h8 : k ≤ 8) (hp : pl < 2 ^ k) (ez : z = (pl : Int))
    (q : ∀ p H', H p = none → Evl.Ex H H' → H' p = some (.tup (iv (KM.pathM f k r pl))) → Q (.ref p) H') : sp_path_in K [.ref l, .int z] H Q E := by
  obtain ⟨ps, a, b, c⟩ := hl.get
  subst ez
  exact ⟨l, ps, f, r, k, pl, rfl, a, by rw [b, KM.levs_len], c, hk, h8, hp, q⟩

def sp_path_of (K : PySem.W.Frag) (C : Addr) : Sp := fun vs H Q _ => ∃ (p a : Addr) (m : Int) (r : List Int) (k pl : Nat), vs = [.ref p, .ref a, .int pl] ∧ DigN C H p m ∧ (SqL K H a (iv r) ∨ SqT K H a (iv r)) ∧ AllDg m r ∧ r.length = 2 ^ k ∧ k ≤ 8 ∧ pl < 2 ^ k ∧
  ∀ p H', H p = none → Evl.Ex H H' → H' p = some (.tup (iv (KM.pathM (foldI m) k r pl))) → Q (.ref p) H'
theorem ok_path_of (T : Txt K mg) : FnOk P w K mg base CX0 4 T.f_path_of.f T.f_path_of.fd ["digests", "row", "place"] (sp_path_of K T.c_Digests.C) := by
  have G_levels_of := ok_levels_of (P := P) (w := w) (base := base) T
  have G_path_in := ok_path_in (P := P) (w := w) (base := base) T
  refine T.f_path_of.F.ok sc_path_of (fun vs H Q E h => ?_) (fun cdv A outer s H vs Q E hr h => ?_)
  · obtain ⟨p, a, m, r, k, pl, rfl, hd, ha, hx, hk, hk8, hpl, q⟩ := h
    rfl
  obtain ⟨p, a, m, r, k, pl, rfl, hd, ha, hx, hk, hk8, hpl, q⟩ := h
  have nd := sc_path_of.nd
  have hr1 : Room 1 _ := hr.mono (by decide)
  have hr3 : Room 3 _ := hr.mono (by decide)
  refine Kit.ok_body (σ := [some _, some _, some _]) ((pss_one (ps_ret (pe_call G_path_in hr1 (by rfl) T.f_path_in.g T.f_path_in.F.kp T.f_path_in.b .nil pass0 (pa_cons (pe_call G_levels_of hr3 (by rfl) T.f_levels_of.g T.f_levels_of.F.kp T.f_levels_of.b .nil pass0 (pa_cons (pv 0) (pa_cons (pv 1) pa_nil))) (pa_cons (pe_op op_mod (pv 2) (pe_callB (Kit.kLen K) (by rfl) T.z_len (by decide +kernel) (pa_cons (pv 1) pa_nil))) pa_nil)))))) rfl ?_
  walk_at "wp"
  refine use_levels_of hd ha hx hk hk8 fun l H1 e1 hl => ?_
  have ha1 : SqL K H1 a (iv r) ∨ SqT K H1 a (iv r) := ha.imp (Evl.ex_l e1) (Evl.ex_t e1)
  have h2 : (0 : Int) < ((iv r).length : Int) := by
    rw [iv_len, hk]
    have : 0 < 2 ^ k := Nat.pow_pos (by decide)
    omega
  walk_at "wp"
  refine use_path_in pl hl hk hk8 hpl ?_ fun p H2 n2 e2 f2 => ?_
  · rw [iv_len, hk]
    exact Int.emod_eq_of_lt (by omega) (by omega)
  · exact q p H2 (Evl.fresh_back e1 n2) (e1.trans e2) f2
theorem use_path_of {K : PySem.W.Frag} {C p a : Addr} {m : Int} {r : List Int} (k pl : Nat) {z : Int} {H : Hp} {Q : VK} {E : XK} (hd : DigN C H p m) (ha : SqL K H a (iv r) ∨ SqT K H a (iv r)) (hx : AllDg m r) (hk : r.length = 2 ^ k) (h8 : k ≤ 8) (hp : pl < 2 ^ k) (ez : z = (pl : Int))
    (q : ∀ p H', H p = none → Evl.Ex H H' → H' p = some (.tup (iv (KM.pathM (foldI m) k r pl))) → Q (.ref p) H') : sp_path_of K C [.ref p, .ref a, .int z] H Q E := by
  subst ez
  exact ⟨p, a, m, r, k, pl, rfl, hd, ha, hx, hk, h8, hp, q⟩

def sp_root_by (K : PySem.W.Frag) (C : Addr) : Sp := fun vs H Q _ => ∃ (p a : Addr) (m d : Int) (path : List Int) (pl : Nat), vs = [.ref p, .int pl, .int d, .ref a] ∧ DigN C H p m ∧ SqT K H a (iv path) ∧ AllDg m path ∧ Dg m d ∧ path.length ≤ 1000 ∧
  ∀ H', Evl.Ex H H' → Q (.int (KM.rootBy (foldI m) pl d path)) H'
theorem rootBy_dg {m : Int} (hm : 0 < m) : ∀ (path : List Int) (pl : Nat) (d : Int), Dg m d → Dg m (KM.rootBy (foldI m) pl d path)
  | [], _, _, h => h
  | x :: r, pl, d, h => rootBy_dg hm r _ _ (by split <;> exact fold_dg hm)
theorem rootBy_snoc (f : Int → Int → Int) : ∀ (path : List Int) (x : Int) (pl : Nat) (d : Int), KM.rootBy f pl d (path ++ [x]) = (if pl / 2 ^ path.length % 2 = 0 then f (KM.rootBy f pl d path) x else f x (KM.rootBy f pl d path))
  | [], x, pl, d => by simp [KM.rootBy]
  | y :: r, x, pl, d => by
    show KM.rootBy f (pl / 2) _ (r ++ [x]) = _
    rw [rootBy_snoc f r x (pl / 2), Nat.div_div_eq_div_mul, List.length_cons, KM.two_pow]
    rfl
theorem ok_root_by (T : Txt K mg) : FnOk P w K mg base CX0 3 T.f_root_by.f T.f_root_by.fd ["digests", "place", "digest", "path"] (sp_root_by K T.c_Digests.C) := by
  have G_Digests_fold := ok_Digests_fold (P := P) (w := w) (base := base) T
  refine T.f_root_by.F.ok sc_root_by (fun vs H Q E h => ?_) (fun cdv A outer s H vs Q E hr h => ?_)
  · obtain ⟨p, a, m, d, path, pl, rfl, hd, ha, hx, hdg, hl, q⟩ := h
    rfl
  obtain ⟨p, a, m, d, path, pl, rfl, hd, ha, hx, hdg, hl, q⟩ := h
  have nd := sc_root_by.nd
  have hr2 : Room 2 _ := hr.mono (by decide)
  refine Kit.ok_body (σ := [some _, some _, some _, some _, none, none]) ((pss_cons (ps_set (i := 4) nd rfl (Or.inl rfl) (pv 2))
    (pss_cons (ps_for PassesOwn.never rfl (Kit.kpTup K (pv 3)) (pg_name (i := 5) nd rfl (Or.inl rfl))
    (pss_cons (ps_if (pt_cmpR op_eq (pe_op op_mod (pv 1) pe_int) pe_int (nomark _))
    (pss_one (ps_set (i := 4) nd rfl (Or.inl rfl) (pe_meth (pv 0) T.c_Digests.cl T.m_Digests_fold G_Digests_fold hr2 T.f_Digests_fold.b .nil pass0 (pa_cons (pv 4) (pa_cons (pv 5) pa_nil)))))
    (pss_one (ps_set (i := 4) nd rfl (Or.inl rfl) (pe_meth (pv 0) T.c_Digests.cl T.m_Digests_fold G_Digests_fold hr2 T.f_Digests_fold.b .nil pass0 (pa_cons (pv 5) (pa_cons (pv 4) pa_nil))))))
    (pss_one (ps_set (i := 1) nd rfl (Or.inl rfl) (pe_op op_fdiv (pv 1) pe_int)))))
    (pss_one (ps_ret (pv 4)))))) rfl ?_
  try dsimp only [L2.cxOf, L2.Cx.nox]
  walk_at "wp"
  refine Kit.f_tup ha (fun i σ' H' => ∃ y5, σ' = [some (.ref p), some (.int ((pl / 2 ^ i : Nat) : Int)), some (.int d), some (.ref a), some (.int (KM.rootBy (foldI m) pl d (path.take i))), y5] ∧ Evl.Ex H H') ⟨none, by simp [KM.rootBy], Evl.Ex.refl _⟩ ?_ ?_ ?_
  · rintro i σ' H' _ ⟨y5, rfl, e⟩
    exact Evl.ex_t e ha
  · rintro i x σ' H' hix ⟨y5, rfl, e⟩
    have hi : i < path.length := by
      have := (List.getElem?_eq_some_iff.mp hix).1
      rw [iv_len] at this
      exact this
    have exi : x = .int path[i] := by
      unfold iv at hix
      rw [List.getElem?_map, List.getElem?_eq_getElem hi] at hix
      exact (Option.some.inj hix).symm
    subst exi
    have hz : ((pl / 2 ^ i : Nat) : Int) / 2 = ((pl / 2 ^ (i + 1) : Nat) : Int) := by
      rw [KM.two_pow, Nat.mul_comm, ← Nat.div_div_eq_div_mul]
      omega
    have hs := rootBy_snoc (foldI m) (path.take i) path[i] pl d
    rw [List.length_take, Nat.min_eq_left (Nat.le_of_lt hi), List.take_append_getElem hi] at hs
    have h1 : Dg m (KM.rootBy (foldI m) pl d (path.take i)) := rootBy_dg hd.pos _ _ _ hdg
    have h2 : Dg m path[i] := hx _ (List.getElem_mem hi)
    have hd2 := DigN.ex e hd
    show Kit.Sm _ _ _ _ _ _ _
    generalize hg : pl / 2 ^ i = z at *
    walk_at "wp"
    · rename_i hc
      rw [if_pos (by omega)] at hs
      refine use_fold hd2 h1 h2 fun H2 e2 => ?_
      walk_at "wp"
      exact ⟨_, by rw [hz, hs]; rfl, e.trans e2⟩
    · rename_i hc
      rw [if_neg (by omega)] at hs
      refine use_fold hd2 h2 h1 fun H2 e2 => ?_
      walk_at "wp"
      exact ⟨_, by rw [hz, hs]; rfl, e.trans e2⟩
  · rintro σ' H' ⟨y5, rfl, e⟩
    rw [iv_len, List.take_length]
    walk_at "wp"
    exact q _ e
theorem use_root_by {K : PySem.W.Frag} {C p a : Addr} {m d : Int} {path : List Int} (pl : Nat) {z : Int} {H : Hp} {Q : VK} {E : XK} (hd : DigN C H p m) (ha : SqT K H a (iv path)) (hx : AllDg m path) (hdg : Dg m d) (hl : path.length ≤ 1000) (ez : z = (pl : Int))
    (q : ∀ H', Evl.Ex H H' → Q (.int (KM.rootBy (foldI m) pl d path)) H') : sp_root_by K C [.ref p, .int z, .int d, .ref a] H Q E := by
  subst ez
  exact ⟨p, a, m, d, path, pl, rfl, hd, ha, hx, hdg, hl, q⟩

/-! ### the law's draws: some list of ints -/
def sp_law_draws (K : PySem.W.Frag) : Sp := fun vs H Q _ => ∃ (a : Addr) (ns : List Int) (most : Int), vs = [.ref a, .int 0, .int most] ∧ SqL K H a (ns.map V.int) ∧ ns.length ≤ 63 ∧ 0 ≤ most ∧ most ≤ 1000 ∧
  ∀ p H' (ds : List Int), H p = none → Evl.Ex H H' → H' p = some (.lst (ds.map V.int)) → (ds.length : Int) ≤ most → Q (.ref p) H'
theorem cut_front {xs : List V} {n : Int} (h : 0 ≤ n) : cutV xs none (some n) = xs.take n.toNat := by
  obtain ⟨j, rfl⟩ := Int.eq_ofNat_of_zero_le h
  unfold cutV
  rw [HT.sIx_none, HT.sIx_nat]
  show (xs.drop 0).take (min j xs.length - 0) = xs.take j
  rw [List.drop_zero, Nat.sub_zero]
  by_cases hj : j ≤ xs.length
  · rw [Nat.min_eq_left hj]
  · rw [Nat.min_eq_right (by omega), List.take_length, List.take_of_length_le (by omega)]
theorem cut_zero {xs : List V} : cutV xs (some 0) none = xs := by
  unfold cutV
  rw [HT.sIx_none]
  have e : HT.sIx xs.length 0 (some 0) = 0 := by
    have := HT.sIx_nat xs.length 0 0
    simpa using this
  rw [e]
  simp
def DrawInv (s : Addr) (D : Addr) (H1 : Hp) (most : Int) (i : Nat) (σ : L2.St) (H : Hp) : Prop := ∃ (ds : List Int) (y4 y5 y6 y7 : Option V), σ = [some (.ref s), some (.int 0), some (.int most), some (.ref D), y4, y5, y6, y7] ∧ Kit.ExBut D H1 H ∧ H D = some (.lst (ds.map V.int)) ∧ ds.length ≤ 12 * i
theorem map_snoc {ds : List Int} {x : Int} : ds.map V.int ++ [.int x] = (ds ++ [x]).map V.int := by rw [List.map_append]; rfl
theorem ok_law_draws (T : Txt K mg) : FnOk P w K mg base CX0 1 T.f_law_draws.f T.f_law_draws.fd ["script", "start", "most"] (sp_law_draws K) := by
  refine T.f_law_draws.F.ok sc_law_draws (fun vs H Q E h => ?_) (fun cdv A outer s H vs Q E hr h => ?_)
  · obtain ⟨a, ns, most, rfl, ha, hl, m0, m1, q⟩ := h
    rfl
  obtain ⟨a, ns, most, rfl, ha, hl, m0, m1, q⟩ := h
  have nd := sc_law_draws.nd
  refine Kit.ok_body (σ := [some _, some _, some _, none, none, none, none, none]) ((pss_cons (ps_set (i := 3) nd rfl (Or.inl rfl) (pe_lst pa_nil))
    (pss_cons (ps_for PassesOwn.never rfl (Kit.kpList K (pe_slice (Kit.kSlL K) (pv 0) (po_some (pv 1)) po_none)) (pg_name (i := 4) nd rfl (Or.inl rfl))
    (pss_cons (ps_set (i := 5) nd rfl (Or.inl rfl) (pe_callB Kit.k_abs (by rfl) T.z_abs (by decide +kernel) (pa_cons (pe_callTy Kit.k_int (by rfl) T.z_int (by decide +kernel) (pa_cons (pv 4) pa_nil)) pa_nil)))
    (pss_one (ps_if (pt_cmpR op_lt (pv 5) (pe_op op_pow pe_int pe_int) (nomark _))
    (pss_cons (ps_set (i := 6) nd rfl (Or.inl rfl) (pe_op op_mod (pe_callTy Kit.k_int (by rfl) T.z_int (by decide +kernel) (pa_cons (pe_op op_add (pe_op op_mul (pv 5) pe_int) pe_int) pa_nil)) pe_int))
    (pss_cons (ps_expr (pe_bm PySem.F.plainAttrs_list PySem.F.slot_list_append PySem.F.type_list_append mt_append (pv 3) (pa_cons (pe_op op_add (pe_op op_mul (pv 6) pe_int) (pe_op op_mod (pe_callTy Kit.k_int (by rfl) T.z_int (by decide +kernel) (pa_cons (pe_op op_add (pe_op op_mul (pv 6) pe_int) (pv 5)) pa_nil)) pe_int)) pa_nil)))
    (pss_one (ps_expr (pe_bm PySem.F.plainAttrs_list PySem.F.slot_list_append PySem.F.type_list_append mt_append (pv 3) (pa_cons (pe_op op_add (pe_op op_mul (pe_op op_mod (pe_callTy Kit.k_int (by rfl) T.z_int (by decide +kernel) (pa_cons (pe_op op_add (pe_op op_add (pe_op op_mul (pv 6) pe_int) (pe_op op_fdiv (pv 5) pe_int)) pe_int) pa_nil)) pe_int) pe_int) (pe_op op_mod (pv 5) pe_int)) pa_nil))))))
    (pss_one (ps_for PassesOwn.never rfl (pi_range1 (by rfl) T.z_range (pa_cons pe_int pa_nil)) (pg_name (i := 7) nd rfl (Or.inl rfl))
    (pss_cons (ps_if (pt_cmpR op_gt (pv 5) pe_int (nomark _))
    (pss_one (ps_expr (pe_bm PySem.F.plainAttrs_list PySem.F.slot_list_append PySem.F.type_list_append mt_append (pv 3) (pa_cons (pe_op op_mod (pe_callTy Kit.k_int (by rfl) T.z_int (by decide +kernel) (pa_cons (pv 5) pa_nil)) (pe_op op_pow pe_int pe_int)) pa_nil))))
    pss_nil)
    (pss_one (ps_set (i := 5) nd rfl (Or.inl rfl) (pe_op op_fdivW (pv 5) (pe_op op_pow pe_int pe_int)))))))))))
    (pss_one (ps_ret (pe_slice (Kit.kSlL K) (pv 3) po_none (po_some (pv 2)))))))) rfl ?_
  try dsimp only [L2.cxOf, L2.Cx.nox]
  walk_at "wp"
  rename_i D H1 n1 e1 f1 c H2 n2 e2 f2
  rw [cut_zero] at f2
  have hDc : D ≠ c := ne_of_none f1 n2
  refine Kit.f_list (Evl.sq_of f2) (DrawInv a D H2 most) ⟨[], _, _, _, _, rfl, Kit.ExBut.refl _ _, e2 _ _ f1, Nat.le_refl 0⟩ ?_ ?_ ?_
  · rintro i σ' H' _ ⟨ds, y4, y5, y6, y7, rfl, m, _⟩
    exact Evl.sq_of (m _ _ hDc.symm f2)
  · rintro i x σ' H' hx ⟨ds, y4, y5, y6, y7, rfl, m, g, hds⟩
    have hi : i < 63 := by
      have := (List.getElem?_eq_some_iff.mp hx).1
      rw [List.length_map] at this
      omega
    obtain ⟨n, rfl⟩ : ∃ n, x = .int n := by
      rw [List.getElem?_map] at hx
      cases h : ns[i]? with
      | none => rw [h] at hx; cases hx
      | some n => rw [h] at hx; exact ⟨n, (Option.some.inj hx).symm⟩
    show Kit.Sm _ _ _ _ _ _ _
    walk_at "wp"
    · refine Kit.w_app g (by rw [List.length_map]; omega) fun H3 m3 f3 => ?_
      rw [map_snoc] at f3
      walk_at "wp"
      refine Kit.w_app f3 (by rw [List.length_map, List.length_append]; simp; omega) fun H4 m4 f4 => ?_
      rw [map_snoc] at f4
      walk_at "wp"
      exact ⟨_, _, _, _, _, rfl, (m.trans m3).trans m4, f4, by simp; omega⟩
    · refine Kit.f_rng1 (by decide) (by decide) (fun k σ' H' => ∃ (ds2 : List Int) (z : Int) (y7 : Option V), σ' = [some (.ref a), some (.int 0), some (.int most), some (.ref D), some (.int n), some (.int z), y6, y7] ∧ Kit.ExBut D H2 H' ∧ H' D = some (.lst (ds2.map V.int)) ∧ ds2.length ≤ 12 * i + k) ⟨ds, _, y7, rfl, m, g, hds⟩ ?_ ?_
      · rintro k σ3 H3 hk ⟨ds2, z, y7, rfl, m3, g3, hd3⟩
        walk_at "wp"
        · refine Kit.w_app g3 (by rw [List.length_map]; omega) fun H4 m4 f4 => ?_
          rw [map_snoc] at f4
          walk_at "wp"
          exact ⟨_, _, _, rfl, m3.trans m4, f4, by simp; omega⟩
        · exact ⟨_, _, _, rfl, m3, g3, by omega⟩
      · rintro σ3 H3 ⟨ds2, z, y7, rfl, m3, g3, hd3⟩
        exact ⟨_, _, _, _, _, rfl, m3, g3, by
          have : (12 : Int).toNat = 12 := rfl
          omega⟩
  · rintro σ' H' ⟨ds, y4, y5, y6, y7, rfl, m, g, hds⟩
    have e : Evl.Ex H H' := Kit.ex_but m n1 (e1.trans e2)
    walk_at "wp"
    rename_i p H3 n3 e3 f3
    rw [cut_front m0, ← List.map_take] at f3
    exact q p H3 _ (Evl.fresh_back e n3) (e.trans e3) f3 (by rw [List.length_take]; omega)
theorem use_law_draws {K : PySem.W.Frag} {a : Addr} {ns : List Int} {most : Int} {H : Hp} {Q : VK} {E : XK} (ha : SqL K H a (ns.map V.int)) (hl : ns.length ≤ 63) (m0 : 0 ≤ most) (m1 : most ≤ 1000)
    (q : ∀ p H' (ds : List Int), H p = none → Evl.Ex H H' → H' p = some (.lst (ds.map V.int)) → (ds.length : Int) ≤ most → Q (.ref p) H') : sp_law_draws K [.ref a, .int 0, .int most] H Q E := ⟨a, ns, most, rfl, ha, hl, m0, m1, q⟩

/-! ### the law's modulus -/
def sp_law_mod : Sp := fun vs H Q _ => ∃ b : Int, vs = [.int b] ∧ IsBits b ∧ ∀ H', Evl.Ex H H' → Q (.int (2 ^ b.toNat - 1)) H'
theorem ok_law_mod (T : Txt K mg) : FnOk P w K mg base CX0 1 T.f_law_mod.f T.f_law_mod.fd ["bits"] (sp_law_mod) := by
  refine T.f_law_mod.F.ok sc_law_mod (fun vs H Q E h => ?_) (fun cdv A outer s H vs Q E hr h => ?_)
  · obtain ⟨b, rfl, hb, q⟩ := h
    rfl
  obtain ⟨b, rfl, hb, q⟩ := h
  have nd := sc_law_mod.nd
  have hu := hu_of hr
  refine Kit.ok_body (σ := [some _]) ((pss_one (ps_ret (pe_dget hu (pe_disp (pps_cons pe_int pe_int (pps_cons pe_int pe_int (pps_cons pe_int pe_int (pps_cons pe_int pe_int pps_nil)))) (by rfl) (by rfl) (fun z => by cases z) (by decide)) (pv 0) (fun _ _ => rfl))))) rfl ?_
  try dsimp only [L2.cxOf, L2.Cx.nox]
  walk_at "wp"
  rename_i p H1 n1 e1 f1
  refine ⟨f1, [(Sum.inl 7, .int 127), (Sum.inl 13, .int 8191), (Sum.inl 31, .int 2147483647), (Sum.inl 61, .int 2305843009213693951)], rfl, Nat.le_of_ble_eq_true rfl, ?_⟩
  walk_at "wp"
  have e : Evl.Ex H (upd H1 p (.dK (mergeK [] [(Sum.inl 7, .int 127), (Sum.inl 13, .int 8191), (Sum.inl 31, .int 2147483647), (Sum.inl 61, .int 2305843009213693951)]))) := Evl.Ex.mut e1 n1
  cases hb with
  | b7 => exact ⟨_, .int 127, rfl, DGet.k (k := Sum.inl 7) upd_same, q _ e⟩
  | b13 => exact ⟨_, .int 8191, rfl, DGet.k (k := Sum.inl 13) upd_same, q _ e⟩
  | b31 => exact ⟨_, .int 2147483647, rfl, DGet.k (k := Sum.inl 31) upd_same, q _ e⟩
  | b61 => exact ⟨_, .int 2305843009213693951, rfl, DGet.k (k := Sum.inl 61) upd_same, q _ e⟩
theorem use_law_mod {b : Int} {H : Hp} {Q : VK} {E : XK} (hb : IsBits b) (q : ∀ H', Evl.Ex H H' → Q (.int (2 ^ b.toNat - 1)) H') : sp_law_mod [.int b] H Q E := ⟨b, rfl, hb, q⟩

def sp_law_fold : Sp := fun vs H Q _ => ∃ m x y : Int, vs = [.int m, .int x, .int y] ∧ Dg m x ∧ Dg m y ∧ m < 2 ^ 62 ∧ ∀ H', Evl.Ex H H' → Q (.int (foldI m x y)) H'
theorem ok_law_fold (T : Txt K mg) : FnOk P w K mg base CX0 1 T.f_law_fold.f T.f_law_fold.fd ["m", "x", "y"] (sp_law_fold) := by
  refine T.f_law_fold.F.ok sc_law_fold (fun vs H Q E h => ?_) (fun cdv A outer s H vs Q E hr h => ?_)
  · obtain ⟨m, x, y, rfl, ⟨x0, x1⟩, ⟨y0, y1⟩, hm, q⟩ := h
    rfl
  obtain ⟨m, x, y, rfl, ⟨x0, x1⟩, ⟨y0, y1⟩, hm, q⟩ := h
  have nd := sc_law_fold.nd
  refine Kit.ok_body (σ := [some _, some _, some _, none]) ((pss_cons (ps_set (i := 3) nd rfl (Or.inl rfl) (pe_op op_add (pe_op op_add (pe_op op_mul pe_int (pv 1)) (pe_op op_mul pe_int (pv 2))) pe_int))
    (pss_one (ps_ret (pe_op op_mod (pe_op op_add (pe_op op_add (pe_op op_add (pe_op op_add (pe_op op_mul (pv 2) (pv 2)) (pe_op op_mul pe_int (pv 1))) (pe_op op_mul pe_int (pv 2))) pe_int) (pe_op op_mulW (pv 3) (pv 3))) (pv 0)))))) rfl ?_
  walk_at "wp"
  refine Kit.w_I (mulW (by omega) (by omega)) ?_
  walk_at "wp"
  exact ex_done q (Evl.Ex.refl _) rfl
theorem use_law_fold {m x y : Int} {H : Hp} {Q : VK} {E : XK} (hx : Dg m x) (hy : Dg m y) (hm : m < 2 ^ 62) (q : ∀ H', Evl.Ex H H' → Q (.int (foldI m x y)) H') : sp_law_fold [.int m, .int x, .int y] H Q E := ⟨m, x, y, rfl, hx, hy, hm, q⟩

theorem dg_root {m : Int} (hm : 0 < m) : ∀ (k : Nat) (r : List Int), r.length = 2 ^ k → AllDg m r → Dg m (KM.rootM (foldI m) k r)
  | 0, [x], _, h => h x List.mem_cons_self
  | k + 1, r, h, hr => by
    rw [KM.two_pow] at h
    exact dg_root hm k _ (KM.pairs_len r h) (pairs_dg hm r)
def sp_law_root (K : PySem.W.Frag) (n : Nat) : Sp := fun vs H Q _ => ∃ (a : Addr) (m : Int) (r : List Int) (k : Nat), vs = [.int m, .ref a] ∧ SqL K H a (iv r) ∧ AllDg m r ∧ 0 < m ∧ m < 2 ^ 62 ∧ r.length = 2 ^ k ∧ k < n ∧ n ≤ 6 ∧ ∀ H', Evl.Ex H H' → Q (.int (KM.rootM (foldI m) k r)) H'
theorem fnok_none {k : Nat} {f : Addr} {fd : FuncData} {ps : List Str} {sp : Sp} (h : ∀ vs H Q E, ¬ sp vs H Q E) : FnOk P w K mg base CX0 k f fd ps sp := ⟨fun vs H Q E z => (h _ _ _ _ z).elim, fun _ _ _ _ _ _ _ _ _ _ _ _ _ z => (h _ _ _ _ z).elim⟩
theorem use_law_root {K : PySem.W.Frag} {n : Nat} {a : Addr} {m : Int} {r : List Int} (k : Nat) {H : Hp} {Q : VK} {E : XK} (h : SqL K H a (iv r)) (hx : AllDg m r) (h0 : 0 < m) (h1 : m < 2 ^ 62) (hl : r.length = 2 ^ k) (hk : k < n) (hn : n ≤ 6) (q : ∀ H', Evl.Ex H H' → Q (.int (KM.rootM (foldI m) k r)) H') : sp_law_root K n [.int m, .ref a] H Q E := ⟨a, m, r, k, rfl, h, hx, h0, h1, hl, hk, hn, q⟩
theorem half_cut {r : List Int} {k : Nat} (h : r.length = 2 ^ (k + 1)) : cutV (iv r) none (some (((iv r).length : Int) / 2)) = iv (r.take (2 ^ k)) ∧ cutV (iv r) (some (((iv r).length : Int) / 2)) none = iv (r.drop (2 ^ k)) := by
  have e : (((iv r).length : Int) / 2) = ((2 ^ k : Nat) : Int) := by
    rw [iv_len, h, KM.two_pow]
    omega
  rw [e]
  constructor
  · rw [cut_front (by omega)]
    unfold iv
    rw [List.map_take]
    rfl
  · unfold cutV
    rw [HT.sIx_none, HT.sIx_nat, iv_len, h, Nat.min_eq_left (by rw [KM.two_pow]; omega)]
    unfold iv
    rw [← List.map_drop, List.take_of_length_le (by rw [List.length_map, List.length_drop, h]; omega)]
theorem AllDg.take {m : Int} {r : List Int} (h : AllDg m r) (n : Nat) : AllDg m (r.take n) := fun x hx => h x (List.mem_of_mem_take hx)
theorem AllDg.drop {m : Int} {r : List Int} (h : AllDg m r) (n : Nat) : AllDg m (r.drop n) := fun x hx => h x (List.mem_of_mem_drop hx)
theorem ok_law_root (T : Txt K mg) : ∀ n : Nat, FnOk P w K mg base CX0 (n + 1) T.f_law_root.f T.f_law_root.fd ["m", "row"] (sp_law_root K n) := by
  intro n
  induction n with
  | zero => exact fnok_none fun vs H Q E ⟨_, _, _, k, _, _, _, _, _, _, h, _⟩ => by omega
  | succ n ih =>
    have G_law_root := ih
    have G_law_fold := ok_law_fold (P := P) (w := w) (base := base) T
    refine T.f_law_root.F.ok sc_law_root (fun vs H Q E h => ?_) (fun cdv A outer s H vs Q E hr h => ?_)
    · obtain ⟨a, m, r, k, rfl, _⟩ := h
      rfl
    obtain ⟨a, m, r, k, rfl, ha, hx, m0, m1, hl, hk, hn, q⟩ := h
    have nd := sc_law_root.nd
    have hr1 : Room 1 _ := hr.mono (by omega)
    have hr7 := hr
    refine Kit.ok_body (σ := [some _, some _, none]) ((pss_cons (ps_if (pt_cmpR op_eq (pe_callB (Kit.kLen K) (by rfl) T.z_len (by decide +kernel) (pa_cons (pv 1) pa_nil)) pe_int (nomark _))
(pss_one (ps_ret (pe_ix (Kit.ixL K) (pv 1) pe_int (fun _ _ => rfl))))
pss_nil)
(pss_cons (ps_set (i := 2) nd rfl (Or.inl rfl) (pe_op op_fdiv (pe_callB (Kit.kLen K) (by rfl) T.z_len (by decide +kernel) (pa_cons (pv 1) pa_nil)) pe_int))
(pss_one (ps_ret (pe_call G_law_fold hr1 (by rfl) T.f_law_fold.g T.f_law_fold.F.kp T.f_law_fold.b .nil pass0 (pa_cons (pv 0) (pa_cons (pe_call G_law_root hr7 (by rfl) T.f_law_root.g T.f_law_root.F.kp T.f_law_root.b .nil pass0 (pa_cons (pv 0) (pa_cons (pe_slice (Kit.kSlL K) (pv 1) po_none (po_some (pv 2))) pa_nil))) (pa_cons (pe_call G_law_root hr7 (by rfl) T.f_law_root.g T.f_law_root.F.kp T.f_law_root.b .nil pass0 (pa_cons (pv 0) (pa_cons (pe_slice (Kit.kSlL K) (pv 1) (po_some (pv 2)) po_none) pa_nil))) pa_nil))))))))) rfl ?_
    walk_at "wp"
    · rename_i hc
      rw [iv_len, hl] at hc
      have hk0 : k = 0 := by
        cases k with
        | zero => rfl
        | succ k =>
          rw [KM.two_pow] at hc
          have : 0 < 2 ^ k := Nat.pow_pos (by decide)
          omega
      subst hk0
      refine Kit.w_ixL ha (iv_at (k := 0) (by rw [hl]; decide)) ?_
      match r, hl with
      | [x], _ => exact q _ (Evl.Ex.refl _)
    · rename_i hc pa H1 n1 e1 f1
      rw [iv_len, hl] at hc
      obtain ⟨k, rfl⟩ : ∃ i, k = i + 1 := ⟨k - 1, by
        have : k ≠ 0 := fun z => by subst z; simp at hc
        omega⟩
      obtain ⟨hcut1, hcut2⟩ := half_cut hl
      have hl1 : (r.take (2 ^ k)).length = 2 ^ k := by rw [List.length_take, hl, KM.two_pow]; omega
      have hl2 : (r.drop (2 ^ k)).length = 2 ^ k := by rw [List.length_drop, hl, KM.two_pow]; omega
      rw [hcut1] at f1
      refine use_law_root k (Evl.sq_of f1) (hx.take _) m0 m1 hl1 (by omega) (by omega) fun H2 e2 => ?_
      walk_at "wp"
      rename_i pb H3 n3 e3 f3
      rw [hcut2] at f3
      refine use_law_root k (Evl.sq_of f3) (hx.drop _) m0 m1 hl2 (by omega) (by omega) fun H4 e4 => ?_
      walk_at "wp"
      refine use_law_fold (dg_root m0 k _ hl1 (hx.take _)) (dg_root m0 k _ hl2 (hx.drop _)) m1 fun H5 e5 => ?_
      refine ex_done q ((((e1.trans e2).trans e3).trans e4).trans e5) (congrArg V.int ?_)
      rw [← KM.root_halves (f := foldI m) k _ _ hl1 hl2, List.take_append_drop]
def sp_law_path (K : PySem.W.Frag) (n : Nat) : Sp := fun vs H Q _ => ∃ (a : Addr) (m : Int) (r : List Int) (k pl : Nat), vs = [.int m, .ref a, .int pl] ∧ SqL K H a (iv r) ∧ AllDg m r ∧ 0 < m ∧ m < 2 ^ 62 ∧ r.length = 2 ^ k ∧ k < n ∧ n ≤ 6 ∧ pl < 2 ^ k ∧ ∀ p H', Evl.Ex H H' → SqT K H' p (iv (KM.pathM (foldI m) k r pl)) → Q (.ref p) H'
theorem use_law_path {K : PySem.W.Frag} {n : Nat} {a : Addr} {m : Int} {r : List Int} (k pl : Nat) {z : Int} {H : Hp} {Q : VK} {E : XK} (h : SqL K H a (iv r)) (hx : AllDg m r) (h0 : 0 < m) (h1 : m < 2 ^ 62) (hl : r.length = 2 ^ k) (hk : k < n) (hn : n ≤ 6) (hp : pl < 2 ^ k) (ez : z = (pl : Int))
    (q : ∀ p H', Evl.Ex H H' → SqT K H' p (iv (KM.pathM (foldI m) k r pl)) → Q (.ref p) H') : sp_law_path K n [.int m, .ref a, .int z] H Q E := by
  subst ez
  exact ⟨a, m, r, k, pl, rfl, h, hx, h0, h1, hl, hk, hn, hp, q⟩
theorem ok_law_path (T : Txt K mg) : ∀ n : Nat, FnOk P w K mg base CX0 (n + 8) T.f_law_path.f T.f_law_path.fd ["m", "row", "place"] (sp_law_path K n) := by
  intro n
  induction n with
  | zero => exact fnok_none fun vs H Q E ⟨_, _, _, k, _, _, _, _, _, _, _, h, _⟩ => by omega
  | succ n ih =>
    have G_law_path := ih
    have G_law_root := ok_law_root (P := P) (w := w) (base := base) T 6
    refine T.f_law_path.F.ok sc_law_path (fun vs H Q E h => ?_) (fun cdv A outer s H vs Q E hr h => ?_)
    · obtain ⟨a, m, r, k, pl, rfl, _⟩ := h
      rfl
    obtain ⟨a, m, r, k, pl, rfl, ha, hx, m0, m1, hl, hk, hn, hp, q⟩ := h
    have nd := sc_law_path.nd
    have hr7 : Room 7 _ := hr.mono (by omega)
    have hr14 := hr
    refine Kit.ok_body (σ := [some _, some _, some _, none]) ((pss_cons (ps_if (pt_cmpR op_eq (pe_callB (Kit.kLen K) (by rfl) T.z_len (by decide +kernel) (pa_cons (pv 1) pa_nil)) pe_int (nomark _))
(pss_one (ps_ret (pe_tup pa_nil)))
pss_nil)
(pss_cons (ps_set (i := 3) nd rfl (Or.inl rfl) (pe_op op_fdiv (pe_callB (Kit.kLen K) (by rfl) T.z_len (by decide +kernel) (pa_cons (pv 1) pa_nil)) pe_int))
(pss_cons (ps_if (pt_cmpR op_lt (pv 2) (pv 3) (nomark _))
(pss_one (ps_ret (pe_op (Kit.kCat K) (pe_call G_law_path hr14 (by rfl) T.f_law_path.g T.f_law_path.F.kp T.f_law_path.b .nil pass0 (pa_cons (pv 0) (pa_cons (pe_slice (Kit.kSlL K) (pv 1) po_none (po_some (pv 3))) (pa_cons (pv 2) pa_nil)))) (pe_tup (pa_cons (pe_call G_law_root hr7 (by rfl) T.f_law_root.g T.f_law_root.F.kp T.f_law_root.b .nil pass0 (pa_cons (pv 0) (pa_cons (pe_slice (Kit.kSlL K) (pv 1) (po_some (pv 3)) po_none) pa_nil))) pa_nil)))))
pss_nil)
(pss_one (ps_ret (pe_op (Kit.kCat K) (pe_call G_law_path hr14 (by rfl) T.f_law_path.g T.f_law_path.F.kp T.f_law_path.b .nil pass0 (pa_cons (pv 0) (pa_cons (pe_slice (Kit.kSlL K) (pv 1) (po_some (pv 3)) po_none) (pa_cons (pe_op op_sub (pv 2) (pv 3)) pa_nil)))) (pe_tup (pa_cons (pe_call G_law_root hr7 (by rfl) T.f_law_root.g T.f_law_root.F.kp T.f_law_root.b .nil pass0 (pa_cons (pv 0) (pa_cons (pe_slice (Kit.kSlL K) (pv 1) po_none (po_some (pv 3))) pa_nil))) pa_nil))))))))) rfl ?_
    walk_at "wp"
    · rename_i hc p H1 n1 e1 f1
      rw [iv_len, hl] at hc
      have hk0 : k = 0 := by
        cases k with
        | zero => rfl
        | succ k =>
          rw [KM.two_pow] at hc
          have : 0 < 2 ^ k := Nat.pow_pos (by decide)
          omega
      subst hk0
      exact q p H1 e1 (Evl.st_of f1)
    all_goals
      rename_i hc hlt pa H1 n1 e1 f1
      rw [iv_len, hl] at hc hlt
      obtain ⟨k, rfl⟩ : ∃ i, k = i + 1 := ⟨k - 1, by
        have : k ≠ 0 := fun z => by subst z; simp at hc
        omega⟩
      obtain ⟨hcut1, hcut2⟩ := half_cut hl
      have hl1 : (r.take (2 ^ k)).length = 2 ^ k := by rw [List.length_take, hl, KM.two_pow]; omega
      have hl2 : (r.drop (2 ^ k)).length = 2 ^ k := by rw [List.length_drop, hl, KM.two_pow]; omega
      rw [KM.two_pow] at hlt hp
      have hhalf : ((iv r).length : Int) / 2 = ((2 ^ k : Nat) : Int) := by rw [iv_len, hl, KM.two_pow]; omega
    · rw [hcut1] at f1
      have hpk : pl < 2 ^ k := by omega
      refine use_law_path k pl (Evl.sq_of f1) (hx.take _) m0 m1 hl1 (by omega) (by omega) hpk rfl fun p2 H2 e2 s2 => ?_
      walk_at "wp"
      rename_i pb H3 n3 e3 f3
      rw [hcut2] at f3
      refine use_law_root k (Evl.sq_of f3) (hx.drop _) m0 m1 hl2 (by omega) (by decide) fun H4 e4 => ?_
      have s4 : SqT K H4 p2 (iv (KM.pathM (foldI m) k (r.take (2 ^ k)) pl)) := by walk_at "sqT"
      have hpl2 : (iv (KM.pathM (foldI m) k (r.take (2 ^ k)) pl)).length ≤ 6 := by rw [iv_len, KM.path_len]; omega
      walk_at "wp"
      rename_i p6 H6 e6 s6
      have hpath := KM.path_left (f := foldI m) k _ _ pl hl1 hl2 hpk
      rw [List.take_append_drop] at hpath
      refine q p6 H6 (by walk_at "ex") ?_
      rw [hpath]
      unfold iv at s6 ⊢
      rw [List.map_append]
      exact s6
    · rw [hcut2] at f1
      obtain ⟨pl, rfl⟩ : ∃ j, pl = 2 ^ k + j := ⟨pl - 2 ^ k, by omega⟩
      have hpk : pl < 2 ^ k := by omega
      refine use_law_path k pl (Evl.sq_of f1) (hx.drop _) m0 m1 hl2 (by omega) (by omega) hpk (by rw [hhalf]; omega) fun p2 H2 e2 s2 => ?_
      walk_at "wp"
      rename_i pb H3 n3 e3 f3
      rw [hcut1] at f3
      refine use_law_root k (Evl.sq_of f3) (hx.take _) m0 m1 hl1 (by omega) (by decide) fun H4 e4 => ?_
      have s4 : SqT K H4 p2 (iv (KM.pathM (foldI m) k (r.drop (2 ^ k)) pl)) := by walk_at "sqT"
      have hpl2 : (iv (KM.pathM (foldI m) k (r.drop (2 ^ k)) pl)).length ≤ 6 := by rw [iv_len, KM.path_len]; omega
      walk_at "wp"
      rename_i p6 H6 e6 s6
      have hpath := KM.path_right (f := foldI m) k _ _ pl hl1 hl2 hpk
      rw [List.take_append_drop] at hpath
      refine q p6 H6 (by walk_at "ex") ?_
      rw [hpath]
      unfold iv at s6 ⊢
      rw [List.map_append]
      exact s6
def sp_law (K : PySem.W.Frag) : Sp := fun vs H Q _ => ∃ (a : Addr) (ns : List Int), vs = [.ref a] ∧ SqL K H a (ns.map V.int) ∧ ns.length ≤ 63 ∧ ∀ H', Q (.bl true) H'
theorem bits4 {z : Int} : ∃ b, atI [V.int 61, V.int 31, V.int 13, V.int 7] (z % 4) = some (.int b) ∧ IsBits b := by
  have hc : z % 4 = 0 ∨ z % 4 = 1 ∨ z % 4 = 2 ∨ z % 4 = 3 := by omega
  rcases hc with h | h | h | h <;> rw [h]
  · exact ⟨61, rfl, .b61⟩
  · exact ⟨31, rfl, .b31⟩
  · exact ⟨13, rfl, .b13⟩
  · exact ⟨7, rfl, .b7⟩
theorem size6 {z : Int} : ∃ k : Nat, atI [V.int 1, V.int 2, V.int 4, V.int 8, V.int 16, V.int 32] (z % 6) = some (.int ((2 ^ k : Nat) : Int)) ∧ k ≤ 5 := by
  have hc : z % 6 = 0 ∨ z % 6 = 1 ∨ z % 6 = 2 ∨ z % 6 = 3 ∨ z % 6 = 4 ∨ z % 6 = 5 := by omega
  rcases hc with h | h | h | h | h | h <;> rw [h]
  · exact ⟨0, rfl, by decide⟩
  · exact ⟨1, rfl, by decide⟩
  · exact ⟨2, rfl, by decide⟩
  · exact ⟨3, rfl, by decide⟩
  · exact ⟨4, rfl, by decide⟩
  · exact ⟨5, rfl, by decide⟩
theorem draw_at {ds : List Int} {z : Int} (h0 : 0 ≤ z) (h1 : z < (ds.length : Int)) : atI (ds.map V.int) z = some (.int ((ds[z.toNat]?).getD 0)) := iv_at' z.toNat (by omega) (by omega)
theorem path_dg {m : Int} (hm : 0 < m) : ∀ (k : Nat) (r : List Int) (p : Nat), AllDg m r → r.length = 2 ^ k → p < 2 ^ k → AllDg m (KM.pathM (foldI m) k r p)
  | 0, _, _, _, _, _ => fun x h => by cases h
  | k + 1, r, p, hr, hl, hp => by
    intro x hx
    have hn : KM.nb p < r.length := by
      have := nb_lt (k := k + 1) (i := 0) (pl := p) (by omega) hp
      rw [Nat.pow_zero, Nat.div_one, Nat.sub_zero] at this
      omega
    rw [KM.two_pow] at hl hp
    rcases List.mem_cons.mp hx with rfl | hx
    · exact hr.at hn
    · exact path_dg hm k _ (p / 2) (pairs_dg hm r) (KM.pairs_len r hl) (by omega) x hx
def rowOf (dd : List Int) (m : Int) (n : Nat) : List Int := (List.range n).map fun i => ((dd[i % dd.length]?).getD 0 / ((i : Int) + 1) + (i : Int)) % m
theorem rowOf_dg {dd : List Int} {m : Int} {n : Nat} (hm : 0 < m) : AllDg m (rowOf dd m n) := by
  intro x hx
  obtain ⟨i, _, rfl⟩ := List.mem_map.mp hx
  exact ⟨Int.emod_nonneg _ (by omega), Int.emod_lt_of_pos _ hm⟩
theorem mod_at {dd : List Int} {i : Nat} (h : 0 < dd.length) : atI (dd.map V.int) ((i : Int) % ((dd.map V.int).length : Int)) = some (.int ((dd[i % dd.length]?).getD 0)) :=
  iv_at' (i % dd.length) (by rw [List.length_map]; omega) (Nat.mod_lt _ h)
theorem ok_law (T : Txt K mg) : FnOk P w K mg base CX0 15 T.f_law.f T.f_law.fd ["script"] (sp_law K) := by
  have G_Digests___init := ok_Digests___init (P := P) (w := w) (base := base) T
  have G_law_draws := ok_law_draws (P := P) (w := w) (base := base) T
  have G_law_mod := ok_law_mod (P := P) (w := w) (base := base) T
  have G_law_path := ok_law_path (P := P) (w := w) (base := base) T 6
  have G_law_root := ok_law_root (P := P) (w := w) (base := base) T 6
  have G_path_of := ok_path_of (P := P) (w := w) (base := base) T
  have G_root_by := ok_root_by (P := P) (w := w) (base := base) T
  have G_root_of := ok_root_of (P := P) (w := w) (base := base) T
  refine T.f_law.F.ok sc_law (fun vs H Q E h => ?_) (fun cdv A outer s H vs Q E hr h => ?_)
  · obtain ⟨a, ns, rfl, hS, hl, q⟩ := h
    rfl
  obtain ⟨a, ns, rfl, hS, hl, q⟩ := h
  have nd := sc_law.nd
  have hr1 : Room 1 _ := hr.mono (by decide)
  have hr2 : Room 2 _ := hr.mono (by decide)
  have hr3 : Room 3 _ := hr.mono (by decide)
  have hr4 : Room 4 _ := hr.mono (by decide)
  have hr7 : Room 7 _ := hr.mono (by decide)
  have hr14 : Room 14 _ := hr.mono (by decide)
  refine Kit.ok_body (σ := [some _, none, none, none, none, none, none, none, none, none, none]) ((pss_cons (ps_set (i := 1) nd rfl (Or.inr rfl) (pe_op op_cat (pe_call G_law_draws hr1 (by rfl) T.f_law_draws.g T.f_law_draws.F.kp T.f_law_draws.b .nil pass0 (pa_cons (pv 0) (pa_cons pe_int (pa_cons pe_int pa_nil)))) (pe_lst (pa_cons pe_int (pa_cons pe_int (pa_cons pe_int pa_nil))))))
    (pss_cons (ps_set (i := 2) nd rfl (Or.inl rfl) (pe_ix (Kit.ixL K) (pe_lst (pa_cons pe_int (pa_cons pe_int (pa_cons pe_int (pa_cons pe_int pa_nil))))) (pe_op op_mod (pe_ix (Kit.ixL K) (pv 1) pe_int (fun _ _ => rfl)) pe_int) (fun _ _ => rfl)))
    (pss_cons (ps_set (i := 3) nd rfl (Or.inr rfl) (pe_call G_law_mod hr1 (by rfl) T.f_law_mod.g T.f_law_mod.F.kp T.f_law_mod.b .nil pass0 (pa_cons (pv 2) pa_nil)))
    (pss_cons (ps_set (i := 4) nd rfl (Or.inl rfl) (pe_make T.c_Digests.M G_Digests___init hr2 (by rfl) T.c_Digests.g T.f_Digests___init.b .nil pass0 (pa_cons (pv 2) (pa_cons pe_non pa_nil))))
    (pss_cons (ps_set (i := 5) nd rfl (Or.inl rfl) (pe_ix (Kit.ixL K) (pe_lst (pa_cons pe_int (pa_cons pe_int (pa_cons pe_int (pa_cons pe_int (pa_cons pe_int (pa_cons pe_int pa_nil))))))) (pe_op op_mod (pe_op op_fdiv (pe_ix (Kit.ixL K) (pv 1) pe_int (fun _ _ => rfl)) pe_int) pe_int) (fun _ _ => rfl)))
    (pss_cons (ps_setLc (i := 6) (own := [("k", 10)]) (g := gName 10) (tt := tYes) (by rfl) nd rfl rfl (sw_true rfl rfl rfl (by decide +kernel)) (pi_range1 (by rfl) T.z_range (pa_cons (pv 5) pa_nil)) (blkOk_by (own := [("k", 10)]) (N := N_law) (sc := defScope s_law) (by decide +kernel)) (fun _ _ _ _ _ => pg_name (i := 10) nd rfl (Or.inl rfl)) (fun _ _ _ _ _ => pts_nil) (fun _ _ _ _ _ => (pe_op op_mod (pe_op op_add (pe_op op_fdivW (pe_ix (Kit.ixL K) (pv 1) (pe_op op_mod (pv 10) (pe_callB (Kit.kLen K) (by rfl) T.z_len (by decide +kernel) (pa_cons (pv 1) pa_nil))) (fun _ _ => rfl)) (pe_op op_add (pv 10) pe_int)) (pv 10)) (pv 3))))
    (pss_cons (ps_set (i := 7) nd rfl (Or.inl rfl) (pe_call G_law_root hr7 (by rfl) T.f_law_root.g T.f_law_root.F.kp T.f_law_root.b .nil pass0 (pa_cons (pv 3) (pa_cons (pv 6) pa_nil))))
    (pss_cons (ps_if (PW.pt (pw_or (pt_cmpR op_ne (pe_call G_root_of hr4 (by rfl) T.f_root_of.g T.f_root_of.F.kp T.f_root_of.b .nil pass0 (pa_cons (pv 4) (pa_cons (pv 6) pa_nil))) (pv 7) (nomark _)) (pw_or1 (pt_cmpR op_ne (pe_call G_root_of hr4 (by rfl) T.f_root_of.g T.f_root_of.F.kp T.f_root_of.b .nil pass0 (pa_cons (pv 4) (pa_cons (pe_callTy (Kit.kTuple K) (by rfl) T.z_tuple (by decide +kernel) (pa_cons (pv 6) pa_nil)) pa_nil))) (pv 7) (nomark _)))))
    (pss_one (ps_ret pe_bl))
    pss_nil)
    (pss_cons (ps_for PassesOwn.never rfl (pi_range1 (by rfl) T.z_range (pa_cons (pv 5) pa_nil)) (pg_name (i := 8) nd rfl (Or.inl rfl))
    (pss_cons (ps_set (i := 9) nd rfl (Or.inl rfl) (pe_call G_path_of hr4 (by rfl) T.f_path_of.g T.f_path_of.F.kp T.f_path_of.b .nil pass0 (pa_cons (pv 4) (pa_cons (pv 6) (pa_cons (pv 8) pa_nil)))))
    (pss_cons (ps_if (PW.pt (pw_or (pt_not (pt_val (pe_callB (Kit.kIsi K) (by rfl) T.z_isinstance (by decide +kernel) (pa_cons (pv 9) (pa_cons (pe_bltn (v := .ty "tuple") (by rfl) T.z_tuple (by decide +kernel) rfl) pa_nil))))) (pw_or1 (pt_cmpR (Kit.kNeD K hr.units) (pv 9) (pe_call G_law_path hr14 (by rfl) T.f_law_path.g T.f_law_path.F.kp T.f_law_path.b .nil pass0 (pa_cons (pv 3) (pa_cons (pv 6) (pa_cons (pv 8) pa_nil)))) (nomark _)))))
    (pss_one (ps_ret pe_bl))
    pss_nil)
    (pss_one (ps_if (pt_cmpR op_ne (pe_call G_root_by hr3 (by rfl) T.f_root_by.g T.f_root_by.F.kp T.f_root_by.b .nil pass0 (pa_cons (pv 4) (pa_cons (pv 8) (pa_cons (pe_ix (Kit.ixL K) (pv 6) (pv 8) (fun _ _ => rfl)) (pa_cons (pv 9) pa_nil))))) (pv 7) (nomark _))
    (pss_one (ps_ret pe_bl))
    pss_nil)))))
    (pss_one (ps_ret (pe_cmpR (Kit.kEqD K hr.units) (pv 6) (pe_lc (own := [("k", 10)]) (g := gName 10) (tt := tYes) (by rfl) nd (pi_range1 (by rfl) T.z_range (pa_cons (pv 5) pa_nil)) (blkOk_by (own := [("k", 10)]) (N := N_law) (sc := defScope s_law) (by decide +kernel)) (fun _ _ _ _ _ => pg_name (i := 10) nd rfl (Or.inl rfl)) (fun _ _ _ _ _ => pts_nil) (fun _ _ _ _ _ => (pe_op op_mod (pe_op op_add (pe_op op_fdivW (pe_ix (Kit.ixL K) (pv 1) (pe_op op_mod (pv 10) (pe_callB (Kit.kLen K) (by rfl) T.z_len (by decide +kernel) (pa_cons (pv 1) pa_nil))) (fun _ _ => rfl)) (pe_op op_add (pv 10) pe_int)) (pv 10)) (pv 3)))) (nomark _)))))))))))))) rfl ?_
  try dsimp only [L2.cxOf, L2.Cx.nox]
  walk_at "wp"
  refine use_law_draws hS hl (by decide) (by decide) fun p1 H1 ds n1 e1 f1 l1 => ?_
  walk_at "wp"
  rename_i p2 H2 n2 e2 f2 p3 H3 n3 e3 f3 p4 H4 n4 e4 f4
  have f3 : H3 p3 = some (.lst ((ds ++ [5, 77, 991]).map V.int)) := by rw [f3, List.map_append]; rfl
  have hdd : 3 ≤ (ds ++ [5, 77, 991]).length ∧ (ds ++ [5, 77, 991]).length ≤ 43 := by simp; omega
  generalize ds ++ [5, 77, 991] = dd at *
  obtain ⟨d0, hd0⟩ : ∃ d, atI (dd.map V.int) 0 = some (.int d) := ⟨_, draw_at (by decide) (by omega)⟩
  obtain ⟨b, hb, hB⟩ := bits4 (z := d0)
  obtain ⟨k, hk, hk5⟩ := size6 (z := d0 / 4)
  walk_at "wp"
  refine use_law_mod hB fun H5 e5 => ?_
  obtain ⟨hm0, hm1⟩ := hB.m
  generalize hgm : 2 ^ b.toNat - (1 : Int) = m at *
  walk_at "wp"
  rename_i dg H6 n6 e6 d6 p7 H7 n7 e7 f7
  rw [hgm] at d6
  have hk32 : 2 ^ k ≤ 32 := Nat.le_trans (Nat.pow_le_pow_right (by decide) hk5) (by decide)
  have hrow : ∀ z : Nat, z = 2 ^ k → (List.range z).map (fun i : Nat => V.int (((dd[i % dd.length]?).getD 0 / ((i : Int) + 1) + (i : Int)) % m)) = iv (rowOf dd m (2 ^ k)) := fun z hz => by
    subst hz
    unfold rowOf iv
    rw [List.map_map]
    rfl
  have hlen : (rowOf dd m (2 ^ k)).length = 2 ^ k := by unfold rowOf; rw [List.length_map, List.length_range]
  have hrdg : AllDg m (rowOf dd m (2 ^ k)) := rowOf_dg hm0
  refine Kit.l_rng1 (by omega) (by omega) (fun _ => rfl) (fun i : Nat => V.int (((dd[i % dd.length]?).getD 0 / ((i : Int) + 1) + (i : Int)) % m)) ?_ ?_
  · intro i H8 hi e8 R rr
    have hat := mod_at (dd := dd) (i := i) (by omega)
    have hpos : (0 : Int) < ((dd.map V.int).length : Int) := by rw [List.length_map]; omega
    walk_at "wp"
    exact rr _ (Evl.Ex.refl _)
  · intro p8 H8 n8 e8 f8
    rw [hrow _ (by omega)] at f8
    generalize hgr : rowOf dd m (2 ^ k) = row at *
    have s8 : SqL K H8 p8 (iv row) := Evl.sq_of f8
    have d8 : DigN T.c_Digests.C H8 dg m := by walk_at "dig"
    walk_at "wp"
    refine use_law_root k s8 hrdg hm0 hm1 hlen (by omega) (by decide) fun H9 e9 => ?_
    walk_at "wp"
    refine use_root_of k (d8.ex e9) (.inl (Evl.ex_l e9 s8)) hrdg hlen (by omega) fun H10 e10 => ?_
    walk_at "wp"
    rename_i p11 H11 n11 e11 f11
    have e811 : Evl.Ex H8 H11 := (e9.trans e10).trans e11
    refine use_root_of k (d8.ex e811) (.inr (Evl.st_of f11)) hrdg hlen (by omega) fun H12 e12 => ?_
    walk_at "wp"
    have d12 : DigN T.c_Digests.C H12 dg m := d8.ex (e811.trans e12)
    have f12 : H12 p8 = some (.lst (iv row)) := (e811.trans e12) _ _ f8
    have f12d : H12 p3 = some (.lst (dd.map V.int)) := by walk_at "hp"
    refine Kit.f_rng1 (by omega) (by omega) (fun _ σ' H' => ∃ y8 y9 y10, σ' = [some (.ref a), some (.ref p3), some (.int b), some (.int m), some (.ref dg), some (.int ((2 ^ k : Nat) : Int)), some (.ref p8), some (.int (KM.rootM (foldI m) k row)), y8, y9, y10] ∧ Evl.Ex H12 H') ⟨_, _, _, rfl, Evl.Ex.refl _⟩ ?_ ?_
    · rintro i σ' H13 hi ⟨y8, y9, y10, rfl, e13⟩
      have hi : i < 2 ^ k := by omega
      have d13 := d12.ex e13
      have s13 : SqL K H13 p8 (iv row) := Evl.sq_of (e13 _ _ f12)
      walk_at "wp"
      refine use_path_of k i d13 (.inl s13) hrdg hlen (by omega) hi rfl fun pp H14 n14 e14 f14 => ?_
      walk_at "wp"
      refine use_law_path k i (Evl.ex_l e14 s13) hrdg hm0 hm1 hlen (by omega) (by decide) hi rfl fun pq H15 e15 s15 => ?_
      have s15p : SqT K H15 pp ((KM.pathM (foldI m) k row i).map V.int) := Evl.st_of (e15 _ _ f14)
      refine Kit.w_neTT s15p s15 ?_
      have hat : atI (iv row) (i : Int) = some (.int ((row[i]?).getD 0)) := iv_at (by omega)
      have s15r : SqL K H15 p8 (iv row) := Evl.ex_l (e14.trans e15) s13
      walk_at "wp"
      have hat2 : row[i]? = some ((row[i]?).getD 0) := by rw [List.getElem?_eq_getElem (by omega)]; rfl
      refine use_root_by i (d13.ex (e14.trans e15)) s15p ?_ (hrdg.at (by omega)) (by rw [KM.path_len]; omega) rfl fun H16 e16 => ?_
      · exact path_dg hm0 k row i hrdg hlen hi
      rw [KM.rootBy_path k row i _ hlen hat2]
      walk_at "wp"
      exact ⟨_, _, _, rfl, ((e13.trans e14).trans e15).trans e16⟩
    · rintro σ' H13 ⟨y8, y9, y10, rfl, e13⟩
      walk_at "wp"
      refine Kit.l_rng1 (by omega) (by omega) (fun _ => rfl) (fun i : Nat => V.int (((dd[i % dd.length]?).getD 0 / ((i : Int) + 1) + (i : Int)) % m)) ?_ ?_
      · intro i H14 hi e14 R rr
        have hat := mod_at (dd := dd) (i := i) (by omega)
        have hpos : (0 : Int) < ((dd.map V.int).length : Int) := by rw [List.length_map]; omega
        walk_at "wp"
        exact rr _ (Evl.Ex.refl _)
      · intro p14 H14 n14 e14 f14
        rw [hrow _ (by omega)] at f14
        have s14 : SqL K H14 p8 (row.map V.int) := Evl.sq_of ((e13.trans e14) _ _ f12)
        refine Kit.w_eqLL s14 (Evl.sq_of f14) ?_
        rw [decide_eq_true rfl]
        exact q _
end
theorem sp_law_of {K : PySem.W.Frag} {H : Hp} {a : Addr} {ns : List Int} (hl : ns.length ≤ 63) (hS : SqL K H a (ns.map V.int)) : sp_law K [.ref a] H (fun v _ => v = .bl true) fun _ _ _ => False := ⟨a, ns, rfl, hS, hl, fun _ => rfl⟩
theorem all_mk {l : PySem.W.OpenLaw} {w : World} {K : PySem.W.Frag} {h : Heap} {mg : Str → Option Value} {fa : Addr} (X : K.In h) (G : h.Ns mainGlobals mg) (hfa : mg "law" = some (.ref fa))
    {od0 an0 : Option Addr} {sl0 : Array (Option Value)} {oc0 kV0 dc0 pm0 cd0 ct0 : Value} {f0 : Addr}
    {od1 an1 : Option Addr} {sl1 : Array (Option Value)} {oc1 kV1 dc1 pm1 cd1 ct1 : Value} {f1 : Addr}
    {od2 an2 : Option Addr} {sl2 : Array (Option Value)} {oc2 kV2 dc2 pm2 cd2 ct2 : Value} {f2 : Addr}
    {od3 an3 : Option Addr} {sl3 : Array (Option Value)} {oc3 kV3 dc3 pm3 cd3 ct3 : Value} {f3 : Addr}
    {od4 an4 : Option Addr} {sl4 : Array (Option Value)} {oc4 kV4 dc4 pm4 cd4 ct4 : Value} {f4 : Addr}
    {od5 an5 : Option Addr} {sl5 : Array (Option Value)} {oc5 kV5 dc5 pm5 cd5 ct5 : Value} {f5 : Addr}
    {od6 an6 : Option Addr} {sl6 : Array (Option Value)} {oc6 kV6 dc6 pm6 cd6 ct6 : Value} {f6 : Addr}
    {od7 an7 : Option Addr} {sl7 : Array (Option Value)} {oc7 kV7 dc7 pm7 cd7 ct7 : Value} {f7 : Addr}
    {od8 an8 : Option Addr} {sl8 : Array (Option Value)} {oc8 kV8 dc8 pm8 cd8 ct8 : Value} {f8 : Addr}
    {od9 an9 : Option Addr} {sl9 : Array (Option Value)} {oc9 kV9 dc9 pm9 cd9 ct9 : Value} {f9 : Addr}
    {od10 an10 : Option Addr} {sl10 : Array (Option Value)} {oc10 kV10 dc10 pm10 cd10 ct10 : Value} {f10 : Addr}
    {od11 an11 : Option Addr} {sl11 : Array (Option Value)} {oc11 kV11 dc11 pm11 cd11 ct11 : Value} {f11 : Addr}
    {od12 an12 : Option Addr} {sl12 : Array (Option Value)} {oc12 kV12 dc12 pm12 cd12 ct12 : Value} {f12 : Addr}
    {od13 an13 : Option Addr} {sl13 : Array (Option Value)} {oc13 kV13 dc13 pm13 cd13 ct13 : Value} {f13 : Addr}
    {C_Digests : Addr}
    (aC_Digests : PySem.W.nsIn K mainGlobals "Digests" = some (some (.ref C_Digests)))
    (a0 : PySem.W.nsIn K mainGlobals "root_of" = some (some (.ref f0)))
    (l0 : K.lookup f0 = some ⟨oc0, od0, .func (PySem.W.fnOf "root_of" "root_of" (defArgs s_root_of) (defBody s_root_of) (defScope s_root_of) .none kV0 dc0 pm0 an0 cd0 ct0), sl0⟩)
    (c0 : PySem.W.codeIn K cd0 "root_of" = true)
    (k0 : PySem.W.keepIn K (.ref f0) = true)
    (a1 : PySem.W.nsIn K mainGlobals "path_of" = some (some (.ref f1)))
    (l1 : K.lookup f1 = some ⟨oc1, od1, .func (PySem.W.fnOf "path_of" "path_of" (defArgs s_path_of) (defBody s_path_of) (defScope s_path_of) .none kV1 dc1 pm1 an1 cd1 ct1), sl1⟩)
    (c1 : PySem.W.codeIn K cd1 "path_of" = true)
    (k1 : PySem.W.keepIn K (.ref f1) = true)
    (a2 : PySem.W.nsIn K mainGlobals "root_by" = some (some (.ref f2)))
    (l2 : K.lookup f2 = some ⟨oc2, od2, .func (PySem.W.fnOf "root_by" "root_by" (defArgs s_root_by) (defBody s_root_by) (defScope s_root_by) .none kV2 dc2 pm2 an2 cd2 ct2), sl2⟩)
    (c2 : PySem.W.codeIn K cd2 "root_by" = true)
    (k2 : PySem.W.keepIn K (.ref f2) = true)
    (a3 : PySem.W.nsIn K mainGlobals "levels_of" = some (some (.ref f3)))
    (l3 : K.lookup f3 = some ⟨oc3, od3, .func (PySem.W.fnOf "levels_of" "levels_of" (defArgs s_levels_of) (defBody s_levels_of) (defScope s_levels_of) .none kV3 dc3 pm3 an3 cd3 ct3), sl3⟩)
    (c3 : PySem.W.codeIn K cd3 "levels_of" = true)
    (k3 : PySem.W.keepIn K (.ref f3) = true)
    (a4 : PySem.W.nsIn K mainGlobals "path_in" = some (some (.ref f4)))
    (l4 : K.lookup f4 = some ⟨oc4, od4, .func (PySem.W.fnOf "path_in" "path_in" (defArgs s_path_in) (defBody s_path_in) (defScope s_path_in) .none kV4 dc4 pm4 an4 cd4 ct4), sl4⟩)
    (c4 : PySem.W.codeIn K cd4 "path_in" = true)
    (k4 : PySem.W.keepIn K (.ref f4) = true)
    (a5 : PySem.W.findIn K (.ref C_Digests) "__init__" = some (some (.ref f5)))
    (i5 : PySem.W.isFn K (.ref f5) = true)
    (l5 : K.lookup f5 = some ⟨oc5, od5, .func (PySem.W.fnOf "__init__" "Digests.__init__" (defArgs s_Digests___init) (defBody s_Digests___init) (defScope s_Digests___init) .none kV5 dc5 pm5 an5 cd5 ct5), sl5⟩)
    (c5 : PySem.W.codeIn K cd5 "Digests.__init__" = true)
    (k5 : PySem.W.keepIn K (.ref f5) = true)
    (a6 : PySem.W.findIn K (.ref C_Digests) "fold" = some (some (.ref f6)))
    (i6 : PySem.W.isFn K (.ref f6) = true)
    (l6 : K.lookup f6 = some ⟨oc6, od6, .func (PySem.W.fnOf "fold" "Digests.fold" (defArgs s_Digests_fold) (defBody s_Digests_fold) (defScope s_Digests_fold) .none kV6 dc6 pm6 an6 cd6 ct6), sl6⟩)
    (c6 : PySem.W.codeIn K cd6 "Digests.fold" = true)
    (k6 : PySem.W.keepIn K (.ref f6) = true)
    (a7 : PySem.W.findIn K (.ref C_Digests) "_noted" = some (some (.ref f7)))
    (i7 : PySem.W.isFn K (.ref f7) = true)
    (l7 : K.lookup f7 = some ⟨oc7, od7, .func (PySem.W.fnOf "_noted" "Digests._noted" (defArgs s_Digests__noted) (defBody s_Digests__noted) (defScope s_Digests__noted) .none kV7 dc7 pm7 an7 cd7 ct7), sl7⟩)
    (c7 : PySem.W.codeIn K cd7 "Digests._noted" = true)
    (k7 : PySem.W.keepIn K (.ref f7) = true)
    (a8 : PySem.W.nsIn K mainGlobals "_law_draws" = some (some (.ref f8)))
    (l8 : K.lookup f8 = some ⟨oc8, od8, .func (PySem.W.fnOf "_law_draws" "_law_draws" (defArgs s_law_draws) (defBody s_law_draws) (defScope s_law_draws) .none kV8 dc8 pm8 an8 cd8 ct8), sl8⟩)
    (c8 : PySem.W.codeIn K cd8 "_law_draws" = true)
    (k8 : PySem.W.keepIn K (.ref f8) = true)
    (a9 : PySem.W.nsIn K mainGlobals "_law_mod" = some (some (.ref f9)))
    (l9 : K.lookup f9 = some ⟨oc9, od9, .func (PySem.W.fnOf "_law_mod" "_law_mod" (defArgs s_law_mod) (defBody s_law_mod) (defScope s_law_mod) .none kV9 dc9 pm9 an9 cd9 ct9), sl9⟩)
    (c9 : PySem.W.codeIn K cd9 "_law_mod" = true)
    (k9 : PySem.W.keepIn K (.ref f9) = true)
    (a10 : PySem.W.nsIn K mainGlobals "_law_fold" = some (some (.ref f10)))
    (l10 : K.lookup f10 = some ⟨oc10, od10, .func (PySem.W.fnOf "_law_fold" "_law_fold" (defArgs s_law_fold) (defBody s_law_fold) (defScope s_law_fold) .none kV10 dc10 pm10 an10 cd10 ct10), sl10⟩)
    (c10 : PySem.W.codeIn K cd10 "_law_fold" = true)
    (k10 : PySem.W.keepIn K (.ref f10) = true)
    (a11 : PySem.W.nsIn K mainGlobals "_law_root" = some (some (.ref f11)))
    (l11 : K.lookup f11 = some ⟨oc11, od11, .func (PySem.W.fnOf "_law_root" "_law_root" (defArgs s_law_root) (defBody s_law_root) (defScope s_law_root) .none kV11 dc11 pm11 an11 cd11 ct11), sl11⟩)
    (c11 : PySem.W.codeIn K cd11 "_law_root" = true)
    (k11 : PySem.W.keepIn K (.ref f11) = true)
    (a12 : PySem.W.nsIn K mainGlobals "_law_path" = some (some (.ref f12)))
    (l12 : K.lookup f12 = some ⟨oc12, od12, .func (PySem.W.fnOf "_law_path" "_law_path" (defArgs s_law_path) (defBody s_law_path) (defScope s_law_path) .none kV12 dc12 pm12 an12 cd12 ct12), sl12⟩)
    (c12 : PySem.W.codeIn K cd12 "_law_path" = true)
    (k12 : PySem.W.keepIn K (.ref f12) = true)
    (a13 : PySem.W.nsIn K mainGlobals "law" = some (some (.ref f13)))
    (l13 : K.lookup f13 = some ⟨oc13, od13, .func (PySem.W.fnOf "law" "law" (defArgs s_law) (defBody s_law) (defScope s_law) .none kV13 dc13 pm13 an13 cd13 ct13), sl13⟩)
    (c13 : PySem.W.codeIn K cd13 "law" = true)
    (k13 : PySem.W.keepIn K (.ref f13) = true)
    (pg_Digests : PySem.W.plainGet K C_Digests Str.empty = true)
    (hd_Digests : PySem.W.hasDictIn K C_Digests = true)
    (po_Digests : PySem.W.plainOver K C_Digests = true)
    (sa_Digests : PySem.W.findIn K (.ref C_Digests) "__setattr__" = some (some (.builtin "object.__setattr__")))
    (mk_Digests : PySem.W.makesIn K C_Digests = true)
    (kc_Digests : PySem.W.keepIn K (.ref C_Digests) = true)
    (n_Digests_bits : PySem.W.findIn K (.ref C_Digests) "_bits" = some none)
    (n_Digests_book : PySem.W.findIn K (.ref C_Digests) "_book" = some none)
    (n_Digests_modulus : PySem.W.findIn K (.ref C_Digests) "_modulus" = some none)
    (z_abs : PySem.W.nsIn K mainGlobals "abs" = some none)
    (z_int : PySem.W.nsIn K mainGlobals "int" = some none)
    (z_isinstance : PySem.W.nsIn K mainGlobals "isinstance" = some none)
    (z_len : PySem.W.nsIn K mainGlobals "len" = some none)
    (z_list : PySem.W.nsIn K mainGlobals "list" = some none)
    (z_range : PySem.W.nsIn K mainGlobals "range" = some none)
    (z_tuple : PySem.W.nsIn K mainGlobals "tuple" = some none)
    : ∃ fd : FuncData, (∀ (s : Shared) (v : Value), BindsTo s fd ⟨[v], []⟩ [("script", v)]) ∧ ∀ base : Heap, K.In base → base.Ns mainGlobals mg → FnOk l.prog w K mg base CX0 15 fa fd ["script"] (sp_law K) := by
  have e := hfa.symm.trans (PySem.W.mg_of X G a13)
  have e2 : f13 = fa := by
    injection e with e
    injection e with e
    exact e.symm
  subst e2
  have F0 := fun_mk (st := s_root_of) l0 c0 k0
  have b0 := F0.binds (ps := ["digests", "row"]) fun _ _ _ _ _ _ us hl => match us, hl with | [_, _], _ => rfl
  have F1 := fun_mk (st := s_path_of) l1 c1 k1
  have b1 := F1.binds (ps := ["digests", "row", "place"]) fun _ _ _ _ _ _ us hl => match us, hl with | [_, _, _], _ => rfl
  have F2 := fun_mk (st := s_root_by) l2 c2 k2
  have b2 := F2.binds (ps := ["digests", "place", "digest", "path"]) fun _ _ _ _ _ _ us hl => match us, hl with | [_, _, _, _], _ => rfl
  have F3 := fun_mk (st := s_levels_of) l3 c3 k3
  have b3 := F3.binds (ps := ["digests", "row"]) fun _ _ _ _ _ _ us hl => match us, hl with | [_, _], _ => rfl
  have F4 := fun_mk (st := s_path_in) l4 c4 k4
  have b4 := F4.binds (ps := ["levels", "place"]) fun _ _ _ _ _ _ us hl => match us, hl with | [_, _], _ => rfl
  have F5 := fun_mk (st := s_Digests___init) l5 c5 k5
  have b5 := F5.binds (ps := ["self", "bits", "book"]) fun _ _ _ _ _ _ us hl => match us, hl with | [_, _, _], _ => rfl
  have F6 := fun_mk (st := s_Digests_fold) l6 c6 k6
  have b6 := F6.binds (ps := ["self", "left", "right"]) fun _ _ _ _ _ _ us hl => match us, hl with | [_, _, _], _ => rfl
  have F7 := fun_mk (st := s_Digests__noted) l7 c7 k7
  have b7 := F7.binds (ps := ["self", "kind", "text", "digest"]) fun _ _ _ _ _ _ us hl => match us, hl with | [_, _, _, _], _ => rfl
  have F8 := fun_mk (st := s_law_draws) l8 c8 k8
  have b8 := F8.binds (ps := ["script", "start", "most"]) fun _ _ _ _ _ _ us hl => match us, hl with | [_, _, _], _ => rfl
  have F9 := fun_mk (st := s_law_mod) l9 c9 k9
  have b9 := F9.binds (ps := ["bits"]) fun _ _ _ _ _ _ us hl => match us, hl with | [_], _ => rfl
  have F10 := fun_mk (st := s_law_fold) l10 c10 k10
  have b10 := F10.binds (ps := ["m", "x", "y"]) fun _ _ _ _ _ _ us hl => match us, hl with | [_, _, _], _ => rfl
  have F11 := fun_mk (st := s_law_root) l11 c11 k11
  have b11 := F11.binds (ps := ["m", "row"]) fun _ _ _ _ _ _ us hl => match us, hl with | [_, _], _ => rfl
  have F12 := fun_mk (st := s_law_path) l12 c12 k12
  have b12 := F12.binds (ps := ["m", "row", "place"]) fun _ _ _ _ _ _ us hl => match us, hl with | [_, _, _], _ => rfl
  have F13 := fun_mk (st := s_law) l13 c13 k13
  have b13 := F13.binds (ps := ["script"]) fun _ _ _ _ _ _ us hl => match us, hl with | [_], _ => rfl
  let T : Txt K mg := {
    f_root_of := ⟨⟨f0, _, F0, b0⟩, PySem.W.mg_of X G a0⟩
    f_path_of := ⟨⟨f1, _, F1, b1⟩, PySem.W.mg_of X G a1⟩
    f_root_by := ⟨⟨f2, _, F2, b2⟩, PySem.W.mg_of X G a2⟩
    f_levels_of := ⟨⟨f3, _, F3, b3⟩, PySem.W.mg_of X G a3⟩
    f_path_in := ⟨⟨f4, _, F4, b4⟩, PySem.W.mg_of X G a4⟩
    f_Digests___init := ⟨f5, _, F5, b5⟩
    f_Digests_fold := ⟨f6, _, F6, b6⟩
    f_Digests__noted := ⟨f7, _, F7, b7⟩
    f_law_draws := ⟨⟨f8, _, F8, b8⟩, PySem.W.mg_of X G a8⟩
    f_law_mod := ⟨⟨f9, _, F9, b9⟩, PySem.W.mg_of X G a9⟩
    f_law_fold := ⟨⟨f10, _, F10, b10⟩, PySem.W.mg_of X G a10⟩
    f_law_root := ⟨⟨f11, _, F11, b11⟩, PySem.W.mg_of X G a11⟩
    f_law_path := ⟨⟨f12, _, F12, b12⟩, PySem.W.mg_of X G a12⟩
    f_law := ⟨⟨f13, _, F13, b13⟩, PySem.W.mg_of X G a13⟩
    c_Digests := ⟨C_Digests, ⟨pg_Digests, hd_Digests, po_Digests, sa_Digests⟩, ⟨mk_Digests, a5, i5, kc_Digests⟩, PySem.W.mg_of X G aC_Digests⟩
    m_Digests_fold := ⟨a6, i6, k6⟩
    m_Digests__noted := ⟨a7, i7, k7⟩
    n_Digests_bits := n_Digests_bits
    n_Digests_book := n_Digests_book
    n_Digests_modulus := n_Digests_modulus
    z_abs := PySem.W.mg_none_of X G z_abs
    z_int := PySem.W.mg_none_of X G z_int
    z_isinstance := PySem.W.mg_none_of X G z_isinstance
    z_len := PySem.W.mg_none_of X G z_len
    z_list := PySem.W.mg_none_of X G z_list
    z_range := PySem.W.mg_none_of X G z_range
    z_tuple := PySem.W.mg_none_of X G z_tuple }
  exact ⟨PySem.W.fnOf "law" "law" (defArgs s_law) (defBody s_law) (defScope s_law) .none kV13 dc13 pm13 an13 cd13 ct13, fun s v => .of_eq rfl, fun base _ _ => ok_law T⟩
end My
open PySem PySem.W PyProof.Rows
set_option maxHeartbeats 0 in
theorem PySem.Challenge.cw_onestepcourt_k06_roots_and_paths_holds : PySem.Challenge.rw_onestepcourt_k06_roots_and_paths.Holds := by
  w_on; o_law; k_head; (case hw => w_witness2)
  k_fill
  refine L2.walk_of (l := PySem.Challenge.rw_onestepcourt_k06_roots_and_paths) (n := 63) (k := 15) (x := "script") (CX := fun _ => L2.CX0) (sp := fun w => My.sp_law _) rfl (by decide) rfl ⟨rfl, by decide, by decide⟩ (fun w h Y => PySem.W.kIn_of Y) ?F (fun _ _ a ns hl _ hS => My.sp_law_of hl hS) (fun _ _ _ _ _ h => h)
  case F =>
    intro w mg fa h KX G hmg
    refine' My.all_mk KX G hmg ?aC_Digests ?a0 ?l0 ?c0 ?k0 ?a1 ?l1 ?c1 ?k1 ?a2 ?l2 ?c2 ?k2 ?a3 ?l3 ?c3 ?k3 ?a4 ?l4 ?c4 ?k4 ?a5 ?i5 ?l5 ?c5 ?k5 ?a6 ?i6 ?l6 ?c6 ?k6 ?a7 ?i7 ?l7 ?c7 ?k7 ?a8 ?l8 ?c8 ?k8 ?a9 ?l9 ?c9 ?k9 ?a10 ?l10 ?c10 ?k10 ?a11 ?l11 ?c11 ?k11 ?a12 ?l12 ?c12 ?k12 ?a13 ?l13 ?c13 ?k13 ?pg_Digests ?hd_Digests ?po_Digests ?sa_Digests ?mk_Digests ?kc_Digests ?n_Digests_bits ?n_Digests_book ?n_Digests_modulus ?z_abs ?z_int ?z_isinstance ?z_len ?z_list ?z_range ?z_tuple
    (case aC_Digests => k_is)
    (case a0 => k_is)
    (case l0 => k_is)
    (case c0 => k_is)
    (case k0 => k_is)
    (case a1 => k_is)
    (case l1 => k_is)
    (case c1 => k_is)
    (case k1 => k_is)
    (case a2 => k_is)
    (case l2 => k_is)
    (case c2 => k_is)
    (case k2 => k_is)
    (case a3 => k_is)
    (case l3 => k_is)
    (case c3 => k_is)
    (case k3 => k_is)
    (case a4 => k_is)
    (case l4 => k_is)
    (case c4 => k_is)
    (case k4 => k_is)
    (case a5 => k_is)
    (case i5 => k_is)
    (case l5 => k_is)
    (case c5 => k_is)
    (case k5 => k_is)
    (case a6 => k_is)
    (case i6 => k_is)
    (case l6 => k_is)
    (case c6 => k_is)
    (case k6 => k_is)
    (case a7 => k_is)
    (case i7 => k_is)
    (case l7 => k_is)
    (case c7 => k_is)
    (case k7 => k_is)
    (case a8 => k_is)
    (case l8 => k_is)
    (case c8 => k_is)
    (case k8 => k_is)
    (case a9 => k_is)
    (case l9 => k_is)
    (case c9 => k_is)
    (case k9 => k_is)
    (case a10 => k_is)
    (case l10 => k_is)
    (case c10 => k_is)
    (case k10 => k_is)
    (case a11 => k_is)
    (case l11 => k_is)
    (case c11 => k_is)
    (case k11 => k_is)
    (case a12 => k_is)
    (case l12 => k_is)
    (case c12 => k_is)
    (case k12 => k_is)
    (case a13 => k_is)
    (case l13 => k_is)
    (case c13 => k_is)
    (case k13 => k_is)
    (case pg_Digests => k_is)
    (case hd_Digests => k_is)
    (case po_Digests => k_is)
    (case sa_Digests => k_is)
    (case mk_Digests => k_is)
    (case kc_Digests => k_is)
    (case n_Digests_bits => k_is)
    (case n_Digests_book => k_is)
    (case n_Digests_modulus => k_is)
    (case z_abs => k_is)
    (case z_int => k_is)
    (case z_isinstance => k_is)
    (case z_len => k_is)
    (case z_list => k_is)
    (case z_range => k_is)
    (case z_tuple => k_is)


