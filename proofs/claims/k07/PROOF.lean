import PyProof.Rows.All
import Wide.All
import OpenK.AllK
import Wide.FinOn
import HandS.ForMost
import HandS.Evl
import HandS.IsInst
import HandS.Style
import HandS.Wide
import HandS.EndBits
import HandS.SortInts
import HandS.ForExc
import HandS.TryMany
import HandS.Star
import PySem.Challenge.RW_threadslide_k07_boxes_made_and_told
set_option Elab.async false
set_option linter.all false
set_option maxRecDepth 100000
set_option maxHeartbeats 4000000
/-! Steps over the hand layer: a def by its name, readings taken step by step, facts of the heap found by themselves. -/
namespace Tw
open PySem PySem.Spec PyProof.Rows L2
open Evl (Ex ex_l ex_t fresh_back sz_of sz_lt)

/-! ### a def by its name -/
structure DefAt (K : PySem.W.Frag) (mg : Str → Option Value) (x qual : Str) (st : Stmt) : Prop where
  ex : ∃ f fd, Fun K x qual st f fd ∧ mg x = some (.ref f)
structure Cal (P : Program) (w : World) (K : PySem.W.Frag) (mg : Str → Option Value) (base : Heap) (x : Str) (k : Nat) (ps : List Str) (sp : Sp) : Prop where
  ex : ∃ f fd, FnOk P w K mg base CX0 k f fd ps sp ∧ mg x = some (.ref f) ∧ PySem.W.keepIn K (.ref f) = true ∧ Binds K fd ps []
section
variable {P : Program} {w : World} {K : PySem.W.Frag} {mg : Str → Option Value} {base : Heap}
theorem Cal.of {x qual : Str} {st : Stmt} {k : Nat} {N ps : List Str} {sp : Sp} (D : DefAt K mg x qual st) (S : FnScope N ps (defScope st)) (len : ∀ vs H Q E, sp vs H Q E → vs.length = ps.length)
    (hb : ∀ (kV doc pm : Value) (an : Option Addr) (cdv ct : Value) (us : List Value), us.length = ps.length → bindArgs (PySem.W.fnOf x qual (defArgs st) (defBody st) (defScope st) .none kV doc pm an cdv ct) ⟨us, []⟩ = pure (ps.zip us))
    (hbody : ∀ (f : Addr) (cdv : Value) (A : Around) (outer : List Env) (s : Shared) (H : Hp) (vs : List V) (Q : VK) (E : XK), Room k (A.deeper (envOfC qual (defScope st) s.heap.objs.size f cdv)) → sp vs H Q E →
      ∃ t, PSs (cxOf CX0 P w K mg base N qual (defScope st) f cdv A outer s H E).nox (defBody st) t ∧ t { nx := fun _ H' => Q .non H', rt := Q } (start N vs) H) : Cal P w K mg base x (k + 1) ps sp := by
  obtain ⟨f, fd, F, hm⟩ := D.ex
  exact ⟨f, fd, F.ok S len (hbody f), hm, F.kp, F.binds hb⟩
theorem pe_callC {X : Cx} {x : Str} {k : Nat} {ps : List Str} {sp : Sp} {p pos : Pos} {e : Expr} {es : List Expr} {t : TA} (c : Cal X.prog X.w X.K X.mg X.base x k ps sp) (hr : Room k X.A) (hg : Gl X x)
    (ha : PA X (e :: es) t) (hdb : (x == ("__debug__" : Str)) = false := by decide) (he : starEach (e :: es) X.env = (false, eval e X.env) :: starEach es X.env := by rfl) (hpl : (backTo pos (starEach es X.env)).any (·.1) = false := by rfl) :
    PE X (.Call (.Name x p) (e :: es) [] pos) (tCall sp [] E0 t) := by
  obtain ⟨f, fd, F, hm, hk, hb⟩ := c.ex
  exact pe_call F hr hg hm hk hb .nil pass0 ha hdb he hpl
end

/-! ### wider operators -/
section
variable {X : Cx}
/-- * of two ints, each of less than 2^20 and 187 bits -/
def CMulB (i j : Int) : Prop := Builtin.Int.intBits i + Builtin.Int.intBits j ≤ 10000000
theorem CMulB.ok {i j : Int} (h : CMulB i j) : IntMulOk i j := by
  have h3 : Builtin.Int.intBits i + Builtin.Int.intBits j ≤ 10000000 := h
  have e : bitsLine = 134217728 := by decide
  unfold IntMulOk
  intro z
  rw [Bool.and_eq_true] at z
  have z2 := z.2
  unfold Builtin.Int.intTooBig at z2
  have z3 := of_decide_eq_true z2
  rw [e] at z3
  omega
theorem op_mulB : OpR X (binaryOp .Mult) (rI CMulB fun i j => .int (i * j)) := opI fun _ _ _ _ _ _ _ hc q => mul_int q hc.ok
/-- an int is no bool -/
theorem op_notIB : OpR X (compareOp .IsNot) (fun x y H Q => ∃ i b, x = .int i ∧ y = .bl b ∧ Q (.bl true) H) := by
  intro pins s σ H x y v u Q I rx ry h
  obtain ⟨i, b, rfl, rfl, q⟩ := h
  obtain ⟨t, rfl⟩ := rx
  cases (show u = Value.bool b from ry)
  exact wpAny_isNot_other rfl (fun z => by cases z) ⟨.bl true, H, I, rfl, q⟩
end
end Tw

set_option Elab.async false
set_option linter.all false
set_option maxRecDepth 100000
set_option maxHeartbeats 4000000
namespace Tw
open PySem PySem.Spec PyProof.Rows L2
open Evl (Ex ex_l ex_t fresh_back sz_of sz_lt)

/-! ### operators whose reading is chosen by the values -/
section
variable {X : Cx}
def rAddA : R2 := fun x y H Q => rI0 (fun i j => .int (i + j)) x y H Q ∨ rCat x y H Q
theorem op_addA : OpR X (binaryOp .Add) rAddA := op_add.or op_cat
def CMulA (i j : Int) : Prop := CMul i j ∨ CMulB i j
theorem CMulA.ok {i j : Int} (h : CMulA i j) : IntMulOk i j := h.elim CMul.ok CMulB.ok
theorem op_mulI : OpR X (binaryOp .Mult) (rI CMulA fun i j => .int (i * j)) := opI fun _ _ _ _ _ _ _ hc q => mul_int q hc.ok
def rMulA : R2 := fun x y H Q => rI CMulA (fun i j => .int (i * j)) x y H Q ∨ rRep x y H Q
theorem op_mulA : OpR X (binaryOp .Mult) rMulA := op_mulI.or op_rep
def rSlA (K : PySem.W.Frag) : V → Option Int → Option Int → Hp → VK → Prop := fun x lo hi H Q => rSlL K x lo hi H Q ∨ rSlT K x lo hi H Q
theorem sl_A : SlR X (rSlA X.K) := sl_list.or sl_tup
def rNotA : R2 := fun x y H Q => (∃ i b, x = .int i ∧ y = .bl b ∧ Q (.bl true) H) ∨ rNotB x y H Q ∨ (y = .non ∧ Q (.bl (!decide (x = .non))) H)
theorem op_notA : OpR X (compareOp .IsNot) rNotA := op_notIB.or (op_notBl.or op_notN)
def rIsA : R2 := fun x y H Q => rIsB x y H Q ∨ (y = .non ∧ Q (.bl (decide (x = .non))) H)
theorem op_isA : OpR X (compareOp .Is) rIsA := op_isBl.or op_isN
def rEqA (K : PySem.W.Frag) : R2 := fun x y H Q => rEq x y H Q ∨ rEqD K x y H Q
theorem op_eqA (hu : X.A.units + 64 < cLine) : OpR X (compareOp .Eq) (rEqA X.K) := op_eq.or (op_eqD hu)
def rNeA (K : PySem.W.Frag) : R2 := fun x y H Q => rNe x y H Q ∨ rNeD K x y H Q
theorem op_neA (hu : X.A.units + 64 < cLine) : OpR X (compareOp .NotEq) (rNeA X.K) := op_ne.or (op_neD hu)
def rLenA (K : PySem.W.Frag) : List V → Hp → VK → Prop := fun xs H Q => ∃ p ys, xs = [.ref p] ∧ (SqL K H p ys ∨ SqT K H p ys) ∧ Q (.int ys.length) H
theorem call_lenA : CallR X (.builtin "len") (rLenA X.K) := call_len_seq
def rIntA : List V → Hp → VK → Prop := fun xs H Q => (∃ i, xs = [.int i] ∧ Q (.int i) H) ∨ ∃ k, xs = [.bl k] ∧ Q (.int (if k then 1 else 0)) H
theorem call_intA : CallR X (.type "int") rIntA := call_int1
def rListA (K : PySem.W.Frag) : List V → Hp → VK → Prop := fun xs H Q => ∃ p ys, xs = [.ref p] ∧ (SqL K H p ys ∨ SqT K H p ys) ∧ ∀ l, H l = none → Q (.ref l) (upd H l (.lst ys))
theorem call_listA : CallR X (.type "list") (rListA X.K) := call_list_of
def rMaxA : List V → Hp → VK → Prop := fun xs H Q => ∃ i j, xs = [.int i, .int j] ∧ Q (.int (if j > i then j else i)) H
theorem call_maxA (hc : X.calm = true) : CallR X (.builtin "max") rMaxA := call_max2 hc
def rMinA : List V → Hp → VK → Prop := fun xs H Q => ∃ i j, xs = [.int i, .int j] ∧ Q (.int (if j < i then j else i)) H
theorem call_minA (hc : X.calm = true) : CallR X (.builtin "min") rMinA := call_min2 hc
def rAbsA : List V → Hp → VK → Prop := fun xs H Q => ∃ i, xs = [.int i] ∧ Q (.int (if i < 0 then -i else i)) H
theorem call_absA : CallR X (.builtin "abs") rAbsA := call_abs
end

/-! the same, the written part named -/
section
variable {X : Cx} {K : PySem.W.Frag}
theorem ix_seqK (h : X.K = K) : IxR X (rIx K) := h ▸ ix_seq
theorem sl_AK (h : X.K = K) : SlR X (rSlA K) := h ▸ sl_A
theorem op_eqK (h : X.K = K) (hu : X.A.units + 64 < cLine) : OpR X (compareOp .Eq) (rEqA K) := h ▸ op_eqA hu
theorem op_neK (h : X.K = K) (hu : X.A.units + 64 < cLine) : OpR X (compareOp .NotEq) (rNeA K) := h ▸ op_neA hu
theorem op_inK (h : X.K = K) : OpR X (compareOp .In) (rIn K false) := h ▸ op_in_seq
theorem op_notInK (h : X.K = K) : OpR X (compareOp .NotIn) (rIn K true) := h ▸ op_notIn_seq
theorem call_lenK (h : X.K = K) : CallR X (.builtin "len") (rLenA K) := h ▸ call_lenA
theorem call_isiK' (h : X.K = K) : CallR X (.builtin "isinstance") (rIsi K) := h ▸ call_isi
theorem call_listK (h : X.K = K) : CallR X (.type "list") (rListA K) := h ▸ call_listA
theorem cr_sumK (h : X.K = K) (hc : X.calm = true) : CallR X (.builtin "sum") (rSum K) := h ▸ cr_sum hc
theorem cr_sortedK (h : X.K = K) : CallR X (.builtin "sorted") (rSortedI K) := h ▸ cr_sortedI
theorem pi_listK (h : X.K = K) {l tg : Expr} {tl : TE} (hl : PE X l tl) : PI X tg l (iList K tl) := h ▸ pi_list hl
theorem pi_tupK (h : X.K = K) {l tg : Expr} {tl : TE} (hl : PE X l tl) : PI X tg l (iTup K tl) := h ▸ pi_tup hl
theorem pe_bm0K (h : X.K = K) {T name id : String} {r : V → List V → Hp → VK → Prop} {o : Expr} {to : TE} {apos cpos : Pos} (pa : PlainAttrs T) (slot : Slot T name id) (hty : typeOf (.builtin id) = pure (.type "method_descriptor")) (hm : MtR X id r) (ho : PE X o to)
    (hbase : attributeBase o name X.env (eval o X.env) = eval o X.env := by rfl) (hline : (apos.endLine == cpos.line) = true := by rfl) : PE X (.Call (.Attribute o name apos) [] [] cpos) (tBM0 K T r to) := h ▸ pe_bm0 pa slot hty hm ho hbase hline
theorem pe_bmK (h : X.K = K) {T name id : String} {r : V → List V → Hp → VK → Prop} {o e : Expr} {es : List Expr} {to : TE} {t : TA} {apos cpos : Pos} (pa : PlainAttrs T) (slot : Slot T name id) (hty : typeOf (.builtin id) = pure (.type "method_descriptor")) (hm : MtR X id r) (ho : PE X o to) (ha : PA X (e :: es) t)
    (hbase : attributeBase o name X.env (eval o X.env) = eval o X.env := by rfl)
    (hfew : ((backTo cpos (starEach (e :: es) X.env)).all (fun x => !x.1) && (backToKw cpos (keywordEach [] X.env)).all (fun x => x.1.isSome)
      && decide ((e :: es).length + ([] : List Keyword).length + (if ([] : List Keyword).isEmpty then 0 else 1) < 30)) = true := by rfl)
    (hline : (apos.endLine == cpos.line) = true := by rfl) (hs : starEach (e :: es) X.env = (false, eval e X.env) :: starEach es X.env := by rfl) (hplain : (backTo cpos (starEach es X.env)).any (·.1) = false := by rfl) :
    PE X (.Call (.Attribute o name apos) (e :: es) [] cpos) (tBM K T r to t) := h ▸ pe_bm pa slot hty hm ho ha hbase hfew hline hs hplain
theorem pe_fldK (h : X.K = K) {e : Expr} {f : Str} {pos : Pos} {ta : TE} (he : PE X e ta) (hb : attributeBase e f X.env (eval e X.env) = eval e X.env) : PE X (.Attribute e f pos) (tFld K ta f) := h ▸ pe_fld he hb
end

/-! ### one step -/
section
variable {K : PySem.W.Frag} {σ : L2.St} {H H1 H2 : Hp} {D : Ends} {t u : TS} {te ta tb : TE} {tt tu : TT} {Q : VK} {B : Bool → Hp → Prop}
theorem w_seq (h : t { D with nx := u D } σ H) : tSeq t u D σ H := h
theorem w_asg {g : TG} (h : te σ H fun x H1 => g x σ H1 D.nx) : tAsg te g D σ H := h
theorem w_gName {i : Nat} {v : V} {R : L2.St → Hp → Prop} (h : R (σ.set i (some v)) H) : gName i v σ H R := h
theorem w_ret (h : te σ H D.rt) : tRet te D σ H := h
theorem w_retN (h : D.rt .non H) : tRetN D σ H := h
theorem w_drop (h : te σ H fun _ H1 => D.nx σ H1) : tDrop te D σ H := h
theorem w_ifS (h : tt σ H fun b H1 => if b = true then t D σ H1 else u D σ H1) : tIfS tt t u D σ H := h
theorem w_next (h : D.nx σ H) : tNext D σ H := h
theorem w_break (h : D.bk σ H) : tBreak D σ H := h
theorem w_cont (h : D.ct σ H) : tCont D σ H := h
theorem w_nx {f b c : L2.St → Hp → Prop} {r : VK} (h : f σ H) : Ends.nx ⟨f, r, b, c⟩ σ H := h
theorem w_ct {f b c : L2.St → Hp → Prop} {r : VK} (h : c σ H) : Ends.ct ⟨f, r, b, c⟩ σ H := h
theorem w_bk {f b c : L2.St → Hp → Prop} {r : VK} (h : b σ H) : Ends.bk ⟨f, r, b, c⟩ σ H := h
theorem w_rt {f b c : L2.St → Hp → Prop} {r : VK} {v : V} (h : r v H) : Ends.rt ⟨f, r, b, c⟩ v H := h
theorem w_var {i : Nat} {v : V} (e : σ[i]? = some (some v)) (h : Q v H) : tVar i σ H Q := ⟨v, e, h⟩
theorem w_c {v : V} (h : Q v H) : tC v σ H Q := h
theorem w_op {r : R2} (h : ta σ H fun x H1 => tb σ H1 fun y H2 => r x y H2 Q) : tOp r ta tb σ H Q := h
theorem w_un {r : V → Hp → VK → Prop} (h : ta σ H fun x H1 => r x H1 Q) : tUn r ta σ H Q := h
theorem w_I0 {g : Int → Int → V} {i j : Int} (h : Q (g i j) H) : rI0 g (.int i) (.int j) H Q := ⟨i, j, rfl, rfl, h⟩
theorem w_I {C : Int → Int → Prop} {g : Int → Int → V} {i j : Int} (c : C i j) (h : Q (g i j) H) : rI C g (.int i) (.int j) H Q := ⟨i, j, rfl, rfl, c, h⟩
theorem w_U {g : Int → V} {i : Int} (h : Q (g i) H) : rU g (.int i) H Q := ⟨i, rfl, h⟩
theorem w_addI {i j : Int} (h : Q (.int (i + j)) H) : rAddA (.int i) (.int j) H Q := Or.inl ⟨i, j, rfl, rfl, h⟩
theorem w_addL {l b : Addr} {xs zs : List V} (h1 : H l = some (.lst xs)) (h2 : H b = some (.lst zs)) (hz : xs.length + zs.length ≤ 1000000) (h : ∀ p, H p = none → Q (.ref p) (upd H p (.lst (xs ++ zs)))) : rAddA (.ref l) (.ref b) H Q :=
  Or.inr ⟨l, b, xs, zs, rfl, rfl, h1, h2, Nat.le_trans hz (by decide), h⟩
theorem w_mulI {i j : Int} (c : CMulA i j) (h : Q (.int (i * j)) H) : rMulA (.int i) (.int j) H Q := Or.inl ⟨i, j, rfl, rfl, c, h⟩
theorem w_mulL {l : Addr} {k : Int} {xs : List V} (h1 : H l = some (.lst xs)) (b1 : -1000000 ≤ k) (b2 : k ≤ 1000000) (hz : xs.length * k.toNat ≤ 1000000) (h : ∀ p, H p = none → Q (.ref p) (upd H p (.lst (List.replicate k.toNat xs).flatten))) : rMulA (.ref l) (.int k) H Q :=
  Or.inr ⟨l, k, xs, rfl, rfl, h1, by omega, by omega, Nat.le_trans hz (by decide), h⟩
theorem w_mulL1 {l : Addr} {k : Int} {v : V} (h1 : H l = some (.lst [v])) (b1 : -1000000 ≤ k) (b2 : k ≤ 1000000) (h : ∀ p, H p = none → Q (.ref p) (upd H p (.lst (List.replicate k.toNat v)))) : rMulA (.ref l) (.int k) H Q :=
  w_mulL h1 b1 b2 (by show 1 * _ ≤ _; omega) fun p hp => by
    have e : (List.replicate k.toNat [v]).flatten = List.replicate k.toNat v := List.flatten_replicate_singleton
    rw [e]; exact h p hp
theorem w_notIB {i : Int} {b : Bool} (h : Q (.bl true) H) : rNotA (.int i) (.bl b) H Q := Or.inl ⟨i, b, rfl, rfl, h⟩
theorem w_notBB {a b : Bool} (h : Q (.bl (!decide (a = b))) H) : rNotA (.bl a) (.bl b) H Q := Or.inr (Or.inl ⟨a, b, rfl, rfl, h⟩)
theorem w_notN {x : V} (h : Q (.bl (!decide (x = .non))) H) : rNotA x .non H Q := Or.inr (Or.inr ⟨rfl, h⟩)
theorem w_isBB {a b : Bool} (h : Q (.bl (decide (a = b))) H) : rIsA (.bl a) (.bl b) H Q := Or.inl ⟨a, b, rfl, rfl, h⟩
theorem w_isN {x : V} (h : Q (.bl (decide (x = .non))) H) : rIsA x .non H Q := Or.inr ⟨rfl, h⟩
theorem dec_i {i j : Int} : decide (V.int i = V.int j) = decide (i = j) := by simp
theorem dec_b {i j : Bool} : decide (V.bl i = V.bl j) = decide (i = j) := by simp
theorem dec_s {i j : Str} : decide (V.str i = V.str j) = decide (i = j) := by simp
theorem w_eqI {i j : Int} (h : Q (.bl (decide (i = j))) H) : rEqA K (.int i) (.int j) H Q := Or.inl ⟨rfl, by rw [dec_i]; exact h⟩
theorem w_neI {i j : Int} (h : Q (.bl (!decide (i = j))) H) : rNeA K (.int i) (.int j) H Q := Or.inl ⟨rfl, by rw [dec_i]; exact h⟩
theorem w_eqB {i j : Bool} (h : Q (.bl (decide (i = j))) H) : rEqA K (.bl i) (.bl j) H Q := Or.inl ⟨rfl, by rw [dec_b]; exact h⟩
theorem w_neB {i j : Bool} (h : Q (.bl (!decide (i = j))) H) : rNeA K (.bl i) (.bl j) H Q := Or.inl ⟨rfl, by rw [dec_b]; exact h⟩
theorem w_eqS {i j : Str} (h : Q (.bl (decide (i = j))) H) : rEqA K (.str i) (.str j) H Q := Or.inl ⟨rfl, by rw [dec_s]; exact h⟩
theorem w_neS {i j : Str} (h : Q (.bl (!decide (i = j))) H) : rNeA K (.str i) (.str j) H Q := Or.inl ⟨rfl, by rw [dec_s]; exact h⟩
theorem w_eqD {x y : V} {d e : PyData} (h1 : Dp K H x d) (h2 : Dp K H y e) (s1 : SeqAt.shaped d = true) (s2 : SeqAt.shaped e = true) (h : Q (.bl (PyData.eqv d e)) H) : rEqA K x y H Q := Or.inr ⟨d, e, h1, h2, s1, s2, h⟩
theorem w_neD {x y : V} {d e : PyData} (h1 : Dp K H x d) (h2 : Dp K H y e) (s1 : SeqAt.shaped d = true) (s2 : SeqAt.shaped e = true) (h : Q (.bl (!PyData.eqv d e)) H) : rNeA K x y H Q := Or.inr ⟨d, e, h1, h2, s1, s2, h⟩
theorem w_test (h : te σ H fun x H1 => ∃ k, x = .bl k ∧ B k H1) : tTest te σ H B := h
theorem w_B (h : te σ H fun x H1 => ∃ k, x = .bl k ∧ B k H1) : tB te σ H B := h
theorem w_exB {b : Bool} (h : B b H) : ∃ k, V.bl b = .bl k ∧ B k H := ⟨b, rfl, h⟩
theorem w_and (h : tt σ H fun c H1 => if c = true then tu σ H1 B else B false H1) : tAnd tt tu σ H B := h
theorem w_or (h : tt σ H fun c H1 => if c = true then B true H1 else tu σ H1 B) : tOr tt tu σ H B := h
theorem w_not (h : tt σ H fun c H1 => B (!c) H1) : tNot tt σ H B := h
theorem w_andV (h : ta σ H fun x H1 => ∃ c, x = .bl c ∧ if c = true then tb σ H1 Q else Q (.bl false) H1) : tAndV ta tb σ H Q := h
theorem w_orV (h : ta σ H fun x H1 => ∃ c, x = .bl c ∧ if c = true then Q (.bl true) H1 else tb σ H1 Q) : tOrV ta tb σ H Q := h
theorem w_notV (h : ta σ H fun x H1 => ∃ c, x = .bl c ∧ Q (.bl (!c)) H1) : tNotV ta σ H Q := h
theorem w_bl {b : Bool} {F : Bool → Prop} (h : F b) : ∃ c, V.bl b = .bl c ∧ F c := ⟨b, rfl, h⟩
theorem w_if (h : tt σ H fun c H1 => if c = true then ta σ H1 Q else tb σ H1 Q) : tIf tt ta tb σ H Q := h
theorem w_nil {F : List V → Hp → Prop} (h : F [] H) : tNil σ H F := h
theorem w_cons {tr : TA} {F : List V → Hp → Prop} (h : ta σ H fun x H1 => tr σ H1 fun xs H2 => F (x :: xs) H2) : tCons ta tr σ H F := h
theorem w_cb {r : List V → Hp → VK → Prop} {a : TA} (h : a σ H fun vs H1 => r vs H1 Q) : tCB r a σ H Q := h
theorem w_call {sp : Sp} {dvs : List V} {E : XK} {a : TA} (h : a σ H fun vs H1 => sp (vs ++ dvs) H1 Q E) : tCall sp dvs E a σ H Q := h
theorem w_tup {a : TA} (h : a σ H fun xs H1 => xs.length ≤ sizeLine ∧ ∀ p, H1 p = none → Q (.ref p) (upd H1 p (.tup xs))) : tTup a σ H Q := h
theorem w_lst {a : TA} (h : a σ H fun xs H1 => xs.length ≤ sizeLine ∧ ∀ p, H1 p = none → Q (.ref p) (upd H1 p (.lst xs))) : tLst a σ H Q := h
theorem w_fin {n : Nat} {F : Prop} (hz : n ≤ 1000) (h : F) : n ≤ sizeLine ∧ F := ⟨Nat.le_trans hz (by decide), h⟩
theorem w_len {p : Addr} {ys : List V} (s : SqL K H p ys) (h : Q (.int ys.length) H) : rLenA K [.ref p] H Q := ⟨p, ys, rfl, .inl s, h⟩
theorem w_lenT {p : Addr} {ys : List V} (s : SqT K H p ys) (h : Q (.int ys.length) H) : rLenA K [.ref p] H Q := ⟨p, ys, rfl, .inr s, h⟩
theorem w_intI {i : Int} (h : Q (.int i) H) : rIntA [.int i] H Q := .inl ⟨i, rfl, h⟩
theorem w_intB {b : Bool} (h : Q (.int (if b then 1 else 0)) H) : rIntA [.bl b] H Q := .inr ⟨b, rfl, h⟩
theorem w_list {p : Addr} {ys : List V} (s : SqL K H p ys) (h : ∀ l, H l = none → Q (.ref l) (upd H l (.lst ys))) : rListA K [.ref p] H Q := ⟨p, ys, rfl, .inl s, h⟩
theorem w_max {i j : Int} (h : Q (.int (if j > i then j else i)) H) : rMaxA [.int i, .int j] H Q := ⟨i, j, rfl, h⟩
theorem w_min {i j : Int} (h : Q (.int (if j < i then j else i)) H) : rMinA [.int i, .int j] H Q := ⟨i, j, rfl, h⟩
theorem w_abs {i : Int} (h : Q (.int (if i < 0 then -i else i)) H) : rAbsA [.int i] H Q := ⟨i, rfl, h⟩
theorem w_sl {r : V → Option Int → Option Int → Hp → VK → Prop} {tl th : TO} (h : te σ H fun x H1 => tl σ H1 fun l H2 => th σ H2 fun u H3 => r x l u H3 Q) : tSl r te tl th σ H Q := h
theorem w_noPart {F : Option Int → Hp → Prop} (h : F none H) : tNoPart σ H F := h
theorem w_part {F : Option Int → Hp → Prop} (h : te σ H fun x H1 => ∃ i, x = .int i ∧ F (some i) H1) : tPart te σ H F := h
theorem w_exI {i : Int} {F : Int → Prop} (h : F i) : ∃ j, V.int i = .int j ∧ F j := ⟨i, rfl, h⟩
theorem w_slL {a : Addr} {xs : List V} {lo hi : Option Int} (s : SqL K H a xs) (h : ∀ p, H p = none → Q (.ref p) (upd H p (.lst (cutV xs lo hi)))) : rSlA K (.ref a) lo hi H Q := Or.inl ⟨a, xs, rfl, s, h⟩
theorem w_ixL {p : Addr} {xs : List V} {i : Int} {v : V} (s : SqL K H p xs) (e : atI xs i = some v) (h : Q v H) : rIx K (.ref p) (.int i) H Q := .inl ⟨p, xs, i, v, rfl, rfl, s, e, h⟩
theorem w_ixT {p : Addr} {xs : List V} {i : Int} {v : V} (s : SqT K H p xs) (e : atI xs i = some v) (h : Q v H) : rIx K (.ref p) (.int i) H Q := .inr (.inl ⟨p, xs, i, v, rfl, rfl, s, e, h⟩)
theorem w_gSub {to ti : TE} {s : TSet} {v : V} {R : L2.St → Hp → Prop} (h : to σ H fun o H1 => ti σ H1 fun i H2 => s o i v H2 fun H3 => R σ H3) : gSub to ti s v σ H R := h
theorem w_setL {l : Addr} {xs : List V} {k : Int} {j : Nat} {v : V} {F : Hp → Prop} (e : H l = some (.lst xs)) (b : ixN xs.length k = some j) (h : F (upd H l (.lst (xs.set j v)))) : rSetL (.ref l) (.int k) v H F := ⟨l, xs, k, j, rfl, rfl, e, b, h⟩
theorem w_bm {T : String} {r : V → List V → Hp → VK → Prop} {to : TE} {a : TA} (h : to σ H fun x H1 => tyV K T x H1 ∧ a σ H1 fun xs H2 => r x xs H2 Q) : tBM K T r to a σ H Q := h
theorem w_bm0 {T : String} {r : V → List V → Hp → VK → Prop} {to : TE} (h : to σ H fun x H1 => tyV K T x H1 ∧ r x [] H1 Q) : tBM0 K T r to σ H Q := h
theorem w_tyL {l : Addr} {xs : List V} {F : Prop} (e : SqL K H l xs) (h : F) : tyV K "list" (.ref l) H ∧ F := ⟨.inl ⟨rfl, xs, e⟩, h⟩
theorem w_app {l : Addr} {xs : List V} {v : V} (e : H l = some (.lst xs)) (hz : xs.length < 1000000) (h : Q .non (upd H l (.lst (xs ++ [v])))) : rAppend (.ref l) [v] H Q := ⟨l, xs, v, rfl, rfl, e, Nat.lt_of_lt_of_le hz (by decide), h⟩
theorem w_ite {p A C : Prop} [Decidable p] (h1 : p → A) (h2 : ¬ p → C) : if decide p = true then A else C := by
  by_cases h : p
  · rw [if_pos (decide_eq_true h)]; exact h1 h
  · rw [if_neg (by rw [decide_eq_false h]; decide)]; exact h2 h
theorem w_iteN {p A C : Prop} [Decidable p] (h1 : ¬ p → A) (h2 : p → C) : if (!decide p) = true then A else C := by
  by_cases h : p
  · rw [if_neg (by rw [decide_eq_true h]; decide)]; exact h2 h
  · rw [if_pos (by rw [decide_eq_false h]; rfl)]; exact h1 h
theorem w_iteB {b : Bool} {A C : Prop} (h1 : b = true → A) (h2 : b = false → C) : if b = true then A else C := by
  cases b with
  | true => rw [if_pos rfl]; exact h1 rfl
  | false => rw [if_neg (by decide)]; exact h2 rfl
theorem w_iteT {A C : Prop} (h : A) : if true = true then A else C := by rw [if_pos rfl]; exact h
theorem w_iteF {A C : Prop} (h : C) : if false = true then A else C := by rw [if_neg (by decide)]; exact h
theorem w_iteNT {A C : Prop} (h : C) : if (!true) = true then A else C := by rw [if_neg (by decide)]; exact h
theorem w_iteNF {A C : Prop} (h : A) : if (!false) = true then A else C := by rw [if_pos (by decide)]; exact h
theorem w_pos {p A C : Prop} [Decidable p] (hp : p) (h : A) : if decide p = true then A else C := w_ite (fun _ => h) fun n => absurd hp n
theorem w_neg {p A C : Prop} [Decidable p] (hp : ¬ p) (h : C) : if decide p = true then A else C := w_ite (fun y => absurd y hp) fun _ => h
theorem w_posN {p A C : Prop} [Decidable p] (hp : ¬ p) (h : A) : if (!decide p) = true then A else C := w_iteN (fun _ => h) fun n => absurd n hp
theorem w_negN {p A C : Prop} [Decidable p] (hp : p) (h : C) : if (!decide p) = true then A else C := w_iteN (fun y => absurd hp y) fun _ => h
end

/-! ### facts of the heap -/
theorem hp_ne {H : Hp} {p l : Addr} {o u : HO} (h : p ≠ l) (e : H p = some o) : upd H l u p = some o := by rw [upd_ne h]; exact e
theorem hp_ex {H H' : Hp} {p : Addr} {o : HO} (x : Ex H H') (e : H p = some o) : H' p = some o := x p o e
theorem ex_new {H0 H : Hp} {p : Addr} {o : HO} (n : H p = none) (e : Ex H0 H) : Ex H0 (upd H p o) := e.trans (Ex.new n)
theorem none_ne {H : Hp} {p l : Addr} {u : HO} (h : p ≠ l) (e : H p = none) : upd H l u p = none := by rw [upd_ne h]; exact e
theorem none_of {H : Hp} {p l : Addr} {u : HO} (e : upd H l u p = none) : H p = none := by
  by_cases h : p = l
  · subst h; rw [upd_same] at e; cases e
  · rw [upd_ne h] at e; exact e
theorem ne_of_upd {H : Hp} {p l : Addr} {u : HO} (e : upd H l u p = none) : p ≠ l := by
  intro h; subst h; rw [upd_same] at e; cases e

/-! ### kinds; comprehensions of plain values -/
section
variable {K : PySem.W.Frag} {σ : L2.St} {H : Hp} {Q : VK} {t : TT} {te : TE}
theorem kit_int_int : kitB "int" "int" = some true := by decide +kernel
theorem kit_list_list : kitB "list" "list" = some true := by decide +kernel
theorem kit_tuple_tuple : kitB "tuple" "tuple" = some true := by decide +kernel
theorem w_isiI {i : Int} (h : Q (.bl true) H) : rIsi K [.int i, .ty "int"] H Q := ⟨_, _, _, _, _, rfl, .ty "int", .base (.int i), kit_ty kit_int_int, h⟩
theorem tyx_l {p : Addr} {xs : List V} (e : H p = some (.lst xs)) : TyX K H (.ref p) (.type "list") := .base (.lst e)
theorem tyx_t {p : Addr} {xs : List V} (e : H p = some (.tup xs)) : TyX K H (.ref p) (.type "tuple") := .base (.tup e)
theorem w_isiL {p : Addr} (e : TyX K H (.ref p) (.type "list")) (h : Q (.bl true) H) : rIsi K [.ref p, .ty "list"] H Q := ⟨_, _, _, _, _, rfl, .ty "list", e, kit_ty kit_list_list, h⟩
theorem w_isiT {p : Addr} (e : TyX K H (.ref p) (.type "tuple")) (h : Q (.bl true) H) : rIsi K [.ref p, .ty "tuple"] H Q := ⟨_, _, _, _, _, rfl, .ty "tuple", e, kit_ty kit_tuple_tuple, h⟩
theorem w_lcR1 {ta : TA} {j : Nat} {vs : List Nat} {n : Int} (f : Nat → Bool) (v : Nat → V) (h : Evl.EvA ta σ H [.int n]) (hn : 0 ≤ n ∧ n ≤ 40000) (hw : ∀ x, wipe ((wipe σ vs).set j (some x)) vs = wipe σ vs)
    (ht : ∀ (i : Nat) H1, Ex H H1 → (i : Int) < n → Evl.EvT t ((wipe σ vs).set j (some (.int (i : Int)))) H1 (f i)) (he : ∀ (i : Nat) H1, Ex H H1 → (i : Int) < n → f i = true → Evl.Ev te ((wipe σ vs).set j (some (.int (i : Int)))) H1 (v i))
    (k : ∀ p H2, H p = none → Ex H H2 → H2 p = some (.lst (Evl.given n.toNat f v)) → Q (.ref p) H2) : tLc (iRng1 ta) (gName j) t te vs σ H Q :=
  Evl.el_lcR1 f v h hn hw ht he H (Evl.Ex.refl H) Q k
theorem w_lcL {a : Addr} {xs : List V} {tl : TE} {j : Nat} {vs : List Nat} (f : Nat → Bool) (v : Nat → V) (h : Evl.Ev tl σ H (.ref a)) (hx : SqL K H a xs) (hz : xs.length ≤ 40000) (hw : ∀ x, wipe ((wipe σ vs).set j (some x)) vs = wipe σ vs)
    (ht : ∀ (i : Nat) (x : V) H1, Ex H H1 → xs[i]? = some x → Evl.EvT t ((wipe σ vs).set j (some x)) H1 (f i)) (he : ∀ (i : Nat) (x : V) H1, Ex H H1 → xs[i]? = some x → f i = true → Evl.Ev te ((wipe σ vs).set j (some x)) H1 (v i))
    (k : ∀ p H2, H p = none → Ex H H2 → H2 p = some (.lst (Evl.given xs.length f v)) → Q (.ref p) H2) : tLc (iList K tl) (gName j) t te vs σ H Q :=
  Evl.el_lcL f v h hx hz hw ht he H (Evl.Ex.refl H) Q k
theorem given_all (n : Nat) (v : Nat → V) : Evl.given n (fun _ => true) v = (List.range n).map v := by
  unfold Evl.given
  rw [List.filter_eq_self.mpr (by simp)]
theorem given_none (n : Nat) (v : Nat → V) : Evl.given n (fun _ => false) v = [] := by
  unfold Evl.given
  rw [List.filter_eq_nil_iff.mpr (by simp)]
  rfl
theorem at_map {xs : List Int} {i : Nat} (h : i < xs.length) : atI (xs.map V.int) (i : Int) = some (.int xs[i]) := atI_nat (by rw [List.getElem?_map, List.getElem?_eq_getElem h]; rfl)
end

/-! ### in a list of ints -/
section
variable {K : PySem.W.Frag} {H : Hp} {Q : VK}
theorem inV_ints (a : Int) (l : List Int) : inV (.int a) (l.map V.int) = decide (a ∈ l) := by
  unfold inV
  rw [List.any_map]
  induction l with
  | nil => rfl
  | cons b r ih =>
    rw [List.any_cons, ih]
    show ((b == a) || _) = _
    by_cases h : b = a
    · subst h; simp
    · have h' : ¬ a = b := fun e => h e.symm
      simp [h, h']
theorem flat_ints (l : List Int) : (l.map V.int).all flatV = true := by
  rw [List.all_map]
  exact List.all_eq_true.mpr fun _ _ => rfl
theorem w_notInL {p : Addr} {a : Int} {l : List Int} (s : SqL K H p (l.map V.int)) (h : Q (.bl (!decide (a ∈ l))) H) : rIn K true (.int a) (.ref p) H Q :=
  ⟨p, l.map V.int, rfl, .inl s, rfl, flat_ints l, by rw [inV_ints]; exact h⟩
theorem w_inL {p : Addr} {a : Int} {l : List Int} (s : SqL K H p (l.map V.int)) (h : Q (.bl (decide (a ∈ l))) H) : rIn K false (.int a) (.ref p) H Q :=
  ⟨p, l.map V.int, rfl, .inl s, rfl, flat_ints l, by rw [inV_ints]; exact h⟩
end

/-! ### lists of ints, by their cells -/
section
variable {K : PySem.W.Frag} {H : Hp} {Q : VK}
theorem at_mapD {xs : List Int} {i : Nat} (h : i < xs.length) : atI (xs.map V.int) (i : Int) = some (.int (xs.getD i 0)) := by
  rw [at_map h, List.getD_eq_getElem?_getD, List.getElem?_eq_getElem h]; rfl
theorem ixn_map {xs : List Int} {i : Nat} (h : i < xs.length) : ixN (xs.map V.int).length (i : Int) = some i := Evl.ixN_nat (by rw [List.length_map]; exact h)
theorem map_set (xs : List Int) (i : Nat) (v : Int) : (xs.map V.int).set i (.int v) = (xs.set i v).map V.int := by rw [List.map_set]
theorem w_setLI {l : Addr} {xs : List Int} {j : Nat} {v : Int} {F : Hp → Prop} (e : H l = some (.lst (xs.map V.int))) (b : j < xs.length) (h : F (upd H l (.lst ((xs.set j v).map V.int)))) : rSetL (.ref l) (.int (j : Int)) (.int v) H F :=
  w_setL e (ixn_map b) (by rw [map_set]; exact h)
theorem w_ixLI {p : Addr} {xs : List Int} {j : Nat} (s : SqL K H p (xs.map V.int)) (b : j < xs.length) (h : Q (.int (xs.getD j 0)) H) : rIx K (.ref p) (.int (j : Int)) H Q := w_ixL s (at_mapD b) h
theorem getD_set {xs : List Int} {i j : Nat} {v : Int} (hi : i < xs.length) : (xs.set i v).getD j 0 = if j = i then v else xs.getD j 0 := by
  rw [List.getD_eq_getElem?_getD, List.getElem?_set]
  by_cases h : i = j
  · subst h; simp [hi]
  · have h' : ¬ j = i := fun e => h e.symm
    simp [h, h', List.getD_eq_getElem?_getD]
end

/-- places as ints -/
def asI (js : List Nat) : List Int := js.map fun n : Nat => (n : Int)
theorem asI_len (js : List Nat) : (asI js).length = js.length := List.length_map ..
theorem asI_mem {js : List Nat} {j : Nat} : (j : Int) ∈ asI js ↔ j ∈ js := by
  unfold asI
  rw [List.mem_map]
  constructor
  · rintro ⟨n, hn, e⟩
    have : n = j := by omega
    exact this ▸ hn
  · exact fun h => ⟨j, h, rfl⟩
theorem asI_get {js : List Nat} {i : Nat} {x : V} (h : ((asI js).map V.int)[i]? = some x) : ∃ j, js[i]? = some j ∧ x = .int (j : Int) := by
  unfold asI at h
  rw [List.getElem?_map, List.getElem?_map] at h
  cases e : js[i]? with
  | none => rw [e] at h; cases h
  | some j => rw [e] at h; exact ⟨j, rfl, (Option.some.inj h).symm⟩
theorem asI_snoc (js : List Nat) (j : Nat) : (asI js).map V.int ++ [V.int (j : Int)] = (asI (js ++ [j])).map V.int := by
  unfold asI
  rw [List.map_append, List.map_append]; rfl

theorem asI_sum (js : List Nat) : (asI js).sum = ((js.sum : Nat) : Int) := by
  induction js with
  | nil => rfl
  | cons j r ih =>
    show ((j : Int) :: asI r).sum = _
    rw [List.sum_cons, ih, List.sum_cons]
    omega
section
variable {K : PySem.W.Frag} {σ : L2.St} {H : Hp} {Q : VK}
theorem w_sum {p : Addr} {ns : List Int} (s : SqL K H p (ns.map V.int)) (h : Q (.int ns.sum) H) : rSum K [.ref p] H Q := ⟨p, ns, rfl, s, h⟩
theorem w_pop {l : Addr} {xs : List V} {y : V} (e : H l = some (.lst xs)) (g : xs[xs.length - 1]? = some y) (h : Q y (upd H l (.lst xs.dropLast))) : rPop (.ref l) [] H Q := ⟨l, xs, y, rfl, rfl, e, g, h⟩
end

section
variable {H H' : Hp}
/-- the heap without one address -/
def del (H : Hp) (l : Addr) : Hp := fun b => if b = l then none else H b
theorem del_same {l : Addr} : del H l l = none := by unfold del; rw [if_pos rfl]
theorem del_ne {l b : Addr} (h : b ≠ l) : del H l b = H b := by unfold del; rw [if_neg h]
theorem del_ex {l : Addr} : Ex (del H l) H := fun a o e => by
  by_cases h : a = l
  · subst h; rw [del_same] at e; cases e
  · rw [del_ne h] at e; exact e
theorem del_mono {l : Addr} (x : Ex H H') : Ex (del H l) (del H' l) := fun a o e => by
  by_cases h : a = l
  · subst h; rw [del_same] at e; cases e
  · rw [del_ne h] at e ⊢; exact x a o e
theorem del_upd {l : Addr} {o : HO} : del (upd H l o) l = del H l := by
  funext b
  by_cases h : b = l
  · subst h; rw [del_same, del_same]
  · rw [del_ne h, del_ne h, upd_ne h]
theorem ex_del {l : Addr} (h : H l = none) : Ex H (del H l) := fun a o e => by
  rw [del_ne (ne_of_none e h)]; exact e
theorem del_put {l : Addr} {o : HO} : Ex (del H l) (upd H l o) := Evl.Ex.mut del_ex del_same
end

/-! ### loops -/
section
variable {K : PySem.W.Frag} {σ : L2.St} {H : Hp} {Q : VK} {D : Ends} {g : TG} {tb : TS} {tl : TE} {ta : TA} {wi : TI} {tt : TT} {te : TE} {vs : List Nat}
def LoopJ (J : It) (g : TG) (tb : TS) (D : Ends) (σ : L2.St) (H1 : Hp) : Prop := ∃ W : Nat → Nat → L2.St → Hp → Prop, (∃ m, W 0 m σ H1) ∧ ∀ i m σ H, W i m σ H →
  (J.stop i H ∧ D.nx σ H) ∨ (J.go i H ∧ ∃ N : L2.St → Hp → Prop, (∀ σ' H', N σ' H' → ∃ m', m' < m ∧ W (i + 1) m' σ' H') ∧ ∀ x H', J.yld i H x H' → g x σ H' fun σ2 H2 => tb { D with nx := N, ct := N, bk := D.nx } σ2 H2)
theorem w_for (h : wi σ H fun J H1 => LoopJ J g tb D σ H1) : tFor wi g tb D σ H := h
def LcJ (J : It) (g : TG) (tt : TT) (te : TE) (vs : List Nat) (σ : L2.St) (H1 : Hp) (Q : VK) : Prop := ∀ D, H1 D = none → ∃ W : Nat → Nat → Hp → Prop, (∃ m, W 0 m (upd H1 D (.lst []))) ∧ ∀ i m H, W i m H →
  (J.stop i H ∧ Q (.ref D) H) ∨ (J.go i H ∧ ∃ Nx : Hp → Prop, (∀ H', Nx H' → ∃ m', m' < m ∧ W (i + 1) m' H') ∧ ∀ x H', J.yld i H x H' → g x (wipe σ vs) H' fun σ2 H2 => wipe σ2 vs = wipe σ vs ∧ tt σ2 H2 fun b H3 =>
    if b = true then te σ2 H3 fun y H4 => ∃ acc, H4 D = some (.lst acc) ∧ acc.length < sizeLine ∧ Nx (upd H4 D (.lst (acc ++ [y]))) else Nx H3)
theorem w_lc (h : wi σ H fun J H1 => LcJ J g tt te vs σ H1 Q) : tLc wi g tt te vs σ H Q := h
theorem w_iList {R : It → Hp → Prop} (h : tl σ H fun x H1 => ∃ a, x = .ref a ∧ (∃ xs, SqL K H1 a xs) ∧ R (Itl K a) H1) : iList K tl σ H R := h
theorem w_exL {F : Addr → Prop} {a : Addr} {xs : List V} (s : SqL K H a xs) (h : F a) : ∃ b, V.ref a = .ref b ∧ (∃ xs, SqL K H b xs) ∧ F b := ⟨a, rfl, ⟨xs, s⟩, h⟩
theorem w_iTup {R : It → Hp → Prop} (h : tl σ H fun x H1 => ∃ a, x = .ref a ∧ (∃ xs, SqT K H1 a xs) ∧ R (Itt K a) H1) : iTup K tl σ H R := h
theorem w_exT {F : Addr → Prop} {a : Addr} {xs : List V} (s : SqT K H a xs) (h : F a) : ∃ b, V.ref a = .ref b ∧ (∃ xs, SqT K H b xs) ∧ F b := ⟨a, rfl, ⟨xs, s⟩, h⟩
theorem w_iRng1 {R : It → Hp → Prop} (h : ta σ H fun vs H1 => ∃ j : Int, vs = [.int j] ∧ -(2 ^ 62) ≤ j ∧ j < 2 ^ 62 ∧ R (Itr 0 j.toNat) H1) : iRng1 ta σ H R := h
theorem w_exR1 {F : Int → Prop} {j : Int} (b : -1000000000 ≤ j ∧ j ≤ 1000000000) (h : F j) : ∃ i : Int, [V.int j] = [.int i] ∧ -(2 ^ 62) ≤ i ∧ i < 2 ^ 62 ∧ F i := ⟨j, rfl, by omega, by omega, h⟩
theorem w_iRng2 {R : It → Hp → Prop} (h : ta σ H fun vs H1 => ∃ i j : Int, vs = [.int i, .int j] ∧ (-(2 ^ 62) ≤ i ∧ i < 2 ^ 62 ∧ -(2 ^ 62) ≤ j ∧ j < 2 ^ 62) ∧ R (Itr i (j - i).toNat) H1) : iRng2 ta σ H R := h
theorem w_exR2 {F : Int → Int → Prop} {i j : Int} (b : -1000000000 ≤ i ∧ i ≤ 1000000000 ∧ -1000000000 ≤ j ∧ j ≤ 1000000000) (h : F i j) : ∃ i' j' : Int, [V.int i, V.int j] = [.int i', .int j'] ∧ (-(2 ^ 62) ≤ i' ∧ i' < 2 ^ 62 ∧ -(2 ^ 62) ≤ j' ∧ j' < 2 ^ 62) ∧ F i' j' := ⟨i, j, rfl, ⟨by omega, by omega, by omega, by omega⟩, h⟩
theorem loopL {a : Addr} {xs : List V} (Pv : Nat → L2.St → Hp → Prop) (h0 : Pv 0 σ H) (hl : ∀ i σ H, i ≤ xs.length → Pv i σ H → SqL K H a xs)
    (hs : ∀ i x σ H, xs[i]? = some x → Pv i σ H → g x σ H fun σ2 H2 => tb { D with nx := Pv (i + 1), ct := Pv (i + 1), bk := D.nx } σ2 H2) (hd : ∀ σ H, Pv xs.length σ H → D.nx σ H) : LoopJ (Itl K a) g tb D σ H := for_list Pv h0 hl hs hd
theorem loopT {a : Addr} {xs : List V} (Pv : Nat → L2.St → Hp → Prop) (h0 : Pv 0 σ H) (hl : ∀ i σ H, i ≤ xs.length → Pv i σ H → SqT K H a xs)
    (hs : ∀ i x σ H, xs[i]? = some x → Pv i σ H → g x σ H fun σ2 H2 => tb { D with nx := Pv (i + 1), ct := Pv (i + 1), bk := D.nx } σ2 H2) (hd : ∀ σ H, Pv xs.length σ H → D.nx σ H) : LoopJ (Itt K a) g tb D σ H := for_tup Pv h0 hl hs hd
theorem loopR {lo : Int} {n : Nat} (Pv : Nat → L2.St → Hp → Prop) (h0 : Pv 0 σ H)
    (hs : ∀ i σ H, i < n → Pv i σ H → g (.int (lo + i)) σ H fun σ2 H2 => tb { D with nx := Pv (i + 1), ct := Pv (i + 1), bk := D.nx } σ2 H2) (hd : ∀ σ H, Pv n σ H → D.nx σ H) : LoopJ (Itr lo n) g tb D σ H := for_range Pv h0 hs hd
theorem lcjR {lo : Int} {n : Nat} (Pv : Addr → Nat → Hp → Prop) (h0 : ∀ D, H D = none → Pv D 0 (upd H D (.lst [])))
    (hs : ∀ D i H', H D = none → i < n → Pv D i H' → g (.int (lo + i)) (wipe σ vs) H' fun σ2 H2 => wipe σ2 vs = wipe σ vs ∧ tt σ2 H2 fun b H3 =>
      if b = true then te σ2 H3 fun y H4 => ∃ acc, H4 D = some (.lst acc) ∧ acc.length < sizeLine ∧ Pv D (i + 1) (upd H4 D (.lst (acc ++ [y]))) else Pv D (i + 1) H3) (hd : ∀ D H', H D = none → Pv D n H' → Q (.ref D) H') : LcJ (Itr lo n) g tt te vs σ H Q := fun D hD => lc_range (Pv D) (h0 D hD) (fun i H' hi p => hs D i H' hD hi p) fun H' p => hd D H' hD p
theorem lcjL {a : Addr} {xs : List V} (Pv : Addr → Nat → Hp → Prop) (h0 : ∀ D, H D = none → Pv D 0 (upd H D (.lst []))) (hl : ∀ D i H', i ≤ xs.length → Pv D i H' → SqL K H' a xs)
    (hs : ∀ D i x H', H D = none → xs[i]? = some x → Pv D i H' → g x (wipe σ vs) H' fun σ2 H2 => wipe σ2 vs = wipe σ vs ∧ tt σ2 H2 fun b H3 =>
      if b = true then te σ2 H3 fun y H4 => ∃ acc, H4 D = some (.lst acc) ∧ acc.length < sizeLine ∧ Pv D (i + 1) (upd H4 D (.lst (acc ++ [y]))) else Pv D (i + 1) H3) (hd : ∀ D H', H D = none → Pv D xs.length H' → Q (.ref D) H') : LcJ (Itl K a) g tt te vs σ H Q := fun D hD => lc_list (Pv D) (h0 D hD) (hl D) (fun i x H' hi p => hs D i x H' hD hi p) fun H' p => hd D H' hD p
theorem w_yes {B : Bool → Hp → Prop} (h : B true H) : tYes σ H B := h
/-- a comprehension whose items lie in the heap: R what is true of the i-th item -/
theorem lcjRM {lo : Int} {n j : Nat} (R : Nat → V → Hp → Prop) (mono : ∀ i v H H', Ex H H' → R i v H → R i v H')
    (hs : ∀ D i H' acc, H D = none → H' D = some (.lst acc) → Ex H H' → i < n → ∀ Q' : VK, (∀ v H4, Ex H' H4 → R i v (del H4 D) → Q' v H4) → te ((wipe σ vs).set j (some (.int (lo + (i : Int))))) H' Q')
    (hw : ∀ x, wipe ((wipe σ vs).set j (some x)) vs = wipe σ vs) (hn : n ≤ 100000)
    (hd : ∀ D H' ys, H D = none → Ex H H' → H' D = some (.lst ys) → ys.length = n → (∀ i v, ys[i]? = some v → R i v (del H' D)) → Q (.ref D) H') : LcJ (Itr lo n) (gName j) tYes te vs σ H Q := by
  refine lcjR (fun D i H' => Ex H H' ∧ ∃ ys, H' D = some (.lst ys) ∧ ys.length = i ∧ ∀ k v, ys[k]? = some v → R k v (del H' D)) (fun D hD => ⟨Evl.Ex.new hD, [], upd_same, rfl, fun k v e => by simp at e⟩) ?_ (fun D H' hD ⟨e, ys, h1, h2, h3⟩ => hd D H' ys hD e h1 h2 h3)
  rintro D i H' hD hi ⟨e, ys, h1, h2, h3⟩
  refine ⟨hw _, ?_⟩
  refine w_yes ?_
  refine w_iteT ?_
  refine hs D i H' ys hD h1 e hi _ fun v H4 e4 r => ⟨ys, e4 _ _ h1, Nat.lt_of_le_of_lt (by omega : ys.length ≤ 100000) (by decide), Evl.Ex.mut (e.trans e4) hD, ys ++ [v], upd_same, by rw [List.length_append, h2]; rfl, fun k u ek => ?_⟩
  rw [del_upd]
  by_cases hk : k < ys.length
  · rw [List.getElem?_append_left hk] at ek
    exact mono _ _ _ _ (del_mono e4) (h3 k u ek)
  · rw [List.getElem?_append_right (by omega)] at ek
    cases h9 : k - ys.length with
    | zero =>
      rw [h9] at ek
      cases ek
      have : k = i := by omega
      rw [this]; exact r
    | succ m => rw [h9] at ek; simp at ek
theorem lcjLM {a : Addr} {xs : List V} {j : Nat} (R : Nat → V → Hp → Prop) (mono : ∀ i v H H', Ex H H' → R i v H → R i v H') (hx : SqL K H a xs)
    (hs : ∀ D (i : Nat) (x : V) H' acc, H D = none → H' D = some (.lst acc) → Ex H H' → xs[i]? = some x → ∀ Q' : VK, (∀ v H4, Ex H' H4 → R i v (del H4 D) → Q' v H4) → te ((wipe σ vs).set j (some x)) H' Q')
    (hw : ∀ x, wipe ((wipe σ vs).set j (some x)) vs = wipe σ vs) (hn : xs.length ≤ 100000)
    (hd : ∀ D H' ys, H D = none → Ex H H' → H' D = some (.lst ys) → ys.length = xs.length → (∀ i v, ys[i]? = some v → R i v (del H' D)) → Q (.ref D) H') : LcJ (Itl K a) (gName j) tYes te vs σ H Q := by
  refine lcjL (xs := xs) (fun D i H' => Ex H H' ∧ ∃ ys, H' D = some (.lst ys) ∧ ys.length = i ∧ ∀ k v, ys[k]? = some v → R k v (del H' D)) (fun D hD => ⟨Evl.Ex.new hD, [], upd_same, rfl, fun k v e => by simp at e⟩) (fun D i H' _ ⟨e, _⟩ => ex_l e hx) ?_ (fun D H' hD ⟨e, ys, h1, h2, h3⟩ => hd D H' ys hD e h1 h2 h3)
  rintro D i x H' hD hi ⟨e, ys, h1, h2, h3⟩
  have hil := (List.getElem?_eq_some_iff.mp hi).1
  refine ⟨hw _, ?_⟩
  refine w_yes ?_
  refine w_iteT ?_
  refine hs D i x H' ys hD h1 e hi _ fun v H4 e4 r => ⟨ys, e4 _ _ h1, Nat.lt_of_le_of_lt (by omega : ys.length ≤ 100000) (by decide), Evl.Ex.mut (e.trans e4) hD, ys ++ [v], upd_same, by rw [List.length_append, h2]; rfl, fun k u ek => ?_⟩
  rw [del_upd]
  by_cases hk : k < ys.length
  · rw [List.getElem?_append_left hk] at ek
    exact mono _ _ _ _ (del_mono e4) (h3 k u ek)
  · rw [List.getElem?_append_right (by omega)] at ek
    cases h9 : k - ys.length with
    | zero =>
      rw [h9] at ek
      cases ek
      have : k = i := by omega
      rw [this]; exact r
    | succ m => rw [h9] at ek; simp at ek
theorem set_self {σ : L2.St} {j : Nat} (hj : j < σ.length) : ∃ y, σ = σ.set j y := ⟨σ[j], (List.set_getElem_self hj).symm⟩
/-- a loop over a list that stores its variable alone and changes nothing that stood -/
theorem loopL_pure {j : Nat} {a : Addr} {xs : List V} (s : SqL K H a xs) (hs : ∀ (i : Nat) (x : V) (H' : Hp), xs[i]? = some x → Ex H H' → tb { D with nx := fun σ2 H2 => (∃ y, σ2 = σ.set j y) ∧ Ex H H2, ct := fun σ2 H2 => (∃ y, σ2 = σ.set j y) ∧ Ex H H2, bk := D.nx } (σ.set j (some x)) H')
    (hd : ∀ y H', Ex H H' → D.nx (σ.set j y) H') (hj : (σ[j]?).isSome = true := by rfl) : LoopJ (Itl K a) (gName j) tb D σ H := by
  have hj : j < σ.length := by
    cases e : σ[j]? with
    | none => rw [e] at hj; cases hj
    | some y => exact (List.getElem?_eq_some_iff.mp e).1
  refine loopL (fun _ σ2 H2 => (∃ y, σ2 = σ.set j y) ∧ Ex H H2) ⟨set_self hj, Evl.Ex.refl H⟩ (fun i σ2 H2 _ ⟨_, e⟩ => ex_l e s) ?_ ?_
  · rintro i x σ2 H2 hi ⟨⟨y, rfl⟩, e⟩
    show tb _ ((σ.set j y).set j (some x)) H2
    rw [List.set_set]
    exact hs i x H2 hi e
  · rintro σ2 H2 ⟨⟨y, rfl⟩, e⟩
    exact hd y H2 e
theorem w_while {c : TT} (W : Nat → L2.St → Hp → Prop) (m0 : Nat) (h0 : W m0 σ H) (hs : ∀ m σ H, W m σ H → c σ H fun b H1 => if b = true then ∃ N : L2.St → Hp → Prop, (∀ σ' H', N σ' H' → ∃ m', m' < m ∧ W m' σ' H') ∧ tb { D with nx := N, ct := N, bk := D.nx } σ H1 else D.nx σ H1) : tWhile c tb D σ H := ⟨W, ⟨m0, h0⟩, hs⟩
theorem w_exN {W : Nat → L2.St → Hp → Prop} {m : Nat} (h : tb { D with nx := fun σ' H' => ∃ m', m' < m ∧ W m' σ' H', ct := fun σ' H' => ∃ m', m' < m ∧ W m' σ' H', bk := D.nx } σ H) : ∃ N : L2.St → Hp → Prop, (∀ σ' H', N σ' H' → ∃ m', m' < m ∧ W m' σ' H') ∧ tb { D with nx := N, ct := N, bk := D.nx } σ H := ⟨_, fun _ _ h => h, h⟩
end

/-! ### data -/
section
variable {K : PySem.W.Frag} {H H' : Hp} {Q : VK}
mutual
theorem Dp.mono (x : Ex H H') : ∀ {v : V} {d : PyData}, Dp K H v d → Dp K H' v d
  | _, _, .non => .non
  | _, _, .bl b => .bl b
  | _, _, .int i => .int i
  | _, _, .str s => .str s
  | _, _, .lst s h => .lst (ex_l x s) (DpAll.mono x h)
  | _, _, .tup s h => .tup (ex_t x s) (DpAll.mono x h)
theorem DpAll.mono (x : Ex H H') : ∀ {vs : List V} {ds : List PyData}, DpAll K H vs ds → DpAll K H' vs ds
  | _, _, .nil => .nil
  | _, _, .cons h t => .cons (Dp.mono x h) (DpAll.mono x t)
end
theorem w_neSame {x y : V} {d : PyData} (h1 : Dp K H x d) (h2 : Dp K H y d) (s : SeqAt.shaped d = true) (h : Q (.bl false) H) : rNeA K x y H Q :=
  w_neD h1 h2 s s (by rw [SeqAt.eqv_refl d (SeqAt.canLay_of_shaped s)]; exact h)
theorem w_eqSame {x y : V} {d : PyData} (h1 : Dp K H x d) (h2 : Dp K H y d) (s : SeqAt.shaped d = true) (h : Q (.bl true) H) : rEqA K x y H Q :=
  w_eqD h1 h2 s s (by rw [SeqAt.eqv_refl d (SeqAt.canLay_of_shaped s)]; exact h)
theorem dpAll_bl (bs : List Bool) : DpAll K H (bs.map V.bl) (bs.map PyData.bool) := by
  induction bs with
  | nil => exact .nil
  | cons b r ih => exact .cons (.bl b) ih
theorem dp_bools (bs : List Bool) {p : Addr} {ys : List V} (h : H p = some (.lst ys)) (e : ys = bs.map V.bl) : Dp K H (.ref p) (.list (bs.map PyData.bool)) := .lst (SqL.of (e ▸ h)) (dpAll_bl bs)
theorem dpAll_int (bs : List Int) : DpAll K H (bs.map V.int) (bs.map PyData.int) := by
  induction bs with
  | nil => exact .nil
  | cons b r ih => exact .cons (.int b) ih
theorem shaped_flat {ds : List PyData} (h : ∀ d ∈ ds, d.canLay0 = true ∧ d.depth = 0) : SeqAt.shaped (.list ds) = true := by
  have h1 : ∀ ds : List PyData, (∀ d ∈ ds, d.canLay0 = true ∧ d.depth = 0) → PyData.canLayAll0 ds = true ∧ PyData.depthAll ds = 0 := by
    intro ds h
    induction ds with
    | nil => exact ⟨rfl, rfl⟩
    | cons d r ih =>
      obtain ⟨a, b⟩ := h d (List.mem_cons_self ..)
      obtain ⟨c, e⟩ := ih fun x hx => h x (List.mem_cons_of_mem _ hx)
      exact ⟨by simp [PyData.canLayAll0, a, c], by simp [PyData.depthAll, b, e]⟩
  obtain ⟨a, b⟩ := h1 ds h
  unfold SeqAt.shaped
  rw [Bool.and_eq_true]
  exact ⟨by simp [PyData.canLay0, a], by simp [PyData.depth, b]⟩
end

/-! ### how many bits -/
theorem bits_lt {z : Int} {n : Nat} (h : Builtin.Int.intBits z ≤ n) : z.natAbs < 2 ^ n := by
  unfold Builtin.Int.intBits at h
  split at h
  · rename_i e
    have e2 : z = 0 := by simpa using e
    have : z.natAbs = 0 := by omega
    rw [this]; exact Nat.two_pow_pos n
  · rename_i e
    have h1 : z.natAbs < 2 ^ (z.natAbs.log2 + 1) := Nat.lt_log2_self
    exact Nat.lt_of_lt_of_le h1 (Nat.pow_le_pow_right (by decide) h)
theorem lt_bits {z : Int} {n : Nat} (h : z.natAbs < 2 ^ n) : Builtin.Int.intBits z ≤ n := by
  unfold Builtin.Int.intBits
  split
  · omega
  · rename_i e
    have e2 : z ≠ 0 := by simpa using e
    have h0 : z.natAbs ≠ 0 := by omega
    have := (Nat.log2_lt h0).mpr h
    omega
theorem bits_mul {a b : Int} {m n : Nat} (ha : Builtin.Int.intBits a ≤ m) (hb : Builtin.Int.intBits b ≤ n) : Builtin.Int.intBits (a * b) ≤ m + n := by
  apply lt_bits
  rw [Int.natAbs_mul, Nat.pow_add]
  exact Nat.mul_lt_mul'' (bits_lt ha) (bits_lt hb)
theorem bits_add {a b : Int} {m : Nat} (ha : Builtin.Int.intBits a ≤ m) (hb : Builtin.Int.intBits b ≤ m) : Builtin.Int.intBits (a + b) ≤ m + 1 := by
  apply lt_bits
  have h1 := bits_lt ha
  have h2 := bits_lt hb
  rw [Nat.pow_succ]
  omega
theorem bits_div {a : Int} {b : Int} {m : Nat} (ha : Builtin.Int.intBits a ≤ m) : Builtin.Int.intBits (a / b) ≤ m + 1 := by
  apply lt_bits
  have h1 := bits_lt ha
  have h2 := Int.natAbs_ediv_le_natAbs a b
  rw [Nat.pow_succ]
  omega
theorem bits_mono {a : Int} {m n : Nat} (h : Builtin.Int.intBits a ≤ m) (l : m ≤ n) : Builtin.Int.intBits a ≤ n := Nat.le_trans h l

end Tw

set_option Elab.async false
set_option linter.all false
set_option maxRecDepth 100000
set_option maxHeartbeats 4000000
namespace Tw
open PySem PySem.Spec PyProof.Rows L2
open Evl (Ex ex_l ex_t fresh_back sz_of sz_lt)

/-! ### dicts whose keys are ints; the truth of a list; what is dead -/
theorem hu1 {n : Nat} (h : n + 64 < cLine) : n + 1 < cLine := Nat.lt_of_le_of_lt (Nat.add_le_add_left (by decide : 1 ≤ 64) _) h
def rInD1 : R2 := fun y x H Q => ∃ a o, x = .ref a ∧ DGet H a y o ∧ Q (.bl o.isSome) H
def rNInD1 : R2 := fun y x H Q => ∃ a o, x = .ref a ∧ DGet H a y o ∧ Q (.bl (!o.isSome)) H
section
variable {X : Cx}
theorem op_in_d1 (hu : X.A.units + 1 < cLine) : OpR X (compareOp .In) rInD1 := by
  intro pins s σ H y x v u Q I ry rx h
  obtain ⟨a, o, rfl, g, q⟩ := h
  obtain rfl : u = Value.ref a := rx
  exact d_in hu I g ry fun s3 I3 => ⟨.bl o.isSome, H, I3, rfl, q⟩
theorem op_notin_d1 (hu : X.A.units + 1 < cLine) : OpR X (compareOp .NotIn) rNInD1 := by
  intro pins s σ H y x v u Q I ry rx h
  obtain ⟨a, o, rfl, g, q⟩ := h
  obtain rfl : u = Value.ref a := rx
  exact d_notIn hu I g ry fun s3 I3 => ⟨.bl (!o.isSome), H, I3, rfl, q⟩
def tTru (K : PySem.W.Frag) (te : TE) : TT := fun σ H Q => te σ H fun x H1 => ∃ k, TruV K x H1 k ∧ Q k H1
theorem pt_truthK {K : PySem.W.Frag} (h : X.K = K) {a : Expr} {ta : TE} (ha : PE X a ta) (he : ∀ whole, isTrue a X.env whole = (do let v ← whole; standAt a.pos; holding [v] (truthy v))) : PT X a (tTru K ta) := h ▸ pt_truth ha he
/-- a statement that is not come to -/
def tDead : TS := fun _ _ _ => False
theorem ps_dead {st : Stmt} : PS X st tDead := ⟨fun _ _ _ _ _ _ h => False.elim h⟩
theorem pss_dead {st : List Stmt} : PSs X st tDead := ⟨fun _ _ _ _ _ _ h => False.elim h⟩
end
section
variable {K : PySem.W.Frag} {σ : L2.St} {H : Hp} {Q : VK} {B : Bool → Hp → Prop} {D : Ends} {te td ty tv : TE} {kvs : List (Key × V)} {a : Addr} {i : Int} {v : V}
theorem w_inD (e : H a = some (.dK kvs)) (h : Q (.bl (valV kvs (.inl i)).isSome) H) : rInD1 (.int i) (.ref a) H Q := ⟨a, _, rfl, DGet.k (k := .inl i) e, h⟩
theorem w_notInD (e : H a = some (.dK kvs)) (h : Q (.bl (!(valV kvs (.inl i)).isSome)) H) : rNInD1 (.int i) (.ref a) H Q := ⟨a, _, rfl, DGet.k (k := .inl i) e, h⟩
theorem w_tru (h : te σ H fun x H1 => ∃ k, TruV K x H1 k ∧ B k H1) : tTru K te σ H B := h
theorem w_truL {R : Bool → Prop} {xs : List V} (s : SqL K H a xs) (h : R (!xs.isEmpty)) : ∃ k, TruV K (.ref a) H k ∧ R k := ⟨_, .inl ⟨xs, s, rfl⟩, h⟩
theorem w_dget (h : td σ H fun x H1 => ty σ H1 fun y H2 => ∃ a v, x = .ref a ∧ DGet H2 a y (some v) ∧ Q v H2) : tDGet td ty σ H Q := h
theorem w_dgetE {F : V → Prop} (e : H a = some (.dK kvs)) (hv : valV kvs (.inl i) = some v) (h : F v) : ∃ a' v', V.ref a = .ref a' ∧ DGet H a' (.int i) (some v') ∧ F v' := ⟨a, v, rfl, by rw [← hv]; exact DGet.k (k := .inl i) e, h⟩
theorem w_dput (h : tv σ H fun v H1 => td σ H1 fun x H2 => ty σ H2 fun y H3 => ∃ a H4, x = .ref a ∧ DPut H3 a y v H4 ∧ D.nx σ H4) : sDPut td ty tv D σ H := h
theorem w_dputE {F : Hp → Prop} (e : H a = some (.dK kvs)) (hl : kvs.length < 1000000) (h : F (upd H a (.dK (putK kvs (.inl i) v)))) : ∃ a' H4, V.ref a = .ref a' ∧ DPut H a' (.int i) v H4 ∧ F H4 := ⟨a, _, rfl, DPut.k (k := .inl i) e (Nat.lt_of_lt_of_le hl (by decide)), h⟩
theorem w_dnew (h : ∀ p, H p = none → Q (.ref p) (upd H p (.dK []))) : tDNewK σ H Q := h
theorem w_disp1 {j : Int} {w : V} (h : ∀ p, H p = none → Q (.ref p) (upd H p (.dK [(.inl j, w)]))) : tDisp [(tC (.int j), tC w)] σ H Q := fun p hp => ⟨upd_same, [(.inl j, w)], rfl, (show 1 ≤ 15 by decide), by
  rw [upd_upd]
  exact h p hp⟩
theorem w_aug {j : Nat} {x : V} {ti : TIp} (e : σ[j]? = some (some x)) (h : te σ H fun y H1 => ti x y H1 fun z H2 => D.nx (σ.set j (some z)) H2) : tAug j te ti D σ H := ⟨x, e, h⟩
theorem w_ipI {f : Int → Int → Int} {m n : Int} (h : Q (.int (f m n)) H) : ipI f (.int m) (.int n) H Q := ⟨m, n, rfl, rfl, h⟩
theorem w_extend {b : Addr} {xs zs : List V} (e1 : H a = some (.lst xs)) (e2 : H b = some (.lst zs)) (hz : xs.length + zs.length ≤ 1000000) (h : Q .non (upd H a (.lst (xs ++ zs)))) : rExtend (.ref a) [.ref b] H Q := ⟨a, b, xs, zs, rfl, rfl, e1, e2, Nat.le_trans hz (by decide), h⟩
theorem w_tt {b : Bool} {A C : Prop} (e : b = true) (h : A) : if b = true then A else C := by rw [if_pos e]; exact h
theorem w_ff {b : Bool} {A C : Prop} (e : b = false) (h : C) : if b = true then A else C := by rw [if_neg (by rw [e]; decide)]; exact h
end
theorem ex_del2 {H H' : Hp} {l : Addr} (x : Ex H H') (h : H l = none) : Ex H (del H' l) := fun a o e => by
  rw [del_ne (ne_of_none e h)]; exact x a o e
theorem keyI_ne {i j : Int} (h : i ≠ j) : (Sum.inl i : Key) ≠ Sum.inl j := fun e => h (Sum.inl.inj e)
theorem valV_putI (kvs : List (Key × V)) (i j : Int) (y : V) : valV (putK kvs (.inl i) y) (.inl j) = if j = i then some y else valV kvs (.inl j) := by
  rw [valV_put]
  by_cases h : j = i
  · rw [if_pos h, if_pos (by rw [h])]
  · rw [if_neg h, if_neg (keyI_ne h)]

section
variable {P : Program} {w : World} {K : PySem.W.Frag} {mg : Str → Option Value} {base : Heap}
theorem Cal.mono {x : Str} {j k : Nat} {ps : List Str} {sp : Sp} (c : Cal P w K mg base x j ps sp) (h : j ≤ k) : Cal P w K mg base x k ps sp := by
  obtain ⟨f, fd, F, r⟩ := c.ex
  exact ⟨f, fd, F.mono h, r⟩
end
end Tw

set_option Elab.async false
set_option linter.all false
set_option maxRecDepth 100000
set_option maxHeartbeats 4000000
namespace Tw
open PySem PySem.Spec PyProof.Rows L2
open Evl (Ex ex_l ex_t fresh_back sz_of sz_lt)

/-! ### methods by their names; what may leave them -/
structure CalM (P : Program) (w : World) (K : PySem.W.Frag) (mg : Str → Option Value) (base : Heap) (C : Addr) (m : Str) (k : Nat) (ps : List Str) (sp : Sp) : Prop where
  ex : ∃ f fd, FnOk P w K mg base (L2.CX P w) k f fd ps sp ∧ Meth K C m f ∧ Binds K fd ps []
structure CalX (P : Program) (w : World) (K : PySem.W.Frag) (mg : Str → Option Value) (base : Heap) (x : Str) (k : Nat) (ps : List Str) (sp : Sp) : Prop where
  ex : ∃ f fd, FnOk P w K mg base (L2.CX P w) k f fd ps sp ∧ mg x = some (.ref f) ∧ PySem.W.keepIn K (.ref f) = true ∧ Binds K fd ps []
structure DefM (K : PySem.W.Frag) (C : Addr) (m qual : Str) (st : Stmt) : Prop where
  ex : ∃ f fd, Fun K m qual st f fd ∧ Meth K C m f
section
variable {P : Program} {w : World} {K : PySem.W.Frag} {mg : Str → Option Value} {base : Heap} {C : Addr}
theorem CalM.of {m qual : Str} {st : Stmt} {k : Nat} {N ps : List Str} {sp : Sp} (D : DefM K C m qual st) (S : FnScope N ps (defScope st)) (len : ∀ vs H Q E, sp vs H Q E → vs.length = ps.length)
    (hb : ∀ (kV doc pm : Value) (an : Option Addr) (cdv ct : Value) (us : List Value), us.length = ps.length → bindArgs (PySem.W.fnOf m qual (defArgs st) (defBody st) (defScope st) .none kV doc pm an cdv ct) ⟨us, []⟩ = pure (ps.zip us))
    (hbody : ∀ (f : Addr) (cdv : Value) (A : Around) (outer : List Env) (s : Shared) (H : Hp) (vs : List V) (Q : VK) (E : XK), Room k (A.deeper (envOfC qual (defScope st) s.heap.objs.size f cdv)) → sp vs H Q E →
      ∃ t, PSs (cxOf (L2.CX P w) P w K mg base N qual (defScope st) f cdv A outer s H E) (defBody st) t ∧ t { nx := fun _ H' => Q .non H', rt := Q } (start N vs) H) : CalM P w K mg base C m (k + 1) ps sp := by
  obtain ⟨f, fd, F, hm⟩ := D.ex
  exact ⟨f, fd, F.okX S len (hbody f), hm, F.binds hb⟩
theorem CalX.of {x qual : Str} {st : Stmt} {k : Nat} {N ps : List Str} {sp : Sp} (D : DefAt K mg x qual st) (S : FnScope N ps (defScope st)) (len : ∀ vs H Q E, sp vs H Q E → vs.length = ps.length)
    (hb : ∀ (kV doc pm : Value) (an : Option Addr) (cdv ct : Value) (us : List Value), us.length = ps.length → bindArgs (PySem.W.fnOf x qual (defArgs st) (defBody st) (defScope st) .none kV doc pm an cdv ct) ⟨us, []⟩ = pure (ps.zip us))
    (hbody : ∀ (f : Addr) (cdv : Value) (A : Around) (outer : List Env) (s : Shared) (H : Hp) (vs : List V) (Q : VK) (E : XK), Room k (A.deeper (envOfC qual (defScope st) s.heap.objs.size f cdv)) → sp vs H Q E →
      ∃ t, PSs (cxOf (L2.CX P w) P w K mg base N qual (defScope st) f cdv A outer s H E) (defBody st) t ∧ t { nx := fun _ H' => Q .non H', rt := Q } (start N vs) H) : CalX P w K mg base x (k + 1) ps sp := by
  obtain ⟨f, fd, F, hm⟩ := D.ex
  exact ⟨f, fd, F.okX S len (hbody f), hm, F.kp, F.binds hb⟩
theorem CalM.mono {m : Str} {j k : Nat} {ps : List Str} {sp : Sp} (c : CalM P w K mg base C m j ps sp) (h : j ≤ k) : CalM P w K mg base C m k ps sp := by
  obtain ⟨f, fd, F, r⟩ := c.ex
  exact ⟨f, fd, F.mono h, r⟩
end
section
variable {X : Cx} {C : Addr} {m x : Str} {k : Nat} {ps : List Str} {sp : Sp} {o e : Expr} {es : List Expr} {ta : TE} {t : TA} {apos pos p : Pos} {E : XK} {pl : Sem Bool}
theorem pe_methC (cl : Cls X.K C) (c : CalM X.prog X.w X.K X.mg X.base C m k ps sp) (hr : Room k X.A) (hx : Passes (L2.CX X.prog X.w) X E) (ho : PE X o ta) (ha : PA X (e :: es) t)
    (h1 : starEach (e :: es) X.env = (false, eval e X.env) :: starEach es X.env := by rfl) (h2 : (backTo pos (starEach es X.env)).any (·.1) = false := by rfl)
    (h3 : eval (.Call (.Attribute o m apos) (e :: es) [] pos) X.env = (do let ov ← eval o X.env; standAt apos.atName; let (f, first) ← holding [ov] (getMethod ov m pl); callWith pos f first (backTo pos (starEach (e :: es) X.env)) (backToKw pos (keywordEach [] X.env))) := by rfl) :
    PE X (.Call (.Attribute o m apos) (e :: es) [] pos) (tMeth C m sp [] E ta t) := by
  obtain ⟨f, fd, F, hm, hb⟩ := c.ex
  exact pe_meth ho cl hm F hr hb .nil hx ha h1 h2 h3
theorem pe_methC0 (cl : Cls X.K C) (c : CalM X.prog X.w X.K X.mg X.base C m k ps sp) (hr : Room k X.A) (hx : Passes (L2.CX X.prog X.w) X E) (ho : PE X o ta)
    (h3 : eval (.Call (.Attribute o m apos) [] [] pos) X.env = (do let ov ← eval o X.env; standAt apos.atName; let (f, first) ← holding [ov] (getMethod ov m pl); callWith pos f first (backTo pos (starEach [] X.env)) (backToKw pos (keywordEach [] X.env))) := by rfl) :
    PE X (.Call (.Attribute o m apos) [] [] pos) (tMeth C m sp [] E ta tNil) := by
  obtain ⟨f, fd, F, hm, hb⟩ := c.ex
  exact pe_meth0 ho cl hm F hr hb .nil hx h3
/-- a def that may raise, called -/
theorem pe_callCX (c : CalX X.prog X.w X.K X.mg X.base x k ps sp) (hr : Room k X.A) (hx : Passes (L2.CX X.prog X.w) X E) (hg : Gl X x) (ha : PA X (e :: es) t) (hdb : (x == ("__debug__" : Str)) = false := by decide)
    (h1 : starEach (e :: es) X.env = (false, eval e X.env) :: starEach es X.env := by rfl) (h2 : (backTo pos (starEach es X.env)).any (·.1) = false := by rfl) : PE X (.Call (.Name x p) (e :: es) [] pos) (tCall sp [] E t) := by
  obtain ⟨f, fd, F, hm, hk, hb⟩ := c.ex
  exact pe_call F hr hg hm hk hb .nil hx ha hdb h1 h2
/-- o.m(e, ..) in a try: what is raised is wished for at the slots -/
def tMethX (C : Addr) (m : Str) (sp : Sp) (W : WX) (ta : TE) (t : TA) : TE := fun σ H Q => ta σ H fun x H1 => ∃ a dx fs, x = .ref a ∧ H1 a = some (.ins C dx fs) ∧ fs.lookup m = none ∧ t σ H1 fun vs H2 => sp (x :: vs) H2 Q (WE W σ)
theorem pe_methX {W : WX} (tk : Takes X W) (cl : Cls X.K C) (c : CalM X.prog X.w X.K X.mg X.base C m k ps sp) (hr : Room k X.A) (ho : PE X o ta) (ha : PA X (e :: es) t)
    (h1 : starEach (e :: es) X.env = (false, eval e X.env) :: starEach es X.env := by rfl) (h2 : (backTo pos (starEach es X.env)).any (·.1) = false := by rfl)
    (h3 : eval (.Call (.Attribute o m apos) (e :: es) [] pos) X.env = (do let ov ← eval o X.env; standAt apos.atName; let (f, first) ← holding [ov] (getMethod ov m pl); callWith pos f first (backTo pos (starEach (e :: es) X.env)) (backToKw pos (keywordEach [] X.env))) := by rfl) :
    PE X (.Call (.Attribute o m apos) (e :: es) [] pos) (tMethX C m sp W ta t) := by
  obtain ⟨f, fd, F, hm, hb⟩ := c.ex
  refine ⟨fun pins s σ H Q I h => ?_⟩
  refine PySem.W.methodCall_KW (pl := pl) (thn (ho.run pins s σ H _ I h) fun u s1 ⟨x, H1, I1, rx, a, dx, fs, ex, ea, l, q⟩ => ?_) h3
  subst ex
  obtain rfl : u = Value.ref a := rx
  refine getmeth_ok I1 ea cl hm l ?_
  refine PySem.W.callWith_K (first := [.ref a]) (h₀ := X.base) I.ok.mod.kin hm.kp (thn (ha.run pos pins s1 σ H1 _ I1 q) fun us s2 ⟨vs, H2, I2, r, q2⟩ => ⟨I2.kIn, ?_⟩) h1 h2
  exact run_fnS (us := .ref a :: us) (vs := .ref a :: vs) (E := WE W) F hr hb (passAt tk σ) I2 (.cons rfl r) q2
end

/-! ### o.f among several targets; a slice of a list stored -/
def gFld (K : PySem.W.Frag) (ta : TE) (f : Str) : TG := fun v σ H Q => ta σ H fun x H2 => ∃ a C dx fs, x = .ref a ∧ H2 a = some (.ins C dx fs) ∧ Cls K C ∧ NoAttr K C f ∧ fs.length < 1000 ∧ Q σ (upd H2 a (.ins C dx (putF f v fs)))
def sSetSl (to : TE) (tl th : TO) (tv : TE) : TS := fun D σ H => tv σ H fun y H1 => to σ H1 fun x H2 => tl σ H2 fun lo H3 => th σ H3 fun hi H4 => ∃ l b xs ys a c, x = .ref l ∧ y = .ref b ∧ lo = some a ∧ hi = some c ∧ H4 l = some (.lst xs) ∧ H4 b = some (.lst ys) ∧ l ≠ b ∧
  0 ≤ a ∧ a ≤ c ∧ c ≤ (xs.length : Int) ∧ xs.length + ys.length ≤ sizeLine ∧ D.nx σ (upd H4 l (.lst (xs.take a.toNat ++ ys ++ xs.drop c.toNat)))
section
variable {X : Cx} {o value : Expr} {f : Str} {pos pos' p2 : Pos} {ta tv : TE}
theorem pg_fld (ho : PE X o ta) : PG X (.Attribute o f pos) (gFld X.K ta f) := by
  refine ⟨fun pins s σ H v u Q I r h => ?_⟩
  rw [arm_assign_Attribute]
  refine wpAny_bind (wpAny_holding (thn (ho.run pins s σ H _ I h) fun ov s1 ⟨x, H1, I1, rx, a, C, dx, fs, ex, ea, c, n, l, q⟩ => ?_))
  subst ex
  obtain rfl : ov = Value.ref a := rx
  refine wpAny_bind (wpAny_standAt (wpAny_bind (wpAny_holding (setattr_ok I1 ea c n l r fun s3 I3 => ?_))))
  exact wpAny_release ⟨σ, _, I3, q⟩
theorem ps_setSl {lo hi : Option Expr} {tl th : TO} (ho : PE X o ta) (hl : PO X lo tl) (hh : PO X hi th) (hv : PE X value tv) (hs : swapsWith value (some (.Subscript o (.Slice lo hi none p2) pos')) pos.line X.env = pure false) :
    PS X (.Assign [.Subscript o (.Slice lo hi none p2) pos'] value pos) (sSetSl ta tl th tv) := by
  refine ⟨fun pins s σ H D I h => ?_⟩
  refine wpAny_Assign_Subscript (thn (hv.run pins s σ H _ I h) fun r s1 ⟨v, H1, I1, rv, q1⟩ => thn (ho.run pins s1 σ H1 _ I1 q1) fun u s2 ⟨x, H2, I2, rx, q2⟩ => ?_) hs
  refine wpAny_Slice (thn (hl.run pins s2 σ H2 _ I2 q2) fun vl s3 ⟨l, H3, I3, pl, q3⟩ => thn (hh.run pins s3 σ H3 _ I3 q3) fun vu s4 ⟨c, H4, I4, pu, l1, b1, xs, ys, a1, c1, ex, ey, el, eh, e1, e2, ne, h0, hac, hc, hz, q4⟩ => ?_)
  rw [evalPart_none]
  refine wpAny_pure ?_
  subst ex ey el eh
  obtain rfl : u = Value.ref l1 := rx
  obtain rfl : r = Value.ref b1 := rv
  have I5 : Inv X pins σ H4 { s4 with heap := s4.heap.push { cls := .type "slice", data := .fields #[vl, vu, .none] } } := I4.kept (t' := s4.toks) fun b ob q => Heap.get?_push_of_some _ q
  have ra : RelV (.int a1) vl := by cases pl; exact ⟨_, rfl⟩
  have rc : RelV (.int c1) vu := by cases pu; exact ⟨_, rfl⟩
  exact set_slice I5 e1 e2 ne (Heap.IsSliceOf.new ..) ra rc h0 hac hc hz fun s6 I6 => ⟨σ, _, I6, q4⟩
end

/-! ### the written part named -/
section
variable {X : Cx} {K : PySem.W.Frag}
theorem ps_fldK (h : X.K = K) {o value : Expr} {f : Str} {pos pos' : Pos} {ta tv : TE} (ha : PE X o ta) (hv : PE X value tv) (hs : swapsWith value (some (.Attribute o f pos')) pos.line X.env = pure false) : PS X (.Assign [.Attribute o f pos'] value pos) (sFld K ta tv f) := h ▸ ps_fld ha hv hs
theorem pg_fldK (h : X.K = K) {o : Expr} {f : Str} {pos : Pos} {ta : TE} (ho : PE X o ta) : PG X (.Attribute o f pos) (gFld K ta f) := h ▸ pg_fld ho
theorem pg_tupK (h : X.K = K) {es : List Expr} {k : Nat} {t : TGs} {n : Nat} {pos : Pos} (hc : X.calm = true) (hp : PGs X es t) (hn : (assignEach es X.env).length = n := by rfl) (hst : (assignEach es X.env).findIdx? (·.1) = none := by rfl) : PG X (.Tuple es k pos) (gTup K n t) := h ▸ pg_tup hc hp hn hst
theorem pa_starK (h : X.K = K) {e : Expr} {es : List Expr} {te : TE} {t : TA} {p : Pos} (he : PE X e te) (hr : PA X es t) (hs : starEach (.Starred e p :: es) X.env = (true, eval e X.env) :: starEach es X.env := by rfl) : PA X (.Starred e p :: es) (StX.tStar K te t) := h ▸ StX.pa_star he hr hs
end

/-! ### the heap without some addresses -/
def off (S : List Addr) (H : Hp) : Hp := fun b => if b ∈ S then none else H b
section
variable {H H' : Hp} {S : List Addr} {a b : Addr} {o : HO}
theorem off_in (h : a ∈ S) : off S H a = none := if_pos h
theorem off_out (h : a ∉ S) : off S H a = H a := if_neg h
theorem off_ex : Ex (off S H) H := fun a o e => by
  by_cases h : a ∈ S
  · rw [off_in h] at e; cases e
  · rw [off_out h] at e; exact e
theorem off_mono (x : Ex H H') : Ex (off S H) (off S H') := fun a o e => by
  by_cases h : a ∈ S
  · rw [off_in h] at e; cases e
  · rw [off_out h] at e ⊢; exact x a o e
theorem off_upd (h : a ∈ S) : off S (upd H a o) = off S H := by
  funext b
  by_cases hb : b ∈ S
  · rw [off_in hb, off_in hb]
  · rw [off_out hb, off_out hb, upd_ne (fun e => hb (by rw [e]; exact h))]
/-- what is new lies outside -/
theorem ex_off {S' : List Addr} (x : Ex (off S H) H') (h : ∀ a ∈ S', a ∈ S ∨ H a = none) : Ex (off S H) (off S' H') := fun a o e => by
  by_cases ha : a ∈ S
  · rw [off_in ha] at e; cases e
  · have e2 : H a = some o := by rw [off_out ha] at e; exact e
    rw [off_out (fun z => (h a z).elim ha fun n => by rw [n] at e2; cases e2)]
    exact x a o e
theorem hp_off (h : a ∉ S) (e : H a = some o) : off S H a = some o := by rw [off_out h]; exact e
theorem hp_off1 (h : a ≠ b) (e : off S H a = some o) : off (b :: S) H a = some o := by
  by_cases hs : a ∈ S
  · rw [off_in hs] at e; cases e
  · rw [off_out hs] at e
    rw [off_out (by simp [h, hs])]; exact e
theorem hp_off0 (e : H a = some o) : off [] H a = some o := by rw [off_out (by simp)]; exact e
theorem off_none (e : H a = none) : off S H a = none := by
  by_cases hs : a ∈ S
  · exact off_in hs
  · rw [off_out hs]; exact e
end
/-! ### a class made; constants; what a class and an error must have -/
structure CalK (P : Program) (w : World) (K : PySem.W.Frag) (mg : Str → Option Value) (base : Heap) (C : Addr) (k : Nat) (ps : List Str) (sp : Sp) : Prop where
  ex : ∃ f fd, FnOk P w K mg base (L2.CX P w) k f fd ps sp ∧ Mk K C f ∧ Binds K fd ps []
structure DefK (K : PySem.W.Frag) (C : Addr) (qual : Str) (st : Stmt) : Prop where
  ex : ∃ f fd, Fun K "__init__" qual st f fd ∧ Mk K C f
structure DefAs (K : PySem.W.Frag) (mg : Str → Option Value) (y x qual : Str) (st : Stmt) : Prop where
  ex : ∃ f fd, Fun K x qual st f fd ∧ mg y = some (.ref f)
structure ExT (K : PySem.W.Frag) (mg : Str → Option Value) (x : Str) (c : Addr) : Prop where
  g : mg x = some (.ref c)
  xc : PySem.W.excIn K c [.type "ValueError", .type "Exception", .type "BaseException", .type "object"] "ValueError.__new__" = true
  k : PySem.W.keepIn K (.ref c) = true
  b : PySem.W.subIn K (.ref c) (.type "BaseException") = some true
  t : PySem.W.typeIn K (.ref c) = some (.type "type")
  e : PySem.W.exmOne K (.ref c) (.ref c) = some true
structure RmT (K : PySem.W.Frag) (mg : Str → Option Value) (C cB cR : Addr) : Prop where
  cl : Cls K C
  nr : NoAttr K C "_row"
  nu : NoAttr K C "_used"
  gR : mg "Room" = some (.ref C)
  xNoBox : ExT K mg "NoBox" cB
  xNoRoom : ExT K mg "NoRoom" cR
section
variable {P : Program} {w : World} {K : PySem.W.Frag} {mg : Str → Option Value} {base : Heap} {C : Addr}
theorem CalK.of {qual : Str} {st : Stmt} {k : Nat} {N ps : List Str} {sp : Sp} (D : DefK K C qual st) (S : FnScope N ps (defScope st)) (len : ∀ vs H Q E, sp vs H Q E → vs.length = ps.length)
    (hb : ∀ (kV doc pm : Value) (an : Option Addr) (cdv ct : Value) (us : List Value), us.length = ps.length → bindArgs (PySem.W.fnOf "__init__" qual (defArgs st) (defBody st) (defScope st) .none kV doc pm an cdv ct) ⟨us, []⟩ = pure (ps.zip us))
    (hbody : ∀ (f : Addr) (cdv : Value) (A : Around) (outer : List Env) (s : Shared) (H : Hp) (vs : List V) (Q : VK) (E : XK), Room k (A.deeper (envOfC qual (defScope st) s.heap.objs.size f cdv)) → sp vs H Q E →
      ∃ t, PSs (cxOf (L2.CX P w) P w K mg base N qual (defScope st) f cdv A outer s H E) (defBody st) t ∧ t { nx := fun _ H' => Q .non H', rt := Q } (start N vs) H) : CalK P w K mg base C (k + 1) ps sp := by
  obtain ⟨f, fd, F, hm⟩ := D.ex
  exact ⟨f, fd, F.okX S len (hbody f), hm, F.binds hb⟩
theorem Cal.ofAs {y x qual : Str} {st : Stmt} {k : Nat} {N ps : List Str} {sp : Sp} (D : DefAs K mg y x qual st) (S : FnScope N ps (defScope st)) (len : ∀ vs H Q E, sp vs H Q E → vs.length = ps.length)
    (hb : ∀ (kV doc pm : Value) (an : Option Addr) (cdv ct : Value) (us : List Value), us.length = ps.length → bindArgs (PySem.W.fnOf x qual (defArgs st) (defBody st) (defScope st) .none kV doc pm an cdv ct) ⟨us, []⟩ = pure (ps.zip us))
    (hbody : ∀ (f : Addr) (cdv : Value) (A : Around) (outer : List Env) (s : Shared) (H : Hp) (vs : List V) (Q : VK) (E : XK), Room k (A.deeper (envOfC qual (defScope st) s.heap.objs.size f cdv)) → sp vs H Q E →
      ∃ t, PSs (cxOf CX0 P w K mg base N qual (defScope st) f cdv A outer s H E).nox (defBody st) t ∧ t { nx := fun _ H' => Q .non H', rt := Q } (start N vs) H) : Cal P w K mg base y (k + 1) ps sp := by
  obtain ⟨f, fd, F, hm⟩ := D.ex
  exact ⟨f, fd, F.ok S len (hbody f), hm, F.kp, F.binds hb⟩
end
section
variable {X : Cx} {C : Addr} {x : Str} {k : Nat} {ps : List Str} {sp : Sp} {e : Expr} {es : List Expr} {t : TA} {pos p : Pos} {E : XK}
theorem pe_makeC (c : CalK X.prog X.w X.K X.mg X.base C k ps sp) (hr : Room (k + 1) X.A) (hg : Gl X x) (hm : X.mg x = some (.ref C)) (hx : Passes (L2.CX X.prog X.w) X E) (ha : PA X (e :: es) t) (hdb : (x == ("__debug__" : Str)) = false := by decide)
    (h1 : starEach (e :: es) X.env = (false, eval e X.env) :: starEach es X.env := by rfl) (h2 : (backTo pos (starEach es X.env)).any (·.1) = false := by rfl) : PE X (.Call (.Name x p) (e :: es) [] pos) (tMake C sp [] E t) := by
  obtain ⟨f, fd, F, hm2, hb⟩ := c.ex
  exact pe_make hm2 F hr hg hm hb .nil hx ha hdb h1 h2
theorem pe_globI {i : Int} (hg : Gl X x) (hm : ∃ tk, X.mg x = some (.int i tk)) (hd : (x == ("__debug__" : Str)) = false := by decide) : PE X (.Name x p) (tC (.int i)) := by
  obtain ⟨tk, hm⟩ := hm
  exact pe_glob hg hm ⟨_, rfl⟩ hd
end

/-! ### steps -/
section
variable {K : PySem.W.Frag} {σ : L2.St} {H : Hp} {Q : VK} {D : Ends} {te ta tb tc tv : TE} {t : TA} {a C dx p : Addr} {fs : List (Str × V)} {f m : Str} {v : V} {sp : Sp} {E : XK} {xs : List V}
theorem w_fld (h : ta σ H fun x H1 => ∃ a C dx fs v, x = .ref a ∧ H1 a = some (.ins C dx fs) ∧ Cls K C ∧ NoAttr K C f ∧ fs.lookup f = some v ∧ Q v H1) : tFld K ta f σ H Q := h
theorem w_fldE {F : V → Prop} (e : H a = some (.ins C dx fs)) (c : Cls K C) (n : NoAttr K C f) (l : fs.lookup f = some v) (h : F v) : ∃ a' C dx fs v, V.ref a = .ref a' ∧ H a' = some (.ins C dx fs) ∧ Cls K C ∧ NoAttr K C f ∧ fs.lookup f = some v ∧ F v := ⟨a, C, dx, fs, v, rfl, e, c, n, l, h⟩
theorem w_sfld (h : tv σ H fun y H1 => ta σ H1 fun x H2 => ∃ a C dx fs, x = .ref a ∧ H2 a = some (.ins C dx fs) ∧ Cls K C ∧ NoAttr K C f ∧ fs.length < 1000 ∧ D.nx σ (upd H2 a (.ins C dx (putF f y fs)))) : sFld K ta tv f D σ H := h
theorem w_sfldE {F : Hp → Prop} (e : H a = some (.ins C dx fs)) (c : Cls K C) (n : NoAttr K C f) (l : fs.length < 1000) (h : F (upd H a (.ins C dx (putF f v fs)))) : ∃ a' C dx fs, V.ref a = .ref a' ∧ H a' = some (.ins C dx fs) ∧ Cls K C ∧ NoAttr K C f ∧ fs.length < 1000 ∧ F (upd H a' (.ins C dx (putF f v fs))) := ⟨a, C, dx, fs, rfl, e, c, n, l, h⟩
theorem w_gfld {R : L2.St → Hp → Prop} (h : ta σ H fun x H2 => ∃ a C dx fs, x = .ref a ∧ H2 a = some (.ins C dx fs) ∧ Cls K C ∧ NoAttr K C f ∧ fs.length < 1000 ∧ R σ (upd H2 a (.ins C dx (putF f v fs)))) : gFld K ta f v σ H R := h
theorem w_gfld0 {i : Nat} {R : L2.St → Hp → Prop} (hv : σ[i]? = some (some (.ref a))) (e : H a = some (.ins C dx fs)) (c : Cls K C) (n : NoAttr K C f) (l : fs.length < 1000) (h : R σ (upd H a (.ins C dx (putF f v fs)))) : gFld K (tVar i) f v σ H R := ⟨_, hv, a, C, dx, fs, rfl, e, c, n, l, h⟩
theorem w_meth (h : ta σ H fun x H1 => ∃ a dx fs, x = .ref a ∧ H1 a = some (.ins C dx fs) ∧ fs.lookup m = none ∧ t σ H1 fun vs H2 => sp (x :: (vs ++ [])) H2 Q E) : tMeth C m sp [] E ta t σ H Q := h
theorem w_methX {W : WX} (h : ta σ H fun x H1 => ∃ a dx fs, x = .ref a ∧ H1 a = some (.ins C dx fs) ∧ fs.lookup m = none ∧ t σ H1 fun vs H2 => sp (x :: vs) H2 Q (WE W σ)) : tMethX C m sp W ta t σ H Q := h
theorem w_methE {G : Prop} (e : H a = some (.ins C dx fs)) (l : fs.lookup m = none) (h : G) : ∃ a' dx fs, V.ref a = .ref a' ∧ H a' = some (.ins C dx fs) ∧ fs.lookup m = none ∧ G := ⟨a, dx, fs, rfl, e, l, h⟩
theorem w_chain {r r' : R2} (h : ta σ H fun x H1 => tb σ H1 fun y H2 => r x y H2 fun z H3 => ∃ k, z = .bl k ∧ (if k = true then tc σ H3 fun w' H4 => r' y w' H4 Q else Q (.bl false) H3)) : tChain r r' ta tb tc σ H Q := h
theorem w_gTup {n : Nat} {ts : TGs} {R : L2.St → Hp → Prop} (s : SqT K H p xs) (l : xs.length = n) (h : ts xs σ H R) : gTup K n ts (.ref p) σ H R := ⟨p, xs, rfl, s, l, h⟩
theorem w_gCons {g : TG} {ts : TGs} {r : List V} {R : L2.St → Hp → Prop} (h : g v σ H fun σ' H' => ts r σ' H' R) : gCons g ts (v :: r) σ H R := ⟨v, r, rfl, h⟩
theorem w_gNil {R : L2.St → Hp → Prop} (h : R σ H) : gNil [] σ H R := ⟨rfl, h⟩
theorem w_star {F : List V → Hp → Prop} (h : te σ H fun x H1 => ∃ p xs, x = V.ref p ∧ (SqT K H1 p xs ∨ SqL K H1 p xs) ∧ t σ H1 fun ys H2 => F (xs ++ ys) H2) : StX.tStar K te t σ H F := h
theorem w_starL {G : List V → Prop} (s : SqL K H p xs) (h : G xs) : ∃ p' xs, V.ref p = V.ref p' ∧ (SqT K H p' xs ∨ SqL K H p' xs) ∧ G xs := ⟨p, xs, rfl, .inr s, h⟩
theorem kit_int_bool : kitB "int" "bool" = some false := by decide +kernel
theorem kit_str_str : kitB "str" "str" = some true := by decide +kernel
theorem w_isiIB {i : Int} (h : Q (.bl false) H) : rIsi K [.int i, .ty "bool"] H Q := ⟨_, _, _, _, _, rfl, .ty "bool", .base (.int i), kit_ty kit_int_bool, h⟩
theorem w_isiS {x : Str} (h : Q (.bl true) H) : rIsi K [.str x, .ty "str"] H Q := ⟨_, _, _, _, _, rfl, .ty "str", .base (.str x), kit_ty kit_str_str, h⟩
theorem w_inTup {neg : Bool} (s : SqT K H p xs) (f1 : flatV v = true) (f2 : xs.all flatV = true) (h : Q (.bl (if neg then !inV v xs else inV v xs)) H) : rIn K neg v (.ref p) H Q := ⟨p, xs, rfl, .inr s, f1, f2, h⟩
theorem w_setSl {tl th : TO} (h : tv σ H fun y H1 => ta σ H1 fun x H2 => tl σ H2 fun lo H3 => th σ H3 fun hi H4 => ∃ l b xs ys a c, x = .ref l ∧ y = .ref b ∧ lo = some a ∧ hi = some c ∧ H4 l = some (.lst xs) ∧ H4 b = some (.lst ys) ∧ l ≠ b ∧
  0 ≤ a ∧ a ≤ c ∧ c ≤ (xs.length : Int) ∧ xs.length + ys.length ≤ sizeLine ∧ D.nx σ (upd H4 l (.lst (xs.take a.toNat ++ ys ++ xs.drop c.toNat)))) : sSetSl ta tl th tv D σ H := h
theorem w_setSlE {F : Hp → Prop} {l b : Addr} {ys : List V} {i j : Int} (e1 : H l = some (.lst xs)) (e2 : H b = some (.lst ys)) (ne : l ≠ b) (h0 : 0 ≤ i) (hac : i ≤ j) (hc : j ≤ (xs.length : Int)) (hz : xs.length + ys.length ≤ 1000000) (h : F (upd H l (.lst (xs.take i.toNat ++ ys ++ xs.drop j.toNat)))) :
    ∃ l' b' xs ys a c, V.ref l = .ref l' ∧ V.ref b = .ref b' ∧ some i = some a ∧ some j = some c ∧ H l' = some (.lst xs) ∧ H b' = some (.lst ys) ∧ l' ≠ b' ∧ 0 ≤ a ∧ a ≤ c ∧ c ≤ (xs.length : Int) ∧ xs.length + ys.length ≤ sizeLine ∧ F (upd H l' (.lst (xs.take a.toNat ++ ys ++ xs.drop c.toNat))) :=
  ⟨l, b, xs, ys, i, j, rfl, rfl, rfl, rfl, e1, e2, ne, h0, hac, hc, Nat.le_trans hz (by decide), h⟩
theorem w_make (h : t σ H fun vs H1 => ∀ x dx, H1 x = none → H1 dx = none → dx ≠ x → sp (.ref x :: (vs ++ [])) (upd (upd H1 dx (.own x)) x (.ins C dx [])) (fun v H2 => v = .non ∧ Q (.ref x) H2) E) : tMake C sp [] E t σ H Q := h
end
theorem exm_me {K : PySem.W.Frag} {c : Addr} (b : PySem.W.subIn K (.ref c) (.type "BaseException") = some true) (i : PySem.W.isClsIn K c = true) (t : PySem.W.typeIn K (.ref c) = some (.type "type")) (s : PySem.W.subIn K (.ref c) (.ref c) = some true) : PySem.W.exmOne K (.ref c) (.ref c) = some true := by
  have hi : (PySem.W.clsIn K c).isSome = true := i
  have h1 : (PySem.W.subIn K (.ref c) (.type "BaseException") == some true) = true := by rw [b]; rfl
  have h2 : ((PySem.W.clsIn K c).isSome && PySem.W.typeIn K (.ref c) == some (.type "type")) = true := by rw [hi, t]; rfl
  show (if _ = true then (if _ = true then _ else none) else none) = some true
  rw [if_pos h1, if_pos h2, s]
end Tw

set_option Elab.async false
set_option linter.all false
set_option maxRecDepth 100000
set_option maxHeartbeats 4000000
namespace Tw
open PySem PySem.Spec PyProof.Rows L2
open Evl (Ex ex_l ex_t fresh_back sz_of sz_lt)
local macro_rules | `(tactic| walk_at "t_hp") => `(tactic| first
  | assumption
  | exact upd_same
  | (refine' hp_ne ?hne ?hrest; (case hne => walk_at "t_ne"); (case hrest => walk_at "t_hp"))
  | (refine' hp_ex ?hx ?hrest; (case hx => assumption); (case hrest => walk_at "t_hp")))
local macro_rules | `(tactic| walk_at "t_ne") => `(tactic| first
  | assumption
  | exact Ne.symm (by assumption)
  | (refine' ne_of_none ?h1 ?h2; (case h2 => assumption); (case h1 => walk_at "t_hp"))
  | (refine' Ne.symm (ne_of_none ?h1 ?h2); (case h2 => assumption); (case h1 => walk_at "t_hp")))
local macro_rules | `(tactic| walk_at "t_none") => `(tactic| first
  | assumption
  | (refine' fresh_back ?e ?n; (case n => assumption); (case e => walk_at "t_ex")))
local macro_rules | `(tactic| walk_at "t_ex") => `(tactic| first
  | assumption
  | exact Evl.Ex.refl _
  | (refine' ex_new ?n ?e; (case n => assumption); (case e => walk_at "t_ex"))
  | (refine' Evl.Ex.mut ?e ?n; (case n => walk_at "t_none"); (case e => walk_at "t_ex"))
  | (refine' Evl.Ex.trans ?a ?b; (case b => assumption); (case a => walk_at "t_ex")))
local macro_rules | `(tactic| walk_at "t_sq") => `(tactic| first
  | assumption
  | (refine' SqL.of ?h; (case h => walk_at "t_hp"))
  | (refine' ex_l ?e ?s; (case s => assumption); (case e => walk_at "t_ex")))
local macro_rules | `(tactic| walk_at "t_sqt") => `(tactic| first
  | assumption
  | (refine' SqT.of ?h; (case h => walk_at "t_hp"))
  | (refine' ex_t ?e ?s; (case s => assumption); (case e => walk_at "t_ex")))
local macro_rules | `(tactic| walk_at "t_mul") => `(tactic| first
  | assumption
  | exact Or.inl (Or.inl ⟨by decide, by decide⟩)
  | exact Or.inl (Or.inr ⟨by decide, by decide⟩)
  | exact Or.inl (Or.inl ⟨by omega, by omega⟩)
  | exact Or.inl (Or.inr ⟨by omega, by omega⟩))
local macro_rules | `(tactic| walk_at "t_c") => `(tactic| first
  | assumption
  | decide
  | (show (0 : Int) < _; decide)
  | (show (0 : Int) < _; omega)
  | exact ⟨by decide, by decide⟩
  | exact ⟨by decide, by decide, by decide⟩
  | exact ⟨by omega, by omega⟩
  | exact ⟨by omega, by omega, by omega, by omega⟩)
local macro_rules | `(tactic| walk_at "t_w") => `(tactic| first
  | (with_reducible refine w_seq ?_)
  | (with_reducible refine w_asg ?_)
  | (with_reducible refine w_gName ?_)
  | (with_reducible refine w_nx ?_)
  | (with_reducible refine w_rt ?_)
  | (with_reducible refine w_ct ?_)
  | (with_reducible refine w_bk ?_)
  | (with_reducible refine w_ret ?_)
  | (with_reducible refine w_retN ?_)
  | (with_reducible refine w_drop ?_)
  | (with_reducible refine w_ifS ?_)
  | (with_reducible refine w_next ?_)
  | (with_reducible refine w_break ?_)
  | (with_reducible refine w_cont ?_)
  | ((with_reducible refine' w_var ?h ?_); (case h => rfl))
  | (with_reducible refine w_c ?_)
  | (with_reducible refine w_op ?_)
  | (with_reducible refine w_un ?_)
  | (with_reducible refine w_I0 ?_)
  | ((with_reducible refine' w_I ?c ?_); (case c => walk_at "t_c"))
  | (with_reducible refine w_U ?_)
  | (with_reducible refine w_addI ?_)
  | ((with_reducible refine' w_addL ?h1 ?h2 ?hz ?_); (case h1 => walk_at "t_hp"); (case h2 => walk_at "t_hp"); (case hz => walk_at "t_z"))
  | ((with_reducible refine' w_mulI ?c ?_); (case c => walk_at "t_mul"))
  | ((with_reducible refine' w_mulL1 ?h1 ?b1 ?b2 ?_); (case h1 => walk_at "t_hp"); (case b1 => walk_at "t_z"); (case b2 => walk_at "t_z"))
  | ((with_reducible refine' w_mulL ?h1 ?b1 ?b2 ?hz ?_); (case h1 => walk_at "t_hp"); (case b1 => walk_at "t_z"); (case b2 => walk_at "t_z"); (case hz => walk_at "t_z"))
  | (with_reducible refine w_notIB ?_)
  | (with_reducible refine w_notBB ?_)
  | (with_reducible refine w_notN ?_)
  | (with_reducible refine w_isBB ?_)
  | (with_reducible refine w_isN ?_)
  | (with_reducible refine w_eqI ?_)
  | (with_reducible refine w_neI ?_)
  | (with_reducible refine w_eqB ?_)
  | (with_reducible refine w_neB ?_)
  | (with_reducible refine w_eqS ?_)
  | (with_reducible refine w_neS ?_)
  | (with_reducible refine w_test ?_)
  | (with_reducible refine w_B ?_)
  | (with_reducible refine w_exB ?_)
  | (with_reducible refine w_and ?_)
  | (with_reducible refine w_or ?_)
  | (with_reducible refine w_not ?_)
  | (with_reducible refine w_andV ?_)
  | (with_reducible refine w_orV ?_)
  | (with_reducible refine w_notV ?_)
  | (with_reducible refine w_bl ?_)
  | (with_reducible refine w_if ?_)
  | (with_reducible refine w_nil ?_)
  | (with_reducible refine w_cons ?_)
  | (with_reducible refine w_cb ?_)
  | (with_reducible refine w_call ?_)
  | (with_reducible refine w_tup ?_)
  | (with_reducible refine w_lst ?_)
  | ((with_reducible refine' w_fin ?hz ?_); (case hz => (simp only [List.length_cons, List.length_nil]; decide)))
  | ((with_reducible refine' w_len ?s ?_); (case s => walk_at "t_sq"))
  | ((with_reducible refine' w_lenT ?s ?_); (case s => walk_at "t_sqt"))
  | (with_reducible refine w_intI ?_)
  | (with_reducible refine w_intB ?_)
  | ((with_reducible refine' w_list ?s ?_); (case s => walk_at "t_sq"))
  | (with_reducible refine w_max ?_)
  | (with_reducible refine w_min ?_)
  | (with_reducible refine w_abs ?_)
  | (with_reducible refine w_sl ?_)
  | (with_reducible refine w_noPart ?_)
  | (with_reducible refine w_part ?_)
  | (with_reducible refine w_exI ?_)
  | ((with_reducible refine' w_slL ?s ?_); (case s => walk_at "t_sq"))
  | ((with_reducible refine' w_ixLI ?s ?b ?_); (case s => walk_at "t_sq"); (case b => walk_at "t_lt"))
  | ((with_reducible refine' w_ixL ?s ?e ?_); (case s => walk_at "t_sq"); (case e => walk_at "t_at"))
  | ((with_reducible refine' w_ixT ?s ?e ?_); (case s => walk_at "t_sqt"); (case e => walk_at "t_at"))
  | (with_reducible refine w_gSub ?_)
  | ((with_reducible refine' w_setLI ?e ?b ?_); (case e => walk_at "t_hp"); (case b => walk_at "t_lt"))
  | ((with_reducible refine' w_setL ?e ?b ?_); (case e => walk_at "t_hp"); (case b => walk_at "t_ixn"))
  | (with_reducible refine w_bm ?_)
  | (with_reducible refine w_bm0 ?_)
  | ((with_reducible refine' w_tyL ?e ?_); (case e => walk_at "t_sq"))
  | ((with_reducible refine' w_app ?e ?hz ?_); (case e => walk_at "t_hp"); (case hz => walk_at "t_z"))
  | (with_reducible refine w_iteT ?_)
  | (with_reducible refine w_iteF ?_)
  | (with_reducible refine w_iteNT ?_)
  | (with_reducible refine w_iteNF ?_)
  | (with_reducible refine w_for ?_)
  | (with_reducible refine w_iList ?_)
  | ((with_reducible refine' w_exL ?s ?_); (case s => walk_at "t_sq"))
  | (with_reducible refine w_iTup ?_)
  | ((with_reducible refine' w_exT ?s ?_); (case s => walk_at "t_sqt"))
  | (with_reducible refine w_iRng1 ?_)
  | ((with_reducible refine w_exR1 ?b ?_); (case b => walk_at "t_c"))
  | (with_reducible refine w_iRng2 ?_)
  | ((with_reducible refine w_exR2 ?b ?_); (case b => walk_at "t_c"))
  | (with_reducible refine w_yes ?_)
  | ((with_reducible refine w_pos ?p ?_); (case p => walk_at "t_p"))
  | ((with_reducible refine w_neg ?p ?_); (case p => walk_at "t_p"))
  | ((with_reducible refine w_posN ?p ?_); (case p => walk_at "t_p"))
  | ((with_reducible refine w_negN ?p ?_); (case p => walk_at "t_p"))
  | ((with_reducible refine' w_notInL ?s ?_); (case s => walk_at "t_sq"))
  | ((with_reducible refine' w_inL ?s ?_); (case s => walk_at "t_sq"))
  | ((with_reducible refine' w_sum ?s ?_); (case s => walk_at "t_sq"))
  | (with_reducible refine w_isiI ?_)
  | ((with_reducible refine' w_isiL ?e ?_); (case e => walk_at "t_ty"))
  | ((with_reducible refine' w_isiT ?e ?_); (case e => walk_at "t_ty"))
  | (with_reducible intro p hp_new))
local macro_rules | `(tactic| walk_at "t_ty") => `(tactic| first | assumption | (refine' tyx_l ?e; (case e => walk_at "t_hp")) | (refine' tyx_t ?e; (case e => walk_at "t_hp")))
local macro_rules | `(tactic| walk_at "t_z") => `(tactic| first | assumption | decide | omega | (simp only [List.length_cons, List.length_nil, List.length_map, List.length_append, List.length_replicate]; first | done | decide | omega))
local macro_rules | `(tactic| walk_at "t_at") => `(tactic| first | assumption | rfl)
local macro_rules | `(tactic| walk_at "t_ixn") => `(tactic| first | assumption | rfl)
local macro_rules | `(tactic| walk_at "t_ev") => `(tactic| (intro H1 e Q q; (repeat walk_at "t_w"); exact q _ (by walk_at "t_ex")))
local macro_rules | `(tactic| walk_at "t_p") => `(tactic| first | assumption | decide | decide +kernel)
local macro_rules | `(tactic| walk_at "t_lt") => `(tactic| first | assumption | omega | (simp only [List.length_set, List.length_map, List.length_append]; first | assumption | omega))
def topS (i : Nat) : Stmt := PySem.Challenge.pw_threadslide_k07_boxes_made_and_told.main.body.getD i (.Pass ⟨0, 0, 0, 0⟩)
structure Txt (K : PySem.W.Frag) (mg : Str → Option Value) : Prop where
  b_bool : mg "bool" = none
  b_int : mg "int" = none
  b_isinstance : mg "isinstance" = none
  b_len : mg "len" = none
  b_list : mg "list" = none
  b_min : mg "min" = none
  b_range : mg "range" = none
  b_str : mg "str" = none
  b_sum : mg "sum" = none
  b_tuple : mg "tuple" = none
  c_MOST_CELLS : ∃ tk, mg "MOST_CELLS" = some (.int 400 tk)
  c_MOST_DOORS : ∃ tk, mg "MOST_DOORS" = some (.int 20 tk)
  c_TOO_LONG : ∃ tk, mg "TOO_LONG" = some (.int 1000000000000000000000000000000000000000000000000000000000000 tk)

abbrev s_law_at : Stmt := topS 29
theorem sc_law_at : FnScope ["_law_script", "_law_place"] ["_law_script", "_law_place"] (defScope s_law_at) := ⟨rfl, rfl, rfl, by decide +kernel, rfl, by decide +kernel, by decide +kernel⟩

abbrev s_law_is_int : Stmt := topS 30
theorem sc_law_is_int : FnScope ["_law_value"] ["_law_value"] (defScope s_law_is_int) := ⟨rfl, rfl, rfl, by decide +kernel, rfl, by decide +kernel, by decide +kernel⟩

abbrev s_law_words_are : Stmt := topS 31
theorem sc_law_words_are : FnScope ["_law_found", "_law_due", "_law_k"] ["_law_found", "_law_due"] (defScope s_law_words_are) := ⟨rfl, rfl, rfl, by decide +kernel, rfl, by decide +kernel, by decide +kernel⟩

abbrev s_law_number : Stmt := topS 32
theorem sc_law_number : FnScope ["_law_seed"] ["_law_seed"] (defScope s_law_number) := ⟨rfl, rfl, rfl, by decide +kernel, rfl, by decide +kernel, by decide +kernel⟩

/-! ### the law's own helpers -/
def spAt (K : PySem.W.Frag) : Sp := fun vs H Q _ => ∃ (a : Addr) (i : Int) (ns : List Int), vs = [.ref a, .int i] ∧ SqL K H a (ns.map V.int) ∧ ns.length ≤ 1000 ∧ 0 ≤ i ∧ Evl.RetV (.int (ns.getD i.toNat 0)) H Q
theorem w_at {K : PySem.W.Frag} {H : Hp} {Q : VK} {E : XK} {a : Addr} {i : Int} {ns : List Int} (s : SqL K H a (ns.map V.int)) (hl : ns.length ≤ 1000) (h0 : 0 ≤ i) (h : ∀ H2, Ex H H2 → Q (.int (ns.getD i.toNat 0)) H2) : spAt K ([.ref a, .int i] ++ []) H Q E := ⟨a, i, ns, rfl, s, hl, h0, h⟩
theorem cut_at (ns : List Int) (i : Int) (h0 : 0 ≤ i) : atI (cutV (ns.map V.int) (some i) (some (i + 1)) ++ [V.int 0]) 0 = some (V.int (ns.getD i.toNat 0)) := by
  obtain ⟨n, rfl⟩ : ∃ n : Nat, i = (n : Int) := ⟨i.toNat, by omega⟩
  have e1 : ((n : Int) + 1) = ((n + 1 : Nat) : Int) := by omega
  unfold cutV
  rw [e1, HT.sIx_nat, HT.sIx_nat, Int.toNat_natCast]
  have g : ∀ (l : List V) (x : V), l[0]? = some x → atI l 0 = some x := fun l x h => atI_nat (j := 0) h
  apply g
  by_cases h : n < ns.length
  · have e2 : min n (ns.map V.int).length = n := by rw [List.length_map]; omega
    have e3 : min (n + 1) (ns.map V.int).length = n + 1 := by rw [List.length_map]; omega
    rw [e2, e3, show n + 1 - n = 1 by omega]
    rw [List.getElem?_append_left (by rw [List.length_take, List.length_drop, List.length_map]; omega), List.getElem?_take_of_lt (by omega), List.getElem?_drop, List.getElem?_map]
    simp [h]
  · have e2 : min n (ns.map V.int).length = ns.length := by rw [List.length_map]; omega
    have e3 : min (n + 1) (ns.map V.int).length = ns.length := by rw [List.length_map]; omega
    rw [e2, e3, Nat.sub_self, List.take_zero]
    simp [List.getD, List.getElem?_eq_none (by omega : ns.length ≤ n)]
local macro_rules | `(tactic| walk_at "t_at") => `(tactic| exact cut_at _ _ (by assumption))
section
variable {P : Program} {w : World} {K : PySem.W.Frag} {mg : Str → Option Value} {base : Heap}
theorem c_law_at (T : Txt K mg) (D : DefAt K mg "_law_at" "_law_at" s_law_at) : Cal P w K mg base "_law_at" 1 ["_law_script", "_law_place"] (spAt K) := by
  refine Cal.of D sc_law_at (fun vs H Q E h => ?_) (fun _ _ _ _ _ _ us hl => match us, hl with | [_, _], _ => rfl) (fun f cdv A outer s H vs Q E hr h => ?_)
  · obtain ⟨a, i, ns, rfl, _⟩ := h; rfl
  · obtain ⟨a, i, ns, rfl, hS, hl, h0, k⟩ := h
    have hc := L2.cutV_length (ns.map V.int) (some i) (some (i + 1))
    rw [List.length_map] at hc
    refine ⟨_, (pss_one (ps_ret (pe_ix (ix_seqK (K := K) rfl) (pe_op op_addA (pe_slice (sl_AK (K := K) rfl) (pv 0) (po_some (pv 1)) (po_some (pe_op op_addA (pv 1) pe_int))) (pe_lst (pa_cons pe_int pa_nil))) pe_int (fun _ _ => rfl)))), ?_⟩
    repeat walk_at "t_w"
    refine k _ ?_
    walk_at "t_ex"
end
section
variable {P : Program} {w : World} {K : PySem.W.Frag} {mg : Str → Option Value} {base : Heap}
def spIsInt : Sp := fun vs H Q _ => ∃ i : Int, vs = [.int i] ∧ Evl.RetV (.bl true) H Q
theorem w_isInt {H : Hp} {Q : VK} {E : XK} {i : Int} (h : ∀ H2, Ex H H2 → Q (.bl true) H2) : spIsInt ([.int i] ++ []) H Q E := ⟨i, rfl, h⟩
theorem c_law_is_int (T : Txt K mg) (D : DefAt K mg "_law_is_int" "_law_is_int" s_law_is_int) : Cal P w K mg base "_law_is_int" 1 ["_law_value"] spIsInt := by
  refine Cal.of D sc_law_is_int (fun vs H Q E h => ?_) (fun _ _ _ _ _ _ us hl => match us, hl with | [_], _ => rfl) (fun f cdv A outer s H vs Q E hr h => ?_)
  · obtain ⟨i, rfl, _⟩ := h; rfl
  · obtain ⟨i, rfl, k⟩ := h
    refine ⟨_, (pss_one (ps_ret (pe_and (pe_callB (call_isiK' (K := K) rfl) (by rfl) T.b_isinstance (by decide +kernel) (pa_cons (pv 0) (pa_cons (pe_bltn (v := .ty "int") (by rfl) T.b_int (by decide +kernel) rfl) pa_nil))) (pe_and (pe_cmpR op_notA (pv 0) pe_bl (nomark _)) (pe_one (pe_cmpR op_notA (pv 0) pe_bl (nomark _))))))), ?_⟩
    repeat walk_at "t_w"
    exact k _ (by walk_at "t_ex")
end
local macro_rules | `(tactic| walk_at "t_w") => `(tactic| first
  | ((with_reducible refine' w_at ?s ?hl ?h0 ?_); (case s => walk_at "t_sq"); (case hl => walk_at "t_z"); (case h0 => walk_at "t_z"))
  | (with_reducible refine w_isInt ?_))
section
variable {P : Program} {w : World} {K : PySem.W.Frag} {mg : Str → Option Value} {base : Heap}
def spWordsAre (K : PySem.W.Frag) : Sp := fun vs H Q _ => ∃ (a b : Addr) (xs : List Int), vs = [.ref a, .ref b] ∧ TyX K H (.ref a) (.type "list") ∧ SqL K H a (xs.map V.int) ∧ SqL K H b (xs.map V.int) ∧ xs.length ≤ 1000 ∧ Evl.RetV (.bl true) H Q
theorem c_law_words_are (T : Txt K mg) (D : DefAt K mg "_law_words_are" "_law_words_are" s_law_words_are) (c_law_is_int : Cal P w K mg base "_law_is_int" 1 ["_law_value"] spIsInt) : Cal P w K mg base "_law_words_are" 2 ["_law_found", "_law_due"] (spWordsAre K) := by
  refine Cal.of D sc_law_words_are (fun vs H Q E h => ?_) (fun _ _ _ _ _ _ us hl => match us, hl with | [_, _], _ => rfl) (fun f cdv A outer s H vs Q E hr h => ?_)
  · obtain ⟨a, b, xs, rfl, _⟩ := h; rfl
  · obtain ⟨a, b, xs, rfl, hT, hA, hB, hl, k⟩ := h
    have hu : _ + 64 < cLine := hr.units
    refine ⟨_, (pss_cons (ps_if (PW.pt (pw_or (pt_not (pt_val (pe_callB (call_isiK' (K := K) rfl) (by rfl) T.b_isinstance (by decide +kernel) (pa_cons (pv 0) (pa_cons (pe_bltn (v := .ty "list") (by rfl) T.b_list (by decide +kernel) rfl) pa_nil))))) (pw_or1 (pt_cmpR (op_neK (K := K) rfl hu) (pe_callB (call_lenK (K := K) rfl) (by rfl) T.b_len (by decide +kernel) (pa_cons (pv 0) pa_nil)) (pe_callB (call_lenK (K := K) rfl) (by rfl) T.b_len (by decide +kernel) (pa_cons (pv 1) pa_nil)) (nomark _))))) (pss_one (ps_ret pe_bl)) pss_nil)
      (pss_one (ps_ret (pe_cmpR (op_eqK (K := K) rfl hu) (pe_callB (call_lenK (K := K) rfl) (by rfl) T.b_len (by decide +kernel) (pa_cons (pe_lc (own := [("_law_k", 2)]) (g := (gName 2)) rfl sc_law_words_are.nd (pi_range1 rfl T.b_range (pa_cons (pe_callB (call_lenK (K := K) rfl) (by rfl) T.b_len (by decide +kernel) (pa_cons (pv 1) pa_nil)) pa_nil)) (blkOk_by (own := [("_law_k", 2)]) (N := ["_law_found", "_law_due", "_law_k"]) (sc := defScope s_law_words_are) (by decide +kernel)) (fun _ _ _ _ _ => (pg_name (i := 2) sc_law_words_are.nd rfl (Or.inl rfl))) (fun _ _ _ _ _ => (pts_one (PW.pt (pw_or (pt_not (pt_val (pe_callC c_law_is_int (hr.mono (by decide)) rfl (pa_cons (pe_ix (ix_seqK (K := K) rfl) (pv 0) (pv 2) (fun _ _ => rfl)) pa_nil)))) (pw_or1 (pt_cmpR (op_neK (K := K) rfl hu) (pe_ix (ix_seqK (K := K) rfl) (pv 0) (pv 2) (fun _ _ => rfl)) (pe_ix (ix_seqK (K := K) rfl) (pv 1) (pv 2) (fun _ _ => rfl)) (nomark _))))))) (fun _ _ _ _ _ => (pv 2))) pa_nil)) pe_int (nomark _))))), ?_⟩
    repeat walk_at "t_w"
    refine w_negN rfl ?_
    repeat walk_at "t_w"
    refine w_lcR1 (n := ((xs.map V.int).length : Int)) (fun _ => false) (fun _ => .non) ?ha ?hn ?hw ?ht ?he ?hk
    case ha => walk_at "t_ev"
    case hn => rw [List.length_map]; omega
    case hw => intro x; rfl
    case ht =>
      intro i H1 e hi
      rw [List.length_map] at hi
      have hat := at_map (xs := xs) (i := i) (by omega)
      intro H2 e2 Q q
      repeat walk_at "t_w"
      rw [decide_eq_true rfl]
      exact q _ (by walk_at "t_ex")
    case he => intro i H1 e hi hf; cases hf
    case hk =>
      intro p H2 hp e h2
      rw [given_none] at h2
      repeat walk_at "t_w"
      exact k _ e
end
theorem w_wordsAre {K : PySem.W.Frag} {H : Hp} {Q : VK} {E : XK} {a b : Addr} {xs : List Int} (t : TyX K H (.ref a) (.type "list")) (s1 : SqL K H a (xs.map V.int)) (s2 : SqL K H b (xs.map V.int)) (hl : xs.length ≤ 1000) (h : ∀ H2, Ex H H2 → Q (.bl true) H2) : spWordsAre K ([.ref a, .ref b] ++ []) H Q E := ⟨a, b, xs, rfl, t, s1, s2, hl, h⟩
theorem w_words2 {K : PySem.W.Frag} {H : Hp} {Q : VK} {E : XK} {a b : Addr} {ys zs : List V} (xs : List Int) (e1 : H a = some (.lst ys)) (e2 : SqL K H b zs) (hy : ys = xs.map V.int) (hz : zs = xs.map V.int) (hl : xs.length ≤ 1000) (h : ∀ H2, Ex H H2 → Q (.bl true) H2) : spWordsAre K ([.ref a, .ref b] ++ []) H Q E :=
  ⟨a, b, xs, rfl, tyx_l e1, by rw [← hy]; exact SqL.of e1, by rw [← hz]; exact e2, hl, h⟩
/-- the number drawn from a seed -/
def lawNum (s : Int) : Int :=
  if s % 5 < 3 then s / 5 % 41 - 20
  else if s % 5 = 3 then (if s / 5 % 4 = 0 then 10 ^ 60 - 1 else if s / 5 % 4 = 1 then 1 - 10 ^ 60 else if s / 5 % 4 = 2 then 10 ^ 30 else 0)
  else s / 5 * 48271 ^ 12 % (2 * 10 ^ 60 - 1) - (10 ^ 60 - 1)
theorem p60 : (10 : Int) ^ 60 = 1000000000000000000000000000000000000000000000000000000000000 := by decide +kernel
theorem p30 : (10 : Int) ^ 30 = 1000000000000000000000000000000 := by decide +kernel
theorem lawNum_lt (s : Int) : -(10 ^ 60) < lawNum s ∧ lawNum s < 10 ^ 60 := by
  unfold lawNum
  rw [p60, p30]
  split
  · omega
  · split
    · split
      · omega
      · split
        · omega
        · split <;> omega
    · have h1 := Int.emod_nonneg (s / 5 * 48271 ^ 12) (show (2 * 1000000000000000000000000000000000000000000000000000000000000 - 1 : Int) ≠ 0 by omega)
      have h2 := Int.emod_lt_of_pos (s / 5 * 48271 ^ 12) (show (0 : Int) < 2 * 1000000000000000000000000000000000000000000000000000000000000 - 1 by omega)
      generalize s / 5 * 48271 ^ 12 % (2 * 1000000000000000000000000000000000000000000000000000000000000 - 1) = z at h1 h2 ⊢
      omega
theorem bits_lit {a : Int} {n : Nat} (h : (decide (Builtin.Int.intBits a ≤ n)) = true) : Builtin.Int.intBits a ≤ n := of_decide_eq_true h
theorem pick4 (e : Int) (h0 : 0 ≤ e) (h4 : e < 4) (a b c d : V) : atI [a, b, c, d] e = some (if e = 0 then a else if e = 1 then b else if e = 2 then c else d) := by
  obtain rfl | rfl | rfl | rfl : e = 0 ∨ e = 1 ∨ e = 2 ∨ e = 3 := by omega
  all_goals rfl
def spNumber : Sp := fun vs H Q _ => ∃ s : Int, vs = [.int s] ∧ Builtin.Int.intBits s ≤ 3000000 ∧ Evl.RetV (.int (lawNum s)) H Q
section
variable {P : Program} {w : World} {K : PySem.W.Frag} {mg : Str → Option Value} {base : Heap}
theorem w_number {H : Hp} {Q : VK} {E : XK} {i : Int} (hb : Builtin.Int.intBits i ≤ 3000000) (h : ∀ H2, Ex H H2 → Q (.int (lawNum i)) H2) : spNumber ([.int i] ++ []) H Q E := ⟨i, rfl, hb, h⟩
theorem c_law_number (T : Txt K mg) (D : DefAt K mg "_law_number" "_law_number" s_law_number) : Cal P w K mg base "_law_number" 1 ["_law_seed"] spNumber := by
  refine Cal.of D sc_law_number (fun vs H Q E h => ?_) (fun _ _ _ _ _ _ us hl => match us, hl with | [_], _ => rfl) (fun f cdv A outer s H vs Q E hr h => ?_)
  · obtain ⟨i, rfl, _⟩ := h; rfl
  · obtain ⟨i, rfl, hb, k⟩ := h
    have hu : _ + 64 < cLine := hr.units
    have hm : CMulA (i / 5) (48271 ^ Int.toNat 12) := Or.inr (Nat.le_trans (Nat.add_le_add (bits_div hb) (bits_lit (n := 200) (by decide +kernel))) (by decide))
    have hp := pick4 (i / 5 % 4) (by omega) (by omega) (V.int (10 ^ Int.toNat 60 - 1)) (V.int (1 - 10 ^ Int.toNat 60)) (V.int (10 ^ Int.toNat 30)) (V.int 0)
    refine ⟨_, (pss_cons (ps_if (pt_cmpR op_lt (pe_op op_mod (pv 0) pe_int) pe_int (nomark _)) (pss_one (ps_ret (pe_op op_sub (pe_op op_mod (pe_op op_fdiv (pv 0) pe_int) pe_int) pe_int))) pss_nil)
      (pss_cons (ps_if (pt_cmpR (op_eqK (K := K) rfl hu) (pe_op op_mod (pv 0) pe_int) pe_int (nomark _)) (pss_one (ps_ret (pe_ix (ix_seqK (K := K) rfl) (pe_lst (pa_cons (pe_op op_sub (pe_op op_pow pe_int pe_int) pe_int) (pa_cons (pe_op op_sub pe_int (pe_op op_pow pe_int pe_int)) (pa_cons (pe_op op_pow pe_int pe_int) (pa_cons pe_int pa_nil))))) (pe_op op_mod (pe_op op_fdiv (pv 0) pe_int) pe_int) (fun _ _ => rfl)))) pss_nil)
      (pss_one (ps_ret (pe_op op_sub (pe_op op_mod (pe_op op_mulA (pe_op op_fdiv (pv 0) pe_int) (pe_op op_pow pe_int pe_int)) (pe_op op_sub (pe_op op_mulA pe_int (pe_op op_pow pe_int pe_int)) pe_int)) (pe_op op_sub (pe_op op_pow pe_int pe_int) pe_int)))))), ?_⟩
    repeat walk_at "t_w"
    refine w_ite (fun h1 => ?_) (fun h1 => ?_)
    · repeat walk_at "t_w"
      have e : lawNum i = i / 5 % 41 - 20 := by unfold lawNum; rw [if_pos h1]
      rw [← e]
      exact k _ (by walk_at "t_ex")
    · repeat walk_at "t_w"
      refine w_ite (fun h2 => ?_) (fun h2 => ?_)
      · repeat walk_at "t_w"
        have e : V.int (lawNum i) = (if i / 5 % 4 = 0 then V.int (10 ^ Int.toNat 60 - 1) else if i / 5 % 4 = 1 then V.int (1 - 10 ^ Int.toNat 60) else if i / 5 % 4 = 2 then V.int (10 ^ Int.toNat 30) else V.int 0) := by
          unfold lawNum
          rw [if_neg h1, if_pos h2]
          split
          · rfl
          · split
            · rfl
            · split <;> rfl
        rw [← e]
        exact k _ (by walk_at "t_ex")
      · repeat walk_at "t_w"
        have e : lawNum i = i / 5 * 48271 ^ Int.toNat 12 % (2 * 10 ^ Int.toNat 60 - 1) - (10 ^ Int.toNat 60 - 1) := by
          unfold lawNum
          rw [if_neg h1, if_neg h2]
          rfl
        rw [← e]
        exact k _ (by walk_at "t_ex")
end
def spLaw (K : PySem.W.Frag) : Sp := fun vs H Q _ => ∃ (a : Addr) (ns : List Int), vs = [.ref a] ∧ SqL K H a (ns.map V.int) ∧ ns.length ≤ 63 ∧ (∀ z ∈ ns, Builtin.Int.intBits z ≤ 1048576) ∧ ∀ H', Q (.bl true) H'
theorem at_bits {ns : List Int} (h : ∀ z ∈ ns, Builtin.Int.intBits z ≤ 1048576) (i : Nat) : Builtin.Int.intBits (ns.getD i 0) ≤ 1048576 := by
  rw [List.getD_eq_getElem?_getD]
  cases e : ns[i]? with
  | none => decide
  | some z => exact h z (List.mem_of_getElem? e)
theorem seed_bits {x c : Int} (hx : Builtin.Int.intBits x ≤ 1048576) (hc : c.natAbs < 2 ^ 40) : Builtin.Int.intBits (x * 48271 + c) ≤ 3000000 :=
  Nat.le_trans (bits_add (m := 1048616) (Nat.le_trans (bits_mul hx (bits_lit (n := 20) (by decide +kernel))) (by decide)) (Nat.le_trans (lt_bits hc) (by decide))) (by decide)
end Tw

set_option Elab.async false
set_option linter.all false
set_option maxRecDepth 100000
set_option maxHeartbeats 4000000
namespace Tw
open PySem PySem.Spec PyProof.Rows L2
open Evl (Ex ex_l ex_t fresh_back sz_of sz_lt)
local macro_rules | `(tactic| walk_at "t_hp") => `(tactic| first
  | assumption
  | exact upd_same
  | (refine' hp_ne ?hne ?hrest; (case hne => walk_at "t_ne"); (case hrest => walk_at "t_hp"))
  | (refine' hp_ex ?hx ?hrest; (case hx => assumption); (case hrest => walk_at "t_hp")))
local macro_rules | `(tactic| walk_at "t_ne") => `(tactic| first
  | assumption
  | exact Ne.symm (by assumption)
  | (refine' ne_of_none ?h1 ?h2; (case h2 => assumption); (case h1 => walk_at "t_hp"))
  | (refine' Ne.symm (ne_of_none ?h1 ?h2); (case h2 => assumption); (case h1 => walk_at "t_hp")))
local macro_rules | `(tactic| walk_at "t_none") => `(tactic| first
  | assumption
  | (refine' fresh_back ?e ?n; (case n => assumption); (case e => walk_at "t_ex")))
local macro_rules | `(tactic| walk_at "t_ex") => `(tactic| first
  | assumption
  | exact Evl.Ex.refl _
  | (refine' ex_new ?n ?e; (case n => assumption); (case e => walk_at "t_ex"))
  | (refine' Evl.Ex.mut ?e ?n; (case n => walk_at "t_none"); (case e => walk_at "t_ex"))
  | (refine' Evl.Ex.trans ?a ?b; (case b => assumption); (case a => walk_at "t_ex")))
local macro_rules | `(tactic| walk_at "t_sq") => `(tactic| first
  | assumption
  | (refine' SqL.of ?h; (case h => walk_at "t_hp"))
  | (refine' ex_l ?e ?s; (case s => assumption); (case e => walk_at "t_ex")))
local macro_rules | `(tactic| walk_at "t_sqt") => `(tactic| first
  | assumption
  | (refine' SqT.of ?h; (case h => walk_at "t_hp"))
  | (refine' ex_t ?e ?s; (case s => assumption); (case e => walk_at "t_ex")))
local macro_rules | `(tactic| walk_at "t_mul") => `(tactic| first
  | assumption
  | exact Or.inl (Or.inl ⟨by decide, by decide⟩)
  | exact Or.inl (Or.inr ⟨by decide, by decide⟩)
  | exact Or.inl (Or.inl ⟨by omega, by omega⟩)
  | exact Or.inl (Or.inr ⟨by omega, by omega⟩))
local macro_rules | `(tactic| walk_at "t_c") => `(tactic| first
  | assumption
  | decide
  | (show (0 : Int) < _; decide)
  | (show (0 : Int) < _; omega)
  | exact ⟨by decide, by decide⟩
  | exact ⟨by decide, by decide, by decide⟩
  | exact ⟨by omega, by omega⟩
  | exact ⟨by omega, by omega, by omega, by omega⟩)
local macro_rules | `(tactic| walk_at "t_w") => `(tactic| first
  | (with_reducible refine w_seq ?_)
  | (with_reducible refine w_asg ?_)
  | (with_reducible refine w_gName ?_)
  | (with_reducible refine w_nx ?_)
  | (with_reducible refine w_rt ?_)
  | (with_reducible refine w_ct ?_)
  | (with_reducible refine w_bk ?_)
  | (with_reducible refine w_ret ?_)
  | (with_reducible refine w_retN ?_)
  | (with_reducible refine w_drop ?_)
  | (with_reducible refine w_ifS ?_)
  | (with_reducible refine w_next ?_)
  | (with_reducible refine w_break ?_)
  | (with_reducible refine w_cont ?_)
  | ((with_reducible refine' w_var ?h ?_); (case h => rfl))
  | (with_reducible refine w_c ?_)
  | (with_reducible refine w_op ?_)
  | (with_reducible refine w_un ?_)
  | (with_reducible refine w_I0 ?_)
  | ((with_reducible refine' w_I ?c ?_); (case c => walk_at "t_c"))
  | (with_reducible refine w_U ?_)
  | (with_reducible refine w_addI ?_)
  | ((with_reducible refine' w_addL ?h1 ?h2 ?hz ?_); (case h1 => walk_at "t_hp"); (case h2 => walk_at "t_hp"); (case hz => walk_at "t_z"))
  | ((with_reducible refine' w_mulI ?c ?_); (case c => walk_at "t_mul"))
  | ((with_reducible refine' w_mulL1 ?h1 ?b1 ?b2 ?_); (case h1 => walk_at "t_hp"); (case b1 => walk_at "t_z"); (case b2 => walk_at "t_z"))
  | ((with_reducible refine' w_mulL ?h1 ?b1 ?b2 ?hz ?_); (case h1 => walk_at "t_hp"); (case b1 => walk_at "t_z"); (case b2 => walk_at "t_z"); (case hz => walk_at "t_z"))
  | (with_reducible refine w_notIB ?_)
  | (with_reducible refine w_notBB ?_)
  | (with_reducible refine w_notN ?_)
  | (with_reducible refine w_isBB ?_)
  | (with_reducible refine w_isN ?_)
  | (with_reducible refine w_eqI ?_)
  | (with_reducible refine w_neI ?_)
  | (with_reducible refine w_eqB ?_)
  | (with_reducible refine w_neB ?_)
  | (with_reducible refine w_eqS ?_)
  | (with_reducible refine w_neS ?_)
  | (with_reducible refine w_test ?_)
  | (with_reducible refine w_B ?_)
  | (with_reducible refine w_exB ?_)
  | (with_reducible refine w_and ?_)
  | (with_reducible refine w_or ?_)
  | (with_reducible refine w_not ?_)
  | (with_reducible refine w_andV ?_)
  | (with_reducible refine w_orV ?_)
  | (with_reducible refine w_notV ?_)
  | (with_reducible refine w_bl ?_)
  | (with_reducible refine w_if ?_)
  | (with_reducible refine w_nil ?_)
  | (with_reducible refine w_cons ?_)
  | (with_reducible refine w_cb ?_)
  | (with_reducible refine w_call ?_)
  | (with_reducible refine w_tup ?_)
  | (with_reducible refine w_lst ?_)
  | ((with_reducible refine' w_fin ?hz ?_); (case hz => (simp only [List.length_cons, List.length_nil]; decide)))
  | ((with_reducible refine' w_len ?s ?_); (case s => walk_at "t_sq"))
  | ((with_reducible refine' w_lenT ?s ?_); (case s => walk_at "t_sqt"))
  | (with_reducible refine w_intI ?_)
  | (with_reducible refine w_intB ?_)
  | ((with_reducible refine' w_list ?s ?_); (case s => walk_at "t_sq"))
  | (with_reducible refine w_max ?_)
  | (with_reducible refine w_min ?_)
  | (with_reducible refine w_abs ?_)
  | (with_reducible refine w_sl ?_)
  | (with_reducible refine w_noPart ?_)
  | (with_reducible refine w_part ?_)
  | (with_reducible refine w_exI ?_)
  | ((with_reducible refine' w_slL ?s ?_); (case s => walk_at "t_sq"))
  | ((with_reducible refine' w_ixLI ?s ?b ?_); (case s => walk_at "t_sq"); (case b => walk_at "t_lt"))
  | ((with_reducible refine' w_ixL ?s ?e ?_); (case s => walk_at "t_sq"); (case e => walk_at "t_at"))
  | ((with_reducible refine' w_ixT ?s ?e ?_); (case s => walk_at "t_sqt"); (case e => walk_at "t_at"))
  | (with_reducible refine w_gSub ?_)
  | ((with_reducible refine' w_setLI ?e ?b ?_); (case e => walk_at "t_hp"); (case b => walk_at "t_lt"))
  | ((with_reducible refine' w_setL ?e ?b ?_); (case e => walk_at "t_hp"); (case b => walk_at "t_ixn"))
  | (with_reducible refine w_bm ?_)
  | (with_reducible refine w_bm0 ?_)
  | ((with_reducible refine' w_tyL ?e ?_); (case e => walk_at "t_sq"))
  | ((with_reducible refine' w_app ?e ?hz ?_); (case e => walk_at "t_hp"); (case hz => walk_at "t_z"))
  | (with_reducible refine w_iteT ?_)
  | (with_reducible refine w_iteF ?_)
  | (with_reducible refine w_iteNT ?_)
  | (with_reducible refine w_iteNF ?_)
  | (with_reducible refine w_for ?_)
  | (with_reducible refine w_iList ?_)
  | ((with_reducible refine' w_exL ?s ?_); (case s => walk_at "t_sq"))
  | (with_reducible refine w_iTup ?_)
  | ((with_reducible refine' w_exT ?s ?_); (case s => walk_at "t_sqt"))
  | (with_reducible refine w_iRng1 ?_)
  | ((with_reducible refine w_exR1 ?b ?_); (case b => walk_at "t_c"))
  | (with_reducible refine w_iRng2 ?_)
  | ((with_reducible refine w_exR2 ?b ?_); (case b => walk_at "t_c"))
  | (with_reducible refine w_yes ?_)
  | ((with_reducible refine w_pos ?p ?_); (case p => walk_at "t_p"))
  | ((with_reducible refine w_neg ?p ?_); (case p => walk_at "t_p"))
  | ((with_reducible refine w_posN ?p ?_); (case p => walk_at "t_p"))
  | ((with_reducible refine w_negN ?p ?_); (case p => walk_at "t_p"))
  | ((with_reducible refine' w_notInL ?s ?_); (case s => walk_at "t_sq"))
  | ((with_reducible refine' w_inL ?s ?_); (case s => walk_at "t_sq"))
  | ((with_reducible refine' w_sum ?s ?_); (case s => walk_at "t_sq"))
  | (with_reducible refine w_isiI ?_)
  | ((with_reducible refine' w_isiL ?e ?_); (case e => walk_at "t_ty"))
  | ((with_reducible refine' w_isiT ?e ?_); (case e => walk_at "t_ty"))
  | (with_reducible intro p hp_new))
local macro_rules | `(tactic| walk_at "t_ty") => `(tactic| first | assumption | (refine' tyx_l ?e; (case e => walk_at "t_hp")) | (refine' tyx_t ?e; (case e => walk_at "t_hp")))
local macro_rules | `(tactic| walk_at "t_z") => `(tactic| first | assumption | decide | omega | (simp only [List.length_cons, List.length_nil, List.length_map, List.length_append, List.length_replicate]; first | done | decide | omega))
local macro_rules | `(tactic| walk_at "t_at") => `(tactic| first | assumption | rfl)
local macro_rules | `(tactic| walk_at "t_ixn") => `(tactic| first | assumption | rfl)
local macro_rules | `(tactic| walk_at "t_ev") => `(tactic| (intro H1 e Q q; (repeat walk_at "t_w"); exact q _ (by walk_at "t_ex")))
local macro_rules | `(tactic| walk_at "t_p") => `(tactic| first | assumption | decide | decide +kernel)
local macro_rules | `(tactic| walk_at "t_lt") => `(tactic| first | assumption | omega | (simp only [List.length_set, List.length_map, List.length_append]; first | assumption | omega))
abbrev s_number_word : Stmt := topS 9
theorem sc_number_word : FnScope ["n"] ["n"] (defScope s_number_word) := ⟨rfl, rfl, rfl, by decide +kernel, rfl, by decide +kernel, by decide +kernel⟩

abbrev s_link_word : Stmt := topS 10
theorem sc_link_word : FnScope ["place"] ["place"] (defScope s_link_word) := ⟨rfl, rfl, rfl, by decide +kernel, rfl, by decide +kernel, by decide +kernel⟩

abbrev s_head_word : Stmt := topS 11
theorem sc_head_word : FnScope ["many", "marked"] ["many", "marked"] (defScope s_head_word) := ⟨rfl, rfl, rfl, by decide +kernel, rfl, by decide +kernel, by decide +kernel⟩

abbrev s_is_link : Stmt := topS 12
theorem sc_is_link : FnScope ["word"] ["word"] (defScope s_is_link) := ⟨rfl, rfl, rfl, by decide +kernel, rfl, by decide +kernel, by decide +kernel⟩

abbrev s_told_by : Stmt := topS 13
theorem sc_told_by : FnScope ["word"] ["word"] (defScope s_told_by) := ⟨rfl, rfl, rfl, by decide +kernel, rfl, by decide +kernel, by decide +kernel⟩

abbrev s_fields_of : Stmt := topS 14
theorem sc_fields_of : FnScope ["head"] ["head"] (defScope s_fields_of) := ⟨rfl, rfl, rfl, by decide +kernel, rfl, by decide +kernel, by decide +kernel⟩

/-! ### the program's words -/
def spI1 (g : Int → V) : Sp := fun vs H Q _ => ∃ n : Int, vs = [.int n] ∧ Evl.RetV (g n) H Q
theorem w_I1 {g : Int → V} {H : Hp} {Q : VK} {E : XK} {n : Int} (h : ∀ H2, Ex H H2 → Q (g n) H2) : spI1 g ([.int n] ++ []) H Q E := ⟨n, rfl, h⟩
def spHead : Sp := fun vs H Q _ => ∃ (n : Int) (b : Bool), vs = [.int n, .bl b] ∧ Evl.RetV (.int (if b then 4 * n + 2 else 4 * n)) H Q
theorem w_Head {H : Hp} {Q : VK} {E : XK} {n : Int} {b : Bool} (h : ∀ H2, Ex H H2 → Q (.int (if b then 4 * n + 2 else 4 * n)) H2) : spHead ([.int n, .bl b] ++ []) H Q E := ⟨n, b, rfl, h⟩
abbrev gNumber : Int → V := fun n => .int (2 * n)
abbrev gLink : Int → V := fun n => .int (2 * n + 1)
abbrev gIsLink : Int → V := fun n => .bl (decide (n % 2 = 1))
abbrev gTold : Int → V := fun n => .int (n / 2)
abbrev gFields : Int → V := fun n => .int (n / 4)
abbrev gIsMarked : Int → V := fun n => .bl (decide (n % 4 = 2))
section
variable {P : Program} {w : World} {K : PySem.W.Frag} {mg : Str → Option Value} {base : Heap}
theorem c_number_word (T : Txt K mg) (D : DefAt K mg "number_word" "number_word" s_number_word) : Cal P w K mg base "number_word" 1 ["n"] (spI1 gNumber) := by
  refine Cal.of D sc_number_word (fun vs H Q E h => ?_) (fun _ _ _ _ _ _ us hl => match us, hl with | [_], _ => rfl) (fun f cdv A outer s H vs Q E hr h => ?_)
  · obtain ⟨i, rfl, _⟩ := h; rfl
  · obtain ⟨i, rfl, k⟩ := h
    have hu : _ + 64 < cLine := hr.units
    refine ⟨_, (pss_one (ps_ret (pe_op op_mulA pe_int (pv 0)))), ?_⟩
    repeat walk_at "t_w"
    exact k _ (by walk_at "t_ex")
theorem c_link_word (T : Txt K mg) (D : DefAt K mg "link_word" "link_word" s_link_word) : Cal P w K mg base "link_word" 1 ["place"] (spI1 gLink) := by
  refine Cal.of D sc_link_word (fun vs H Q E h => ?_) (fun _ _ _ _ _ _ us hl => match us, hl with | [_], _ => rfl) (fun f cdv A outer s H vs Q E hr h => ?_)
  · obtain ⟨i, rfl, _⟩ := h; rfl
  · obtain ⟨i, rfl, k⟩ := h
    have hu : _ + 64 < cLine := hr.units
    refine ⟨_, (pss_one (ps_ret (pe_op op_addA (pe_op op_mulA pe_int (pv 0)) pe_int))), ?_⟩
    repeat walk_at "t_w"
    exact k _ (by walk_at "t_ex")
theorem c_is_link (T : Txt K mg) (D : DefAt K mg "is_link" "is_link" s_is_link) : Cal P w K mg base "is_link" 1 ["word"] (spI1 gIsLink) := by
  refine Cal.of D sc_is_link (fun vs H Q E h => ?_) (fun _ _ _ _ _ _ us hl => match us, hl with | [_], _ => rfl) (fun f cdv A outer s H vs Q E hr h => ?_)
  · obtain ⟨i, rfl, _⟩ := h; rfl
  · obtain ⟨i, rfl, k⟩ := h
    have hu : _ + 64 < cLine := hr.units
    refine ⟨_, (pss_one (ps_ret (pe_cmpR (op_eqK (K := K) rfl hu) (pe_op op_mod (pv 0) pe_int) pe_int (nomark _)))), ?_⟩
    repeat walk_at "t_w"
    exact k _ (by walk_at "t_ex")
theorem c_told_by (T : Txt K mg) (D : DefAt K mg "told_by" "told_by" s_told_by) : Cal P w K mg base "told_by" 1 ["word"] (spI1 gTold) := by
  refine Cal.of D sc_told_by (fun vs H Q E h => ?_) (fun _ _ _ _ _ _ us hl => match us, hl with | [_], _ => rfl) (fun f cdv A outer s H vs Q E hr h => ?_)
  · obtain ⟨i, rfl, _⟩ := h; rfl
  · obtain ⟨i, rfl, k⟩ := h
    have hu : _ + 64 < cLine := hr.units
    refine ⟨_, (pss_one (ps_ret (pe_op op_fdiv (pv 0) pe_int))), ?_⟩
    repeat walk_at "t_w"
    exact k _ (by walk_at "t_ex")
theorem c_fields_of (T : Txt K mg) (D : DefAt K mg "fields_of" "fields_of" s_fields_of) : Cal P w K mg base "fields_of" 1 ["head"] (spI1 gFields) := by
  refine Cal.of D sc_fields_of (fun vs H Q E h => ?_) (fun _ _ _ _ _ _ us hl => match us, hl with | [_], _ => rfl) (fun f cdv A outer s H vs Q E hr h => ?_)
  · obtain ⟨i, rfl, _⟩ := h; rfl
  · obtain ⟨i, rfl, k⟩ := h
    have hu : _ + 64 < cLine := hr.units
    refine ⟨_, (pss_one (ps_ret (pe_op op_fdiv (pv 0) pe_int))), ?_⟩
    repeat walk_at "t_w"
    exact k _ (by walk_at "t_ex")
theorem c_head_word (T : Txt K mg) (D : DefAt K mg "head_word" "head_word" s_head_word) : Cal P w K mg base "head_word" 1 ["many", "marked"] spHead := by
  refine Cal.of D sc_head_word (fun vs H Q E h => ?_) (fun _ _ _ _ _ _ us hl => match us, hl with | [_, _], _ => rfl) (fun f cdv A outer s H vs Q E hr h => ?_)
  · obtain ⟨i, b, rfl, _⟩ := h; rfl
  · obtain ⟨i, b, rfl, k⟩ := h
    refine ⟨_, (pss_cons (ps_if (pt_val (pv 1)) (pss_one (ps_ret (pe_op op_addA (pe_op op_mulA pe_int (pv 0)) pe_int))) pss_nil)
      (pss_one (ps_ret (pe_op op_mulA pe_int (pv 0))))), ?_⟩
    cases b with
    | true =>
      repeat walk_at "t_w"
      exact k _ (by walk_at "t_ex")
    | false =>
      repeat walk_at "t_w"
      exact k _ (by walk_at "t_ex")
end
end Tw

set_option Elab.async false
set_option linter.all false
set_option maxRecDepth 100000
set_option maxHeartbeats 4000000
namespace Tw
open PySem PySem.Spec PyProof.Rows L2
open Evl (Ex ex_l ex_t fresh_back sz_of sz_lt)
local macro_rules | `(tactic| walk_at "t_hp") => `(tactic| first
  | assumption
  | exact upd_same
  | (refine' hp_ne ?hne ?hrest; (case hne => walk_at "t_ne"); (case hrest => walk_at "t_hp"))
  | (refine' hp_ex ?hx ?hrest; (case hx => assumption); (case hrest => walk_at "t_hp")))
local macro_rules | `(tactic| walk_at "t_ne") => `(tactic| first
  | assumption
  | exact Ne.symm (by assumption)
  | (refine' ne_of_none ?h1 ?h2; (case h2 => assumption); (case h1 => walk_at "t_hp"))
  | (refine' Ne.symm (ne_of_none ?h1 ?h2); (case h2 => assumption); (case h1 => walk_at "t_hp")))
local macro_rules | `(tactic| walk_at "t_none") => `(tactic| first
  | assumption
  | (refine' fresh_back ?e ?n; (case n => assumption); (case e => walk_at "t_ex")))
local macro_rules | `(tactic| walk_at "t_ex") => `(tactic| first
  | assumption
  | exact Evl.Ex.refl _
  | (refine' ex_new ?n ?e; (case n => assumption); (case e => walk_at "t_ex"))
  | (refine' Evl.Ex.mut ?e ?n; (case n => walk_at "t_none"); (case e => walk_at "t_ex"))
  | (refine' Evl.Ex.trans ?a ?b; (case b => assumption); (case a => walk_at "t_ex")))
local macro_rules | `(tactic| walk_at "t_sq") => `(tactic| first
  | assumption
  | (refine' SqL.of ?h; (case h => walk_at "t_hp"))
  | (refine' ex_l ?e ?s; (case s => assumption); (case e => walk_at "t_ex")))
local macro_rules | `(tactic| walk_at "t_sqt") => `(tactic| first
  | assumption
  | (refine' SqT.of ?h; (case h => walk_at "t_hp"))
  | (refine' ex_t ?e ?s; (case s => assumption); (case e => walk_at "t_ex")))
local macro_rules | `(tactic| walk_at "t_mul") => `(tactic| first
  | assumption
  | exact Or.inl (Or.inl ⟨by decide, by decide⟩)
  | exact Or.inl (Or.inr ⟨by decide, by decide⟩)
  | exact Or.inl (Or.inl ⟨by omega, by omega⟩)
  | exact Or.inl (Or.inr ⟨by omega, by omega⟩))
local macro_rules | `(tactic| walk_at "t_c") => `(tactic| first
  | assumption
  | decide
  | (show (0 : Int) < _; decide)
  | (show (0 : Int) < _; omega)
  | exact ⟨by decide, by decide⟩
  | exact ⟨by decide, by decide, by decide⟩
  | exact ⟨by omega, by omega⟩
  | exact ⟨by omega, by omega, by omega, by omega⟩)
local macro_rules | `(tactic| walk_at "t_w") => `(tactic| first
  | (with_reducible refine w_seq ?_)
  | (with_reducible refine w_asg ?_)
  | (with_reducible refine w_gName ?_)
  | (with_reducible refine w_nx ?_)
  | (with_reducible refine w_rt ?_)
  | (with_reducible refine w_ct ?_)
  | (with_reducible refine w_bk ?_)
  | (with_reducible refine w_ret ?_)
  | (with_reducible refine w_retN ?_)
  | (with_reducible refine w_drop ?_)
  | (with_reducible refine w_ifS ?_)
  | (with_reducible refine w_next ?_)
  | (with_reducible refine w_break ?_)
  | (with_reducible refine w_cont ?_)
  | ((with_reducible refine' w_var ?h ?_); (case h => rfl))
  | (with_reducible refine w_c ?_)
  | (with_reducible refine w_op ?_)
  | (with_reducible refine w_un ?_)
  | (with_reducible refine w_I0 ?_)
  | ((with_reducible refine' w_I ?c ?_); (case c => walk_at "t_c"))
  | (with_reducible refine w_U ?_)
  | (with_reducible refine w_addI ?_)
  | ((with_reducible refine' w_addL ?h1 ?h2 ?hz ?_); (case h1 => walk_at "t_hp"); (case h2 => walk_at "t_hp"); (case hz => walk_at "t_z"))
  | ((with_reducible refine' w_mulI ?c ?_); (case c => walk_at "t_mul"))
  | ((with_reducible refine' w_mulL1 ?h1 ?b1 ?b2 ?_); (case h1 => walk_at "t_hp"); (case b1 => walk_at "t_z"); (case b2 => walk_at "t_z"))
  | ((with_reducible refine' w_mulL ?h1 ?b1 ?b2 ?hz ?_); (case h1 => walk_at "t_hp"); (case b1 => walk_at "t_z"); (case b2 => walk_at "t_z"); (case hz => walk_at "t_z"))
  | (with_reducible refine w_notIB ?_)
  | (with_reducible refine w_notBB ?_)
  | (with_reducible refine w_notN ?_)
  | (with_reducible refine w_isBB ?_)
  | (with_reducible refine w_isN ?_)
  | (with_reducible refine w_eqI ?_)
  | (with_reducible refine w_neI ?_)
  | (with_reducible refine w_eqB ?_)
  | (with_reducible refine w_neB ?_)
  | (with_reducible refine w_eqS ?_)
  | (with_reducible refine w_neS ?_)
  | (with_reducible refine w_test ?_)
  | (with_reducible refine w_B ?_)
  | (with_reducible refine w_exB ?_)
  | (with_reducible refine w_and ?_)
  | (with_reducible refine w_or ?_)
  | (with_reducible refine w_not ?_)
  | (with_reducible refine w_andV ?_)
  | (with_reducible refine w_orV ?_)
  | (with_reducible refine w_notV ?_)
  | (with_reducible refine w_bl ?_)
  | (with_reducible refine w_if ?_)
  | (with_reducible refine w_nil ?_)
  | (with_reducible refine w_cons ?_)
  | (with_reducible refine w_cb ?_)
  | (with_reducible refine w_call ?_)
  | (with_reducible refine w_tup ?_)
  | (with_reducible refine w_lst ?_)
  | ((with_reducible refine' w_fin ?hz ?_); (case hz => (simp only [List.length_cons, List.length_nil]; decide)))
  | ((with_reducible refine' w_len ?s ?_); (case s => walk_at "t_sq"))
  | ((with_reducible refine' w_lenT ?s ?_); (case s => walk_at "t_sqt"))
  | (with_reducible refine w_intI ?_)
  | (with_reducible refine w_intB ?_)
  | ((with_reducible refine' w_list ?s ?_); (case s => walk_at "t_sq"))
  | (with_reducible refine w_max ?_)
  | (with_reducible refine w_min ?_)
  | (with_reducible refine w_abs ?_)
  | (with_reducible refine w_sl ?_)
  | (with_reducible refine w_noPart ?_)
  | (with_reducible refine w_part ?_)
  | (with_reducible refine w_exI ?_)
  | ((with_reducible refine' w_slL ?s ?_); (case s => walk_at "t_sq"))
  | ((with_reducible refine' w_ixLI ?s ?b ?_); (case s => walk_at "t_sq"); (case b => walk_at "t_lt"))
  | ((with_reducible refine' w_ixL ?s ?e ?_); (case s => walk_at "t_sq"); (case e => walk_at "t_at"))
  | ((with_reducible refine' w_ixT ?s ?e ?_); (case s => walk_at "t_sqt"); (case e => walk_at "t_at"))
  | (with_reducible refine w_gSub ?_)
  | ((with_reducible refine' w_setLI ?e ?b ?_); (case e => walk_at "t_hp"); (case b => walk_at "t_lt"))
  | ((with_reducible refine' w_setL ?e ?b ?_); (case e => walk_at "t_hp"); (case b => walk_at "t_ixn"))
  | (with_reducible refine w_bm ?_)
  | (with_reducible refine w_bm0 ?_)
  | ((with_reducible refine' w_tyL ?e ?_); (case e => walk_at "t_sq"))
  | ((with_reducible refine' w_app ?e ?hz ?_); (case e => walk_at "t_hp"); (case hz => walk_at "t_z"))
  | (with_reducible refine w_iteT ?_)
  | (with_reducible refine w_iteF ?_)
  | (with_reducible refine w_iteNT ?_)
  | (with_reducible refine w_iteNF ?_)
  | (with_reducible refine w_for ?_)
  | (with_reducible refine w_iList ?_)
  | ((with_reducible refine' w_exL ?s ?_); (case s => walk_at "t_sq"))
  | (with_reducible refine w_iTup ?_)
  | ((with_reducible refine' w_exT ?s ?_); (case s => walk_at "t_sqt"))
  | (with_reducible refine w_iRng1 ?_)
  | ((with_reducible refine w_exR1 ?b ?_); (case b => walk_at "t_c"))
  | (with_reducible refine w_iRng2 ?_)
  | ((with_reducible refine w_exR2 ?b ?_); (case b => walk_at "t_c"))
  | (with_reducible refine w_yes ?_)
  | ((with_reducible refine w_pos ?p ?_); (case p => walk_at "t_p"))
  | ((with_reducible refine w_neg ?p ?_); (case p => walk_at "t_p"))
  | ((with_reducible refine w_posN ?p ?_); (case p => walk_at "t_p"))
  | ((with_reducible refine w_negN ?p ?_); (case p => walk_at "t_p"))
  | ((with_reducible refine' w_notInL ?s ?_); (case s => walk_at "t_sq"))
  | ((with_reducible refine' w_inL ?s ?_); (case s => walk_at "t_sq"))
  | ((with_reducible refine' w_sum ?s ?_); (case s => walk_at "t_sq"))
  | (with_reducible refine w_isiI ?_)
  | ((with_reducible refine' w_isiL ?e ?_); (case e => walk_at "t_ty"))
  | ((with_reducible refine' w_isiT ?e ?_); (case e => walk_at "t_ty"))
  | (with_reducible intro p hp_new))
local macro_rules | `(tactic| walk_at "t_ty") => `(tactic| first | assumption | (refine' tyx_l ?e; (case e => walk_at "t_hp")) | (refine' tyx_t ?e; (case e => walk_at "t_hp")))
local macro_rules | `(tactic| walk_at "t_z") => `(tactic| first | assumption | decide | omega | (simp only [List.length_cons, List.length_nil, List.length_map, List.length_append, List.length_replicate]; first | done | decide | omega))
local macro_rules | `(tactic| walk_at "t_at") => `(tactic| first | assumption | rfl)
local macro_rules | `(tactic| walk_at "t_ixn") => `(tactic| first | assumption | rfl)
local macro_rules | `(tactic| walk_at "t_ev") => `(tactic| (intro H1 e Q q; (repeat walk_at "t_w"); exact q _ (by walk_at "t_ex")))
local macro_rules | `(tactic| walk_at "t_p") => `(tactic| first | assumption | decide | decide +kernel)
local macro_rules | `(tactic| walk_at "t_lt") => `(tactic| first | assumption | omega | (simp only [List.length_set, List.length_map, List.length_append]; first | assumption | omega))
local macro_rules | `(tactic| walk_at "t_w") => `(tactic| first
  | ((with_reducible refine' w_at ?s ?hl ?h0 ?_); (case s => walk_at "t_sq"); (case hl => walk_at "t_z"); (case h0 => walk_at "t_z"))
  | (with_reducible refine w_isInt ?_)
  | (with_reducible refine w_I1 ?_)
  | (with_reducible refine w_Head ?_)
  | ((with_reducible refine' w_number ?hb ?_); (case hb => walk_at "t_bits")))
local macro_rules | `(tactic| walk_at "t_bits") => `(tactic| assumption)
/-! ### cells of a row -/
theorem nat_mod {x : Int} {z : Nat} (h : 0 < z) : ∃ n : Nat, x % (z : Int) = (n : Int) ∧ n < z := by
  have h1 := Int.emod_nonneg x (show (z : Int) ≠ 0 by omega)
  have h2 := Int.emod_lt_of_pos x (show (0 : Int) < (z : Int) by omega)
  exact ⟨(x % (z : Int)).toNat, by omega, by omega⟩
theorem two_cells {h z : Nat} {t : Int} (hh : h < z) (h2 : 2 ≤ z) (t0 : 0 ≤ t) (t1 : t < (z : Int) - 1) : ∃ j : Nat, ((h : Int) + 1 + t) % (z : Int) = (j : Int) ∧ j < z ∧ j ≠ h := by
  by_cases c : (h : Int) + 1 + t < (z : Int)
  · exact ⟨((h : Int) + 1 + t).toNat, by rw [Int.emod_eq_of_lt (by omega) c]; omega, by omega, by omega⟩
  · refine ⟨((h : Int) + 1 + t - z).toNat, ?_, by omega, by omega⟩
    rw [← Int.sub_emod_right, Int.emod_eq_of_lt (by omega) (by omega)]
    omega
/-! ### boxes and their things, and how they lie in the heap -/
inductive Thing where
  | num (n : Int)
  | box (k : Nat)
def Thing.vals : Thing → List V
  | .num n => [.str "number", .int n]
  | .box k => [.str "box", .int (k : Int)]
/-- a number of at most sixty figures; a box of n -/
def Thing.ok (n : Nat) : Thing → Prop
  | .num z => -(10 ^ 60) < z ∧ z < 10 ^ 60
  | .box k => k < n
inductive All2 {α β : Type} (R : α → β → Prop) : List α → List β → Prop where
  | nil : All2 R [] []
  | cons {a : α} {b : β} {as : List α} {bs : List β} : R a b → All2 R as bs → All2 R (a :: as) (b :: bs)
section
variable {α β : Type} {R S : α → β → Prop}
theorem All2.mono (h : ∀ a b, R a b → S a b) : ∀ {as : List α} {bs : List β}, All2 R as bs → All2 S as bs
  | _, _, .nil => .nil
  | _, _, .cons r t => .cons (h _ _ r) (t.mono h)
theorem All2.length : ∀ {as : List α} {bs : List β}, All2 R as bs → as.length = bs.length
  | _, _, .nil => rfl
  | _, _, .cons _ t => congrArg (· + 1) t.length
theorem All2.get : ∀ {as : List α} {bs : List β} {i : Nat} {a : α}, All2 R as bs → as[i]? = some a → ∃ b, bs[i]? = some b ∧ R a b
  | _, _, 0, a, .cons (b := b) r _, h => ⟨b, rfl, by cases h; exact r⟩
  | _, _, i + 1, a, .cons _ t, h => t.get (i := i) h
  | _, _, i, a, .nil, h => by simp at h
theorem All2.getR : ∀ {as : List α} {bs : List β} {i : Nat} {b : β}, All2 R as bs → bs[i]? = some b → ∃ a, as[i]? = some a ∧ R a b
  | _, _, 0, b, .cons (a := a) r _, h => ⟨a, rfl, by cases h; exact r⟩
  | _, _, i + 1, b, .cons _ t, h => t.getR (i := i) h
  | _, _, i, b, .nil, h => by simp at h
theorem All2.of_get : ∀ {as : List α} {bs : List β}, as.length = bs.length → (∀ (i : Nat) a b, as[i]? = some a → bs[i]? = some b → R a b) → All2 R as bs
  | [], [], _, _ => .nil
  | [], _ :: _, h, _ => by simp at h
  | _ :: _, [], h, _ => by simp at h
  | a :: as, b :: bs, h, k => .cons (k 0 a b rfl rfl) (All2.of_get (by simpa using h) fun i x y hx hy => k (i + 1) x y hx hy)
theorem All2.append : ∀ {as cs : List α} {bs ds : List β}, All2 R as bs → All2 R cs ds → All2 R (as ++ cs) (bs ++ ds)
  | _, _, _, _, .nil, h => h
  | _, _, _, _, .cons r t, h => .cons r (t.append h)
theorem All2.snoc {as : List α} {bs : List β} {a : α} {b : β} (h : All2 R as bs) (r : R a b) : All2 R (as ++ [a]) (bs ++ [b]) := h.append (.cons r .nil)
end
/-- a tuple of a thing; the list of a box's things; the list of all boxes -/
def ThingAt (H : Hp) (v : V) (t : Thing) : Prop := ∃ a, v = .ref a ∧ H a = some (.tup t.vals)
def FieldsAt (H : Hp) (v : V) (fs : List Thing) : Prop := ∃ a vs, v = .ref a ∧ H a = some (.lst vs) ∧ All2 (ThingAt H) vs fs
def BoxesAt (H : Hp) (a : Addr) (bs : List (List Thing)) : Prop := ∃ vs, H a = some (.lst vs) ∧ All2 (FieldsAt H) vs bs
section
variable {H H' : Hp}
theorem ThingAt.ex (x : Ex H H') {v : V} {t : Thing} : ThingAt H v t → ThingAt H' v t := fun ⟨a, e, h⟩ => ⟨a, e, x _ _ h⟩
theorem FieldsAt.ex (x : Ex H H') {v : V} {fs : List Thing} : FieldsAt H v fs → FieldsAt H' v fs := fun ⟨a, vs, e, h, t⟩ => ⟨a, vs, e, x _ _ h, t.mono fun _ _ => ThingAt.ex x⟩
theorem BoxesAt.ex (x : Ex H H') {a : Addr} {bs : List (List Thing)} : BoxesAt H a bs → BoxesAt H' a bs := fun ⟨vs, h, t⟩ => ⟨vs, x _ _ h, t.mono fun _ _ => FieldsAt.ex x⟩
end
theorem thing_box {H : Hp} {a : Addr} {z : Int} (h : H a = some (.tup [.str "box", .int z])) (hz : 0 ≤ z) : ThingAt H (.ref a) (.box z.toNat) := ⟨a, rfl, by
  show _ = some (HO.tup [.str "box", .int ((z.toNat : Nat) : Int)])
  rw [show ((z.toNat : Nat) : Int) = z by omega]; exact h⟩
theorem thing_num {H : Hp} {a : Addr} {z : Int} (h : H a = some (.tup [.str "number", .int z])) : ThingAt H (.ref a) (.num z) := ⟨a, rfl, h⟩
theorem ThingAt.put {H : Hp} {l : Addr} {zs : List V} {o : HO} (h : H l = some (.lst zs)) {v : V} {t : Thing} : ThingAt H v t → ThingAt (upd H l o) v t := fun ⟨a, e, q⟩ => ⟨a, e, by
  rw [upd_ne (fun z => by rw [z, h] at q; cases q)]; exact q⟩
theorem ThingAt.del {H : Hp} {l : Addr} {zs : List V} (h : H l = some (.lst zs)) {v : V} {t : Thing} : ThingAt H v t → ThingAt (del H l) v t := fun ⟨a, e, q⟩ => ⟨a, e, by
  rw [del_ne (fun z => by rw [z, h] at q; cases q)]; exact q⟩
/-- how many cells -/
def cells (bs : List (List Thing)) : Nat := (bs.map fun fs => 1 + fs.length).sum
theorem cells_cons (fs : List Thing) (bs : List (List Thing)) : cells (fs :: bs) = 1 + fs.length + cells bs := by
  unfold cells
  rw [List.map_cons, List.sum_cons]
theorem cells_le {m : Nat} : ∀ {bs : List (List Thing)}, (∀ fs ∈ bs, fs.length ≤ m) → cells bs ≤ (m + 1) * bs.length
  | [], _ => Nat.zero_le _
  | fs :: bs, h => by
    have h1 := h fs (List.mem_cons_self ..)
    have h2 := cells_le (bs := bs) fun x hx => h x (List.mem_cons_of_mem _ hx)
    rw [cells_cons, List.length_cons, Nat.mul_succ]
    omega
structure Good (bs : List (List Thing)) : Prop where
  one : 1 ≤ bs.length
  few : bs.length ≤ 110
  small : cells bs ≤ 380
  ok : ∀ fs ∈ bs, ∀ t ∈ fs, t.ok bs.length
theorem cells_snoc (bs : List (List Thing)) (fs : List Thing) : cells (bs ++ [fs]) = cells bs + 1 + fs.length := by
  unfold cells
  rw [List.map_append, List.sum_append]
  simp
  omega
theorem take_sum {js : List Nat} {i n : Nat} (h : js[i]? = some n) : (js.take (i + 1)).sum = (js.take i).sum + n := by
  rw [List.take_add_one, h, List.sum_append]
  simp
theorem take_sum_le (js : List Nat) (i : Nat) : (js.take i).sum ≤ js.sum := by
  conv => rhs; rw [← List.take_append_drop i js]
  rw [List.sum_append]
  omega
/-! ### places, rows, and what can be come to -/
def offs : List (List Thing) → Nat → List Nat
  | [], _ => []
  | fs :: bs, s => s :: offs bs (s + 1 + fs.length)
def places (bs : List (List Thing)) : List Nat := offs bs 0
theorem offs_len : ∀ (bs : List (List Thing)) (s : Nat), (offs bs s).length = bs.length
  | [], _ => rfl
  | _ :: bs, s => congrArg (· + 1) (offs_len bs _)
theorem offs_get : ∀ (bs : List (List Thing)) (s i : Nat), i < bs.length → (offs bs s)[i]? = some (s + cells (bs.take i))
  | [], _, i, h => by simp at h
  | fs :: bs, s, 0, _ => by simp [offs, cells]
  | fs :: bs, s, i + 1, h => by
    show (offs bs (s + 1 + fs.length))[i]? = _
    rw [offs_get bs _ i (by simpa using h), List.take_succ_cons, cells_cons]
    congr 1
    omega
theorem places_get {bs : List (List Thing)} {i : Nat} (h : i < bs.length) : (places bs)[i]? = some (cells (bs.take i)) := by
  unfold places
  rw [offs_get bs 0 i h, Nat.zero_add]
theorem cells_take {bs : List (List Thing)} {i : Nat} {fs : List Thing} (h : bs[i]? = some fs) : cells (bs.take (i + 1)) = cells (bs.take i) + 1 + fs.length := by
  rw [List.take_add_one, h]
  exact cells_snoc _ _
theorem take_places {bs : List (List Thing)} {i : Nat} (h : i < bs.length) : (places bs).take (i + 1) = (places bs).take i ++ [cells (bs.take i)] := by
  rw [List.take_add_one, places_get h]; rfl
/-- the words of a box, its links to the goals gs -/
def word (gs : List Nat) : Thing → Int
  | .num n => 2 * n
  | .box k => 2 * ((gs.getD k 0 : Nat) : Int) + 1
def boxRow (gs : List Nat) (fs : List Thing) : List Int := 4 * (fs.length : Int) :: fs.map (word gs)
def rowOf (gs : List Nat) (bs : List (List Thing)) : List Int := bs.flatMap (boxRow gs)
theorem boxRow_len (gs : List Nat) (fs : List Thing) : (boxRow gs fs).length = 1 + fs.length := by
  unfold boxRow; rw [List.length_cons, List.length_map]; omega
theorem rowOf_len (gs : List Nat) : ∀ bs : List (List Thing), (rowOf gs bs).length = cells bs
  | [] => rfl
  | fs :: bs => by
    unfold rowOf
    rw [List.flatMap_cons, List.length_append, boxRow_len, cells_cons]
    exact congrArg _ (rowOf_len gs bs)
theorem rowOf_take {gs : List Nat} {bs : List (List Thing)} {i : Nat} {fs : List Thing} (h : bs[i]? = some fs) : rowOf gs (bs.take (i + 1)) = rowOf gs (bs.take i) ++ boxRow gs fs := by
  unfold rowOf
  rw [List.take_add_one, h, List.flatMap_append]
  show _ ++ (boxRow gs fs ++ []) = _
  rw [List.append_nil]
def Edge (bs : List (List Thing)) (i k : Nat) : Prop := ∃ fs, bs[i]? = some fs ∧ Thing.box k ∈ fs
inductive Reach (bs : List (List Thing)) : Nat → Prop where
  | door : Reach bs 0
  | step {i k : Nat} : Reach bs i → Edge bs i k → Reach bs k
/-- the places in their order that can be come to -/
structure AliveOk (bs : List (List Thing)) (al : List Nat) : Prop where
  sorted : al.Pairwise (· < ·)
  mem : ∀ k, k ∈ al ↔ Reach bs k
theorem nodup_few : ∀ {n : Nat} {l : List Nat}, l.Nodup → (∀ k ∈ l, k < n) → l.length ≤ n
  | 0, [], _, _ => Nat.le_refl _
  | 0, a :: _, _, h => absurd (h a (List.mem_cons_self ..)) (Nat.not_lt_zero _)
  | n + 1, l, nd, h => by
    have h1 : (l.erase n).length ≤ n := nodup_few (nd.erase n) fun k hk => by
      have q := (List.Nodup.mem_erase_iff nd).mp hk
      have := h k q.2
      have := q.1
      omega
    have h2 : l.length ≤ (l.erase n).length + 1 := by
      by_cases hm : n ∈ l
      · rw [List.length_erase_of_mem hm]; omega
      · rw [List.erase_of_not_mem hm]; omega
    omega
theorem asI_getD (gs : List Nat) (k : Nat) : (asI gs).getD k 0 = ((gs.getD k 0 : Nat) : Int) := by
  unfold asI
  rw [List.getD_eq_getElem?_getD, List.getD_eq_getElem?_getD, List.getElem?_map]
  cases gs[k]? <;> rfl
theorem take_snoc {α : Type} {xs : List α} {j : Nat} {x : α} (h : xs[j]? = some x) : xs.take (j + 1) = xs.take j ++ [x] := by
  rw [List.take_add_one, h]; rfl
/-! ### what rows are handed to the program, and what it promises -/
/-- where the k-th box stands -/
def pl (bs : List (List Thing)) (k : Nat) : Nat := cells (bs.take k)
theorem pl_lt {bs : List (List Thing)} {j k : Nat} (h : j < k) (hk : k ≤ bs.length) : pl bs j < pl bs k := by
  induction k with
  | zero => omega
  | succ k ih =>
    have e : pl bs (k + 1) = pl bs k + 1 + (bs[k]'(by omega)).length := cells_take (List.getElem?_eq_getElem (by omega))
    rcases Nat.lt_or_ge j k with h2 | h2
    · have := ih h2 (by omega); omega
    · have : j = k := by omega
      subst this; omega
theorem pl_inj {bs : List (List Thing)} {j k : Nat} (hj : j ≤ bs.length) (hk : k ≤ bs.length) (e : pl bs j = pl bs k) : j = k := by
  rcases Nat.lt_trichotomy j k with h | h | h
  · have := pl_lt h hk; omega
  · exact h
  · have := pl_lt h hj; omega
theorem pl_all (bs : List (List Thing)) : pl bs bs.length = cells bs := by unfold pl; rw [List.take_length]
theorem places_getD {bs : List (List Thing)} {k : Nat} (h : k < bs.length) : (places bs).getD k 0 = pl bs k := by
  rw [List.getD_eq_getElem?_getD, places_get h]; rfl
theorem places_len (bs : List (List Thing)) : (places bs).length = bs.length := offs_len bs 0
structure RowOk (bs : List (List Thing)) (sp : Nat) : Prop where
  one : 1 ≤ bs.length
  small : cells bs + sp ≤ 400
  ok : ∀ fs ∈ bs, ∀ t ∈ fs, t.ok bs.length
theorem len_le_cells (bs : List (List Thing)) : bs.length ≤ cells bs := by
  induction bs with
  | nil => exact Nat.zero_le _
  | cons fs bs ih => rw [cells_cons, List.length_cons]; omega
theorem RowOk.few {bs : List (List Thing)} {sp : Nat} (h : RowOk bs sp) : bs.length ≤ 400 := by
  have := len_le_cells bs
  have := h.small
  omega
/-- the row of boxes, links leading where they stand -/
def rowAt (bs : List (List Thing)) (sp : Nat) : List Int := rowOf (places bs) bs ++ List.replicate sp 0
theorem rowAt_len (bs : List (List Thing)) (sp : Nat) : (rowAt bs sp).length = cells bs + sp := by
  unfold rowAt; rw [List.length_append, rowOf_len, List.length_replicate]
/-- all that can be come to is marked, all else is as it was -/
structure MarkOk (bs : List (List Thing)) (xs ys : List Int) : Prop where
  len : ys.length = xs.length
  yes : ∀ k, Reach bs k → ys.getD (pl bs k) 0 = xs.getD (pl bs k) 0 + 2
  no : ∀ c, (∀ k, Reach bs k → c ≠ pl bs k) → ys.getD c 0 = xs.getD c 0
theorem ext_getD {xs ys : List Int} (l : xs.length = ys.length) (h : ∀ i, xs.getD i 0 = ys.getD i 0) : xs = ys := by
  apply List.ext_getElem?
  intro i
  have e := h i
  by_cases hi : i < xs.length
  · rw [List.getD_eq_getElem?_getD, List.getD_eq_getElem?_getD, List.getElem?_eq_getElem hi, List.getElem?_eq_getElem (by omega)] at e
    rw [List.getElem?_eq_getElem hi, List.getElem?_eq_getElem (by omega)]
    exact congrArg some e
  · rw [List.getElem?_eq_none (by omega), List.getElem?_eq_none (by omega)]
theorem MarkOk.uniq {bs : List (List Thing)} {xs ys zs : List Int} (a : MarkOk bs xs ys) (b : MarkOk bs xs zs) : ys = zs := by
  refine ext_getD (by rw [a.len, b.len]) fun c => ?_
  by_cases h : ∃ k, Reach bs k ∧ c = pl bs k
  · obtain ⟨k, r, rfl⟩ := h
    rw [a.yes k r, b.yes k r]
  · have h2 : ∀ k, Reach bs k → c ≠ pl bs k := fun k r e => h ⟨k, r, e⟩
    rw [a.no c h2, b.no c h2]
theorem Reach.lt {bs : List (List Thing)} {sp : Nat} (h : RowOk bs sp) {k : Nat} (r : Reach bs k) : k < bs.length := by
  cases r with
  | door => exact h.one
  | step _ e =>
    obtain ⟨fs, hf, ht⟩ := e
    exact h.ok fs (List.mem_of_getElem? hf) _ ht
def spHeads (K : PySem.W.Frag) : Sp := fun vs H Q _ => ∃ (a : Addr) (bs : List (List Thing)) (sp : Nat), vs = [.ref a, .int ((cells bs : Nat) : Int)] ∧ SqL K H a ((rowAt bs sp).map V.int) ∧ RowOk bs sp ∧ Evl.RetL ((asI (places bs)).map V.int) H Q
theorem w_heads {K : PySem.W.Frag} {H : Hp} {Q : VK} {E : XK} {a : Addr} {bs : List (List Thing)} (sp : Nat) (s : SqL K H a ((rowAt bs sp).map V.int)) (r : RowOk bs sp) (k : ∀ p H2, H p = none → Ex H H2 → H2 p = some (.lst ((asI (places bs)).map V.int)) → Q (.ref p) H2) : spHeads K ([.ref a, .int ((cells bs : Nat) : Int)] ++ []) H Q E := ⟨a, bs, sp, rfl, s, r, k⟩
def spMarked (K : PySem.W.Frag) : Sp := fun vs H Q _ => ∃ (a : Addr) (bs : List (List Thing)) (sp : Nat), vs = [.ref a, .int ((cells bs : Nat) : Int)] ∧ SqL K H a ((rowAt bs sp).map V.int) ∧ RowOk bs sp ∧ ∀ ys, MarkOk bs (rowAt bs sp) ys → Evl.RetL (ys.map V.int) H Q
theorem w_marked {K : PySem.W.Frag} {H : Hp} {Q : VK} {E : XK} {a : Addr} {bs : List (List Thing)} (sp : Nat) (s : SqL K H a ((rowAt bs sp).map V.int)) (r : RowOk bs sp) (k : ∀ ys, MarkOk bs (rowAt bs sp) ys → ∀ p H2, H p = none → Ex H H2 → H2 p = some (.lst (ys.map V.int)) → Q (.ref p) H2) : spMarked K ([.ref a, .int ((cells bs : Nat) : Int)] ++ []) H Q E := ⟨a, bs, sp, rfl, s, r, k⟩
/-- how many cells, as the law reckons it -/
theorem given_cells {n : Nat} {bs : List (List Thing)} (hn : n = bs.length) : Evl.given n (fun _ => true) (fun i => V.int (1 + ((bs.getD i []).length : Int))) = (bs.map fun fs => 1 + (fs.length : Int)).map V.int := by
  subst hn
  rw [given_all]
  apply List.ext_getElem?
  intro i
  rw [List.getElem?_map, List.getElem?_map, List.getElem?_map]
  by_cases h : i < bs.length
  · have e : bs.getD i [] = bs[i] := by rw [List.getD_eq_getElem?_getD, List.getElem?_eq_getElem h]; rfl
    rw [List.getElem?_eq_getElem (by simpa using h), List.getElem_range, List.getElem?_eq_getElem h]
    show some (V.int (1 + ((bs.getD i []).length : Int))) = _
    rw [e]; rfl
  · rw [List.getElem?_eq_none (by simpa using h), List.getElem?_eq_none (by omega)]; rfl
theorem sum_cells (bs : List (List Thing)) : (bs.map fun fs => 1 + (fs.length : Int)).sum = ((cells bs : Nat) : Int) := by
  induction bs with
  | nil => rfl
  | cons fs bs ih => rw [List.map_cons, List.sum_cons, ih, cells_cons]; omega
/-- what is due while the law marks: the first ones of al are -/
structure DueOk (bs : List (List Thing)) (xs : List Int) (al : List Nat) (ys : List Int) : Prop where
  len : ys.length = xs.length
  yes : ∀ k ∈ al, ys.getD (pl bs k) 0 = xs.getD (pl bs k) 0 + 2
  no : ∀ c, (∀ k ∈ al, c ≠ pl bs k) → ys.getD c 0 = xs.getD c 0
theorem DueOk.turn {bs : List (List Thing)} {xs : List Int} {al : List Nat} {ys : List Int} (d : DueOk bs xs al ys) {k : Nat} (hk : k < bs.length) (ha : ∀ j ∈ al, j < bs.length ∧ j ≠ k) (hx : cells bs ≤ xs.length) : DueOk bs xs (al ++ [k]) (ys.set (pl bs k) (ys.getD (pl bs k) 0 + 2)) := by
  have hp : pl bs k < ys.length := by
    have := pl_lt hk (Nat.le_refl _)
    rw [pl_all] at this
    rw [d.len]; omega
  have hne : ∀ j ∈ al, pl bs j ≠ pl bs k := fun j hj e => (ha j hj).2 (pl_inj (Nat.le_of_lt (ha j hj).1) (Nat.le_of_lt hk) e)
  refine ⟨by rw [List.length_set]; exact d.len, ?_, ?_⟩
  · intro j hj
    rw [getD_set hp]
    rcases List.mem_append.mp hj with h | h
    · rw [if_neg (hne j h)]; exact d.yes j h
    · rw [List.mem_singleton.mp h, if_pos rfl, d.no _ fun j hj => (hne j hj).symm]
  · intro c hc
    rw [getD_set hp, if_neg (hc k (by simp))]
    exact d.no c fun j hj => hc j (List.mem_append_left _ hj)
/-! ### what stands in the cells of a row -/
theorem getD_append_left {xs ys : List Int} {i : Nat} (h : i < xs.length) : (xs ++ ys).getD i 0 = xs.getD i 0 := by
  rw [List.getD_eq_getElem?_getD, List.getD_eq_getElem?_getD, List.getElem?_append_left h]
theorem getD_append_right {xs ys : List Int} {i : Nat} : (xs ++ ys).getD (xs.length + i) 0 = ys.getD i 0 := by
  rw [List.getD_eq_getElem?_getD, List.getD_eq_getElem?_getD, List.getElem?_append_right (by omega)]
  congr 2
  omega
theorem rowOf_split (gs : List Nat) {bs : List (List Thing)} {i : Nat} {fs : List Thing} (h : bs[i]? = some fs) : ∃ r, rowOf gs bs = rowOf gs (bs.take i) ++ (boxRow gs fs ++ r) := by
  refine ⟨rowOf gs (bs.drop (i + 1)), ?_⟩
  have e : bs = bs.take i ++ fs :: bs.drop (i + 1) := by
    have h1 := (List.getElem?_eq_some_iff.mp h)
    conv => lhs; rw [← List.take_append_drop i bs, List.drop_eq_getElem_cons h1.1, h1.2]
  conv => lhs; rw [e]
  unfold rowOf
  rw [List.flatMap_append, List.flatMap_cons]
/-- the head of the i-th box, its j-th field -/
theorem rowAt_head {bs : List (List Thing)} {sp i : Nat} {fs : List Thing} (h : bs[i]? = some fs) : (rowAt bs sp).getD (pl bs i) 0 = 4 * (fs.length : Int) := by
  obtain ⟨r, e⟩ := rowOf_split (places bs) h
  unfold rowAt
  rw [e, List.append_assoc]
  have l : (rowOf (places bs) (bs.take i)).length = pl bs i := rowOf_len _ _
  have q := getD_append_right (xs := rowOf (places bs) (bs.take i)) (ys := boxRow (places bs) fs ++ r ++ List.replicate sp 0) (i := 0)
  rw [l, Nat.add_zero] at q
  rw [q]; rfl
theorem rowAt_field {bs : List (List Thing)} {sp i j : Nat} {fs : List Thing} {t : Thing} (h : bs[i]? = some fs) (ht : fs[j]? = some t) : (rowAt bs sp).getD (pl bs i + 1 + j) 0 = word (places bs) t := by
  obtain ⟨r, e⟩ := rowOf_split (places bs) h
  unfold rowAt
  rw [e, List.append_assoc]
  have l : (rowOf (places bs) (bs.take i)).length = pl bs i := rowOf_len _ _
  have q := getD_append_right (xs := rowOf (places bs) (bs.take i)) (ys := boxRow (places bs) fs ++ r ++ List.replicate sp 0) (i := 1 + j)
  rw [l, ← Nat.add_assoc] at q
  rw [q, List.append_assoc]
  have hj := (List.getElem?_eq_some_iff.mp ht).1
  rw [getD_append_left (by rw [boxRow_len]; omega), Nat.add_comm]
  unfold boxRow
  rw [List.getD_eq_getElem?_getD, List.getElem?_cons_succ, List.getElem?_map, ht]; rfl
/-- a cell is a head's, or a field's, or stands behind the boxes -/
theorem pl_step {bs : List (List Thing)} {i : Nat} {fs : List Thing} (h : bs[i]? = some fs) : pl bs (i + 1) = pl bs i + 1 + fs.length := cells_take h
theorem cell_of {bs : List (List Thing)} : ∀ {n c : Nat}, n ≤ bs.length → c < pl bs n → ∃ i fs, i < n ∧ bs[i]? = some fs ∧ (c = pl bs i ∨ ∃ j, j < fs.length ∧ c = pl bs i + 1 + j)
  | 0, c, _, h => by simp [pl, cells] at h
  | n + 1, c, hn, h => by
    have hb : bs[n]? = some bs[n] := List.getElem?_eq_getElem (by omega)
    rw [pl_step hb] at h
    by_cases h1 : c < pl bs n
    · obtain ⟨i, fs, hi, r⟩ := cell_of (by omega) h1
      exact ⟨i, fs, by omega, r⟩
    · refine ⟨n, bs[n], by omega, hb, ?_⟩
      by_cases h2 : c = pl bs n
      · exact Or.inl h2
      · exact Or.inr ⟨c - pl bs n - 1, by omega, by omega⟩
/-! ### marking, box by box -/
/-- a head's word while the boxes M are marked -/
theorem DueOk.head {bs : List (List Thing)} {sp : Nat} {M : List Nat} {ys : List Int} (d : DueOk bs (rowAt bs sp) M ys) (hM : ∀ j ∈ M, j < bs.length) {k : Nat} {fs : List Thing} (h : bs[k]? = some fs) :
    ys.getD (pl bs k) 0 = 4 * (fs.length : Int) + (if k ∈ M then 2 else 0) := by
  have hk := (List.getElem?_eq_some_iff.mp h).1
  by_cases hm : k ∈ M
  · rw [d.yes k hm, rowAt_head h, if_pos hm]
  · rw [d.no _ (fun j hj e => hm (by rw [pl_inj (Nat.le_of_lt hk) (Nat.le_of_lt (hM j hj)) e]; exact hj)), rowAt_head h, if_neg hm]; omega
/-- a field's word stays -/
theorem DueOk.field {bs : List (List Thing)} {sp : Nat} {M : List Nat} {ys : List Int} (d : DueOk bs (rowAt bs sp) M ys) (hM : ∀ j ∈ M, j < bs.length) {k j : Nat} {fs : List Thing} {t : Thing} (h : bs[k]? = some fs) (ht : fs[j]? = some t) :
    ys.getD (pl bs k + 1 + j) 0 = word (places bs) t := by
  have hk := (List.getElem?_eq_some_iff.mp h).1
  have hj := (List.getElem?_eq_some_iff.mp ht).1
  rw [d.no _ ?_, rowAt_field h ht]
  intro i hi e
  have h1 := pl_step h
  have hi2 := hM i hi
  rcases Nat.lt_trichotomy i k with q | q | q
  · have := pl_lt q (Nat.le_of_lt hk); omega
  · subst q; omega
  · have : pl bs (k + 1) ≤ pl bs i := by
      rcases Nat.lt_or_ge (k + 1) i with q2 | q2
      · exact Nat.le_of_lt (pl_lt q2 (Nat.le_of_lt hi2))
      · have : i = k + 1 := by omega
        subst this; exact Nat.le_refl _
    omega
/-- marked are M, all to be come to; of all but W (waiting) the boxes that their fields lead to are marked -/
structure Marking (bs : List (List Thing)) (M W : List Nat) : Prop where
  nd : M.Nodup
  lt : ∀ k ∈ M, k < bs.length
  re : ∀ k ∈ M, Reach bs k
  zero : 0 ∈ M
  sub : ∀ k ∈ W, k ∈ M
  cl : ∀ k ∈ M, k ∉ W → ∀ q, Edge bs k q → q ∈ M
theorem Marking.all {bs : List (List Thing)} {M : List Nat} (h : Marking bs M []) {k : Nat} (r : Reach bs k) : k ∈ M := by
  induction r with
  | door => exact h.zero
  | step _ e ih => exact h.cl _ ih (by simp) _ e
theorem Marking.fin {bs : List (List Thing)} {sp : Nat} {M : List Nat} {ys : List Int} (h : Marking bs M []) (d : DueOk bs (rowAt bs sp) M ys) : MarkOk bs (rowAt bs sp) ys :=
  ⟨d.len, fun k r => d.yes k (h.all r), fun c hc => d.no c fun k hk => hc k (h.re k hk)⟩
theorem Marking.start {bs : List (List Thing)} (h : 1 ≤ bs.length) : Marking bs [0] [0] :=
  ⟨by simp, fun k hk => by rw [List.mem_singleton.mp hk]; exact h, fun k hk => by rw [List.mem_singleton.mp hk]; exact .door, by simp, fun k hk => hk, fun k hk hn => absurd hk hn⟩
/-- a box that is led to by one that is marked joins, waiting -/
theorem Marking.join {bs : List (List Thing)} {M W : List Nat} (h : Marking bs M W) {k q : Nat} (hk : k ∈ M) (e : Edge bs k q) (hq : q < bs.length) (hn : q ∉ M) : Marking bs (M ++ [q]) (W ++ [q]) := by
  refine ⟨?_, ?_, ?_, List.mem_append_left _ h.zero, ?_, ?_⟩
  · exact List.nodup_append.mpr ⟨h.nd, by simp, fun a ha b hb e => hn (by rw [List.mem_singleton] at hb; rw [← hb, ← e]; exact ha)⟩
  · intro x hx
    rcases List.mem_append.mp hx with r | r
    · exact h.lt x r
    · rw [List.mem_singleton.mp r]; exact hq
  · intro x hx
    rcases List.mem_append.mp hx with r | r
    · exact h.re x r
    · rw [List.mem_singleton.mp r]; exact .step (h.re k hk) e
  · intro x hx
    rcases List.mem_append.mp hx with r | r
    · exact List.mem_append_left _ (h.sub x r)
    · exact List.mem_append_right _ r
  · intro x hx hw p hp
    rcases List.mem_append.mp hx with r | r
    · exact List.mem_append_left _ (h.cl x r (fun z => hw (List.mem_append_left _ z)) p hp)
    · exact absurd (List.mem_append_right _ r) hw
theorem Marking.same {bs : List (List Thing)} {M W W' : List Nat} (h : Marking bs M W) (e : ∀ k, k ∈ W' ↔ k ∈ W) : Marking bs M W' :=
  ⟨h.nd, h.lt, h.re, h.zero, fun k hk => h.sub k ((e k).mp hk), fun k hk hn => h.cl k hk fun z => hn ((e k).mpr z)⟩
theorem Marking.done {bs : List (List Thing)} {M W : List Nat} {c : Nat} (h : Marking bs M (c :: W)) (hc : ∀ q, Edge bs c q → q ∈ M) : Marking bs M W :=
  ⟨h.nd, h.lt, h.re, h.zero, fun k hk => h.sub k (List.mem_cons_of_mem _ hk), fun k hk hn q e => by
    by_cases z : k = c
    · subst z; exact hc q e
    · exact h.cl k hk (fun y => (List.mem_cons.mp y).elim z hn) q e⟩
end Tw

set_option Elab.async false
set_option linter.all false
set_option maxRecDepth 100000
set_option maxHeartbeats 4000000
namespace Tw
open PySem PySem.Spec PyProof.Rows L2
open Evl (Ex ex_l ex_t fresh_back sz_of sz_lt)
local macro_rules | `(tactic| walk_at "t_hp") => `(tactic| first
  | assumption
  | exact upd_same
  | (refine' hp_ne ?hne ?hrest; (case hne => walk_at "t_ne"); (case hrest => walk_at "t_hp"))
  | (refine' hp_ex ?hx ?hrest; (case hx => assumption); (case hrest => walk_at "t_hp")))
local macro_rules | `(tactic| walk_at "t_ne") => `(tactic| first
  | assumption
  | exact Ne.symm (by assumption)
  | (refine' ne_of_none ?h1 ?h2; (case h2 => assumption); (case h1 => walk_at "t_hp"))
  | (refine' Ne.symm (ne_of_none ?h1 ?h2); (case h2 => assumption); (case h1 => walk_at "t_hp")))
local macro_rules | `(tactic| walk_at "t_none") => `(tactic| first
  | assumption
  | (refine' fresh_back ?e ?n; (case n => assumption); (case e => walk_at "t_ex")))
local macro_rules | `(tactic| walk_at "t_ex") => `(tactic| first
  | assumption
  | exact Evl.Ex.refl _
  | (refine' ex_new ?n ?e; (case n => assumption); (case e => walk_at "t_ex"))
  | (refine' Evl.Ex.mut ?e ?n; (case n => walk_at "t_none"); (case e => walk_at "t_ex"))
  | (refine' Evl.Ex.trans ?a ?b; (case b => assumption); (case a => walk_at "t_ex")))
local macro_rules | `(tactic| walk_at "t_sq") => `(tactic| first
  | assumption
  | (refine' SqL.of ?h; (case h => walk_at "t_hp"))
  | (refine' ex_l ?e ?s; (case s => assumption); (case e => walk_at "t_ex")))
local macro_rules | `(tactic| walk_at "t_sqt") => `(tactic| first
  | assumption
  | (refine' SqT.of ?h; (case h => walk_at "t_hp"))
  | (refine' ex_t ?e ?s; (case s => assumption); (case e => walk_at "t_ex")))
local macro_rules | `(tactic| walk_at "t_mul") => `(tactic| first
  | assumption
  | exact Or.inl (Or.inl ⟨by decide, by decide⟩)
  | exact Or.inl (Or.inr ⟨by decide, by decide⟩)
  | exact Or.inl (Or.inl ⟨by omega, by omega⟩)
  | exact Or.inl (Or.inr ⟨by omega, by omega⟩))
local macro_rules | `(tactic| walk_at "t_c") => `(tactic| first
  | assumption
  | decide
  | (show (0 : Int) < _; decide)
  | (show (0 : Int) < _; omega)
  | exact ⟨by decide, by decide⟩
  | exact ⟨by decide, by decide, by decide⟩
  | exact ⟨by omega, by omega⟩
  | exact ⟨by omega, by omega, by omega, by omega⟩)
local macro_rules | `(tactic| walk_at "t_w") => `(tactic| first
  | (with_reducible refine w_seq ?_)
  | (with_reducible refine w_asg ?_)
  | (with_reducible refine w_gName ?_)
  | (with_reducible refine w_nx ?_)
  | (with_reducible refine w_rt ?_)
  | (with_reducible refine w_ct ?_)
  | (with_reducible refine w_bk ?_)
  | (with_reducible refine w_ret ?_)
  | (with_reducible refine w_retN ?_)
  | (with_reducible refine w_drop ?_)
  | (with_reducible refine w_ifS ?_)
  | (with_reducible refine w_next ?_)
  | (with_reducible refine w_break ?_)
  | (with_reducible refine w_cont ?_)
  | ((with_reducible refine' w_var ?h ?_); (case h => rfl))
  | (with_reducible refine w_c ?_)
  | (with_reducible refine w_op ?_)
  | (with_reducible refine w_un ?_)
  | (with_reducible refine w_I0 ?_)
  | ((with_reducible refine' w_I ?c ?_); (case c => walk_at "t_c"))
  | (with_reducible refine w_U ?_)
  | (with_reducible refine w_addI ?_)
  | ((with_reducible refine' w_addL ?h1 ?h2 ?hz ?_); (case h1 => walk_at "t_hp"); (case h2 => walk_at "t_hp"); (case hz => walk_at "t_z"))
  | ((with_reducible refine' w_mulI ?c ?_); (case c => walk_at "t_mul"))
  | ((with_reducible refine' w_mulL1 ?h1 ?b1 ?b2 ?_); (case h1 => walk_at "t_hp"); (case b1 => walk_at "t_z"); (case b2 => walk_at "t_z"))
  | ((with_reducible refine' w_mulL ?h1 ?b1 ?b2 ?hz ?_); (case h1 => walk_at "t_hp"); (case b1 => walk_at "t_z"); (case b2 => walk_at "t_z"); (case hz => walk_at "t_z"))
  | (with_reducible refine w_notIB ?_)
  | (with_reducible refine w_notBB ?_)
  | (with_reducible refine w_notN ?_)
  | (with_reducible refine w_isBB ?_)
  | (with_reducible refine w_isN ?_)
  | (with_reducible refine w_eqI ?_)
  | (with_reducible refine w_neI ?_)
  | (with_reducible refine w_eqB ?_)
  | (with_reducible refine w_neB ?_)
  | (with_reducible refine w_eqS ?_)
  | (with_reducible refine w_neS ?_)
  | (with_reducible refine w_test ?_)
  | (with_reducible refine w_B ?_)
  | (with_reducible refine w_exB ?_)
  | (with_reducible refine w_and ?_)
  | (with_reducible refine w_or ?_)
  | (with_reducible refine w_not ?_)
  | (with_reducible refine w_andV ?_)
  | (with_reducible refine w_orV ?_)
  | (with_reducible refine w_notV ?_)
  | (with_reducible refine w_bl ?_)
  | (with_reducible refine w_if ?_)
  | (with_reducible refine w_nil ?_)
  | (with_reducible refine w_cons ?_)
  | (with_reducible refine w_cb ?_)
  | (with_reducible refine w_call ?_)
  | (with_reducible refine w_tup ?_)
  | (with_reducible refine w_lst ?_)
  | ((with_reducible refine' w_fin ?hz ?_); (case hz => (simp only [List.length_cons, List.length_nil]; decide)))
  | ((with_reducible refine' w_len ?s ?_); (case s => walk_at "t_sq"))
  | ((with_reducible refine' w_lenT ?s ?_); (case s => walk_at "t_sqt"))
  | (with_reducible refine w_intI ?_)
  | (with_reducible refine w_intB ?_)
  | ((with_reducible refine' w_list ?s ?_); (case s => walk_at "t_sq"))
  | (with_reducible refine w_max ?_)
  | (with_reducible refine w_min ?_)
  | (with_reducible refine w_abs ?_)
  | (with_reducible refine w_sl ?_)
  | (with_reducible refine w_noPart ?_)
  | (with_reducible refine w_part ?_)
  | (with_reducible refine w_exI ?_)
  | ((with_reducible refine' w_slL ?s ?_); (case s => walk_at "t_sq"))
  | ((with_reducible refine' w_ixLI ?s ?b ?_); (case s => walk_at "t_sq"); (case b => walk_at "t_lt"))
  | ((with_reducible refine' w_ixL ?s ?e ?_); (case s => walk_at "t_sq"); (case e => walk_at "t_at"))
  | ((with_reducible refine' w_ixT ?s ?e ?_); (case s => walk_at "t_sqt"); (case e => walk_at "t_at"))
  | (with_reducible refine w_gSub ?_)
  | ((with_reducible refine' w_setLI ?e ?b ?_); (case e => walk_at "t_hp"); (case b => walk_at "t_lt"))
  | ((with_reducible refine' w_setL ?e ?b ?_); (case e => walk_at "t_hp"); (case b => walk_at "t_ixn"))
  | (with_reducible refine w_bm ?_)
  | (with_reducible refine w_bm0 ?_)
  | ((with_reducible refine' w_tyL ?e ?_); (case e => walk_at "t_sq"))
  | ((with_reducible refine' w_app ?e ?hz ?_); (case e => walk_at "t_hp"); (case hz => walk_at "t_z"))
  | (with_reducible refine w_iteT ?_)
  | (with_reducible refine w_iteF ?_)
  | (with_reducible refine w_iteNT ?_)
  | (with_reducible refine w_iteNF ?_)
  | (with_reducible refine w_for ?_)
  | (with_reducible refine w_iList ?_)
  | ((with_reducible refine' w_exL ?s ?_); (case s => walk_at "t_sq"))
  | (with_reducible refine w_iTup ?_)
  | ((with_reducible refine' w_exT ?s ?_); (case s => walk_at "t_sqt"))
  | (with_reducible refine w_iRng1 ?_)
  | ((with_reducible refine w_exR1 ?b ?_); (case b => walk_at "t_c"))
  | (with_reducible refine w_iRng2 ?_)
  | ((with_reducible refine w_exR2 ?b ?_); (case b => walk_at "t_c"))
  | (with_reducible refine w_yes ?_)
  | ((with_reducible refine w_pos ?p ?_); (case p => walk_at "t_p"))
  | ((with_reducible refine w_neg ?p ?_); (case p => walk_at "t_p"))
  | ((with_reducible refine w_posN ?p ?_); (case p => walk_at "t_p"))
  | ((with_reducible refine w_negN ?p ?_); (case p => walk_at "t_p"))
  | ((with_reducible refine' w_notInL ?s ?_); (case s => walk_at "t_sq"))
  | ((with_reducible refine' w_inL ?s ?_); (case s => walk_at "t_sq"))
  | ((with_reducible refine' w_sum ?s ?_); (case s => walk_at "t_sq"))
  | (with_reducible refine w_isiI ?_)
  | ((with_reducible refine' w_isiL ?e ?_); (case e => walk_at "t_ty"))
  | ((with_reducible refine' w_isiT ?e ?_); (case e => walk_at "t_ty"))
  | (with_reducible intro p hp_new))
local macro_rules | `(tactic| walk_at "t_ty") => `(tactic| first | assumption | (refine' tyx_l ?e; (case e => walk_at "t_hp")) | (refine' tyx_t ?e; (case e => walk_at "t_hp")))
local macro_rules | `(tactic| walk_at "t_z") => `(tactic| first | assumption | decide | omega | (simp only [List.length_cons, List.length_nil, List.length_map, List.length_append, List.length_replicate]; first | done | decide | omega))
local macro_rules | `(tactic| walk_at "t_at") => `(tactic| first | assumption | rfl)
local macro_rules | `(tactic| walk_at "t_ixn") => `(tactic| first | assumption | rfl)
local macro_rules | `(tactic| walk_at "t_ev") => `(tactic| (intro H1 e Q q; (repeat walk_at "t_w"); exact q _ (by walk_at "t_ex")))
local macro_rules | `(tactic| walk_at "t_p") => `(tactic| first | assumption | decide | decide +kernel)
local macro_rules | `(tactic| walk_at "t_lt") => `(tactic| first | assumption | omega | (simp only [List.length_set, List.length_map, List.length_append]; first | assumption | omega))
local macro_rules | `(tactic| walk_at "t_w") => `(tactic| first
  | ((with_reducible refine' w_at ?s ?hl ?h0 ?_); (case s => walk_at "t_sq"); (case hl => walk_at "t_z"); (case h0 => walk_at "t_z"))
  | (with_reducible refine w_isInt ?_)
  | (with_reducible refine w_I1 ?_)
  | (with_reducible refine w_Head ?_)
  | ((with_reducible refine' w_number ?hb ?_); (case hb => walk_at "t_bits")))
local macro_rules | `(tactic| walk_at "t_bits") => `(tactic| assumption)
local macro_rules | `(tactic| walk_at "t_w") => `(tactic| first
  | (with_reducible refine w_tru ?_)
  | ((with_reducible refine' w_truL ?s ?_); (case s => walk_at "t_sq"))
  | (with_reducible refine w_dnew ?_)
  | (with_reducible refine w_disp1 ?_)
  | ((with_reducible refine' w_aug ?e ?_); (case e => rfl))
  | (with_reducible refine w_ipI ?_)
  | ((with_reducible refine' w_inD ?e ?_); (case e => walk_at "t_hp"))
  | ((with_reducible refine' w_notInD ?e ?_); (case e => walk_at "t_hp"))
  | (with_reducible refine w_dget ?_)
  | ((with_reducible refine' w_dgetE ?e ?hv ?_); (case e => walk_at "t_hp"); (case hv => walk_at "t_dv"))
  | (with_reducible refine w_dput ?_)
  | ((with_reducible refine' w_dputE ?e ?hl ?_); (case e => walk_at "t_hp"); (case hl => walk_at "t_z"))
  | ((with_reducible refine' w_extend ?e1 ?e2 ?hz ?_); (case e1 => walk_at "t_hp"); (case e2 => walk_at "t_hp"); (case hz => walk_at "t_z")))
local macro_rules | `(tactic| walk_at "t_dv") => `(tactic| assumption)
abbrev s_heads : Stmt := topS 16
theorem sc_heads : FnScope ["row", "used", "places", "place"] ["row", "used"] (defScope s_heads) := ⟨rfl, rfl, rfl, by decide +kernel, rfl, by decide +kernel, by decide +kernel⟩

section
variable {P : Program} {w : World} {K : PySem.W.Frag} {mg : Str → Option Value} {base : Heap}
theorem c_heads (T : Txt K mg) (D : DefAt K mg "heads" "heads" s_heads) (c_fields_of : Cal P w K mg base "fields_of" 1 ["head"] (spI1 gFields)) : Cal P w K mg base "heads" 2 ["row", "used"] (spHeads K) := by
  refine Cal.of D sc_heads (fun vs H Q E h => ?_) (fun _ _ _ _ _ _ us hl => match us, hl with | [_, _], _ => rfl) (fun f cdv A outer s H vs Q E hr h => ?_)
  · obtain ⟨a, bs, sp, rfl, _⟩ := h; rfl
  · obtain ⟨a, bs, sp, rfl, hS, hro, k⟩ := h
    have hu : _ + 64 < cLine := hr.units
    have hfew := hro.few
    have hlr := rowAt_len bs sp
    have hpn := places_len bs
    refine ⟨_, (pss_cons (ps_set (i := 2) sc_heads.nd rfl (Or.inl rfl) (pe_lst pa_nil))
      (pss_cons (ps_set (i := 3) sc_heads.nd rfl (Or.inl rfl) pe_int)
      (pss_cons (ps_while (PassesOwn.never) (pt_cmpR op_lt (pv 3) (pv 1) (nomark _)) (pss_cons (ps_expr (pe_bmK (K := K) rfl PySem.F.plainAttrs_list PySem.F.slot_list_append PySem.F.type_list_append mt_append (pv 2) (pa_cons (pv 3) pa_nil)))
      (pss_one (ps_aug (i := 3) sc_heads.nd rfl (Or.inl rfl) (pe_op op_addA (pe_callC c_fields_of (hr.mono (by decide)) rfl (pa_cons (pe_ix (ix_seqK (K := K) rfl) (pv 0) (pv 3) (fun _ _ => rfl)) pa_nil)) pe_int) ip_add))))
      (pss_one (ps_ret (pv 2)))))), ?_⟩
    repeat walk_at "t_w"
    rename_i l hl
    refine w_while (fun m σ' H' => ∃ i : Nat, i ≤ bs.length ∧ m = bs.length - i ∧ σ' = [some (.ref a), some (.int ((cells bs : Nat) : Int)), some (.ref l), some (.int ((pl bs i : Nat) : Int))] ∧ Ex H H' ∧ H' l = some (.lst ((asI ((places bs).take i)).map V.int))) bs.length ?_ ?_
    · exact ⟨0, Nat.zero_le _, rfl, rfl, by walk_at "t_ex", upd_same⟩
    · rintro m σ' H' ⟨i, hi, em, rfl, hE, hL⟩
      repeat walk_at "t_w"
      rcases Nat.lt_or_ge i bs.length with h | h
      · have hb : bs[i]? = some bs[i] := List.getElem?_eq_getElem h
        have hp := pl_lt h (Nat.le_refl _)
        rw [pl_all] at hp
        refine w_pos (by omega) ?_
        refine w_exN ?_
        have hz2 : ((asI ((places bs).take i)).map V.int).length < 1000000 := by rw [List.length_map, asI_len, List.length_take]; omega
        repeat walk_at "t_w"
        have e1 : ((pl bs i : Nat) : Int) + ((rowAt bs sp).getD (pl bs i) 0 / 4 + 1) = ((pl bs (i + 1) : Nat) : Int) := by rw [rowAt_head hb, pl_step hb]; omega
        refine ⟨bs.length - (i + 1), by omega, i + 1, h, rfl, by rw [← e1]; rfl, by walk_at "t_ex", ?_⟩
        rw [take_places h, ← asI_snoc]
        walk_at "t_hp"
      · have ei : i = bs.length := by omega
        refine w_neg (by rw [ei, pl_all]; omega) ?_
        rw [ei, List.take_of_length_le (by rw [hpn]; exact Nat.le_refl _)] at hL
        repeat walk_at "t_w"
        exact k _ _ (by walk_at "t_none") hE hL
end
end Tw

set_option Elab.async false
set_option linter.all false
set_option maxRecDepth 100000
set_option maxHeartbeats 4000000
namespace Tw
open PySem PySem.Spec PyProof.Rows L2
open Evl (Ex ex_l ex_t fresh_back sz_of sz_lt)
local macro_rules | `(tactic| walk_at "t_hp") => `(tactic| first
  | assumption
  | exact upd_same
  | (refine' hp_ne ?hne ?hrest; (case hne => walk_at "t_ne"); (case hrest => walk_at "t_hp"))
  | (refine' hp_ex ?hx ?hrest; (case hx => assumption); (case hrest => walk_at "t_hp")))
local macro_rules | `(tactic| walk_at "t_ne") => `(tactic| first
  | assumption
  | exact Ne.symm (by assumption)
  | (refine' ne_of_none ?h1 ?h2; (case h2 => assumption); (case h1 => walk_at "t_hp"))
  | (refine' Ne.symm (ne_of_none ?h1 ?h2); (case h2 => assumption); (case h1 => walk_at "t_hp")))
local macro_rules | `(tactic| walk_at "t_none") => `(tactic| first
  | assumption
  | (refine' fresh_back ?e ?n; (case n => assumption); (case e => walk_at "t_ex")))
local macro_rules | `(tactic| walk_at "t_ex") => `(tactic| first
  | assumption
  | exact Evl.Ex.refl _
  | (refine' ex_new ?n ?e; (case n => assumption); (case e => walk_at "t_ex"))
  | (refine' Evl.Ex.mut ?e ?n; (case n => walk_at "t_none"); (case e => walk_at "t_ex"))
  | (refine' Evl.Ex.trans ?a ?b; (case b => assumption); (case a => walk_at "t_ex")))
local macro_rules | `(tactic| walk_at "t_sq") => `(tactic| first
  | assumption
  | (refine' SqL.of ?h; (case h => walk_at "t_hp"))
  | (refine' ex_l ?e ?s; (case s => assumption); (case e => walk_at "t_ex")))
local macro_rules | `(tactic| walk_at "t_sqt") => `(tactic| first
  | assumption
  | (refine' SqT.of ?h; (case h => walk_at "t_hp"))
  | (refine' ex_t ?e ?s; (case s => assumption); (case e => walk_at "t_ex")))
local macro_rules | `(tactic| walk_at "t_mul") => `(tactic| first
  | assumption
  | exact Or.inl (Or.inl ⟨by decide, by decide⟩)
  | exact Or.inl (Or.inr ⟨by decide, by decide⟩)
  | exact Or.inl (Or.inl ⟨by omega, by omega⟩)
  | exact Or.inl (Or.inr ⟨by omega, by omega⟩))
local macro_rules | `(tactic| walk_at "t_c") => `(tactic| first
  | assumption
  | decide
  | (show (0 : Int) < _; decide)
  | (show (0 : Int) < _; omega)
  | exact ⟨by decide, by decide⟩
  | exact ⟨by decide, by decide, by decide⟩
  | exact ⟨by omega, by omega⟩
  | exact ⟨by omega, by omega, by omega, by omega⟩)
local macro_rules | `(tactic| walk_at "t_w") => `(tactic| first
  | (with_reducible refine w_seq ?_)
  | (with_reducible refine w_asg ?_)
  | (with_reducible refine w_gName ?_)
  | (with_reducible refine w_nx ?_)
  | (with_reducible refine w_rt ?_)
  | (with_reducible refine w_ct ?_)
  | (with_reducible refine w_bk ?_)
  | (with_reducible refine w_ret ?_)
  | (with_reducible refine w_retN ?_)
  | (with_reducible refine w_drop ?_)
  | (with_reducible refine w_ifS ?_)
  | (with_reducible refine w_next ?_)
  | (with_reducible refine w_break ?_)
  | (with_reducible refine w_cont ?_)
  | ((with_reducible refine' w_var ?h ?_); (case h => rfl))
  | (with_reducible refine w_c ?_)
  | (with_reducible refine w_op ?_)
  | (with_reducible refine w_un ?_)
  | (with_reducible refine w_I0 ?_)
  | ((with_reducible refine' w_I ?c ?_); (case c => walk_at "t_c"))
  | (with_reducible refine w_U ?_)
  | (with_reducible refine w_addI ?_)
  | ((with_reducible refine' w_addL ?h1 ?h2 ?hz ?_); (case h1 => walk_at "t_hp"); (case h2 => walk_at "t_hp"); (case hz => walk_at "t_z"))
  | ((with_reducible refine' w_mulI ?c ?_); (case c => walk_at "t_mul"))
  | ((with_reducible refine' w_mulL1 ?h1 ?b1 ?b2 ?_); (case h1 => walk_at "t_hp"); (case b1 => walk_at "t_z"); (case b2 => walk_at "t_z"))
  | ((with_reducible refine' w_mulL ?h1 ?b1 ?b2 ?hz ?_); (case h1 => walk_at "t_hp"); (case b1 => walk_at "t_z"); (case b2 => walk_at "t_z"); (case hz => walk_at "t_z"))
  | (with_reducible refine w_notIB ?_)
  | (with_reducible refine w_notBB ?_)
  | (with_reducible refine w_notN ?_)
  | (with_reducible refine w_isBB ?_)
  | (with_reducible refine w_isN ?_)
  | (with_reducible refine w_eqI ?_)
  | (with_reducible refine w_neI ?_)
  | (with_reducible refine w_eqB ?_)
  | (with_reducible refine w_neB ?_)
  | (with_reducible refine w_eqS ?_)
  | (with_reducible refine w_neS ?_)
  | (with_reducible refine w_test ?_)
  | (with_reducible refine w_B ?_)
  | (with_reducible refine w_exB ?_)
  | (with_reducible refine w_and ?_)
  | (with_reducible refine w_or ?_)
  | (with_reducible refine w_not ?_)
  | (with_reducible refine w_andV ?_)
  | (with_reducible refine w_orV ?_)
  | (with_reducible refine w_notV ?_)
  | (with_reducible refine w_bl ?_)
  | (with_reducible refine w_if ?_)
  | (with_reducible refine w_nil ?_)
  | (with_reducible refine w_cons ?_)
  | (with_reducible refine w_cb ?_)
  | (with_reducible refine w_call ?_)
  | (with_reducible refine w_tup ?_)
  | (with_reducible refine w_lst ?_)
  | ((with_reducible refine' w_fin ?hz ?_); (case hz => (simp only [List.length_cons, List.length_nil]; decide)))
  | ((with_reducible refine' w_len ?s ?_); (case s => walk_at "t_sq"))
  | ((with_reducible refine' w_lenT ?s ?_); (case s => walk_at "t_sqt"))
  | (with_reducible refine w_intI ?_)
  | (with_reducible refine w_intB ?_)
  | ((with_reducible refine' w_list ?s ?_); (case s => walk_at "t_sq"))
  | (with_reducible refine w_max ?_)
  | (with_reducible refine w_min ?_)
  | (with_reducible refine w_abs ?_)
  | (with_reducible refine w_sl ?_)
  | (with_reducible refine w_noPart ?_)
  | (with_reducible refine w_part ?_)
  | (with_reducible refine w_exI ?_)
  | ((with_reducible refine' w_slL ?s ?_); (case s => walk_at "t_sq"))
  | ((with_reducible refine' w_ixLI ?s ?b ?_); (case s => walk_at "t_sq"); (case b => walk_at "t_lt"))
  | ((with_reducible refine' w_ixL ?s ?e ?_); (case s => walk_at "t_sq"); (case e => walk_at "t_at"))
  | ((with_reducible refine' w_ixT ?s ?e ?_); (case s => walk_at "t_sqt"); (case e => walk_at "t_at"))
  | (with_reducible refine w_gSub ?_)
  | ((with_reducible refine' w_setLI ?e ?b ?_); (case e => walk_at "t_hp"); (case b => walk_at "t_lt"))
  | ((with_reducible refine' w_setL ?e ?b ?_); (case e => walk_at "t_hp"); (case b => walk_at "t_ixn"))
  | (with_reducible refine w_bm ?_)
  | (with_reducible refine w_bm0 ?_)
  | ((with_reducible refine' w_tyL ?e ?_); (case e => walk_at "t_sq"))
  | ((with_reducible refine' w_app ?e ?hz ?_); (case e => walk_at "t_hp"); (case hz => walk_at "t_z"))
  | (with_reducible refine w_iteT ?_)
  | (with_reducible refine w_iteF ?_)
  | (with_reducible refine w_iteNT ?_)
  | (with_reducible refine w_iteNF ?_)
  | (with_reducible refine w_for ?_)
  | (with_reducible refine w_iList ?_)
  | ((with_reducible refine' w_exL ?s ?_); (case s => walk_at "t_sq"))
  | (with_reducible refine w_iTup ?_)
  | ((with_reducible refine' w_exT ?s ?_); (case s => walk_at "t_sqt"))
  | (with_reducible refine w_iRng1 ?_)
  | ((with_reducible refine w_exR1 ?b ?_); (case b => walk_at "t_c"))
  | (with_reducible refine w_iRng2 ?_)
  | ((with_reducible refine w_exR2 ?b ?_); (case b => walk_at "t_c"))
  | (with_reducible refine w_yes ?_)
  | ((with_reducible refine w_pos ?p ?_); (case p => walk_at "t_p"))
  | ((with_reducible refine w_neg ?p ?_); (case p => walk_at "t_p"))
  | ((with_reducible refine w_posN ?p ?_); (case p => walk_at "t_p"))
  | ((with_reducible refine w_negN ?p ?_); (case p => walk_at "t_p"))
  | ((with_reducible refine' w_notInL ?s ?_); (case s => walk_at "t_sq"))
  | ((with_reducible refine' w_inL ?s ?_); (case s => walk_at "t_sq"))
  | ((with_reducible refine' w_sum ?s ?_); (case s => walk_at "t_sq"))
  | (with_reducible refine w_isiI ?_)
  | ((with_reducible refine' w_isiL ?e ?_); (case e => walk_at "t_ty"))
  | ((with_reducible refine' w_isiT ?e ?_); (case e => walk_at "t_ty"))
  | (with_reducible intro p hp_new))
local macro_rules | `(tactic| walk_at "t_ty") => `(tactic| first | assumption | (refine' tyx_l ?e; (case e => walk_at "t_hp")) | (refine' tyx_t ?e; (case e => walk_at "t_hp")))
local macro_rules | `(tactic| walk_at "t_z") => `(tactic| first | assumption | decide | omega | (simp only [List.length_cons, List.length_nil, List.length_map, List.length_append, List.length_replicate]; first | done | decide | omega))
local macro_rules | `(tactic| walk_at "t_at") => `(tactic| first | assumption | rfl)
local macro_rules | `(tactic| walk_at "t_ixn") => `(tactic| first | assumption | rfl)
local macro_rules | `(tactic| walk_at "t_ev") => `(tactic| (intro H1 e Q q; (repeat walk_at "t_w"); exact q _ (by walk_at "t_ex")))
local macro_rules | `(tactic| walk_at "t_p") => `(tactic| first | assumption | decide | decide +kernel)
local macro_rules | `(tactic| walk_at "t_lt") => `(tactic| first | assumption | omega | (simp only [List.length_set, List.length_map, List.length_append]; first | assumption | omega))
local macro_rules | `(tactic| walk_at "t_w") => `(tactic| first
  | ((with_reducible refine' w_at ?s ?hl ?h0 ?_); (case s => walk_at "t_sq"); (case hl => walk_at "t_z"); (case h0 => walk_at "t_z"))
  | (with_reducible refine w_isInt ?_)
  | (with_reducible refine w_I1 ?_)
  | (with_reducible refine w_Head ?_)
  | ((with_reducible refine' w_number ?hb ?_); (case hb => walk_at "t_bits")))
local macro_rules | `(tactic| walk_at "t_bits") => `(tactic| assumption)
local macro_rules | `(tactic| walk_at "t_w") => `(tactic| first
  | (with_reducible refine w_tru ?_)
  | ((with_reducible refine' w_truL ?s ?_); (case s => walk_at "t_sq"))
  | (with_reducible refine w_dnew ?_)
  | (with_reducible refine w_disp1 ?_)
  | ((with_reducible refine' w_aug ?e ?_); (case e => rfl))
  | (with_reducible refine w_ipI ?_)
  | ((with_reducible refine' w_inD ?e ?_); (case e => walk_at "t_hp"))
  | ((with_reducible refine' w_notInD ?e ?_); (case e => walk_at "t_hp"))
  | (with_reducible refine w_dget ?_)
  | ((with_reducible refine' w_dgetE ?e ?hv ?_); (case e => walk_at "t_hp"); (case hv => walk_at "t_dv"))
  | (with_reducible refine w_dput ?_)
  | ((with_reducible refine' w_dputE ?e ?hl ?_); (case e => walk_at "t_hp"); (case hl => walk_at "t_z"))
  | ((with_reducible refine' w_extend ?e1 ?e2 ?hz ?_); (case e1 => walk_at "t_hp"); (case e2 => walk_at "t_hp"); (case hz => walk_at "t_z")))
local macro_rules | `(tactic| walk_at "t_dv") => `(tactic| assumption)
abbrev s_field_words : Stmt := topS 17
theorem sc_field_words : FnScope ["row", "place"] ["row", "place"] (defScope s_field_words) := ⟨rfl, rfl, rfl, by decide +kernel, rfl, by decide +kernel, by decide +kernel⟩

abbrev s_reached : Stmt := topS 18
theorem sc_reached : FnScope ["row", "used", "found", "waiting", "box", "word", "place"] ["row", "used"] (defScope s_reached) := ⟨rfl, rfl, rfl, by decide +kernel, rfl, by decide +kernel, by decide +kernel⟩

/-! ### what stands in the fields of a box, as the program reads it -/
theorem rowAt_fields {bs : List (List Thing)} {sp i : Nat} {fs : List Thing} (h : bs[i]? = some fs) : ((rowAt bs sp).drop (pl bs i + 1)).take fs.length = fs.map (word (places bs)) := by
  obtain ⟨r, e⟩ := rowOf_split (places bs) h
  unfold rowAt
  rw [e, List.append_assoc]
  have l : (rowOf (places bs) (bs.take i)).length = pl bs i := rowOf_len _ _
  rw [← l, List.drop_append, List.drop_eq_nil_of_le (by omega), List.nil_append, Nat.add_sub_cancel_left, List.append_assoc]
  unfold boxRow
  rw [List.cons_append, List.drop_succ_cons, List.drop_zero]
  have l2 : fs.length = (fs.map (word (places bs))).length := (List.length_map ..).symm
  rw [l2, List.take_left]
theorem cutV_ints (xs : List Int) (p n : Nat) : cutV (xs.map V.int) (some ((p : Int) + 1)) (some ((p : Int) + 1 + (n : Int))) = ((xs.drop (p + 1)).take n).map V.int := by
  have e1 : (p : Int) + 1 = ((p + 1 : Nat) : Int) := by omega
  have e2 : (p : Int) + 1 + (n : Int) = ((p + 1 + n : Nat) : Int) := by omega
  unfold cutV
  rw [e2, e1, HT.sIx_nat, HT.sIx_nat, List.length_map, List.map_take, List.map_drop]
  by_cases h : p + 1 ≤ xs.length
  · rw [Nat.min_eq_left h]
    by_cases h2 : p + 1 + n ≤ xs.length
    · rw [Nat.min_eq_left h2, Nat.add_sub_cancel_left]
    · rw [Nat.min_eq_right (by omega)]
      rw [List.take_of_length_le (i := xs.length - (p + 1)) (by rw [List.length_drop, List.length_map]; exact Nat.le_refl _), List.take_of_length_le (i := n) (by rw [List.length_drop, List.length_map]; omega)]
  · rw [List.drop_eq_nil_of_le (i := p + 1) (by rw [List.length_map]; omega), List.drop_eq_nil_of_le (i := min (p + 1) xs.length) (by rw [List.length_map, Nat.min_eq_right (by omega)]; exact Nat.le_refl _), List.take_nil, List.take_nil]
def spFields (K : PySem.W.Frag) : Sp := fun vs H Q _ => ∃ (a : Addr) (bs : List (List Thing)) (sp i : Nat) (fs : List Thing), vs = [.ref a, .int ((pl bs i : Nat) : Int)] ∧ SqL K H a ((rowAt bs sp).map V.int) ∧ RowOk bs sp ∧ bs[i]? = some fs ∧ Evl.RetL ((fs.map (word (places bs))).map V.int) H Q
theorem w_fields {K : PySem.W.Frag} {H : Hp} {Q : VK} {E : XK} {a : Addr} {bs : List (List Thing)} {i : Nat} (sp : Nat) (fs : List Thing) (s : SqL K H a ((rowAt bs sp).map V.int)) (r : RowOk bs sp) (hb : bs[i]? = some fs)
    (k : ∀ p H2, H p = none → Ex H H2 → H2 p = some (.lst ((fs.map (word (places bs))).map V.int)) → Q (.ref p) H2) : spFields K ([.ref a, .int ((pl bs i : Nat) : Int)] ++ []) H Q E := ⟨a, bs, sp, i, fs, rfl, s, r, hb, k⟩
/-- the places of the boxes that can be come to -/
def spReached (K : PySem.W.Frag) : Sp := fun vs H Q _ => ∃ (a : Addr) (bs : List (List Thing)) (sp : Nat), vs = [.ref a, .int ((cells bs : Nat) : Int)] ∧ SqL K H a ((rowAt bs sp).map V.int) ∧ RowOk bs sp ∧ ∀ al, AliveOk bs al → Evl.RetL ((asI (al.map (pl bs))).map V.int) H Q
theorem w_reached {K : PySem.W.Frag} {H : Hp} {Q : VK} {E : XK} {a : Addr} {bs : List (List Thing)} (sp : Nat) (s : SqL K H a ((rowAt bs sp).map V.int)) (r : RowOk bs sp)
    (k : ∀ al, AliveOk bs al → ∀ p H2, H p = none → Ex H H2 → H2 p = some (.lst ((asI (al.map (pl bs))).map V.int)) → Q (.ref p) H2) : spReached K ([.ref a, .int ((cells bs : Nat) : Int)] ++ []) H Q E := ⟨a, bs, sp, rfl, s, r, k⟩
/-- the dict of what is found: its keys are the places of the boxes M -/
def FoundD (bs : List (List Thing)) (M : List Nat) (kvs : List (Key × V)) : Prop := kvs.length ≤ M.length ∧ ∀ k, k < bs.length → (valV kvs (.inl ((pl bs k : Nat) : Int))).isSome = decide (k ∈ M)
theorem FoundD.start {bs : List (List Thing)} (h : 1 ≤ bs.length) : FoundD bs [0] [(.inl 0, .bl true)] := by
  refine ⟨Nat.le_refl _, fun k hk => ?_⟩
  by_cases e : k = 0
  · subst e; rfl
  · have : pl bs 0 < pl bs k := pl_lt (by omega) (by omega)
    rw [valV_neg (keyI_ne (by omega)), decide_eq_false (by simpa using e)]; rfl
theorem FoundD.join {bs : List (List Thing)} {M : List Nat} {kvs : List (Key × V)} (h : FoundD bs M kvs) {q : Nat} (hq : q < bs.length) (v : V) : FoundD bs (M ++ [q]) (putK kvs (.inl ((pl bs q : Nat) : Int)) v) := by
  refine ⟨by have := length_putK kvs (.inl ((pl bs q : Nat) : Int)) v; have := h.1; rw [List.length_append]; show _ ≤ M.length + 1; omega, fun k hk => ?_⟩
  rw [valV_putI]
  by_cases e : k = q
  · subst e; rw [if_pos rfl]; simp
  · rw [if_neg (fun z => e (pl_inj (Nat.le_of_lt hk) (Nat.le_of_lt hq) (by omega))), h.2 k hk]
    simp [e]
/-- the places found, in the order of the row -/
theorem given_alive {bs : List (List Thing)} {M : List Nat} (h : Marking bs M []) (n : Nat) (hn : n = bs.length) : ∃ al, AliveOk bs al ∧ Evl.given n (fun i => decide (i ∈ M)) (fun i => V.int ((pl bs i : Nat) : Int)) = (asI (al.map (pl bs))).map V.int := by
  subst hn
  refine ⟨(List.range bs.length).filter fun i => decide (i ∈ M), ⟨List.Pairwise.filter _ List.pairwise_lt_range, fun k => ⟨fun hk => ?_, fun r => ?_⟩⟩, ?_⟩
  · have := (List.mem_filter.mp hk).2
    exact h.re k (by simpa using this)
  · have := h.all r
    exact List.mem_filter.mpr ⟨List.mem_range.mpr (h.lt k this), by simpa using this⟩
  · unfold Evl.given asI
    rw [List.map_map, List.map_map]; rfl
section
variable {P : Program} {w : World} {K : PySem.W.Frag} {mg : Str → Option Value} {base : Heap}
theorem c_field_words (T : Txt K mg) (D : DefAt K mg "field_words" "field_words" s_field_words) (c_fields_of : Cal P w K mg base "fields_of" 1 ["head"] (spI1 gFields)) : Cal P w K mg base "field_words" 2 ["row", "place"] (spFields K) := by
  refine Cal.of D sc_field_words (fun vs H Q E h => ?_) (fun _ _ _ _ _ _ us hl => match us, hl with | [_, _], _ => rfl) (fun f cdv A outer s H vs Q E hr h => ?_)
  · obtain ⟨a, bs, sp, i, fs, rfl, _⟩ := h; rfl
  · obtain ⟨a, bs, sp, i, fs, rfl, hS, hro, hb, k⟩ := h
    have hu : _ + 64 < cLine := hr.units
    have hlr := rowAt_len bs sp
    have hi := (List.getElem?_eq_some_iff.mp hb).1
    have hp := pl_lt hi (Nat.le_refl _)
    rw [pl_all] at hp
    have e4 : (rowAt bs sp).getD (pl bs i) 0 / 4 = (fs.length : Int) := by rw [rowAt_head hb]; omega
    refine ⟨_, (pss_one (ps_ret (pe_slice (sl_AK (K := K) rfl) (pv 0) (po_some (pe_op op_addA (pv 1) pe_int)) (po_some (pe_op op_addA (pe_op op_addA (pv 1) pe_int) (pe_callC c_fields_of (hr.mono (by decide)) rfl (pa_cons (pe_ix (ix_seqK (K := K) rfl) (pv 0) (pv 1) (fun _ _ => rfl)) pa_nil))))))), ?_⟩
    repeat walk_at "t_w"
    rename_i p hp2
    refine k _ _ (by walk_at "t_none") (by walk_at "t_ex") ?_
    rw [upd_same, e4, cutV_ints, rowAt_fields hb]
theorem c_reached (T : Txt K mg) (D : DefAt K mg "reached" "reached" s_reached) (c_heads : Cal P w K mg base "heads" 2 ["row", "used"] (spHeads K)) (c_field_words : Cal P w K mg base "field_words" 2 ["row", "place"] (spFields K)) (c_is_link : Cal P w K mg base "is_link" 1 ["word"] (spI1 gIsLink)) (c_told_by : Cal P w K mg base "told_by" 1 ["word"] (spI1 gTold)) :
    Cal P w K mg base "reached" 3 ["row", "used"] (spReached K) := by
  refine Cal.of D sc_reached (fun vs H Q E h => ?_) (fun _ _ _ _ _ _ us hl => match us, hl with | [_, _], _ => rfl) (fun f cdv A outer s H vs Q E hr h => ?_)
  · obtain ⟨a, bs, sp, rfl, _⟩ := h; rfl
  · obtain ⟨a, bs, sp, rfl, hS, hro, k⟩ := h
    have hu : _ + 64 < cLine := hr.units
    have hfew := hro.few
    have hlr := rowAt_len bs sp
    have hpn := places_len bs
    have hone := hro.one
    refine ⟨_, (pss_cons (ps_set (i := 2) sc_reached.nd rfl (Or.inr rfl) (pe_disp (pps_cons pe_int pe_bl pps_nil) (by rfl) (by rfl) (fun z => by cases z) (by decide)))
      (pss_cons (ps_set (i := 3) sc_reached.nd rfl (Or.inl rfl) (pe_lst (pa_cons pe_int pa_nil)))
      (pss_cons (ps_while (PassesOwn.never) (pt_truthK (K := K) rfl (pv 3) (fun _ => rfl)) (pss_cons (ps_set (i := 4) sc_reached.nd rfl (Or.inl rfl) (pe_bm0K (K := K) rfl PySem.F.plainAttrs_list PySem.F.slot_list_pop PySem.F.type_list_pop mt_pop (pv 3)))
      (pss_one (ps_for (PassesOwn.never) rfl (pi_listK (K := K) rfl (pe_callC c_field_words (hr.mono (by decide)) rfl (pa_cons (pv 0) (pa_cons (pv 4) pa_nil)))) (pg_name (i := 5) sc_reached.nd rfl (Or.inl rfl)) (pss_one (ps_if (PW.pt (pw_and (pt_val (pe_callC c_is_link (hr.mono (by decide)) rfl (pa_cons (pv 5) pa_nil))) (pw_and1 (pt_cmpR (op_notin_d1 (hu1 hu)) (pe_callC c_told_by (hr.mono (by decide)) rfl (pa_cons (pv 5) pa_nil)) (pv 2) (by rfl))))) (pss_cons (ps_dput (hu1 hu) (pv 2) (pe_callC c_told_by (hr.mono (by decide)) rfl (pa_cons (pv 5) pa_nil)) pe_bl rfl)
      (pss_one (ps_expr (pe_bmK (K := K) rfl PySem.F.plainAttrs_list PySem.F.slot_list_append PySem.F.type_list_append mt_append (pv 3) (pa_cons (pe_callC c_told_by (hr.mono (by decide)) rfl (pa_cons (pv 5) pa_nil)) pa_nil))))) pss_nil))))))
      (pss_one (ps_ret (pe_lc (own := [("place", 6)]) (g := (gName 6)) rfl sc_reached.nd (pi_listK (K := K) rfl (pe_callC c_heads (hr.mono (by decide)) rfl (pa_cons (pv 0) (pa_cons (pv 1) pa_nil)))) (blkOk_by (own := [("place", 6)]) (N := ["row", "used", "found", "waiting", "box", "word", "place"]) (sc := defScope s_reached) (by decide +kernel)) (fun _ _ _ _ _ => (pg_name (i := 6) sc_reached.nd rfl (Or.inl rfl))) (fun _ _ _ _ _ => (pts_one (pt_cmpR (op_in_d1 (hu1 hu)) (pv 6) (pv 2) (by rfl)))) (fun _ _ _ _ _ => (pv 6)))))))), ?_⟩
    repeat walk_at "t_w"
    rename_i d hd w hw
    have ndw : d ≠ w := fun e => ne_of_upd hw e.symm
    have hHw : H w = none := none_of hw
    refine w_while (fun m σ' H' => ∃ (M W : List Nat) (kvs : List (Key × V)) (y4 y5 : Option V), m = 2 * (bs.length - M.length) + W.length ∧ m ≤ 2 * bs.length ∧ σ' = [some (.ref a), some (.int ((cells bs : Nat) : Int)), some (.ref d), some (.ref w), y4, y5, none] ∧ Ex H H' ∧
      H' d = some (.dK kvs) ∧ H' w = some (.lst ((asI (W.map (pl bs))).map V.int)) ∧ FoundD bs M kvs ∧ Marking bs M W) (2 * (bs.length - 1) + 1) ?_ ?_
    · exact ⟨[0], [0], _, none, none, rfl, by omega, rfl, by walk_at "t_ex", by rw [upd_ne ndw, upd_same], upd_same, FoundD.start hone, Marking.start hone⟩
    · rintro m σ' H' ⟨M, W, kvs, y4, y5, em, hmb, rfl, hE, hF, hW, hD, hM⟩
      have hMl := nodup_few hM.nd hM.lt
      repeat walk_at "t_w"
      rcases List.eq_nil_or_concat W with eW | ⟨W', c, eW⟩
      · subst eW
        refine w_ff rfl ?_
        repeat walk_at "t_w"
        refine w_lc ?_
        repeat walk_at "t_w"
        refine w_heads sp (by walk_at "t_sq") hro fun q H5 hq e5 hq5 => ?_
        repeat walk_at "t_w"
        obtain ⟨al, hal, eal⟩ := given_alive hM ((asI (places bs)).map V.int).length (by rw [List.length_map, asI_len, hpn])
        refine lcjL (xs := (asI (places bs)).map V.int) (Evl.Cw H5 (fun i => decide (i ∈ M)) (fun i => V.int ((pl bs i : Nat) : Int))) ?_ ?_ ?_ ?_
        · exact fun Dl hD => ⟨hD, Evl.Ex.new hD, upd_same⟩
        · exact fun Dl i H' _ p => SqL.of (p.2.1 _ _ hq5)
        · intro Dl i x H6 hDl hx p
          obtain ⟨j, hj, rfl⟩ := asI_get hx
          have hil := (List.getElem?_eq_some_iff.mp hj).1
          rw [hpn] at hil
          have ej : j = pl bs i := by
            rw [places_get hil] at hj
            exact (Option.some.inj hj).symm
          subst ej
          refine ⟨rfl, Evl.cw_turn p (by omega) ?_ ?_⟩
          · intro H7 e7 Q7 q7
            repeat walk_at "t_w"
            rw [hD.2 i hil]
            exact q7 _ (by walk_at "t_ex")
          · intro _
            walk_at "t_ev"
        · intro Dl H6 hDl p
          obtain ⟨p1, p2, p3⟩ := p
          rw [eal] at p3
          exact k al hal _ _ (by walk_at "t_none") (by walk_at "t_ex") p3
      · rw [List.concat_eq_append] at eW
        subst eW
        have hcM := hM.sub c (by simp)
        have hcl := hM.lt c hcM
        rw [List.length_append] at em
        simp only [List.length_singleton] at em
        have hbc : bs[c]? = some bs[c] := List.getElem?_eq_getElem hcl
        have e1 : (asI ((W' ++ [c]).map (pl bs))).map V.int = (asI (W'.map (pl bs))).map V.int ++ [V.int ((pl bs c : Nat) : Int)] := by
          rw [List.map_append, List.map_singleton, ← asI_snoc]
        rw [e1] at hW ⊢
        refine w_tt (by simp) ?_
        refine w_exN ?_
        repeat walk_at "t_w"
        refine w_pop (y := V.int ((pl bs c : Nat) : Int)) (by walk_at "t_hp") (by rw [List.length_append, List.getElem?_append_right (by simp)]; simp) ?_
        rw [List.dropLast_concat]
        repeat walk_at "t_w"
        refine w_fields sp bs[c] (by walk_at "t_sq") hro hbc fun lf H5 hlf e5 hlf5 => ?_
        have hM2 : Marking bs M (c :: W') := hM.same fun k => by simp [or_comm]
        have nlw : lf ≠ w := fun e => ne_of_upd hlf e
        have nld : lf ≠ d := fun e => by subst e; rw [upd_ne ndw] at hlf; rw [hF] at hlf; cases hlf
        have b1 : del (del H5 w) d lf = some (.lst ((bs[c].map (word (places bs))).map V.int)) := by rw [del_ne nld, del_ne nlw]; exact hlf5
        have bE : Ex H (del (del H5 w) d) := ex_del2 (ex_del2 (by walk_at "t_ex") hHw) hd
        have bd : del (del H5 w) d d = none := del_same
        have bw : del (del H5 w) d w = none := by rw [del_ne (Ne.symm ndw), del_same]
        have b5 : Ex (del (del H5 w) d) H5 := del_ex.trans del_ex
        have hF5 : H5 d = some (.dK kvs) := e5 _ _ (by rw [upd_ne ndw]; exact hF)
        have hW5 : H5 w = some (.lst ((asI (W'.map (pl bs))).map V.int)) := e5 _ _ upd_same
        clear hlf5 e5 hlf
        generalize del (del H5 w) d = B at b1 bE bd bw b5
        repeat walk_at "t_w"
        refine loopL (xs := (bs[c].map (word (places bs))).map V.int) (fun j σ' H' => ∃ (M' W2 : List Nat) (kvs' : List (Key × V)) (y5 : Option V), σ' = [some (.ref a), some (.int ((cells bs : Nat) : Int)), some (.ref d), some (.ref w), some (.int ((pl bs c : Nat) : Int)), y5, none] ∧ Ex B H' ∧
          H' d = some (.dK kvs') ∧ H' w = some (.lst ((asI (W2.map (pl bs))).map V.int)) ∧ FoundD bs M' kvs' ∧ Marking bs M' (c :: W2) ∧ (M'.length + W'.length = M.length + W2.length ∧ M.length ≤ M'.length) ∧ c ∈ M' ∧ ∀ q, Thing.box q ∈ (bs[c]).take j → q ∈ M') ?_ ?_ ?_ ?_
        · exact ⟨M, W', kvs, y5, rfl, b5, hF5, hW5, hD, hM2, ⟨rfl, Nat.le_refl _⟩, hcM, fun q hq => by simp at hq⟩
        · rintro j σ' H6 _ ⟨M', W2, kvs', y5, rfl, hE6, _⟩
          exact SqL.of (hE6 _ _ b1)
        · rintro j x σ' H6 hj ⟨M', W2, kvs', y5, rfl, hE6, hF6, hW6, hD6, hM6, hms, hcM6, hq6⟩
          rw [List.getElem?_map, List.getElem?_map] at hj
          cases ht : bs[c][j]? with
          | none => rw [ht] at hj; cases hj
          | some t =>
            rw [ht] at hj
            cases hj
            have hMl6 := nodup_few hM6.nd hM6.lt
            cases t with
            | num z =>
              repeat walk_at "t_w"
              refine w_neg (show ¬ (2 * z) % 2 = 1 by omega) ?_
              repeat walk_at "t_w"
              refine ⟨M', W2, kvs', _, rfl, by walk_at "t_ex", by walk_at "t_hp", by walk_at "t_hp", hD6, hM6, hms, hcM6, fun q hq => ?_⟩
              rw [take_snoc ht] at hq
              exact hq6 q (by simpa using hq)
            | box q =>
              have hql : q < bs.length := hro.ok _ (List.getElem_mem hcl) _ (List.mem_of_getElem? ht)
              have hwd : word (places bs) (.box q) = 2 * ((pl bs q : Nat) : Int) + 1 := by
                show 2 * (((places bs).getD q 0 : Nat) : Int) + 1 = _
                rw [places_getD hql]
              have hgt : (2 * ((pl bs q : Nat) : Int) + 1) / 2 = ((pl bs q : Nat) : Int) := by omega
              rw [hwd]
              repeat walk_at "t_w"
              refine w_pos (by omega) ?_
              repeat walk_at "t_w"
              rw [hgt, hD6.2 q hql]
              by_cases hqm : q ∈ M'
              · refine w_ff (by simp [hqm]) ?_
                repeat walk_at "t_w"
                refine ⟨M', W2, kvs', _, rfl, by walk_at "t_ex", by walk_at "t_hp", by walk_at "t_hp", hD6, hM6, hms, hcM6, fun q' hq' => ?_⟩
                rw [take_snoc ht] at hq'
                rcases List.mem_append.mp hq' with e | e
                · exact hq6 q' e
                · have : q' = q := by simpa using e
                  rw [this]; exact hqm
              · refine w_tt (by simp [hqm]) ?_
                have hz1 : kvs'.length < 1000000 := by have := hD6.1; omega
                have hjn := hM6.join (hM6.sub c (by simp)) ⟨_, hbc, List.mem_of_getElem? ht⟩ hql hqm
                have hjl := nodup_few hjn.nd hjn.lt
                simp only [List.length_append, List.length_singleton] at hjl
                have hz2 : ((asI (W2.map (pl bs))).map V.int).length < 1000000 := by rw [List.length_map, asI_len, List.length_map]; omega
                repeat walk_at "t_w"
                refine ⟨M' ++ [q], W2 ++ [q], putK kvs' (.inl ((pl bs q : Nat) : Int)) (.bl true), _, rfl, by walk_at "t_ex", ?_, ?_, hD6.join hql _, hjn, ⟨by rw [List.length_append, List.length_append]; simp; omega, by rw [List.length_append]; omega⟩, List.mem_append_left _ hcM6, fun q' hq' => ?_⟩
                · rw [← hgt]; walk_at "t_hp"
                · have hgt2 : gTold (2 * ((pl bs q : Nat) : Int) + 1) = .int ((pl bs q : Nat) : Int) := congrArg V.int hgt
                  rw [hgt2, upd_same, List.map_append, List.map_singleton, ← asI_snoc]
                · rw [take_snoc ht] at hq'
                  rcases List.mem_append.mp hq' with e | e
                  · exact List.mem_append_left _ (hq6 q' e)
                  · have : q' = q := by simpa using e
                    rw [this]; simp
        · rintro σ' H6 ⟨M', W2, kvs', y5, rfl, hE6, hF6, hW6, hD6, hM6, hms, hcM6, hq6⟩
          have hMl6 := nodup_few hM6.nd hM6.lt
          repeat walk_at "t_w"
          refine ⟨2 * (bs.length - M'.length) + W2.length, by omega, M', W2, kvs', _, _, rfl, by omega, rfl, by walk_at "t_ex", hF6, hW6, hD6, hM6.done fun q hq => ?_⟩
          obtain ⟨fs, hfs, hb⟩ := hq
          rw [hbc] at hfs
          cases hfs
          exact hq6 q (by rw [List.length_map, List.length_map, List.take_length]; exact hb)
end
end Tw

set_option Elab.async false
set_option linter.all false
set_option maxRecDepth 100000
set_option maxHeartbeats 4000000
namespace Tw
open PySem PySem.Spec PyProof.Rows L2
open Evl (Ex ex_l ex_t fresh_back sz_of sz_lt)
local macro_rules | `(tactic| walk_at "t_hp") => `(tactic| first
  | assumption
  | exact upd_same
  | (refine' hp_ne ?hne ?hrest; (case hne => walk_at "t_ne"); (case hrest => walk_at "t_hp"))
  | (refine' hp_ex ?hx ?hrest; (case hx => assumption); (case hrest => walk_at "t_hp")))
local macro_rules | `(tactic| walk_at "t_ne") => `(tactic| first
  | assumption
  | exact Ne.symm (by assumption)
  | (refine' ne_of_none ?h1 ?h2; (case h2 => assumption); (case h1 => walk_at "t_hp"))
  | (refine' Ne.symm (ne_of_none ?h1 ?h2); (case h2 => assumption); (case h1 => walk_at "t_hp")))
local macro_rules | `(tactic| walk_at "t_none") => `(tactic| first
  | assumption
  | (refine' fresh_back ?e ?n; (case n => assumption); (case e => walk_at "t_ex")))
local macro_rules | `(tactic| walk_at "t_ex") => `(tactic| first
  | assumption
  | exact Evl.Ex.refl _
  | (refine' ex_new ?n ?e; (case n => assumption); (case e => walk_at "t_ex"))
  | (refine' Evl.Ex.mut ?e ?n; (case n => walk_at "t_none"); (case e => walk_at "t_ex"))
  | (refine' Evl.Ex.trans ?a ?b; (case b => assumption); (case a => walk_at "t_ex")))
local macro_rules | `(tactic| walk_at "t_sq") => `(tactic| first
  | assumption
  | (refine' SqL.of ?h; (case h => walk_at "t_hp"))
  | (refine' ex_l ?e ?s; (case s => assumption); (case e => walk_at "t_ex")))
local macro_rules | `(tactic| walk_at "t_sqt") => `(tactic| first
  | assumption
  | (refine' SqT.of ?h; (case h => walk_at "t_hp"))
  | (refine' ex_t ?e ?s; (case s => assumption); (case e => walk_at "t_ex")))
local macro_rules | `(tactic| walk_at "t_mul") => `(tactic| first
  | assumption
  | exact Or.inl (Or.inl ⟨by decide, by decide⟩)
  | exact Or.inl (Or.inr ⟨by decide, by decide⟩)
  | exact Or.inl (Or.inl ⟨by omega, by omega⟩)
  | exact Or.inl (Or.inr ⟨by omega, by omega⟩))
local macro_rules | `(tactic| walk_at "t_c") => `(tactic| first
  | assumption
  | decide
  | (show (0 : Int) < _; decide)
  | (show (0 : Int) < _; omega)
  | exact ⟨by decide, by decide⟩
  | exact ⟨by decide, by decide, by decide⟩
  | exact ⟨by omega, by omega⟩
  | exact ⟨by omega, by omega, by omega, by omega⟩)
local macro_rules | `(tactic| walk_at "t_w") => `(tactic| first
  | (with_reducible refine w_seq ?_)
  | (with_reducible refine w_asg ?_)
  | (with_reducible refine w_gName ?_)
  | (with_reducible refine w_nx ?_)
  | (with_reducible refine w_rt ?_)
  | (with_reducible refine w_ct ?_)
  | (with_reducible refine w_bk ?_)
  | (with_reducible refine w_ret ?_)
  | (with_reducible refine w_retN ?_)
  | (with_reducible refine w_drop ?_)
  | (with_reducible refine w_ifS ?_)
  | (with_reducible refine w_next ?_)
  | (with_reducible refine w_break ?_)
  | (with_reducible refine w_cont ?_)
  | ((with_reducible refine' w_var ?h ?_); (case h => rfl))
  | (with_reducible refine w_c ?_)
  | (with_reducible refine w_op ?_)
  | (with_reducible refine w_un ?_)
  | (with_reducible refine w_I0 ?_)
  | ((with_reducible refine' w_I ?c ?_); (case c => walk_at "t_c"))
  | (with_reducible refine w_U ?_)
  | (with_reducible refine w_addI ?_)
  | ((with_reducible refine' w_addL ?h1 ?h2 ?hz ?_); (case h1 => walk_at "t_hp"); (case h2 => walk_at "t_hp"); (case hz => walk_at "t_z"))
  | ((with_reducible refine' w_mulI ?c ?_); (case c => walk_at "t_mul"))
  | ((with_reducible refine' w_mulL1 ?h1 ?b1 ?b2 ?_); (case h1 => walk_at "t_hp"); (case b1 => walk_at "t_z"); (case b2 => walk_at "t_z"))
  | ((with_reducible refine' w_mulL ?h1 ?b1 ?b2 ?hz ?_); (case h1 => walk_at "t_hp"); (case b1 => walk_at "t_z"); (case b2 => walk_at "t_z"); (case hz => walk_at "t_z"))
  | (with_reducible refine w_notIB ?_)
  | (with_reducible refine w_notBB ?_)
  | (with_reducible refine w_notN ?_)
  | (with_reducible refine w_isBB ?_)
  | (with_reducible refine w_isN ?_)
  | (with_reducible refine w_eqI ?_)
  | (with_reducible refine w_neI ?_)
  | (with_reducible refine w_eqB ?_)
  | (with_reducible refine w_neB ?_)
  | (with_reducible refine w_eqS ?_)
  | (with_reducible refine w_neS ?_)
  | (with_reducible refine w_test ?_)
  | (with_reducible refine w_B ?_)
  | (with_reducible refine w_exB ?_)
  | (with_reducible refine w_and ?_)
  | (with_reducible refine w_or ?_)
  | (with_reducible refine w_not ?_)
  | (with_reducible refine w_andV ?_)
  | (with_reducible refine w_orV ?_)
  | (with_reducible refine w_notV ?_)
  | (with_reducible refine w_bl ?_)
  | (with_reducible refine w_if ?_)
  | (with_reducible refine w_nil ?_)
  | (with_reducible refine w_cons ?_)
  | (with_reducible refine w_cb ?_)
  | (with_reducible refine w_call ?_)
  | (with_reducible refine w_tup ?_)
  | (with_reducible refine w_lst ?_)
  | ((with_reducible refine' w_fin ?hz ?_); (case hz => (simp only [List.length_cons, List.length_nil]; decide)))
  | ((with_reducible refine' w_len ?s ?_); (case s => walk_at "t_sq"))
  | ((with_reducible refine' w_lenT ?s ?_); (case s => walk_at "t_sqt"))
  | (with_reducible refine w_intI ?_)
  | (with_reducible refine w_intB ?_)
  | ((with_reducible refine' w_list ?s ?_); (case s => walk_at "t_sq"))
  | (with_reducible refine w_max ?_)
  | (with_reducible refine w_min ?_)
  | (with_reducible refine w_abs ?_)
  | (with_reducible refine w_sl ?_)
  | (with_reducible refine w_noPart ?_)
  | (with_reducible refine w_part ?_)
  | (with_reducible refine w_exI ?_)
  | ((with_reducible refine' w_slL ?s ?_); (case s => walk_at "t_sq"))
  | ((with_reducible refine' w_ixLI ?s ?b ?_); (case s => walk_at "t_sq"); (case b => walk_at "t_lt"))
  | ((with_reducible refine' w_ixL ?s ?e ?_); (case s => walk_at "t_sq"); (case e => walk_at "t_at"))
  | ((with_reducible refine' w_ixT ?s ?e ?_); (case s => walk_at "t_sqt"); (case e => walk_at "t_at"))
  | (with_reducible refine w_gSub ?_)
  | ((with_reducible refine' w_setLI ?e ?b ?_); (case e => walk_at "t_hp"); (case b => walk_at "t_lt"))
  | ((with_reducible refine' w_setL ?e ?b ?_); (case e => walk_at "t_hp"); (case b => walk_at "t_ixn"))
  | (with_reducible refine w_bm ?_)
  | (with_reducible refine w_bm0 ?_)
  | ((with_reducible refine' w_tyL ?e ?_); (case e => walk_at "t_sq"))
  | ((with_reducible refine' w_app ?e ?hz ?_); (case e => walk_at "t_hp"); (case hz => walk_at "t_z"))
  | (with_reducible refine w_iteT ?_)
  | (with_reducible refine w_iteF ?_)
  | (with_reducible refine w_iteNT ?_)
  | (with_reducible refine w_iteNF ?_)
  | (with_reducible refine w_for ?_)
  | (with_reducible refine w_iList ?_)
  | ((with_reducible refine' w_exL ?s ?_); (case s => walk_at "t_sq"))
  | (with_reducible refine w_iTup ?_)
  | ((with_reducible refine' w_exT ?s ?_); (case s => walk_at "t_sqt"))
  | (with_reducible refine w_iRng1 ?_)
  | ((with_reducible refine w_exR1 ?b ?_); (case b => walk_at "t_c"))
  | (with_reducible refine w_iRng2 ?_)
  | ((with_reducible refine w_exR2 ?b ?_); (case b => walk_at "t_c"))
  | (with_reducible refine w_yes ?_)
  | ((with_reducible refine w_pos ?p ?_); (case p => walk_at "t_p"))
  | ((with_reducible refine w_neg ?p ?_); (case p => walk_at "t_p"))
  | ((with_reducible refine w_posN ?p ?_); (case p => walk_at "t_p"))
  | ((with_reducible refine w_negN ?p ?_); (case p => walk_at "t_p"))
  | ((with_reducible refine' w_notInL ?s ?_); (case s => walk_at "t_sq"))
  | ((with_reducible refine' w_inL ?s ?_); (case s => walk_at "t_sq"))
  | ((with_reducible refine' w_sum ?s ?_); (case s => walk_at "t_sq"))
  | (with_reducible refine w_isiI ?_)
  | ((with_reducible refine' w_isiL ?e ?_); (case e => walk_at "t_ty"))
  | ((with_reducible refine' w_isiT ?e ?_); (case e => walk_at "t_ty"))
  | (with_reducible intro p hp_new))
local macro_rules | `(tactic| walk_at "t_ty") => `(tactic| first | assumption | (refine' tyx_l ?e; (case e => walk_at "t_hp")) | (refine' tyx_t ?e; (case e => walk_at "t_hp")))
local macro_rules | `(tactic| walk_at "t_z") => `(tactic| first | assumption | decide | omega | (simp only [List.length_cons, List.length_nil, List.length_map, List.length_append, List.length_replicate]; first | done | decide | omega))
local macro_rules | `(tactic| walk_at "t_at") => `(tactic| first | assumption | rfl)
local macro_rules | `(tactic| walk_at "t_ixn") => `(tactic| first | assumption | rfl)
local macro_rules | `(tactic| walk_at "t_ev") => `(tactic| (intro H1 e Q q; (repeat walk_at "t_w"); exact q _ (by walk_at "t_ex")))
local macro_rules | `(tactic| walk_at "t_p") => `(tactic| first | assumption | decide | decide +kernel)
local macro_rules | `(tactic| walk_at "t_lt") => `(tactic| first | assumption | omega | (simp only [List.length_set, List.length_map, List.length_append]; first | assumption | omega))
local macro_rules | `(tactic| walk_at "t_w") => `(tactic| first
  | ((with_reducible refine' w_at ?s ?hl ?h0 ?_); (case s => walk_at "t_sq"); (case hl => walk_at "t_z"); (case h0 => walk_at "t_z"))
  | (with_reducible refine w_isInt ?_)
  | (with_reducible refine w_I1 ?_)
  | (with_reducible refine w_Head ?_)
  | ((with_reducible refine' w_number ?hb ?_); (case hb => walk_at "t_bits")))
local macro_rules | `(tactic| walk_at "t_bits") => `(tactic| assumption)
/-! ### pushed together -/
/-- a thing whose box is told by its turn among those that are left -/
def Thing.renum (al : List Nat) : Thing → Thing
  | .num n => .num n
  | .box k => .box (al.idxOf k)
/-- the boxes that are left, in their old order, numbered anew -/
def renum (al : List Nat) (bs : List (List Thing)) : List (List Thing) := al.map fun k => (bs.getD k []).map (Thing.renum al)
def rowPushed (al : List Nat) (bs : List (List Thing)) (sp : Nat) : List Int := rowAt (renum al bs) (cells bs + sp - cells (renum al bs))
theorem renum_len (al : List Nat) (bs : List (List Thing)) : (renum al bs).length = al.length := List.length_map ..
theorem renum_get {al : List Nat} {bs : List (List Thing)} {i k : Nat} (h : al[i]? = some k) : (renum al bs)[i]? = some ((bs.getD k []).map (Thing.renum al)) := by
  unfold renum; rw [List.getElem?_map, h]; rfl
/-- the boxes of rising places take no more cells than all -/
theorem cells_sub : ∀ (bs : List (List Thing)) (s : Nat) (al : List Nat), al.Pairwise (· < ·) → (∀ k ∈ al, s ≤ k ∧ k < s + bs.length) → (al.map fun k => 1 + (bs.getD (k - s) []).length).sum ≤ cells bs
  | [], s, [], _, _ => Nat.le_refl _
  | [], s, k :: al, _, h => by have := h k (List.mem_cons_self ..); simp at this; omega
  | fs :: bs, s, [], _, _ => Nat.zero_le _
  | fs :: bs, s, k :: al, hp, h => by
    have hk := h k (List.mem_cons_self ..)
    rw [List.pairwise_cons] at hp
    have key : ∀ (l : List Nat), l.Pairwise (· < ·) → (∀ j ∈ l, s + 1 ≤ j ∧ j < s + 1 + bs.length) → (l.map fun j => 1 + ((fs :: bs).getD (j - s) []).length).sum ≤ cells bs := by
      intro l hl hb
      have e : (l.map fun j => 1 + ((fs :: bs).getD (j - s) []).length) = l.map fun j => 1 + (bs.getD (j - (s + 1)) []).length := by
        refine List.map_congr_left fun j hj => ?_
        have := hb j hj
        rw [show j - s = (j - (s + 1)) + 1 by omega]
        rfl
      rw [e]
      exact cells_sub bs (s + 1) l hl hb
    rw [cells_cons]
    by_cases e : k = s
    · subst e
      rw [List.map_cons, List.sum_cons, Nat.sub_self]
      have := key al hp.2 fun j hj => by
        have h1 := hp.1 j hj
        have h2 := h j (List.mem_cons_of_mem _ hj)
        rw [List.length_cons] at h2
        omega
      show 1 + fs.length + _ ≤ _
      omega
    · have := key (k :: al) (List.pairwise_cons.mpr hp) fun j hj => by
        have h2 := h j hj
        rw [List.length_cons] at h2
        rcases List.mem_cons.mp hj with rfl | hj
        · omega
        · have := hp.1 j hj
          omega
      omega
theorem renum_cells (al : List Nat) (bs : List (List Thing)) : cells (renum al bs) = (al.map fun k => 1 + (bs.getD k []).length).sum := by
  unfold cells renum
  rw [List.map_map]
  congr 1
  exact List.map_congr_left fun k _ => by show 1 + ((bs.getD k []).map _).length = _; rw [List.length_map]
section
variable {bs : List (List Thing)} {sp : Nat} {al : List Nat}
theorem AliveOk.lt (ha : AliveOk bs al) (h : RowOk bs sp) : ∀ k ∈ al, k < bs.length := fun k hk => ((ha.mem k).mp hk).lt h
theorem AliveOk.nodup (ha : AliveOk bs al) : al.Nodup := ha.sorted.imp fun h => Nat.ne_of_lt h
theorem AliveOk.cells_le (ha : AliveOk bs al) (h : RowOk bs sp) : cells (renum al bs) ≤ cells bs := by
  rw [renum_cells]
  exact cells_sub bs 0 al ha.sorted fun k hk => ⟨Nat.zero_le _, by have := ha.lt h k hk; omega⟩
theorem idx_get (h : ∀ k, k ∈ al → True) {k : Nat} (hk : k ∈ al) : al[al.idxOf k]? = some k := by
  rw [List.getElem?_eq_getElem (List.idxOf_lt_length_iff.mpr hk)]
  exact congrArg some (List.getElem_idxOf (List.idxOf_lt_length_iff.mpr hk))
theorem idx_of_get (nd : al.Nodup) {i k : Nat} (h : al[i]? = some k) : al.idxOf k = i := by
  have hk := List.mem_of_getElem? h
  exact nd_ix nd (idx_get (fun _ _ => trivial) hk) h
theorem AliveOk.rowOk (ha : AliveOk bs al) (h : RowOk bs sp) : RowOk (renum al bs) (cells bs + sp - cells (renum al bs)) := by
  have hc := ha.cells_le h
  refine ⟨?_, by have := h.small; omega, ?_⟩
  · rw [renum_len]
    exact List.length_pos_iff.mpr fun e => by have := (ha.mem 0).mpr .door; rw [e] at this; cases this
  · intro fs hfs t ht
    obtain ⟨k, hk, rfl⟩ := List.mem_map.mp hfs
    obtain ⟨u, hu, rfl⟩ := List.mem_map.mp ht
    have hkl := ha.lt h k hk
    have e : bs[k]? = some (bs.getD k []) := by rw [List.getD_eq_getElem?_getD, List.getElem?_eq_getElem hkl]; rfl
    have ho := h.ok _ (List.mem_of_getElem? e) u hu
    rw [renum_len]
    cases u with
    | num n => exact ho
    | box j => exact List.idxOf_lt_length_iff.mpr ((ha.mem j).mpr (.step ((ha.mem k).mp hk) ⟨_, e, hu⟩))
/-- the door stays the first -/
theorem AliveOk.zero (ha : AliveOk bs al) : al[0]? = some 0 := by
  have h0 := (ha.mem 0).mpr .door
  cases al with
  | nil => cases h0
  | cons a r =>
    rcases List.mem_cons.mp h0 with e | e
    · subst e; rfl
    · have := (List.pairwise_cons.mp ha.sorted).1 0 e; omega
/-- those that are left can all be come to -/
theorem AliveOk.reach (ha : AliveOk bs al) (h : RowOk bs sp) {k : Nat} (r : Reach bs k) : Reach (renum al bs) (al.idxOf k) := by
  induction r with
  | door => rw [idx_of_get ha.nodup ha.zero]; exact .door
  | @step i k r e ih =>
    refine .step ih ?_
    obtain ⟨fs, hf, ht⟩ := e
    refine ⟨_, renum_get (idx_get (fun _ _ => trivial) ((ha.mem i).mpr r)), ?_⟩
    have e : bs.getD i [] = fs := by rw [List.getD_eq_getElem?_getD, hf]; rfl
    rw [e]
    exact List.mem_map.mpr ⟨_, ht, rfl⟩
theorem AliveOk.again (ha : AliveOk bs al) (h : RowOk bs sp) : AliveOk (renum al bs) (List.range al.length) := by
  refine ⟨List.pairwise_lt_range, fun i => ⟨fun hi => ?_, fun r => ?_⟩⟩
  · have hi := List.mem_range.mp hi
    have e := List.getElem?_eq_getElem hi
    have := ha.reach h ((ha.mem _).mp (List.getElem_mem hi))
    rw [idx_of_get ha.nodup e] at this
    exact this
  · have := r.lt (ha.rowOk h)
    rw [renum_len] at this
    exact List.mem_range.mpr this
theorem AliveOk.uniq {al' : List Nat} (a : AliveOk bs al) (b : AliveOk bs al') : al = al' := by
  have hp : al.Perm al' := (List.perm_ext_iff_of_nodup a.nodup b.nodup).mpr fun k => (a.mem k).trans (b.mem k).symm
  exact hp.eq_of_pairwise (le := (· < ·)) (fun x y _ _ h1 h2 => by omega) a.sorted b.sorted
/-- numbered anew where all are left: the same -/
theorem renum_range (h : ∀ fs ∈ bs, ∀ t ∈ fs, t.ok bs.length) : renum (List.range bs.length) bs = bs := by
  apply List.ext_getElem?
  intro i
  by_cases hi : i < bs.length
  · rw [renum_get (k := i) (by rw [List.getElem?_eq_getElem (by simpa using hi), List.getElem_range])]
    have e : bs.getD i [] = bs[i] := by rw [List.getD_eq_getElem?_getD, List.getElem?_eq_getElem hi]; rfl
    rw [e, List.getElem?_eq_getElem hi]
    congr 1
    refine (List.map_congr_left fun t ht => ?_).trans (List.map_id _)
    cases t with
    | num n => rfl
    | box k =>
      have hk : k < bs.length := h _ (List.getElem_mem hi) _ ht
      show Thing.box ((List.range bs.length).idxOf k) = Thing.box k
      rw [idx_of_get List.nodup_range (i := k) (by rw [List.getElem?_eq_getElem (by simpa using hk), List.getElem_range])]
  · rw [List.getElem?_eq_none (by rw [renum_len, List.length_range]; omega), List.getElem?_eq_none (by omega)]
end
theorem asI_set (gs : List Nat) (k m : Nat) : (asI gs).set k ((m : Nat) : Int) = asI (gs.set k m) := by
  unfold asI; rw [List.map_set]
theorem asI_rep (n : Nat) : List.replicate n (V.int 0) = (asI (List.replicate n 0)).map V.int := by
  unfold asI; rw [List.map_replicate, List.map_replicate]; rfl
theorem flatMap_cg {α β : Type} {f g : α → List β} : ∀ {l : List α}, (∀ a ∈ l, f a = g a) → l.flatMap f = l.flatMap g
  | [], _ => rfl
  | a :: l, h => by
    rw [List.flatMap_cons, List.flatMap_cons, h a (List.mem_cons_self ..), flatMap_cg fun x hx => h x (List.mem_cons_of_mem _ hx)]
/-- the boxes as they were, in the row's words by goals that lead where they stand behind it -/
theorem row_renum {bs : List (List Thing)} {al gs : List Nat} (hc : ∀ k ∈ al, ∀ j, Thing.box j ∈ bs.getD k [] → j ∈ al) (hg : ∀ k ∈ al, gs.getD k 0 = pl (renum al bs) (al.idxOf k)) : rowOf gs (al.map fun k => bs.getD k []) = rowOf (places (renum al bs)) (renum al bs) := by
  unfold rowOf
  conv => rhs; arg 2; unfold renum
  rw [List.flatMap_map, List.flatMap_map]
  refine flatMap_cg fun k hk => ?_
  unfold boxRow
  rw [List.length_map, List.map_map]
  congr 1
  refine List.map_congr_left fun t ht => ?_
  cases t with
  | num n => rfl
  | box j =>
    have hj := hc k hk j ht
    show 2 * ((gs.getD j 0 : Nat) : Int) + 1 = 2 * (((places (renum al bs)).getD (al.idxOf j) 0 : Nat) : Int) + 1
    rw [hg j hj, places_getD (by rw [renum_len]; exact List.idxOf_lt_length_iff.mpr hj)]
def spPushed (K : PySem.W.Frag) : Sp := fun vs H Q _ => ∃ (a : Addr) (bs : List (List Thing)) (sp : Nat), vs = [.ref a, .int ((cells bs : Nat) : Int)] ∧ SqL K H a ((rowAt bs sp).map V.int) ∧ RowOk bs sp ∧
  ∀ al, AliveOk bs al → ∀ p q H2, H p = none → H q = none → Ex H H2 → H2 p = some (.lst ((rowPushed al bs sp).map V.int)) → H2 q = some (.tup [.ref p, .int ((cells (renum al bs) : Nat) : Int)]) → Q (.ref q) H2
theorem w_pushed {K : PySem.W.Frag} {H : Hp} {Q : VK} {E : XK} {a : Addr} {bs : List (List Thing)} (sp : Nat) (s : SqL K H a ((rowAt bs sp).map V.int)) (r : RowOk bs sp)
    (k : ∀ al, AliveOk bs al → ∀ p q H2, H p = none → H q = none → Ex H H2 → H2 p = some (.lst ((rowPushed al bs sp).map V.int)) → H2 q = some (.tup [.ref p, .int ((cells (renum al bs) : Nat) : Int)]) → Q (.ref q) H2) : spPushed K ([.ref a, .int ((cells bs : Nat) : Int)] ++ []) H Q E := ⟨a, bs, sp, rfl, s, r, k⟩
end Tw

set_option Elab.async false
set_option linter.all false
set_option maxRecDepth 100000
set_option maxHeartbeats 4000000
namespace Tw
open PySem PySem.Spec PyProof.Rows L2
open Evl (Ex ex_l ex_t fresh_back sz_of sz_lt)
local macro_rules | `(tactic| walk_at "t_hp") => `(tactic| first
  | assumption
  | exact upd_same
  | (refine' hp_ne ?hne ?hrest; (case hne => walk_at "t_ne"); (case hrest => walk_at "t_hp"))
  | (refine' hp_ex ?hx ?hrest; (case hx => assumption); (case hrest => walk_at "t_hp")))
local macro_rules | `(tactic| walk_at "t_ne") => `(tactic| first
  | assumption
  | exact Ne.symm (by assumption)
  | (refine' ne_of_none ?h1 ?h2; (case h2 => assumption); (case h1 => walk_at "t_hp"))
  | (refine' Ne.symm (ne_of_none ?h1 ?h2); (case h2 => assumption); (case h1 => walk_at "t_hp")))
local macro_rules | `(tactic| walk_at "t_none") => `(tactic| first
  | assumption
  | (refine' fresh_back ?e ?n; (case n => assumption); (case e => walk_at "t_ex")))
local macro_rules | `(tactic| walk_at "t_ex") => `(tactic| first
  | assumption
  | exact Evl.Ex.refl _
  | (refine' ex_new ?n ?e; (case n => assumption); (case e => walk_at "t_ex"))
  | (refine' Evl.Ex.mut ?e ?n; (case n => walk_at "t_none"); (case e => walk_at "t_ex"))
  | (refine' Evl.Ex.trans ?a ?b; (case b => assumption); (case a => walk_at "t_ex")))
local macro_rules | `(tactic| walk_at "t_sq") => `(tactic| first
  | assumption
  | (refine' SqL.of ?h; (case h => walk_at "t_hp"))
  | (refine' ex_l ?e ?s; (case s => assumption); (case e => walk_at "t_ex")))
local macro_rules | `(tactic| walk_at "t_sqt") => `(tactic| first
  | assumption
  | (refine' SqT.of ?h; (case h => walk_at "t_hp"))
  | (refine' ex_t ?e ?s; (case s => assumption); (case e => walk_at "t_ex")))
local macro_rules | `(tactic| walk_at "t_mul") => `(tactic| first
  | assumption
  | exact Or.inl (Or.inl ⟨by decide, by decide⟩)
  | exact Or.inl (Or.inr ⟨by decide, by decide⟩)
  | exact Or.inl (Or.inl ⟨by omega, by omega⟩)
  | exact Or.inl (Or.inr ⟨by omega, by omega⟩))
local macro_rules | `(tactic| walk_at "t_c") => `(tactic| first
  | assumption
  | decide
  | (show (0 : Int) < _; decide)
  | (show (0 : Int) < _; omega)
  | exact ⟨by decide, by decide⟩
  | exact ⟨by decide, by decide, by decide⟩
  | exact ⟨by omega, by omega⟩
  | exact ⟨by omega, by omega, by omega, by omega⟩)
local macro_rules | `(tactic| walk_at "t_w") => `(tactic| first
  | (with_reducible refine w_seq ?_)
  | (with_reducible refine w_asg ?_)
  | (with_reducible refine w_gName ?_)
  | (with_reducible refine w_nx ?_)
  | (with_reducible refine w_rt ?_)
  | (with_reducible refine w_ct ?_)
  | (with_reducible refine w_bk ?_)
  | (with_reducible refine w_ret ?_)
  | (with_reducible refine w_retN ?_)
  | (with_reducible refine w_drop ?_)
  | (with_reducible refine w_ifS ?_)
  | (with_reducible refine w_next ?_)
  | (with_reducible refine w_break ?_)
  | (with_reducible refine w_cont ?_)
  | ((with_reducible refine' w_var ?h ?_); (case h => rfl))
  | (with_reducible refine w_c ?_)
  | (with_reducible refine w_op ?_)
  | (with_reducible refine w_un ?_)
  | (with_reducible refine w_I0 ?_)
  | ((with_reducible refine' w_I ?c ?_); (case c => walk_at "t_c"))
  | (with_reducible refine w_U ?_)
  | (with_reducible refine w_addI ?_)
  | ((with_reducible refine' w_addL ?h1 ?h2 ?hz ?_); (case h1 => walk_at "t_hp"); (case h2 => walk_at "t_hp"); (case hz => walk_at "t_z"))
  | ((with_reducible refine' w_mulI ?c ?_); (case c => walk_at "t_mul"))
  | ((with_reducible refine' w_mulL1 ?h1 ?b1 ?b2 ?_); (case h1 => walk_at "t_hp"); (case b1 => walk_at "t_z"); (case b2 => walk_at "t_z"))
  | ((with_reducible refine' w_mulL ?h1 ?b1 ?b2 ?hz ?_); (case h1 => walk_at "t_hp"); (case b1 => walk_at "t_z"); (case b2 => walk_at "t_z"); (case hz => walk_at "t_z"))
  | (with_reducible refine w_notIB ?_)
  | (with_reducible refine w_notBB ?_)
  | (with_reducible refine w_notN ?_)
  | (with_reducible refine w_isBB ?_)
  | (with_reducible refine w_isN ?_)
  | (with_reducible refine w_eqI ?_)
  | (with_reducible refine w_neI ?_)
  | (with_reducible refine w_eqB ?_)
  | (with_reducible refine w_neB ?_)
  | (with_reducible refine w_eqS ?_)
  | (with_reducible refine w_neS ?_)
  | (with_reducible refine w_test ?_)
  | (with_reducible refine w_B ?_)
  | (with_reducible refine w_exB ?_)
  | (with_reducible refine w_and ?_)
  | (with_reducible refine w_or ?_)
  | (with_reducible refine w_not ?_)
  | (with_reducible refine w_andV ?_)
  | (with_reducible refine w_orV ?_)
  | (with_reducible refine w_notV ?_)
  | (with_reducible refine w_bl ?_)
  | (with_reducible refine w_if ?_)
  | (with_reducible refine w_nil ?_)
  | (with_reducible refine w_cons ?_)
  | (with_reducible refine w_cb ?_)
  | (with_reducible refine w_call ?_)
  | (with_reducible refine w_tup ?_)
  | (with_reducible refine w_lst ?_)
  | ((with_reducible refine' w_fin ?hz ?_); (case hz => (simp only [List.length_cons, List.length_nil]; decide)))
  | ((with_reducible refine' w_len ?s ?_); (case s => walk_at "t_sq"))
  | ((with_reducible refine' w_lenT ?s ?_); (case s => walk_at "t_sqt"))
  | (with_reducible refine w_intI ?_)
  | (with_reducible refine w_intB ?_)
  | ((with_reducible refine' w_list ?s ?_); (case s => walk_at "t_sq"))
  | (with_reducible refine w_max ?_)
  | (with_reducible refine w_min ?_)
  | (with_reducible refine w_abs ?_)
  | (with_reducible refine w_sl ?_)
  | (with_reducible refine w_noPart ?_)
  | (with_reducible refine w_part ?_)
  | (with_reducible refine w_exI ?_)
  | ((with_reducible refine' w_slL ?s ?_); (case s => walk_at "t_sq"))
  | ((with_reducible refine' w_ixLI ?s ?b ?_); (case s => walk_at "t_sq"); (case b => walk_at "t_lt"))
  | ((with_reducible refine' w_ixL ?s ?e ?_); (case s => walk_at "t_sq"); (case e => walk_at "t_at"))
  | ((with_reducible refine' w_ixT ?s ?e ?_); (case s => walk_at "t_sqt"); (case e => walk_at "t_at"))
  | (with_reducible refine w_gSub ?_)
  | ((with_reducible refine' w_setLI ?e ?b ?_); (case e => walk_at "t_hp"); (case b => walk_at "t_lt"))
  | ((with_reducible refine' w_setL ?e ?b ?_); (case e => walk_at "t_hp"); (case b => walk_at "t_ixn"))
  | (with_reducible refine w_bm ?_)
  | (with_reducible refine w_bm0 ?_)
  | ((with_reducible refine' w_tyL ?e ?_); (case e => walk_at "t_sq"))
  | ((with_reducible refine' w_app ?e ?hz ?_); (case e => walk_at "t_hp"); (case hz => walk_at "t_z"))
  | (with_reducible refine w_iteT ?_)
  | (with_reducible refine w_iteF ?_)
  | (with_reducible refine w_iteNT ?_)
  | (with_reducible refine w_iteNF ?_)
  | (with_reducible refine w_for ?_)
  | (with_reducible refine w_iList ?_)
  | ((with_reducible refine' w_exL ?s ?_); (case s => walk_at "t_sq"))
  | (with_reducible refine w_iTup ?_)
  | ((with_reducible refine' w_exT ?s ?_); (case s => walk_at "t_sqt"))
  | (with_reducible refine w_iRng1 ?_)
  | ((with_reducible refine w_exR1 ?b ?_); (case b => walk_at "t_c"))
  | (with_reducible refine w_iRng2 ?_)
  | ((with_reducible refine w_exR2 ?b ?_); (case b => walk_at "t_c"))
  | (with_reducible refine w_yes ?_)
  | ((with_reducible refine w_pos ?p ?_); (case p => walk_at "t_p"))
  | ((with_reducible refine w_neg ?p ?_); (case p => walk_at "t_p"))
  | ((with_reducible refine w_posN ?p ?_); (case p => walk_at "t_p"))
  | ((with_reducible refine w_negN ?p ?_); (case p => walk_at "t_p"))
  | ((with_reducible refine' w_notInL ?s ?_); (case s => walk_at "t_sq"))
  | ((with_reducible refine' w_inL ?s ?_); (case s => walk_at "t_sq"))
  | ((with_reducible refine' w_sum ?s ?_); (case s => walk_at "t_sq"))
  | (with_reducible refine w_isiI ?_)
  | ((with_reducible refine' w_isiL ?e ?_); (case e => walk_at "t_ty"))
  | ((with_reducible refine' w_isiT ?e ?_); (case e => walk_at "t_ty"))
  | (with_reducible intro p hp_new))
local macro_rules | `(tactic| walk_at "t_ty") => `(tactic| first | assumption | (refine' tyx_l ?e; (case e => walk_at "t_hp")) | (refine' tyx_t ?e; (case e => walk_at "t_hp")))
local macro_rules | `(tactic| walk_at "t_z") => `(tactic| first | assumption | decide | omega | (simp only [List.length_cons, List.length_nil, List.length_map, List.length_append, List.length_replicate]; first | done | decide | omega))
local macro_rules | `(tactic| walk_at "t_at") => `(tactic| first | assumption | rfl)
local macro_rules | `(tactic| walk_at "t_ixn") => `(tactic| first | assumption | rfl)
local macro_rules | `(tactic| walk_at "t_ev") => `(tactic| (intro H1 e Q q; (repeat walk_at "t_w"); exact q _ (by walk_at "t_ex")))
local macro_rules | `(tactic| walk_at "t_p") => `(tactic| first | assumption | decide | decide +kernel)
local macro_rules | `(tactic| walk_at "t_lt") => `(tactic| first | assumption | omega | (simp only [List.length_set, List.length_map, List.length_append]; first | assumption | omega))
local macro_rules | `(tactic| walk_at "t_w") => `(tactic| first
  | ((with_reducible refine' w_at ?s ?hl ?h0 ?_); (case s => walk_at "t_sq"); (case hl => walk_at "t_z"); (case h0 => walk_at "t_z"))
  | (with_reducible refine w_isInt ?_)
  | (with_reducible refine w_I1 ?_)
  | (with_reducible refine w_Head ?_)
  | ((with_reducible refine' w_number ?hb ?_); (case hb => walk_at "t_bits")))
local macro_rules | `(tactic| walk_at "t_bits") => `(tactic| assumption)
local macro_rules | `(tactic| walk_at "t_w") => `(tactic| first
  | (with_reducible refine w_tru ?_)
  | ((with_reducible refine' w_truL ?s ?_); (case s => walk_at "t_sq"))
  | (with_reducible refine w_dnew ?_)
  | (with_reducible refine w_disp1 ?_)
  | ((with_reducible refine' w_aug ?e ?_); (case e => rfl))
  | (with_reducible refine w_ipI ?_)
  | ((with_reducible refine' w_inD ?e ?_); (case e => walk_at "t_hp"))
  | ((with_reducible refine' w_notInD ?e ?_); (case e => walk_at "t_hp"))
  | (with_reducible refine w_dget ?_)
  | ((with_reducible refine' w_dgetE ?e ?hv ?_); (case e => walk_at "t_hp"); (case hv => walk_at "t_dv"))
  | (with_reducible refine w_dput ?_)
  | ((with_reducible refine' w_dputE ?e ?hl ?_); (case e => walk_at "t_hp"); (case hl => walk_at "t_z"))
  | ((with_reducible refine' w_extend ?e1 ?e2 ?hz ?_); (case e1 => walk_at "t_hp"); (case e2 => walk_at "t_hp"); (case hz => walk_at "t_z")))
local macro_rules | `(tactic| walk_at "t_dv") => `(tactic| assumption)
local macro_rules | `(tactic| walk_at "t_hp") => `(tactic| first
  | (with_reducible refine hp_off0 ?_; walk_at "t_hp")
  | ((with_reducible refine' hp_off1 ?hne ?hrest); (case hne => walk_at "t_ne"); (case hrest => walk_at "t_hp")))
local macro_rules | `(tactic| walk_at "t_w") => `(tactic| first
  | (with_reducible refine w_fld ?_)
  | ((with_reducible refine' w_fldE ?e ?c ?n ?l ?_); (case e => walk_at "t_hp"); (case c => assumption); (case n => assumption); (case l => rfl))
  | (with_reducible refine w_sfld ?_)
  | ((with_reducible refine' w_sfldE ?e ?c ?n ?l ?_); (case e => walk_at "t_hp"); (case c => assumption); (case n => assumption); (case l => first | decide | (show 1 < 1000; decide) | (show 2 < 1000; decide)))
  | (with_reducible refine w_setSl ?_)
  | (with_reducible refine w_make ?_)
  | ((with_reducible refine' w_gfld0 ?hv ?e ?c ?n ?l ?_); (case hv => rfl); (case e => walk_at "t_hp"); (case c => assumption); (case n => assumption); (case l => first | decide | (show 1 < 1000; decide) | (show 2 < 1000; decide)))
  | (with_reducible refine w_meth ?_)
  | (with_reducible refine w_methX ?_)
  | ((with_reducible refine' w_methE ?e ?l ?_); (case e => walk_at "t_hp"); (case l => rfl))
  | (with_reducible refine w_chain ?_)
  | ((with_reducible refine' w_gTup ?s ?l ?_); (case s => walk_at "t_sqt"); (case l => rfl))
  | (with_reducible refine w_gCons ?_)
  | (with_reducible refine w_gNil ?_)
  | (with_reducible refine w_star ?_)
  | ((with_reducible refine' w_starL ?s ?_); (case s => walk_at "t_sq"))
  | (with_reducible refine w_isiIB ?_)
  | (with_reducible refine w_isiS ?_))
/-! ### a room: its row, how much is used -/
structure RoomAt (C : Addr) (H : Hp) (x r : Addr) (bs : List (List Thing)) (sp : Nat) : Prop where
  ins : ∃ dx, H x = some (.ins C dx [("_row", .ref r), ("_used", .int ((cells bs : Nat) : Int))])
  row : H r = some (.lst ((rowAt bs sp).map V.int))
  ok : RowOk bs sp
theorem RoomAt.ne {C : Addr} {H : Hp} {x r : Addr} {bs : List (List Thing)} {sp : Nat} (h : RoomAt C H x r bs sp) : x ≠ r := by
  obtain ⟨dx, e⟩ := h.ins
  exact ne_of e h.row (fun z => nomatch z)
theorem RoomAt.ex {C : Addr} {H H' : Hp} {x r : Addr} {bs : List (List Thing)} {sp : Nat} (h : RoomAt C H x r bs sp) (e : Ex H H') : RoomAt C H' x r bs sp := by
  obtain ⟨dx, e1⟩ := h.ins
  exact ⟨⟨dx, e _ _ e1⟩, e _ _ h.row, h.ok⟩
/-- a thing as it is handed in: a number, or the place of a box -/
def Thing.hand (bs : List (List Thing)) : Thing → List V
  | .num n => [.str "number", .int n]
  | .box k => [.str "box", .int ((pl bs k : Nat) : Int)]
def HandAt (H : Hp) (bs : List (List Thing)) (v : V) (t : Thing) : Prop := ∃ a, v = .ref a ∧ H a = some (.tup (t.hand bs))
theorem HandAt.ex {H H' : Hp} {bs : List (List Thing)} (x : Ex H H') {v : V} {t : Thing} : HandAt H bs v t → HandAt H' bs v t := fun ⟨a, e, h⟩ => ⟨a, e, x _ _ h⟩
/-- a pair as it is handed in, whatever it leads to: of a box or not, the number -/
abbrev PT := Bool × Int
def PT.vals (p : PT) : List V := [.str (if p.1 = true then "box" else "number"), .int p.2]
def PT.word (p : PT) : Int := if p.1 = true then 2 * p.2 + 1 else 2 * p.2
def PT.ok (p : PT) : Prop := -(10 ^ 60) < p.2 ∧ p.2 < 10 ^ 60
def PAt (H : Hp) (v : V) (p : PT) : Prop := ∃ a, v = .ref a ∧ H a = some (.tup p.vals)
theorem PAt.ex {H H' : Hp} (x : Ex H H') {v : V} {p : PT} : PAt H v p → PAt H' v p := fun ⟨a, e, h⟩ => ⟨a, e, x _ _ h⟩
def Thing.pt (bs : List (List Thing)) : Thing → PT
  | .num n => (false, n)
  | .box k => (true, ((pl bs k : Nat) : Int))
theorem hand_pt {H : Hp} {bs : List (List Thing)} {v : V} {t : Thing} (h : HandAt H bs v t) : PAt H v (t.pt bs) := by
  obtain ⟨a, e, h⟩ := h
  refine ⟨a, e, ?_⟩
  rw [h]
  cases t <;> rfl
theorem pt_word {bs : List (List Thing)} {t : Thing} (h : t.ok bs.length) : (t.pt bs).word = word (places bs) t := by
  cases t with
  | num n => rfl
  | box k =>
    have hk : k < bs.length := h
    show 2 * ((pl bs k : Nat) : Int) + 1 = 2 * (((places bs).getD k 0 : Nat) : Int) + 1
    rw [places_getD hk]
theorem p60' : (10 : Int) ^ 60 = 1000000000000000000000000000000000000000000000000000000000000 := by decide +kernel
theorem pt_ok {bs : List (List Thing)} {sp : Nat} (r : RowOk bs sp) {t : Thing} (h : t.ok bs.length) : (t.pt bs).ok := by
  cases t with
  | num n => exact h
  | box k =>
    have hk : k < bs.length := h
    have h1 := pl_lt hk (Nat.le_refl _)
    rw [pl_all] at h1
    have h2 := r.small
    show -(10 ^ 60) < ((pl bs k : Nat) : Int) ∧ ((pl bs k : Nat) : Int) < 10 ^ 60
    rw [p60']; omega
theorem mem_places {bs : List (List Thing)} {z : Int} : z ∈ asI (places bs) ↔ ∃ k, k < bs.length ∧ z = ((pl bs k : Nat) : Int) := by
  constructor
  · intro h
    obtain ⟨n, hn, rfl⟩ := List.mem_map.mp h
    obtain ⟨i, hi⟩ := List.getElem?_of_mem hn
    have hl := (List.getElem?_eq_some_iff.mp hi).1
    rw [places_len] at hl
    rw [places_get hl] at hi
    exact ⟨i, hl, by rw [← Option.some.inj hi]; rfl⟩
  · rintro ⟨k, hk, rfl⟩
    exact asI_mem.mpr (List.mem_of_getElem? (places_get hk))
theorem pt_in {bs : List (List Thing)} {t : Thing} (h : t.ok bs.length) (hb : (t.pt bs).1 = true) : (t.pt bs).2 ∈ asI (places bs) := by
  cases t with
  | num n => cases hb
  | box k => exact mem_places.mpr ⟨k, h, rfl⟩
/-! ### what the program's parts promise -/
abbrev tenK : Int := 1000000000000000000000000000000000000000000000000000000000000
/-- a whole number of at most sixty figures: yes -/
def spWhole : Sp := fun vs H Q _ => ∃ n : Int, vs = [.int n] ∧ -(10 ^ 60) < n ∧ n < 10 ^ 60 ∧ Evl.RetV (.bl true) H Q
theorem w_whole {H : Hp} {Q : VK} {E : XK} {n : Int} (h1 : -(10 ^ 60) < n) (h2 : n < 10 ^ 60) (h : ∀ H2, Ex H H2 → Q (.bl true) H2) : spWhole ([.int n] ++ []) H Q E := ⟨n, rfl, h1, h2, h⟩
def spIsThing : Sp := fun vs H Q _ => ∃ (v : V) (p : PT), vs = [v] ∧ PAt H v p ∧ p.ok ∧ Evl.RetV (.bl true) H Q
theorem w_isThing {H : Hp} {Q : VK} {E : XK} {v : V} (p : PT) (h1 : PAt H v p) (h2 : p.ok) (h : ∀ H2, Ex H H2 → Q (.bl true) H2) : spIsThing ([v] ++ []) H Q E := ⟨v, p, rfl, h1, h2, h⟩
def spWordsOf (K : PySem.W.Frag) (cB : Addr) : Sp := fun vs H Q E => ∃ (l q : Addr) (ws : List V) (ps : List PT) (js : List Int), vs = [.ref l, .ref q] ∧ SqL K H l ws ∧ All2 (PAt H) ws ps ∧ ws.length ≤ 1000 ∧ (∀ p ∈ ps, p.ok) ∧ SqL K H q (js.map V.int) ∧
  ((∃ p ∈ ps, p.1 = true ∧ p.2 ∉ js) → ∀ H', Ex H H' → E (.ref cB) none H') ∧ ((∀ p ∈ ps, p.1 = true → p.2 ∈ js) → Evl.RetL ((ps.map PT.word).map V.int) H Q)
theorem w_wordsOf {K : PySem.W.Frag} {cB : Addr} {H : Hp} {Q : VK} {E : XK} {l q : Addr} {ws : List V} (ps : List PT) (js : List Int) (s1 : SqL K H l ws) (a : All2 (PAt H) ws ps) (hl : ws.length ≤ 1000) (ho : ∀ p ∈ ps, p.ok) (s2 : SqL K H q (js.map V.int))
    (kb : (∃ p ∈ ps, p.1 = true ∧ p.2 ∉ js) → ∀ H', Ex H H' → E (.ref cB) none H') (kr : (∀ p ∈ ps, p.1 = true → p.2 ∈ js) → ∀ p H2, H p = none → Ex H H2 → H2 p = some (.lst ((ps.map PT.word).map V.int)) → Q (.ref p) H2) : spWordsOf K cB ([.ref l, .ref q] ++ []) H Q E :=
  ⟨l, q, ws, ps, js, rfl, s1, a, hl, ho, s2, kb, kr⟩
def spInit (C : Addr) : Sp := fun vs H Q _ => ∃ (x dx : Addr) (z d : Nat), vs = [.ref x, .int (z : Int), .int (d : Int)] ∧ H x = some (.ins C dx []) ∧ 1 ≤ z ∧ z ≤ 400 ∧ d ≤ 20 ∧ d < z ∧
  ∀ r H2, H r = none → Ex (off [x] H) H2 → RoomAt C H2 x r [List.replicate d (.num 0)] (z - d - 1) → Q .non H2
def spMade (C cB cR : Addr) (K : PySem.W.Frag) : Sp := fun vs H Q E => ∃ (x r l : Addr) (bs : List (List Thing)) (sp : Nat) (ws : List V) (ps : List PT), vs = [.ref x, .ref l] ∧ RoomAt C H x r bs sp ∧ H l = some (.lst ws) ∧ All2 (PAt H) ws ps ∧ ws.length ≤ 1000 ∧ (∀ p ∈ ps, p.ok) ∧
  ((∃ p ∈ ps, p.1 = true ∧ p.2 ∉ asI (places bs)) → ∀ H', Ex H H' → E (.ref cB) none H') ∧
  ((∀ p ∈ ps, p.1 = true → p.2 ∈ asI (places bs)) → sp < 1 + ps.length → ∀ H', Ex H H' → E (.ref cR) none H') ∧
  (∀ fs : List Thing, ps = fs.map (Thing.pt bs) → (∀ t ∈ fs, t.ok bs.length) → 1 + fs.length ≤ sp → ∀ H2, Ex (off [x, r] H) H2 → RoomAt C H2 x r (bs ++ [fs]) (sp - (1 + fs.length)) → Q (.int ((cells bs : Nat) : Int)) H2)
def spPut (C cB : Addr) : Sp := fun vs H Q E => ∃ (x r : Addr) (bs : List (List Thing)) (sp : Nat) (p f : Int) (v : V), vs = [.ref x, .int p, .int f, v] ∧ RoomAt C H x r bs sp ∧ -(10 ^ 60) < p ∧ p < 10 ^ 60 ∧
  (p ∉ asI (places bs) → ∀ H', Ex H H' → E (.ref cB) none H') ∧
  (p ∈ asI (places bs) → ∃ (i j : Nat) (fs : List Thing) (t : Thing), p = ((pl bs i : Nat) : Int) ∧ bs[i]? = some fs ∧ f = (j : Int) ∧ j < fs.length ∧ HandAt H bs v t ∧ t.ok bs.length ∧ ∀ H2, Ex (off [x, r] H) H2 → RoomAt C H2 x r (bs.set i (fs.set j t)) sp → Q .non H2)
def spTold (C cB : Addr) : Sp := fun vs H Q E => ∃ (x r : Addr) (bs : List (List Thing)) (sp : Nat) (p : Int), vs = [.ref x, .int p] ∧ RoomAt C H x r bs sp ∧ -(10 ^ 60) < p ∧ p < 10 ^ 60 ∧
  (p ∉ asI (places bs) → ∀ H', Ex H H' → E (.ref cB) none H') ∧
  ∀ (i : Nat) (fs : List Thing), p = ((pl bs i : Nat) : Int) → bs[i]? = some fs → ∀ l ws H2, H l = none → Ex H H2 → H2 l = some (.lst ws) → All2 (HandAt H2 bs) ws fs → Q (.ref l) H2
def spPlacesM (C : Addr) : Sp := fun vs H Q _ => ∃ (x r : Addr) (bs : List (List Thing)) (sp : Nat), vs = [.ref x] ∧ RoomAt C H x r bs sp ∧ Evl.RetL ((asI (places bs)).map V.int) H Q
def spComeTo (C : Addr) : Sp := fun vs H Q _ => ∃ (x r : Addr) (bs : List (List Thing)) (sp : Nat), vs = [.ref x] ∧ RoomAt C H x r bs sp ∧ ∀ al, AliveOk bs al → Evl.RetL ((asI (al.map (pl bs))).map V.int) H Q
def spPushedM (C : Addr) : Sp := fun vs H Q _ => ∃ (x r : Addr) (bs : List (List Thing)) (sp : Nat), vs = [.ref x] ∧ RoomAt C H x r bs sp ∧ ∀ al, AliveOk bs al → ∀ r2 H2, H r2 = none → Ex (off [x] H) H2 → RoomAt C H2 x r2 (renum al bs) (cells bs + sp - cells (renum al bs)) →
  Q (.int (((cells bs : Nat) : Int) - ((cells (renum al bs) : Nat) : Int))) H2
def spUsed (C : Addr) : Sp := fun vs H Q _ => ∃ (x r : Addr) (bs : List (List Thing)) (sp : Nat), vs = [.ref x] ∧ RoomAt C H x r bs sp ∧ Evl.RetV (.int ((cells bs : Nat) : Int)) H Q
def spCells (C : Addr) : Sp := fun vs H Q _ => ∃ (x r : Addr) (bs : List (List Thing)) (sp : Nat), vs = [.ref x] ∧ RoomAt C H x r bs sp ∧ Evl.RetL ((rowAt bs sp).map V.int) H Q
def spReq (C cB : Addr) : Sp := fun vs H Q E => ∃ (x r : Addr) (bs : List (List Thing)) (sp : Nat) (p : Int), vs = [.ref x, .int p] ∧ RoomAt C H x r bs sp ∧ -(10 ^ 60) < p ∧ p < 10 ^ 60 ∧
  (p ∉ asI (places bs) → ∀ H', Ex H H' → E (.ref cB) none H') ∧ (p ∈ asI (places bs) → Evl.RetV .non H Q)
section
variable {C cB cR x r : Addr} {K : PySem.W.Frag} {H : Hp} {Q : VK} {E : XK} {bs : List (List Thing)} {sp : Nat}
theorem w_placesM (R : RoomAt C H x r bs sp) (k : ∀ p H2, H p = none → Ex H H2 → H2 p = some (.lst ((asI (places bs)).map V.int)) → Q (.ref p) H2) : spPlacesM C (.ref x :: ([] ++ [])) H Q E := ⟨x, r, bs, sp, rfl, R, k⟩
theorem w_usedM (R : RoomAt C H x r bs sp) (k : ∀ H2, Ex H H2 → Q (.int ((cells bs : Nat) : Int)) H2) : spUsed C (.ref x :: ([] ++ [])) H Q E := ⟨x, r, bs, sp, rfl, R, k⟩
theorem w_cellsM (R : RoomAt C H x r bs sp) (k : ∀ p H2, H p = none → Ex H H2 → H2 p = some (.lst ((rowAt bs sp).map V.int)) → Q (.ref p) H2) : spCells C (.ref x :: ([] ++ [])) H Q E := ⟨x, r, bs, sp, rfl, R, k⟩
theorem w_comeTo (R : RoomAt C H x r bs sp) (k : ∀ al, AliveOk bs al → ∀ p H2, H p = none → Ex H H2 → H2 p = some (.lst ((asI (al.map (pl bs))).map V.int)) → Q (.ref p) H2) : spComeTo C (.ref x :: ([] ++ [])) H Q E := ⟨x, r, bs, sp, rfl, R, k⟩
theorem w_pushedM (R : RoomAt C H x r bs sp) (k : ∀ al, AliveOk bs al → ∀ r2 H2, H r2 = none → Ex (off [x] H) H2 → RoomAt C H2 x r2 (renum al bs) (cells bs + sp - cells (renum al bs)) → Q (.int (((cells bs : Nat) : Int) - ((cells (renum al bs) : Nat) : Int))) H2) : spPushedM C (.ref x :: ([] ++ [])) H Q E := ⟨x, r, bs, sp, rfl, R, k⟩
end
theorem kit_bool {x : Bool} : (!x) = !x := rfl
theorem rowAt_set {bs : List (List Thing)} {sp i j : Nat} {fs : List Thing} {t : Thing} (h : bs[i]? = some fs) (hj : j < fs.length) : (rowAt bs sp).set (pl bs i + 1 + j) (word (places bs) t) = rowAt (bs.set i (fs.set j t)) sp ∧ places (bs.set i (fs.set j t)) = places bs ∧ cells (bs.set i (fs.set j t)) = cells bs := by
  have hi := (List.getElem?_eq_some_iff.mp h).1
  have hp : ∀ (bs : List (List Thing)) (i s : Nat), bs[i]? = some fs → offs (bs.set i (fs.set j t)) s = offs bs s ∧ cells (bs.set i (fs.set j t)) = cells bs := by
    intro bs
    induction bs with
    | nil => intro i s h; simp at h
    | cons g bs ih =>
      intro i s h
      cases i with
      | zero =>
        have e : g = fs := by simpa using h
        subst e
        refine ⟨?_, ?_⟩
        · show s :: offs bs (s + 1 + (g.set j t).length) = s :: offs bs (s + 1 + g.length)
          rw [List.length_set]
        · show cells (g.set j t :: bs) = _
          rw [cells_cons, cells_cons, List.length_set]
      | succ i =>
        have h2 : bs[i]? = some fs := by simpa using h
        obtain ⟨e1, e2⟩ := ih i (s + 1 + g.length) h2
        refine ⟨?_, ?_⟩
        · show s :: offs (bs.set i (fs.set j t)) (s + 1 + g.length) = s :: offs bs (s + 1 + g.length)
          rw [e1]
        · show cells (g :: bs.set i (fs.set j t)) = _
          rw [cells_cons, cells_cons, e2]
  obtain ⟨e1, e2⟩ := hp bs i 0 h
  have e1' : places (bs.set i (fs.set j t)) = places bs := e1
  refine ⟨?_, e1', e2⟩
  unfold rowAt
  rw [e1']
  generalize places bs = gs
  have key : ∀ (bs : List (List Thing)) (i : Nat), bs[i]? = some fs → (rowOf gs bs).set (pl bs i + 1 + j) (word gs t) = rowOf gs (bs.set i (fs.set j t)) := by
    intro bs
    induction bs with
    | nil => intro i h; simp at h
    | cons g bs ih =>
      intro i h
      have hc : rowOf gs (g :: bs) = boxRow gs g ++ rowOf gs bs := by unfold rowOf; rw [List.flatMap_cons]
      cases i with
      | zero =>
        have e : g = fs := by simpa using h
        subst e
        have hs : rowOf gs ((g :: bs).set 0 (g.set j t)) = boxRow gs (g.set j t) ++ rowOf gs bs := by show rowOf gs (g.set j t :: bs) = _; unfold rowOf; rw [List.flatMap_cons]
        rw [hc, hs]
        have hp0 : pl (g :: bs) 0 + 1 + j = j + 1 := by show cells ([] : List (List Thing)) + 1 + j = _; simp [cells]; omega
        rw [hp0, List.set_append_left _ _ (by rw [boxRow_len]; omega)]
        congr 1
        unfold boxRow
        rw [List.set_cons_succ, List.length_set, List.map_set]
      | succ i =>
        have h2 : bs[i]? = some fs := by simpa using h
        have hs : rowOf gs ((g :: bs).set (i + 1) (fs.set j t)) = boxRow gs g ++ rowOf gs (bs.set i (fs.set j t)) := by show rowOf gs (g :: bs.set i (fs.set j t)) = _; unfold rowOf; rw [List.flatMap_cons]
        rw [hc, hs]
        have hp1 : pl (g :: bs) (i + 1) = 1 + g.length + pl bs i := by unfold pl; rw [List.take_succ_cons, cells_cons]
        rw [hp1, List.set_append_right _ _ (by rw [boxRow_len]; omega), boxRow_len]
        congr 1
        rw [← ih i h2]
        congr 1
        omega
  rw [← key bs i h]
  have hlt : pl bs i + 1 + j < (rowOf gs bs).length := by
    rw [rowOf_len]
    have h1 := pl_step h
    have h2 : pl bs (i + 1) ≤ cells bs := by
      rcases Nat.lt_or_ge (i + 1) bs.length with q | q
      · have := pl_lt q (Nat.le_refl _); rw [pl_all] at this; omega
      · have : i + 1 = bs.length := by omega
        rw [this, pl_all]; exact Nat.le_refl _
    omega
  rw [List.set_append_left _ _ hlt]
theorem places_snoc (bs : List (List Thing)) (fs : List Thing) : places (bs ++ [fs]) = places bs ++ [cells bs] := by
  have key : ∀ (bs : List (List Thing)) (s : Nat), offs (bs ++ [fs]) s = offs bs s ++ [s + cells bs] := by
    intro bs
    induction bs with
    | nil => intro s; simp [offs, cells]
    | cons g bs ih =>
      intro s
      show s :: offs (bs ++ [fs]) (s + 1 + g.length) = (s :: offs bs (s + 1 + g.length)) ++ [s + cells (g :: bs)]
      rw [ih, cells_cons, List.cons_append]
      congr 3
      omega
  have := key bs 0
  rw [Nat.zero_add] at this
  exact this
theorem word_app {gs hs : List Nat} {t : Thing} (h : t.ok gs.length) : word (gs ++ hs) t = word gs t := by
  cases t with
  | num n => rfl
  | box k =>
    have hk : k < gs.length := h
    show 2 * (((gs ++ hs).getD k 0 : Nat) : Int) + 1 = 2 * ((gs.getD k 0 : Nat) : Int) + 1
    rw [List.getD_eq_getElem?_getD, List.getElem?_append_left hk, ← List.getD_eq_getElem?_getD]
theorem rowOf_app {gs hs : List Nat} : ∀ {bs : List (List Thing)}, (∀ fs ∈ bs, ∀ t ∈ fs, t.ok gs.length) → rowOf (gs ++ hs) bs = rowOf gs bs
  | [], _ => rfl
  | fs :: bs, h => by
    unfold rowOf
    rw [List.flatMap_cons, List.flatMap_cons]
    congr 1
    · unfold boxRow
      congr 1
      exact List.map_congr_left fun t ht => word_app (h fs (List.mem_cons_self ..) t ht)
    · exact rowOf_app fun g hg => h g (List.mem_cons_of_mem _ hg)
/-- a box made behind the last one -/
theorem rowAt_made {bs : List (List Thing)} {sp : Nat} {fs : List Thing} (r : RowOk bs sp) (hf : ∀ t ∈ fs, t.ok bs.length) (hs : 1 + fs.length ≤ sp) :
    (rowAt bs sp).take (cells bs) ++ (4 * (fs.length : Int) :: fs.map (word (places bs))) ++ (rowAt bs sp).drop (cells bs + 1 + fs.length) = rowAt (bs ++ [fs]) (sp - (1 + fs.length)) := by
  have hl : (rowOf (places bs) bs).length = cells bs := rowOf_len _ _
  have e1 : (rowAt bs sp).take (cells bs) = rowOf (places bs) bs := by
    unfold rowAt; rw [← hl, List.take_left]
  have e2 : (rowAt bs sp).drop (cells bs + 1 + fs.length) = List.replicate (sp - (1 + fs.length)) 0 := by
    unfold rowAt
    rw [List.drop_append, List.drop_eq_nil_of_le (by omega), List.nil_append, hl, List.drop_replicate]
    congr 1
    omega
  rw [e1, e2]
  unfold rowAt
  rw [places_snoc]
  congr 1
  have e3 : rowOf (places bs ++ [cells bs]) (bs ++ [fs]) = rowOf (places bs ++ [cells bs]) bs ++ boxRow (places bs ++ [cells bs]) fs := by
    unfold rowOf; rw [List.flatMap_append]
    congr 1
    show boxRow _ fs ++ [] = _
    rw [List.append_nil]
  rw [e3, rowOf_app (by rw [places_len]; exact r.ok)]
  congr 1
  unfold boxRow
  congr 1
  exact (List.map_congr_left fun t ht => (word_app (by rw [places_len]; exact hf t ht)).symm)
theorem ok_mono {n m : Nat} (h : n ≤ m) {t : Thing} (k : t.ok n) : t.ok m := by
  cases t with
  | num z => exact k
  | box i => exact Nat.lt_of_lt_of_le k h
theorem RowOk.made {bs : List (List Thing)} {sp : Nat} {fs : List Thing} (r : RowOk bs sp) (hf : ∀ t ∈ fs, t.ok bs.length) (hs : 1 + fs.length ≤ sp) : RowOk (bs ++ [fs]) (sp - (1 + fs.length)) := by
  refine ⟨by rw [List.length_append]; exact Nat.le_trans r.one (Nat.le_add_right ..), ?_, fun gs hg t ht => ?_⟩
  · rw [cells_snoc]; have := r.small; omega
  · rw [List.length_append]
    rcases List.mem_append.mp hg with h | h
    · exact ok_mono (Nat.le_add_right ..) (r.ok gs h t ht)
    · rw [List.mem_singleton.mp h] at ht
      exact ok_mono (Nat.le_add_right ..) (hf t ht)
theorem RowOk.put {bs : List (List Thing)} {sp i j : Nat} {fs : List Thing} {t : Thing} (r : RowOk bs sp) (h : bs[i]? = some fs) (hj : j < fs.length) (ht : t.ok bs.length) : RowOk (bs.set i (fs.set j t)) sp := by
  refine ⟨by rw [List.length_set]; exact r.one, ?_, fun gs hg u hu => ?_⟩
  · rw [(rowAt_set (sp := sp) (t := t) h hj).2.2]; exact r.small
  · rw [List.length_set]
    rcases List.mem_or_eq_of_mem_set hg with q | q
    · exact r.ok gs q u hu
    · rw [q] at hu
      rcases List.mem_or_eq_of_mem_set hu with z | z
      · exact r.ok fs (List.mem_of_getElem? h) u z
      · rw [z]; exact ht
end Tw

set_option Elab.async false
set_option linter.all false
set_option maxRecDepth 100000
set_option maxHeartbeats 4000000
namespace Tw
open PySem PySem.Spec PyProof.Rows L2
open Evl (Ex ex_l ex_t fresh_back sz_of sz_lt)
local macro_rules | `(tactic| walk_at "t_hp") => `(tactic| first
  | assumption
  | exact upd_same
  | (refine' hp_ne ?hne ?hrest; (case hne => walk_at "t_ne"); (case hrest => walk_at "t_hp"))
  | (refine' hp_ex ?hx ?hrest; (case hx => assumption); (case hrest => walk_at "t_hp")))
local macro_rules | `(tactic| walk_at "t_ne") => `(tactic| first
  | assumption
  | exact Ne.symm (by assumption)
  | (refine' ne_of_none ?h1 ?h2; (case h2 => assumption); (case h1 => walk_at "t_hp"))
  | (refine' Ne.symm (ne_of_none ?h1 ?h2); (case h2 => assumption); (case h1 => walk_at "t_hp")))
local macro_rules | `(tactic| walk_at "t_none") => `(tactic| first
  | assumption
  | (refine' fresh_back ?e ?n; (case n => assumption); (case e => walk_at "t_ex")))
local macro_rules | `(tactic| walk_at "t_ex") => `(tactic| first
  | assumption
  | exact Evl.Ex.refl _
  | (refine' ex_new ?n ?e; (case n => assumption); (case e => walk_at "t_ex"))
  | (refine' Evl.Ex.mut ?e ?n; (case n => walk_at "t_none"); (case e => walk_at "t_ex"))
  | (refine' Evl.Ex.trans ?a ?b; (case b => assumption); (case a => walk_at "t_ex")))
local macro_rules | `(tactic| walk_at "t_sq") => `(tactic| first
  | assumption
  | (refine' SqL.of ?h; (case h => walk_at "t_hp"))
  | (refine' ex_l ?e ?s; (case s => assumption); (case e => walk_at "t_ex")))
local macro_rules | `(tactic| walk_at "t_sqt") => `(tactic| first
  | assumption
  | (refine' SqT.of ?h; (case h => walk_at "t_hp"))
  | (refine' ex_t ?e ?s; (case s => assumption); (case e => walk_at "t_ex")))
local macro_rules | `(tactic| walk_at "t_mul") => `(tactic| first
  | assumption
  | exact Or.inl (Or.inl ⟨by decide, by decide⟩)
  | exact Or.inl (Or.inr ⟨by decide, by decide⟩)
  | exact Or.inl (Or.inl ⟨by omega, by omega⟩)
  | exact Or.inl (Or.inr ⟨by omega, by omega⟩))
local macro_rules | `(tactic| walk_at "t_c") => `(tactic| first
  | assumption
  | decide
  | (show (0 : Int) < _; decide)
  | (show (0 : Int) < _; omega)
  | exact ⟨by decide, by decide⟩
  | exact ⟨by decide, by decide, by decide⟩
  | exact ⟨by omega, by omega⟩
  | exact ⟨by omega, by omega, by omega, by omega⟩)
local macro_rules | `(tactic| walk_at "t_w") => `(tactic| first
  | (with_reducible refine w_seq ?_)
  | (with_reducible refine w_asg ?_)
  | (with_reducible refine w_gName ?_)
  | (with_reducible refine w_nx ?_)
  | (with_reducible refine w_rt ?_)
  | (with_reducible refine w_ct ?_)
  | (with_reducible refine w_bk ?_)
  | (with_reducible refine w_ret ?_)
  | (with_reducible refine w_retN ?_)
  | (with_reducible refine w_drop ?_)
  | (with_reducible refine w_ifS ?_)
  | (with_reducible refine w_next ?_)
  | (with_reducible refine w_break ?_)
  | (with_reducible refine w_cont ?_)
  | ((with_reducible refine' w_var ?h ?_); (case h => rfl))
  | (with_reducible refine w_c ?_)
  | (with_reducible refine w_op ?_)
  | (with_reducible refine w_un ?_)
  | (with_reducible refine w_I0 ?_)
  | ((with_reducible refine' w_I ?c ?_); (case c => walk_at "t_c"))
  | (with_reducible refine w_U ?_)
  | (with_reducible refine w_addI ?_)
  | ((with_reducible refine' w_addL ?h1 ?h2 ?hz ?_); (case h1 => walk_at "t_hp"); (case h2 => walk_at "t_hp"); (case hz => walk_at "t_z"))
  | ((with_reducible refine' w_mulI ?c ?_); (case c => walk_at "t_mul"))
  | ((with_reducible refine' w_mulL1 ?h1 ?b1 ?b2 ?_); (case h1 => walk_at "t_hp"); (case b1 => walk_at "t_z"); (case b2 => walk_at "t_z"))
  | ((with_reducible refine' w_mulL ?h1 ?b1 ?b2 ?hz ?_); (case h1 => walk_at "t_hp"); (case b1 => walk_at "t_z"); (case b2 => walk_at "t_z"); (case hz => walk_at "t_z"))
  | (with_reducible refine w_notIB ?_)
  | (with_reducible refine w_notBB ?_)
  | (with_reducible refine w_notN ?_)
  | (with_reducible refine w_isBB ?_)
  | (with_reducible refine w_isN ?_)
  | (with_reducible refine w_eqI ?_)
  | (with_reducible refine w_neI ?_)
  | (with_reducible refine w_eqB ?_)
  | (with_reducible refine w_neB ?_)
  | (with_reducible refine w_eqS ?_)
  | (with_reducible refine w_neS ?_)
  | (with_reducible refine w_test ?_)
  | (with_reducible refine w_B ?_)
  | (with_reducible refine w_exB ?_)
  | (with_reducible refine w_and ?_)
  | (with_reducible refine w_or ?_)
  | (with_reducible refine w_not ?_)
  | (with_reducible refine w_andV ?_)
  | (with_reducible refine w_orV ?_)
  | (with_reducible refine w_notV ?_)
  | (with_reducible refine w_bl ?_)
  | (with_reducible refine w_if ?_)
  | (with_reducible refine w_nil ?_)
  | (with_reducible refine w_cons ?_)
  | (with_reducible refine w_cb ?_)
  | (with_reducible refine w_call ?_)
  | (with_reducible refine w_tup ?_)
  | (with_reducible refine w_lst ?_)
  | ((with_reducible refine' w_fin ?hz ?_); (case hz => (simp only [List.length_cons, List.length_nil]; decide)))
  | ((with_reducible refine' w_len ?s ?_); (case s => walk_at "t_sq"))
  | ((with_reducible refine' w_lenT ?s ?_); (case s => walk_at "t_sqt"))
  | (with_reducible refine w_intI ?_)
  | (with_reducible refine w_intB ?_)
  | ((with_reducible refine' w_list ?s ?_); (case s => walk_at "t_sq"))
  | (with_reducible refine w_max ?_)
  | (with_reducible refine w_min ?_)
  | (with_reducible refine w_abs ?_)
  | (with_reducible refine w_sl ?_)
  | (with_reducible refine w_noPart ?_)
  | (with_reducible refine w_part ?_)
  | (with_reducible refine w_exI ?_)
  | ((with_reducible refine' w_slL ?s ?_); (case s => walk_at "t_sq"))
  | ((with_reducible refine' w_ixLI ?s ?b ?_); (case s => walk_at "t_sq"); (case b => walk_at "t_lt"))
  | ((with_reducible refine' w_ixL ?s ?e ?_); (case s => walk_at "t_sq"); (case e => walk_at "t_at"))
  | ((with_reducible refine' w_ixT ?s ?e ?_); (case s => walk_at "t_sqt"); (case e => walk_at "t_at"))
  | (with_reducible refine w_gSub ?_)
  | ((with_reducible refine' w_setLI ?e ?b ?_); (case e => walk_at "t_hp"); (case b => walk_at "t_lt"))
  | ((with_reducible refine' w_setL ?e ?b ?_); (case e => walk_at "t_hp"); (case b => walk_at "t_ixn"))
  | (with_reducible refine w_bm ?_)
  | (with_reducible refine w_bm0 ?_)
  | ((with_reducible refine' w_tyL ?e ?_); (case e => walk_at "t_sq"))
  | ((with_reducible refine' w_app ?e ?hz ?_); (case e => walk_at "t_hp"); (case hz => walk_at "t_z"))
  | (with_reducible refine w_iteT ?_)
  | (with_reducible refine w_iteF ?_)
  | (with_reducible refine w_iteNT ?_)
  | (with_reducible refine w_iteNF ?_)
  | (with_reducible refine w_for ?_)
  | (with_reducible refine w_iList ?_)
  | ((with_reducible refine' w_exL ?s ?_); (case s => walk_at "t_sq"))
  | (with_reducible refine w_iTup ?_)
  | ((with_reducible refine' w_exT ?s ?_); (case s => walk_at "t_sqt"))
  | (with_reducible refine w_iRng1 ?_)
  | ((with_reducible refine w_exR1 ?b ?_); (case b => walk_at "t_c"))
  | (with_reducible refine w_iRng2 ?_)
  | ((with_reducible refine w_exR2 ?b ?_); (case b => walk_at "t_c"))
  | (with_reducible refine w_yes ?_)
  | ((with_reducible refine w_pos ?p ?_); (case p => walk_at "t_p"))
  | ((with_reducible refine w_neg ?p ?_); (case p => walk_at "t_p"))
  | ((with_reducible refine w_posN ?p ?_); (case p => walk_at "t_p"))
  | ((with_reducible refine w_negN ?p ?_); (case p => walk_at "t_p"))
  | ((with_reducible refine' w_notInL ?s ?_); (case s => walk_at "t_sq"))
  | ((with_reducible refine' w_inL ?s ?_); (case s => walk_at "t_sq"))
  | ((with_reducible refine' w_sum ?s ?_); (case s => walk_at "t_sq"))
  | (with_reducible refine w_isiI ?_)
  | ((with_reducible refine' w_isiL ?e ?_); (case e => walk_at "t_ty"))
  | ((with_reducible refine' w_isiT ?e ?_); (case e => walk_at "t_ty"))
  | (with_reducible intro p hp_new))
local macro_rules | `(tactic| walk_at "t_ty") => `(tactic| first | assumption | (refine' tyx_l ?e; (case e => walk_at "t_hp")) | (refine' tyx_t ?e; (case e => walk_at "t_hp")))
local macro_rules | `(tactic| walk_at "t_z") => `(tactic| first | assumption | decide | omega | (simp only [List.length_cons, List.length_nil, List.length_map, List.length_append, List.length_replicate]; first | done | decide | omega))
local macro_rules | `(tactic| walk_at "t_at") => `(tactic| first | assumption | rfl)
local macro_rules | `(tactic| walk_at "t_ixn") => `(tactic| first | assumption | rfl)
local macro_rules | `(tactic| walk_at "t_ev") => `(tactic| (intro H1 e Q q; (repeat walk_at "t_w"); exact q _ (by walk_at "t_ex")))
local macro_rules | `(tactic| walk_at "t_p") => `(tactic| first | assumption | decide | decide +kernel)
local macro_rules | `(tactic| walk_at "t_lt") => `(tactic| first | assumption | omega | (simp only [List.length_set, List.length_map, List.length_append]; first | assumption | omega))
local macro_rules | `(tactic| walk_at "t_w") => `(tactic| first
  | ((with_reducible refine' w_at ?s ?hl ?h0 ?_); (case s => walk_at "t_sq"); (case hl => walk_at "t_z"); (case h0 => walk_at "t_z"))
  | (with_reducible refine w_isInt ?_)
  | (with_reducible refine w_I1 ?_)
  | (with_reducible refine w_Head ?_)
  | ((with_reducible refine' w_number ?hb ?_); (case hb => walk_at "t_bits")))
local macro_rules | `(tactic| walk_at "t_bits") => `(tactic| assumption)
local macro_rules | `(tactic| walk_at "t_w") => `(tactic| first
  | (with_reducible refine w_tru ?_)
  | ((with_reducible refine' w_truL ?s ?_); (case s => walk_at "t_sq"))
  | (with_reducible refine w_dnew ?_)
  | (with_reducible refine w_disp1 ?_)
  | ((with_reducible refine' w_aug ?e ?_); (case e => rfl))
  | (with_reducible refine w_ipI ?_)
  | ((with_reducible refine' w_inD ?e ?_); (case e => walk_at "t_hp"))
  | ((with_reducible refine' w_notInD ?e ?_); (case e => walk_at "t_hp"))
  | (with_reducible refine w_dget ?_)
  | ((with_reducible refine' w_dgetE ?e ?hv ?_); (case e => walk_at "t_hp"); (case hv => walk_at "t_dv"))
  | (with_reducible refine w_dput ?_)
  | ((with_reducible refine' w_dputE ?e ?hl ?_); (case e => walk_at "t_hp"); (case hl => walk_at "t_z"))
  | ((with_reducible refine' w_extend ?e1 ?e2 ?hz ?_); (case e1 => walk_at "t_hp"); (case e2 => walk_at "t_hp"); (case hz => walk_at "t_z")))
local macro_rules | `(tactic| walk_at "t_dv") => `(tactic| assumption)
local macro_rules | `(tactic| walk_at "t_hp") => `(tactic| first
  | (with_reducible refine hp_off0 ?_; walk_at "t_hp")
  | ((with_reducible refine' hp_off1 ?hne ?hrest); (case hne => walk_at "t_ne"); (case hrest => walk_at "t_hp")))
local macro_rules | `(tactic| walk_at "t_w") => `(tactic| first
  | (with_reducible refine w_fld ?_)
  | ((with_reducible refine' w_fldE ?e ?c ?n ?l ?_); (case e => walk_at "t_hp"); (case c => assumption); (case n => assumption); (case l => rfl))
  | (with_reducible refine w_sfld ?_)
  | ((with_reducible refine' w_sfldE ?e ?c ?n ?l ?_); (case e => walk_at "t_hp"); (case c => assumption); (case n => assumption); (case l => first | decide | (show 1 < 1000; decide) | (show 2 < 1000; decide)))
  | (with_reducible refine w_setSl ?_)
  | (with_reducible refine w_make ?_)
  | ((with_reducible refine' w_gfld0 ?hv ?e ?c ?n ?l ?_); (case hv => rfl); (case e => walk_at "t_hp"); (case c => assumption); (case n => assumption); (case l => first | decide | (show 1 < 1000; decide) | (show 2 < 1000; decide)))
  | (with_reducible refine w_meth ?_)
  | (with_reducible refine w_methX ?_)
  | ((with_reducible refine' w_methE ?e ?l ?_); (case e => walk_at "t_hp"); (case l => rfl))
  | (with_reducible refine w_chain ?_)
  | ((with_reducible refine' w_gTup ?s ?l ?_); (case s => walk_at "t_sqt"); (case l => rfl))
  | (with_reducible refine w_gCons ?_)
  | (with_reducible refine w_gNil ?_)
  | (with_reducible refine w_star ?_)
  | ((with_reducible refine' w_starL ?s ?_); (case s => walk_at "t_sq"))
  | (with_reducible refine w_isiIB ?_)
  | (with_reducible refine w_isiS ?_))
abbrev s_is_whole : Stmt := topS 23
theorem sc_is_whole : FnScope ["n"] ["n"] (defScope s_is_whole) := ⟨rfl, rfl, rfl, by decide +kernel, rfl, by decide +kernel, by decide +kernel⟩

abbrev s_is_thing : Stmt := topS 24
theorem sc_is_thing : FnScope ["thing", "kind", "n"] ["thing"] (defScope s_is_thing) := ⟨rfl, rfl, rfl, by decide +kernel, rfl, by decide +kernel, by decide +kernel⟩

abbrev s_words_of : Stmt := topS 25
theorem sc_words_of : FnScope ["things", "places", "thing", "kind", "n"] ["things", "places"] (defScope s_words_of) := ⟨rfl, rfl, rfl, by decide +kernel, rfl, by decide +kernel, by decide +kernel⟩

section
variable {P : Program} {w : World} {K : PySem.W.Frag} {mg : Str → Option Value} {base : Heap} {C cB cR : Addr}
theorem c_is_whole (T : Txt K mg) (D : DefAt K mg "is_whole" "is_whole" s_is_whole) : Cal P w K mg base "is_whole" 1 ["n"] spWhole := by
  refine Cal.of D sc_is_whole (fun vs H Q E h => ?_) (fun _ _ _ _ _ _ us hl => match us, hl with | [_], _ => rfl) (fun f cdv A outer s H vs Q E hr h => ?_)
  · obtain ⟨n, rfl, _⟩ := h; rfl
  · obtain ⟨n, rfl, h1, h2, k⟩ := h
    have hu : _ + 64 < cLine := hr.units
    rw [p60'] at h1 h2
    refine ⟨_, (pss_one (ps_ret (pe_and (pe_callB (call_isiK' (K := K) rfl) (by rfl) T.b_isinstance (by decide +kernel) (pa_cons (pv 0) (pa_cons (pe_bltn (v := .ty "int") (by rfl) T.b_int (by decide +kernel) rfl) pa_nil))) (pe_and (pe_not (pe_callB (call_isiK' (K := K) rfl) (by rfl) T.b_isinstance (by decide +kernel) (pa_cons (pv 0) (pa_cons (pe_bltn (v := .ty "bool") (by rfl) T.b_bool (by decide +kernel) rfl) pa_nil)))) (pe_one (pe_chain op_lt op_lt (pe_un un_neg (pe_globI rfl T.c_TOO_LONG)) (pv 0) (pe_globI rfl T.c_TOO_LONG))))))), ?_⟩
    repeat walk_at "t_w"
    rw [decide_eq_true h2]
    exact k _ (by walk_at "t_ex")
theorem c_is_thing (T : Txt K mg) (D : DefAt K mg "is_thing" "is_thing" s_is_thing) (c_is_whole : Cal P w K mg base "is_whole" 1 ["n"] spWhole) : Cal P w K mg base "is_thing" 2 ["thing"] spIsThing := by
  refine Cal.of D sc_is_thing (fun vs H Q E h => ?_) (fun _ _ _ _ _ _ us hl => match us, hl with | [_], _ => rfl) (fun f cdv A outer s H vs Q E hr h => ?_)
  · obtain ⟨v, p, rfl, _⟩ := h; rfl
  · obtain ⟨v, p, rfl, ⟨a, rfl, ha⟩, ho, k⟩ := h
    have hu : _ + 64 < cLine := hr.units
    obtain ⟨b, n⟩ := p
    have ha : H a = some (.tup [.str (if b = true then "box" else "number"), .int n]) := ha
    refine ⟨_, (pss_cons (ps_if (PW.pt (pw_or (pt_not (pt_val (pe_callB (call_isiK' (K := K) rfl) (by rfl) T.b_isinstance (by decide +kernel) (pa_cons (pv 0) (pa_cons (pe_bltn (v := .ty "tuple") (by rfl) T.b_tuple (by decide +kernel) rfl) pa_nil))))) (pw_or1 (pt_cmpR (op_neK (K := K) rfl hu) (pe_callB (call_lenK (K := K) rfl) (by rfl) T.b_len (by decide +kernel) (pa_cons (pv 0) pa_nil)) pe_int (nomark _))))) (pss_one (ps_ret pe_bl)) pss_nil)
      (pss_cons (ps_asg (pv 0) (pg_tupK (K := K) rfl rfl (pgs_cons (pg_name (i := 1) sc_is_thing.nd rfl (Or.inl rfl)) (pgs_cons (pg_name (i := 2) sc_is_thing.nd rfl (Or.inl rfl)) pgs_nil))))
      (pss_one (ps_ret (pe_and (pe_callB (call_isiK' (K := K) rfl) (by rfl) T.b_isinstance (by decide +kernel) (pa_cons (pv 1) (pa_cons (pe_bltn (v := .ty "str") (by rfl) T.b_str (by decide +kernel) rfl) pa_nil))) (pe_and (pe_cmpR (op_inK (K := K) rfl) (pv 1) (pe_tup (pa_cons pe_str (pa_cons pe_str pa_nil))) (by rfl)) (pe_one (pe_callC c_is_whole (hr.mono (by decide)) rfl (pa_cons (pv 2) pa_nil))))))))), ?_⟩
    repeat walk_at "t_w"
    refine w_negN rfl ?_
    repeat walk_at "t_w"
    rename_i q hq
    refine w_inTup (SqT.of upd_same) rfl rfl ?_
    have ei : inV (V.str (if b = true then "box" else "number")) [V.str "number", V.str "box"] = true := by cases b <;> decide +kernel
    rw [if_neg (by decide), ei]
    repeat walk_at "t_w"
    refine w_whole ho.1 ho.2 fun H2 e2 => ?_
    exact k _ (by walk_at "t_ex")
theorem c_words_of (T : Txt K mg) (R : RmT K mg C cB cR) (D : DefAt K mg "words_of" "words_of" s_words_of) (c_is_thing : Cal P w K mg base "is_thing" 2 ["thing"] spIsThing) (c_link_word : Cal P w K mg base "link_word" 1 ["place"] (spI1 gLink)) (c_number_word : Cal P w K mg base "number_word" 1 ["n"] (spI1 gNumber)) :
    CalX P w K mg base "words_of" 3 ["things", "places"] (spWordsOf K cB) := by
  refine CalX.of D sc_words_of (fun vs H Q E h => ?_) (fun _ _ _ _ _ _ us hl => match us, hl with | [_, _], _ => rfl) (fun f cdv A outer s H vs Q E hr h => ?_)
  · obtain ⟨l, q, ws, ps, js, rfl, _⟩ := h; rfl
  · obtain ⟨l, q, ws, ps, js, rfl, hL, hA, hl, ho, hQ, kb, kr⟩ := h
    have hu : _ + 64 < cLine := hr.units
    refine ⟨_, (pss_cons (ps_for (passes_of rfl) rfl (pi_listK (K := K) rfl (pv 0)) (pg_name (i := 2) sc_words_of.nd rfl (Or.inl rfl)) (pss_one (ps_if (pt_not (pt_val (pe_callC c_is_thing (hr.mono (by decide)) rfl (pa_cons (pv 2) pa_nil)))) (pss_one ps_dead) pss_nil)))
      (pss_cons (ps_for (passes_of rfl) rfl (pi_listK (K := K) rfl (pv 0)) (pg_tupK (K := K) rfl rfl (pgs_cons (pg_name (i := 3) sc_words_of.nd rfl (Or.inl rfl)) (pgs_cons (pg_name (i := 4) sc_words_of.nd rfl (Or.inl rfl)) pgs_nil))) (pss_one (ps_if (PW.pt (pw_and (pt_cmpR (op_eqK (K := K) rfl hu) (pv 3) pe_str (nomark _)) (pw_and1 (pt_cmpR (op_notInK (K := K) rfl) (pv 4) (pv 1) (by rfl))))) (pss_one (ps_raise rfl (takes_of rfl rfl rfl rfl) (pmk_own PySem.F.excBase_ValueError R.xNoBox.xc R.xNoBox.g R.xNoBox.k (raises_own R.xNoBox.b R.xNoBox.t) rfl))) pss_nil)))
      (pss_one (ps_ret (pe_lc (own := [("kind", 3), ("n", 4)]) (g := (gTup K 2 (gCons (gName 3) (gCons (gName 4) gNil)))) rfl sc_words_of.nd (pi_listK (K := K) rfl (pv 0)) (blkOk_by (own := [("kind", 3), ("n", 4)]) (N := ["things", "places", "thing", "kind", "n"]) (sc := defScope s_words_of) (by decide +kernel)) (fun _ _ _ _ _ => (pg_tupK (K := K) rfl rfl (pgs_cons (pg_name (i := 3) sc_words_of.nd rfl (Or.inl rfl)) (pgs_cons (pg_name (i := 4) sc_words_of.nd rfl (Or.inl rfl)) pgs_nil)))) (fun _ _ _ _ _ => pts_nil) (fun _ _ _ _ _ => (pe_ifExp (pt_cmpR (op_eqK (K := K) rfl hu) (pv 3) pe_str (nomark _)) (pe_callC c_link_word (hr.mono (by decide)) rfl (pa_cons (pv 4) pa_nil)) (pe_callC c_number_word (hr.mono (by decide)) rfl (pa_cons (pv 4) pa_nil))))))))), ?_⟩
    repeat walk_at "t_w"
    refine loopL (xs := ws) (fun j σ' H' => ∃ (y : Option V), σ' = [some (.ref l), some (.ref q), y, none, none] ∧ Ex H H') ?_ ?_ ?_ ?_
    · exact ⟨none, rfl, Evl.Ex.refl _⟩
    · rintro j σ' H' _ ⟨y, rfl, hE⟩
      exact ex_l hE hL
    · rintro j x σ' H' hj ⟨y, rfl, hE⟩
      obtain ⟨p, hp, hq⟩ := hA.get hj
      repeat walk_at "t_w"
      refine w_isThing p (hq.ex hE) (ho p (List.mem_of_getElem? hp)) fun H2 e2 => ?_
      repeat walk_at "t_w"
      exact ⟨_, rfl, by walk_at "t_ex"⟩
    · rintro σ' H' ⟨y, rfl, hE⟩
      repeat walk_at "t_w"
      refine loopL (xs := ws) (fun j σ' H' => ∃ (y3 y4 : Option V), σ' = [some (.ref l), some (.ref q), y, y3, y4] ∧ Ex H H' ∧ ∀ p ∈ ps.take j, p.1 = true → p.2 ∈ js) ?_ ?_ ?_ ?_
      · exact ⟨none, none, rfl, hE, fun p hp => by simp at hp⟩
      · rintro j σ' H' _ ⟨y3, y4, rfl, hE2, _⟩
        exact ex_l hE2 hL
      · rintro j x σ' H2 hj ⟨y3, y4, rfl, hE2, hall⟩
        obtain ⟨⟨b, n⟩, hp, a, rfl, ha⟩ := hA.get hj
        have ha : H a = some (.tup [.str (if b = true then "box" else "number"), .int n]) := ha
        have hps : ∀ (h : b = true → n ∈ js), ∀ p ∈ ps.take (j + 1), p.1 = true → p.2 ∈ js := by
          intro h p hpm hb
          rw [take_snoc hp] at hpm
          rcases List.mem_append.mp hpm with e | e
          · exact hall p e hb
          · rw [List.mem_singleton.mp e] at hb ⊢
            exact h hb
        cases b with
        | false =>
          rw [if_neg (by decide)] at ha
          repeat walk_at "t_w"
          exact ⟨_, _, rfl, hE2, hps fun z => by cases z⟩
        | true =>
          rw [if_pos rfl] at ha
          repeat walk_at "t_w"
          refine w_iteN (fun hn => ?_) (fun hn => ?_)
          · repeat walk_at "t_w"
            exact kb ⟨(true, n), List.mem_of_getElem? hp, rfl, hn⟩ _ hE2
          · repeat walk_at "t_w"
            exact ⟨_, _, rfl, hE2, hps fun _ => hn⟩
      · rintro σ' H2 ⟨y3, y4, rfl, hE2, hall⟩
        rw [hA.length, List.take_length] at hall
        repeat walk_at "t_w"
        refine w_lc ?_
        repeat walk_at "t_w"
        refine lcjL (xs := ws) (Evl.Cw H2 (fun _ => true) (fun i => V.int ((ps.getD i (false, 0)).word))) ?_ ?_ ?_ ?_
        · exact fun Dl hD => ⟨hD, Evl.Ex.new hD, upd_same⟩
        · exact fun Dl i H' _ p => ex_l (hE2.trans p.2.1) hL
        · intro Dl i x H6 hDl hx pp
          obtain ⟨⟨b, n⟩, hp, a, rfl, ha⟩ := hA.get hx
          have ha : H a = some (.tup [.str (if b = true then "box" else "number"), .int n]) := ha
          have hil := (List.getElem?_eq_some_iff.mp hx).1
          have ew : (ps.getD i (false, 0)).word = PT.word (b, n) := by rw [List.getD_eq_getElem?_getD, hp]; rfl
          have ha6 : H6 a = some (.tup [.str (if b = true then "box" else "number"), .int n]) := (hE2.trans pp.2.1) _ _ ha
          refine w_gTup (SqT.of ha6) rfl ?_
          repeat walk_at "t_w"
          refine ⟨rfl, Evl.cw_turn pp (by omega) ?_ ?_⟩
          · walk_at "t_ev"
          · intro _ H7 e7 Q7 q7
            rw [ew] at q7
            cases b with
            | false =>
              repeat walk_at "t_w"
              exact q7 _ (by walk_at "t_ex")
            | true =>
              repeat walk_at "t_w"
              exact q7 _ (by walk_at "t_ex")
        · intro Dl H6 hDl pp
          obtain ⟨p1, p2, p3⟩ := pp
          have eg : Evl.given ws.length (fun _ => true) (fun i => V.int ((ps.getD i (false, 0)).word)) = (ps.map PT.word).map V.int := by
            rw [given_all, hA.length]
            apply List.ext_getElem?
            intro i
            rw [List.getElem?_map, List.getElem?_map, List.getElem?_map]
            by_cases hi : i < ps.length
            · rw [List.getElem?_eq_getElem (by simpa using hi), List.getElem_range, List.getElem?_eq_getElem hi]
              show some (V.int _) = some (V.int _)
              rw [List.getD_eq_getElem?_getD, List.getElem?_eq_getElem hi]; rfl
            · rw [List.getElem?_eq_none (by simpa using hi), List.getElem?_eq_none (by omega)]; rfl
          rw [eg] at p3
          exact kr hall _ _ (by walk_at "t_none") (hE2.trans p2) p3
end
end Tw

set_option Elab.async false
set_option linter.all false
set_option maxRecDepth 100000
set_option maxHeartbeats 4000000
namespace Tw
open PySem PySem.Spec PyProof.Rows L2
open Evl (Ex ex_l ex_t fresh_back sz_of sz_lt)
local macro_rules | `(tactic| walk_at "t_hp") => `(tactic| first
  | assumption
  | exact upd_same
  | (refine' hp_ne ?hne ?hrest; (case hne => walk_at "t_ne"); (case hrest => walk_at "t_hp"))
  | (refine' hp_ex ?hx ?hrest; (case hx => assumption); (case hrest => walk_at "t_hp")))
local macro_rules | `(tactic| walk_at "t_ne") => `(tactic| first
  | assumption
  | exact Ne.symm (by assumption)
  | (refine' ne_of_none ?h1 ?h2; (case h2 => assumption); (case h1 => walk_at "t_hp"))
  | (refine' Ne.symm (ne_of_none ?h1 ?h2); (case h2 => assumption); (case h1 => walk_at "t_hp")))
local macro_rules | `(tactic| walk_at "t_none") => `(tactic| first
  | assumption
  | (refine' fresh_back ?e ?n; (case n => assumption); (case e => walk_at "t_ex")))
local macro_rules | `(tactic| walk_at "t_ex") => `(tactic| first
  | assumption
  | exact Evl.Ex.refl _
  | (refine' ex_new ?n ?e; (case n => assumption); (case e => walk_at "t_ex"))
  | (refine' Evl.Ex.mut ?e ?n; (case n => walk_at "t_none"); (case e => walk_at "t_ex"))
  | (refine' Evl.Ex.trans ?a ?b; (case b => assumption); (case a => walk_at "t_ex")))
local macro_rules | `(tactic| walk_at "t_sq") => `(tactic| first
  | assumption
  | (refine' SqL.of ?h; (case h => walk_at "t_hp"))
  | (refine' ex_l ?e ?s; (case s => assumption); (case e => walk_at "t_ex")))
local macro_rules | `(tactic| walk_at "t_sqt") => `(tactic| first
  | assumption
  | (refine' SqT.of ?h; (case h => walk_at "t_hp"))
  | (refine' ex_t ?e ?s; (case s => assumption); (case e => walk_at "t_ex")))
local macro_rules | `(tactic| walk_at "t_mul") => `(tactic| first
  | assumption
  | exact Or.inl (Or.inl ⟨by decide, by decide⟩)
  | exact Or.inl (Or.inr ⟨by decide, by decide⟩)
  | exact Or.inl (Or.inl ⟨by omega, by omega⟩)
  | exact Or.inl (Or.inr ⟨by omega, by omega⟩))
local macro_rules | `(tactic| walk_at "t_c") => `(tactic| first
  | assumption
  | decide
  | (show (0 : Int) < _; decide)
  | (show (0 : Int) < _; omega)
  | exact ⟨by decide, by decide⟩
  | exact ⟨by decide, by decide, by decide⟩
  | exact ⟨by omega, by omega⟩
  | exact ⟨by omega, by omega, by omega, by omega⟩)
local macro_rules | `(tactic| walk_at "t_w") => `(tactic| first
  | (with_reducible refine w_seq ?_)
  | (with_reducible refine w_asg ?_)
  | (with_reducible refine w_gName ?_)
  | (with_reducible refine w_nx ?_)
  | (with_reducible refine w_rt ?_)
  | (with_reducible refine w_ct ?_)
  | (with_reducible refine w_bk ?_)
  | (with_reducible refine w_ret ?_)
  | (with_reducible refine w_retN ?_)
  | (with_reducible refine w_drop ?_)
  | (with_reducible refine w_ifS ?_)
  | (with_reducible refine w_next ?_)
  | (with_reducible refine w_break ?_)
  | (with_reducible refine w_cont ?_)
  | ((with_reducible refine' w_var ?h ?_); (case h => rfl))
  | (with_reducible refine w_c ?_)
  | (with_reducible refine w_op ?_)
  | (with_reducible refine w_un ?_)
  | (with_reducible refine w_I0 ?_)
  | ((with_reducible refine' w_I ?c ?_); (case c => walk_at "t_c"))
  | (with_reducible refine w_U ?_)
  | (with_reducible refine w_addI ?_)
  | ((with_reducible refine' w_addL ?h1 ?h2 ?hz ?_); (case h1 => walk_at "t_hp"); (case h2 => walk_at "t_hp"); (case hz => walk_at "t_z"))
  | ((with_reducible refine' w_mulI ?c ?_); (case c => walk_at "t_mul"))
  | ((with_reducible refine' w_mulL1 ?h1 ?b1 ?b2 ?_); (case h1 => walk_at "t_hp"); (case b1 => walk_at "t_z"); (case b2 => walk_at "t_z"))
  | ((with_reducible refine' w_mulL ?h1 ?b1 ?b2 ?hz ?_); (case h1 => walk_at "t_hp"); (case b1 => walk_at "t_z"); (case b2 => walk_at "t_z"); (case hz => walk_at "t_z"))
  | (with_reducible refine w_notIB ?_)
  | (with_reducible refine w_notBB ?_)
  | (with_reducible refine w_notN ?_)
  | (with_reducible refine w_isBB ?_)
  | (with_reducible refine w_isN ?_)
  | (with_reducible refine w_eqI ?_)
  | (with_reducible refine w_neI ?_)
  | (with_reducible refine w_eqB ?_)
  | (with_reducible refine w_neB ?_)
  | (with_reducible refine w_eqS ?_)
  | (with_reducible refine w_neS ?_)
  | (with_reducible refine w_test ?_)
  | (with_reducible refine w_B ?_)
  | (with_reducible refine w_exB ?_)
  | (with_reducible refine w_and ?_)
  | (with_reducible refine w_or ?_)
  | (with_reducible refine w_not ?_)
  | (with_reducible refine w_andV ?_)
  | (with_reducible refine w_orV ?_)
  | (with_reducible refine w_notV ?_)
  | (with_reducible refine w_bl ?_)
  | (with_reducible refine w_if ?_)
  | (with_reducible refine w_nil ?_)
  | (with_reducible refine w_cons ?_)
  | (with_reducible refine w_cb ?_)
  | (with_reducible refine w_call ?_)
  | (with_reducible refine w_tup ?_)
  | (with_reducible refine w_lst ?_)
  | ((with_reducible refine' w_fin ?hz ?_); (case hz => (simp only [List.length_cons, List.length_nil]; decide)))
  | ((with_reducible refine' w_len ?s ?_); (case s => walk_at "t_sq"))
  | ((with_reducible refine' w_lenT ?s ?_); (case s => walk_at "t_sqt"))
  | (with_reducible refine w_intI ?_)
  | (with_reducible refine w_intB ?_)
  | ((with_reducible refine' w_list ?s ?_); (case s => walk_at "t_sq"))
  | (with_reducible refine w_max ?_)
  | (with_reducible refine w_min ?_)
  | (with_reducible refine w_abs ?_)
  | (with_reducible refine w_sl ?_)
  | (with_reducible refine w_noPart ?_)
  | (with_reducible refine w_part ?_)
  | (with_reducible refine w_exI ?_)
  | ((with_reducible refine' w_slL ?s ?_); (case s => walk_at "t_sq"))
  | ((with_reducible refine' w_ixLI ?s ?b ?_); (case s => walk_at "t_sq"); (case b => walk_at "t_lt"))
  | ((with_reducible refine' w_ixL ?s ?e ?_); (case s => walk_at "t_sq"); (case e => walk_at "t_at"))
  | ((with_reducible refine' w_ixT ?s ?e ?_); (case s => walk_at "t_sqt"); (case e => walk_at "t_at"))
  | (with_reducible refine w_gSub ?_)
  | ((with_reducible refine' w_setLI ?e ?b ?_); (case e => walk_at "t_hp"); (case b => walk_at "t_lt"))
  | ((with_reducible refine' w_setL ?e ?b ?_); (case e => walk_at "t_hp"); (case b => walk_at "t_ixn"))
  | (with_reducible refine w_bm ?_)
  | (with_reducible refine w_bm0 ?_)
  | ((with_reducible refine' w_tyL ?e ?_); (case e => walk_at "t_sq"))
  | ((with_reducible refine' w_app ?e ?hz ?_); (case e => walk_at "t_hp"); (case hz => walk_at "t_z"))
  | (with_reducible refine w_iteT ?_)
  | (with_reducible refine w_iteF ?_)
  | (with_reducible refine w_iteNT ?_)
  | (with_reducible refine w_iteNF ?_)
  | (with_reducible refine w_for ?_)
  | (with_reducible refine w_iList ?_)
  | ((with_reducible refine' w_exL ?s ?_); (case s => walk_at "t_sq"))
  | (with_reducible refine w_iTup ?_)
  | ((with_reducible refine' w_exT ?s ?_); (case s => walk_at "t_sqt"))
  | (with_reducible refine w_iRng1 ?_)
  | ((with_reducible refine w_exR1 ?b ?_); (case b => walk_at "t_c"))
  | (with_reducible refine w_iRng2 ?_)
  | ((with_reducible refine w_exR2 ?b ?_); (case b => walk_at "t_c"))
  | (with_reducible refine w_yes ?_)
  | ((with_reducible refine w_pos ?p ?_); (case p => walk_at "t_p"))
  | ((with_reducible refine w_neg ?p ?_); (case p => walk_at "t_p"))
  | ((with_reducible refine w_posN ?p ?_); (case p => walk_at "t_p"))
  | ((with_reducible refine w_negN ?p ?_); (case p => walk_at "t_p"))
  | ((with_reducible refine' w_notInL ?s ?_); (case s => walk_at "t_sq"))
  | ((with_reducible refine' w_inL ?s ?_); (case s => walk_at "t_sq"))
  | ((with_reducible refine' w_sum ?s ?_); (case s => walk_at "t_sq"))
  | (with_reducible refine w_isiI ?_)
  | ((with_reducible refine' w_isiL ?e ?_); (case e => walk_at "t_ty"))
  | ((with_reducible refine' w_isiT ?e ?_); (case e => walk_at "t_ty"))
  | (with_reducible intro p hp_new))
local macro_rules | `(tactic| walk_at "t_ty") => `(tactic| first | assumption | (refine' tyx_l ?e; (case e => walk_at "t_hp")) | (refine' tyx_t ?e; (case e => walk_at "t_hp")))
local macro_rules | `(tactic| walk_at "t_z") => `(tactic| first | assumption | decide | omega | (simp only [List.length_cons, List.length_nil, List.length_map, List.length_append, List.length_replicate]; first | done | decide | omega))
local macro_rules | `(tactic| walk_at "t_at") => `(tactic| first | assumption | rfl)
local macro_rules | `(tactic| walk_at "t_ixn") => `(tactic| first | assumption | rfl)
local macro_rules | `(tactic| walk_at "t_ev") => `(tactic| (intro H1 e Q q; (repeat walk_at "t_w"); exact q _ (by walk_at "t_ex")))
local macro_rules | `(tactic| walk_at "t_p") => `(tactic| first | assumption | decide | decide +kernel)
local macro_rules | `(tactic| walk_at "t_lt") => `(tactic| first | assumption | omega | (simp only [List.length_set, List.length_map, List.length_append]; first | assumption | omega))
local macro_rules | `(tactic| walk_at "t_w") => `(tactic| first
  | ((with_reducible refine' w_at ?s ?hl ?h0 ?_); (case s => walk_at "t_sq"); (case hl => walk_at "t_z"); (case h0 => walk_at "t_z"))
  | (with_reducible refine w_isInt ?_)
  | (with_reducible refine w_I1 ?_)
  | (with_reducible refine w_Head ?_)
  | ((with_reducible refine' w_number ?hb ?_); (case hb => walk_at "t_bits")))
local macro_rules | `(tactic| walk_at "t_bits") => `(tactic| assumption)
local macro_rules | `(tactic| walk_at "t_w") => `(tactic| first
  | (with_reducible refine w_tru ?_)
  | ((with_reducible refine' w_truL ?s ?_); (case s => walk_at "t_sq"))
  | (with_reducible refine w_dnew ?_)
  | (with_reducible refine w_disp1 ?_)
  | ((with_reducible refine' w_aug ?e ?_); (case e => rfl))
  | (with_reducible refine w_ipI ?_)
  | ((with_reducible refine' w_inD ?e ?_); (case e => walk_at "t_hp"))
  | ((with_reducible refine' w_notInD ?e ?_); (case e => walk_at "t_hp"))
  | (with_reducible refine w_dget ?_)
  | ((with_reducible refine' w_dgetE ?e ?hv ?_); (case e => walk_at "t_hp"); (case hv => walk_at "t_dv"))
  | (with_reducible refine w_dput ?_)
  | ((with_reducible refine' w_dputE ?e ?hl ?_); (case e => walk_at "t_hp"); (case hl => walk_at "t_z"))
  | ((with_reducible refine' w_extend ?e1 ?e2 ?hz ?_); (case e1 => walk_at "t_hp"); (case e2 => walk_at "t_hp"); (case hz => walk_at "t_z")))
local macro_rules | `(tactic| walk_at "t_dv") => `(tactic| assumption)
local macro_rules | `(tactic| walk_at "t_hp") => `(tactic| first
  | (with_reducible refine hp_off0 ?_; walk_at "t_hp")
  | ((with_reducible refine' hp_off1 ?hne ?hrest); (case hne => walk_at "t_ne"); (case hrest => walk_at "t_hp")))
local macro_rules | `(tactic| walk_at "t_w") => `(tactic| first
  | (with_reducible refine w_fld ?_)
  | ((with_reducible refine' w_fldE ?e ?c ?n ?l ?_); (case e => walk_at "t_hp"); (case c => assumption); (case n => assumption); (case l => rfl))
  | (with_reducible refine w_sfld ?_)
  | ((with_reducible refine' w_sfldE ?e ?c ?n ?l ?_); (case e => walk_at "t_hp"); (case c => assumption); (case n => assumption); (case l => first | decide | (show 1 < 1000; decide) | (show 2 < 1000; decide)))
  | (with_reducible refine w_setSl ?_)
  | (with_reducible refine w_make ?_)
  | ((with_reducible refine' w_gfld0 ?hv ?e ?c ?n ?l ?_); (case hv => rfl); (case e => walk_at "t_hp"); (case c => assumption); (case n => assumption); (case l => first | decide | (show 1 < 1000; decide) | (show 2 < 1000; decide)))
  | (with_reducible refine w_meth ?_)
  | (with_reducible refine w_methX ?_)
  | ((with_reducible refine' w_methE ?e ?l ?_); (case e => walk_at "t_hp"); (case l => rfl))
  | (with_reducible refine w_chain ?_)
  | ((with_reducible refine' w_gTup ?s ?l ?_); (case s => walk_at "t_sqt"); (case l => rfl))
  | (with_reducible refine w_gCons ?_)
  | (with_reducible refine w_gNil ?_)
  | (with_reducible refine w_star ?_)
  | ((with_reducible refine' w_starL ?s ?_); (case s => walk_at "t_sq"))
  | (with_reducible refine w_isiIB ?_)
  | (with_reducible refine w_isiS ?_))
abbrev s_thing_of : Stmt := topS 26
theorem sc_thing_of : FnScope ["word"] ["word"] (defScope s_thing_of) := ⟨rfl, rfl, rfl, by decide +kernel, rfl, by decide +kernel, by decide +kernel⟩

abbrev s_Room___init : Stmt := inClass (topS 27) 0
theorem sc_Room___init : FnScope ["self", "size", "doors"] ["self", "size", "doors"] (defScope s_Room___init) := ⟨rfl, rfl, rfl, by decide +kernel, rfl, by decide +kernel, by decide +kernel⟩

abbrev s_Room_made : Stmt := inClass (topS 27) 1
theorem sc_Room_made : FnScope ["self", "things", "words", "place", "behind"] ["self", "things"] (defScope s_Room_made) := ⟨rfl, rfl, rfl, by decide +kernel, rfl, by decide +kernel, by decide +kernel⟩

abbrev s_Room_put : Stmt := inClass (topS 27) 2
theorem sc_Room_put : FnScope ["self", "place", "field", "thing", "words"] ["self", "place", "field", "thing"] (defScope s_Room_put) := ⟨rfl, rfl, rfl, by decide +kernel, rfl, by decide +kernel, by decide +kernel⟩

abbrev s_Room_told : Stmt := inClass (topS 27) 3
theorem sc_Room_told : FnScope ["self", "place", "word"] ["self", "place"] (defScope s_Room_told) := ⟨rfl, rfl, rfl, by decide +kernel, rfl, by decide +kernel, by decide +kernel⟩

abbrev s_Room_places : Stmt := inClass (topS 27) 4
theorem sc_Room_places : FnScope ["self"] ["self"] (defScope s_Room_places) := ⟨rfl, rfl, rfl, by decide +kernel, rfl, by decide +kernel, by decide +kernel⟩

abbrev s_Room_come_to : Stmt := inClass (topS 27) 5
theorem sc_Room_come_to : FnScope ["self"] ["self"] (defScope s_Room_come_to) := ⟨rfl, rfl, rfl, by decide +kernel, rfl, by decide +kernel, by decide +kernel⟩

abbrev s_Room_used : Stmt := inClass (topS 27) 7
theorem sc_Room_used : FnScope ["self"] ["self"] (defScope s_Room_used) := ⟨rfl, rfl, rfl, by decide +kernel, rfl, by decide +kernel, by decide +kernel⟩

abbrev s_Room_cells : Stmt := inClass (topS 27) 8
theorem sc_Room_cells : FnScope ["self"] ["self"] (defScope s_Room_cells) := ⟨rfl, rfl, rfl, by decide +kernel, rfl, by decide +kernel, by decide +kernel⟩

abbrev s_Room__require_box : Stmt := inClass (topS 27) 9
theorem sc_Room__require_box : FnScope ["self", "place"] ["self", "place"] (defScope s_Room__require_box) := ⟨rfl, rfl, rfl, by decide +kernel, rfl, by decide +kernel, by decide +kernel⟩

def spThingOf : Sp := fun vs H Q _ => ∃ z : Int, vs = [.int z] ∧ ∀ a H2, H a = none → Ex H H2 → H2 a = some (.tup [.str (if z % 2 = 1 then "box" else "number"), .int (z / 2)]) → Q (.ref a) H2
theorem w_thingOf {H : Hp} {Q : VK} {E : XK} {z : Int} (k : ∀ a H2, H a = none → Ex H H2 → H2 a = some (.tup [.str (if z % 2 = 1 then "box" else "number"), .int (z / 2)]) → Q (.ref a) H2) : spThingOf ([.int z] ++ []) H Q E := ⟨z, rfl, k⟩
section
variable {C cB cR x r : Addr} {K : PySem.W.Frag} {H : Hp} {Q : VK} {E : XK} {bs : List (List Thing)} {sp : Nat}
theorem w_req {p : Int} (R : RoomAt C H x r bs sp) (h1 : -(10 ^ 60) < p) (h2 : p < 10 ^ 60) (kb : p ∉ asI (places bs) → ∀ H', Ex H H' → E (.ref cB) none H') (k : p ∈ asI (places bs) → ∀ H2, Ex H H2 → Q .non H2) : spReq C cB (.ref x :: ([.int p] ++ [])) H Q E := ⟨x, r, bs, sp, p, rfl, R, h1, h2, kb, k⟩
end
section
variable {P : Program} {w : World} {K : PySem.W.Frag} {mg : Str → Option Value} {base : Heap} {C cB cR : Addr}
theorem row_new {z d : Nat} (h : d < z) : [V.int (4 * (d : Int))] ++ List.replicate (z - 1) (V.int 0) = (rowAt [List.replicate d (Thing.num 0)] (z - d - 1)).map V.int := by
  have e : rowAt [List.replicate d (Thing.num 0)] (z - d - 1) = (4 * (d : Int)) :: List.replicate (z - 1) 0 := by
    unfold rowAt rowOf
    rw [List.flatMap_cons, List.flatMap_nil, List.append_nil]
    unfold boxRow
    rw [List.length_replicate, List.map_replicate, List.cons_append]
    congr 1
    show List.replicate d (2 * 0) ++ List.replicate (z - d - 1) 0 = _
    rw [show (2 * 0 : Int) = 0 from rfl, List.replicate_append_replicate]
    congr 1
    omega
  rw [e, List.map_cons, List.map_replicate]; rfl
theorem RowOk.new {z d : Nat} (h : d < z) (hz : z ≤ 400) : RowOk [List.replicate d (Thing.num 0)] (z - d - 1) := by
  refine ⟨Nat.le_refl _, ?_, fun fs hf t ht => ?_⟩
  · rw [cells_cons, List.length_replicate]; show 1 + d + 0 + _ ≤ _; omega
  · rw [List.mem_singleton.mp hf] at ht
    rw [List.eq_of_mem_replicate ht]
    show -(10 ^ 60) < (0 : Int) ∧ (0 : Int) < 10 ^ 60
    rw [p60']; decide
theorem pt_things {bs : List (List Thing)} : ∀ {ps : List PT}, (∀ p ∈ ps, p.ok) → (∀ p ∈ ps, p.1 = true → p.2 ∈ asI (places bs)) → ∃ fs : List Thing, ps = fs.map (Thing.pt bs) ∧ ∀ t ∈ fs, t.ok bs.length
  | [], _, _ => ⟨[], rfl, fun t h => nomatch h⟩
  | (b, n) :: ps, ho, ha => by
    obtain ⟨fs, e, hf⟩ := pt_things (ps := ps) (fun p hp => ho p (List.mem_cons_of_mem _ hp)) (fun p hp => ha p (List.mem_cons_of_mem _ hp))
    cases b with
    | false =>
      refine ⟨.num n :: fs, by rw [List.map_cons, ← e]; rfl, fun t ht => ?_⟩
      rcases List.mem_cons.mp ht with rfl | ht
      · exact ho (false, n) (List.mem_cons_self ..)
      · exact hf t ht
    | true =>
      obtain ⟨k, hk, ek⟩ := mem_places.mp (ha (true, n) (List.mem_cons_self ..) rfl)
      refine ⟨.box k :: fs, by rw [List.map_cons, ← e]; show (true, n) :: ps = (true, ((pl bs k : Nat) : Int)) :: ps; rw [← ek], fun t ht => ?_⟩
      rcases List.mem_cons.mp ht with rfl | ht
      · exact hk
      · exact hf t ht
theorem pts_words {bs : List (List Thing)} {fs : List Thing} (h : ∀ t ∈ fs, t.ok bs.length) : (fs.map (Thing.pt bs)).map PT.word = fs.map (word (places bs)) := by
  rw [List.map_map]
  exact List.map_congr_left fun t ht => pt_word (h t ht)
theorem c_thing_of (T : Txt K mg) (D : DefAt K mg "thing_of" "thing_of" s_thing_of) (c_is_link : Cal P w K mg base "is_link" 1 ["word"] (spI1 gIsLink)) (c_told_by : Cal P w K mg base "told_by" 1 ["word"] (spI1 gTold)) : Cal P w K mg base "thing_of" 2 ["word"] spThingOf := by
  refine Cal.of D sc_thing_of (fun vs H Q E h => ?_) (fun _ _ _ _ _ _ us hl => match us, hl with | [_], _ => rfl) (fun f cdv A outer s H vs Q E hr h => ?_)
  · obtain ⟨z, rfl, _⟩ := h; rfl
  · obtain ⟨z, rfl, k⟩ := h
    have hu : _ + 64 < cLine := hr.units
    refine ⟨_, (pss_cons (ps_if (pt_val (pe_callC c_is_link (hr.mono (by decide)) rfl (pa_cons (pv 0) pa_nil))) (pss_one (ps_ret (pe_tup (pa_cons pe_str (pa_cons (pe_callC c_told_by (hr.mono (by decide)) rfl (pa_cons (pv 0) pa_nil)) pa_nil))))) pss_nil)
      (pss_one (ps_ret (pe_tup (pa_cons pe_str (pa_cons (pe_callC c_told_by (hr.mono (by decide)) rfl (pa_cons (pv 0) pa_nil)) pa_nil)))))), ?_⟩
    repeat walk_at "t_w"
    refine w_ite (fun h1 => ?_) (fun h1 => ?_)
    · repeat walk_at "t_w"
      rw [if_pos h1] at k
      exact k _ _ (by walk_at "t_none") (by walk_at "t_ex") upd_same
    · repeat walk_at "t_w"
      rw [if_neg h1] at k
      exact k _ _ (by walk_at "t_none") (by walk_at "t_ex") upd_same
theorem c_Room_places (T : Txt K mg) (R : RmT K mg C cB cR) (D : DefM K C "places" "Room.places" s_Room_places) (c_heads : Cal P w K mg base "heads" 2 ["row", "used"] (spHeads K)) : CalM P w K mg base C "places" 3 ["self"] (spPlacesM C) := by
  refine CalM.of D sc_Room_places (fun vs H Q E h => ?_) (fun _ _ _ _ _ _ us hl => match us, hl with | [_], _ => rfl) (fun f cdv A outer s H vs Q E hr h => ?_)
  · obtain ⟨x, r, bs, sp, rfl, _⟩ := h; rfl
  · obtain ⟨x, r, bs, sp, rfl, ⟨⟨dx, hX⟩, hR, hro⟩, k⟩ := h
    have hu : _ + 64 < cLine := hr.units
    have hCl := R.cl
    have hNr := R.nr
    have hNu := R.nu
    refine ⟨_, (pss_one (ps_ret (pe_callC c_heads (hr.mono (by decide)) rfl (pa_cons (pe_fldK (K := K) rfl (pv 0) rfl) (pa_cons (pe_fldK (K := K) rfl (pv 0) rfl) pa_nil))))), ?_⟩
    repeat walk_at "t_w"
    exact w_heads sp (by walk_at "t_sq") hro k
theorem c_Room_come_to (T : Txt K mg) (R : RmT K mg C cB cR) (D : DefM K C "come_to" "Room.come_to" s_Room_come_to) (c_reached : Cal P w K mg base "reached" 3 ["row", "used"] (spReached K)) : CalM P w K mg base C "come_to" 4 ["self"] (spComeTo C) := by
  refine CalM.of D sc_Room_come_to (fun vs H Q E h => ?_) (fun _ _ _ _ _ _ us hl => match us, hl with | [_], _ => rfl) (fun f cdv A outer s H vs Q E hr h => ?_)
  · obtain ⟨x, r, bs, sp, rfl, _⟩ := h; rfl
  · obtain ⟨x, r, bs, sp, rfl, ⟨⟨dx, hX⟩, hR, hro⟩, k⟩ := h
    have hu : _ + 64 < cLine := hr.units
    have hCl := R.cl
    have hNr := R.nr
    have hNu := R.nu
    refine ⟨_, (pss_one (ps_ret (pe_callC c_reached (hr.mono (by decide)) rfl (pa_cons (pe_fldK (K := K) rfl (pv 0) rfl) (pa_cons (pe_fldK (K := K) rfl (pv 0) rfl) pa_nil))))), ?_⟩
    repeat walk_at "t_w"
    exact w_reached sp (by walk_at "t_sq") hro k
theorem c_Room_used (T : Txt K mg) (R : RmT K mg C cB cR) (D : DefM K C "used" "Room.used" s_Room_used) : CalM P w K mg base C "used" 1 ["self"] (spUsed C) := by
  refine CalM.of D sc_Room_used (fun vs H Q E h => ?_) (fun _ _ _ _ _ _ us hl => match us, hl with | [_], _ => rfl) (fun f cdv A outer s H vs Q E hr h => ?_)
  · obtain ⟨x, r, bs, sp, rfl, _⟩ := h; rfl
  · obtain ⟨x, r, bs, sp, rfl, ⟨⟨dx, hX⟩, hR, hro⟩, k⟩ := h
    have hu : _ + 64 < cLine := hr.units
    have hCl := R.cl
    have hNr := R.nr
    have hNu := R.nu
    refine ⟨_, (pss_one (ps_ret (pe_fldK (K := K) rfl (pv 0) rfl))), ?_⟩
    repeat walk_at "t_w"
    exact k _ (by walk_at "t_ex")
theorem c_Room_cells (T : Txt K mg) (R : RmT K mg C cB cR) (D : DefM K C "cells" "Room.cells" s_Room_cells) : CalM P w K mg base C "cells" 1 ["self"] (spCells C) := by
  refine CalM.of D sc_Room_cells (fun vs H Q E h => ?_) (fun _ _ _ _ _ _ us hl => match us, hl with | [_], _ => rfl) (fun f cdv A outer s H vs Q E hr h => ?_)
  · obtain ⟨x, r, bs, sp, rfl, _⟩ := h; rfl
  · obtain ⟨x, r, bs, sp, rfl, ⟨⟨dx, hX⟩, hR, hro⟩, k⟩ := h
    have hu : _ + 64 < cLine := hr.units
    have hCl := R.cl
    have hNr := R.nr
    have hNu := R.nu
    refine ⟨_, (pss_one (ps_ret (pe_callTy (call_listK (K := K) rfl) (by rfl) T.b_list (by decide +kernel) (pa_cons (pe_fldK (K := K) rfl (pv 0) rfl) pa_nil)))), ?_⟩
    repeat walk_at "t_w"
    exact k _ _ (by walk_at "t_none") (by walk_at "t_ex") upd_same
theorem c_Room__require_box (T : Txt K mg) (R : RmT K mg C cB cR) (D : DefM K C "_require_box" "Room._require_box" s_Room__require_box) (c_is_whole : Cal P w K mg base "is_whole" 1 ["n"] spWhole) (c_Room_places : CalM P w K mg base C "places" 3 ["self"] (spPlacesM C)) : CalM P w K mg base C "_require_box" 4 ["self", "place"] (spReq C cB) := by
  refine CalM.of D sc_Room__require_box (fun vs H Q E h => ?_) (fun _ _ _ _ _ _ us hl => match us, hl with | [_, _], _ => rfl) (fun f cdv A outer s H vs Q E hr h => ?_)
  · obtain ⟨x, r, bs, sp, p, rfl, _⟩ := h; rfl
  · obtain ⟨x, r, bs, sp, p, rfl, Rm, h1, h2, kb, k⟩ := h
    have hu : _ + 64 < cLine := hr.units
    have hCl := R.cl
    have hNr := R.nr
    have hNu := R.nu
    obtain ⟨⟨dx, hX⟩, hR, hro⟩ := id Rm
    refine ⟨_, (pss_one (ps_if (PW.pt (pw_or (pt_not (pt_val (pe_callC c_is_whole (hr.mono (by decide)) rfl (pa_cons (pv 1) pa_nil)))) (pw_or1 (pt_cmpR (op_notInK (K := K) rfl) (pv 1) (pe_methC0 R.cl c_Room_places (hr.mono (by decide)) (passes_call (takes_of rfl rfl rfl rfl) (fun _ _ _ _ h => h)) (pv 0)) (by rfl))))) (pss_one (ps_raise rfl (takes_of rfl rfl rfl rfl) (pmk_own PySem.F.excBase_ValueError R.xNoBox.xc R.xNoBox.g R.xNoBox.k (raises_own R.xNoBox.b R.xNoBox.t) rfl))) pss_nil)), ?_⟩
    repeat walk_at "t_w"
    refine w_whole h1 h2 fun H2 e2 => ?_
    repeat walk_at "t_w"
    refine w_placesM (Rm.ex e2) fun q H3 hq e3 hq3 => ?_
    repeat walk_at "t_w"
    refine w_iteN (fun hn => ?_) (fun hn => ?_)
    · repeat walk_at "t_w"
      exact kb hn _ (by walk_at "t_ex")
    · repeat walk_at "t_w"
      exact k hn _ (by walk_at "t_ex")
theorem c_Room_told (T : Txt K mg) (R : RmT K mg C cB cR) (D : DefM K C "told" "Room.told" s_Room_told) (c_field_words : Cal P w K mg base "field_words" 2 ["row", "place"] (spFields K)) (c_thing_of : Cal P w K mg base "thing_of" 2 ["word"] spThingOf) (c_Room__require_box : CalM P w K mg base C "_require_box" 4 ["self", "place"] (spReq C cB)) :
    CalM P w K mg base C "told" 5 ["self", "place"] (spTold C cB) := by
  refine CalM.of D sc_Room_told (fun vs H Q E h => ?_) (fun _ _ _ _ _ _ us hl => match us, hl with | [_, _], _ => rfl) (fun f cdv A outer s H vs Q E hr h => ?_)
  · obtain ⟨x, r, bs, sp, p, rfl, _⟩ := h; rfl
  · obtain ⟨x, r, bs, sp, p, rfl, Rm, h1, h2, kb, k⟩ := h
    have hu : _ + 64 < cLine := hr.units
    have hCl := R.cl
    have hNr := R.nr
    have hNu := R.nu
    refine ⟨_, (pss_cons (ps_expr (pe_methC R.cl c_Room__require_box (hr.mono (by decide)) (passes_call (takes_of rfl rfl rfl rfl) (fun _ _ _ _ h => h)) (pv 0) (pa_cons (pv 1) pa_nil)))
      (pss_one (ps_ret (pe_lc (own := [("word", 2)]) (g := (gName 2)) rfl sc_Room_told.nd (pi_listK (K := K) rfl (pe_callC c_field_words (hr.mono (by decide)) rfl (pa_cons (pe_fldK (K := K) rfl (pv 0) rfl) (pa_cons (pv 1) pa_nil)))) (blkOk_by (own := [("word", 2)]) (N := ["self", "place", "word"]) (sc := defScope s_Room_told) (by decide +kernel)) (fun _ _ _ _ _ => (pg_name (i := 2) sc_Room_told.nd rfl (Or.inl rfl))) (fun _ _ _ _ _ => pts_nil) (fun _ _ _ _ _ => (pe_callC c_thing_of (hr.mono (by decide)) rfl (pa_cons (pv 2) pa_nil))))))), ?_⟩
    obtain ⟨⟨dx, hX⟩, hR, hro⟩ := id Rm
    repeat walk_at "t_w"
    refine w_req Rm h1 h2 kb fun hin H2 e2 => ?_
    obtain ⟨i, hi, rfl⟩ := mem_places.mp hin
    have hbi : bs[i]? = some bs[i] := List.getElem?_eq_getElem hi
    have hlr := rowAt_len bs sp
    have hst := pl_step hbi
    have hsm := hro.small
    have hfl : bs[i].length ≤ 400 := by
      have h2 : pl bs (i + 1) ≤ cells bs := by
        rcases Nat.lt_or_ge (i + 1) bs.length with q | q
        · have := pl_lt q (Nat.le_refl _); rw [pl_all] at this; omega
        · have : i + 1 = bs.length := by omega
          rw [this, pl_all]; exact Nat.le_refl _
      omega
    repeat walk_at "t_w"
    refine w_lc ?_
    repeat walk_at "t_w"
    refine w_fields sp bs[i] (by walk_at "t_sq") hro hbi fun lf H5 hlf e5 hlf5 => ?_
    have hE5 : Ex H H5 := by walk_at "t_ex"
    repeat walk_at "t_w"
    refine lcjLM (xs := (bs[i].map (word (places bs))).map V.int) (fun j v H => ∃ t, bs[i][j]? = some t ∧ HandAt H bs v t) (fun j v H H' e ⟨t, h1, h2⟩ => ⟨t, h1, h2.ex e⟩) (SqL.of hlf5) ?_ ?_ ?_ ?_
    · intro Dl j y H6 acc hDl hacc e6 hy Q6 k6
      rw [List.getElem?_map, List.getElem?_map] at hy
      cases ht : bs[i][j]? with
      | none => rw [ht] at hy; cases hy
      | some t =>
        rw [ht] at hy
        cases hy
        repeat walk_at "t_w"
        refine w_thingOf fun a H7 ha e7 ha7 => ?_
        have nad : a ≠ Dl := fun z => by rw [z, hacc] at ha; cases ha
        refine k6 _ _ e7 ⟨t, ht, a, rfl, ?_⟩
        rw [del_ne nad, ha7]
        cases t with
        | num z =>
          have hw : word (places bs) (.num z) = 2 * z := rfl
          rw [hw, if_neg (by omega), show 2 * z / 2 = z by omega]; rfl
        | box q =>
          have hql : q < bs.length := hro.ok _ (List.getElem_mem hi) _ (List.mem_of_getElem? ht)
          have hw : word (places bs) (.box q) = 2 * ((pl bs q : Nat) : Int) + 1 := by
            show 2 * (((places bs).getD q 0 : Nat) : Int) + 1 = _
            rw [places_getD hql]
          rw [hw, if_pos (by omega), show (2 * ((pl bs q : Nat) : Int) + 1) / 2 = ((pl bs q : Nat) : Int) by omega]; rfl
    · exact fun x => rfl
    · rw [List.length_map, List.length_map]; omega
    · intro Dl H6 ys hDl e6 hD6 hyl hys
      rw [List.length_map, List.length_map] at hyl
      refine k i bs[i] rfl hbi Dl ys H6 (by walk_at "t_none") (by walk_at "t_ex") hD6 (All2.of_get hyl fun j v t hv ht => ?_)
      obtain ⟨t', h1, h2⟩ := hys j v hv
      rw [ht] at h1
      cases h1
      exact h2.ex del_ex
theorem c_Room___init (T : Txt K mg) (R : RmT K mg C cB cR) (D : DefK K C "Room.__init__" s_Room___init) (c_is_whole : Cal P w K mg base "is_whole" 1 ["n"] spWhole) (c_head_word : Cal P w K mg base "head_word" 1 ["many", "marked"] spHead) : CalK P w K mg base C 2 ["self", "size", "doors"] (spInit C) := by
  refine CalK.of D sc_Room___init (fun vs H Q E h => ?_) (fun _ _ _ _ _ _ us hl => match us, hl with | [_, _, _], _ => rfl) (fun f cdv A outer s H vs Q E hr h => ?_)
  · obtain ⟨x, dx, z, d, rfl, _⟩ := h; rfl
  · obtain ⟨x, dx, z, d, rfl, hX, hz1, hz4, hd2, hdz, k⟩ := h
    have hu : _ + 64 < cLine := hr.units
    have hCl := R.cl
    have hNr := R.nr
    have hNu := R.nu
    refine ⟨_, (pss_cons (ps_if (PW.pt (pw_or (pt_not (pt_val (pe_callC c_is_whole (hr.mono (by decide)) rfl (pa_cons (pv 1) pa_nil)))) (pw_or1 (pt_not (pt_chain op_le op_le pe_int (pv 1) (pe_globI rfl T.c_MOST_CELLS)))))) (pss_one ps_dead) pss_nil)
      (pss_cons (ps_if (PW.pt (pw_or (pt_not (pt_val (pe_callC c_is_whole (hr.mono (by decide)) rfl (pa_cons (pv 2) pa_nil)))) (pw_or1 (pt_not (pt_chain op_le op_le pe_int (pv 2) (pe_globI rfl T.c_MOST_DOORS)))))) (pss_one ps_dead) pss_nil)
      (pss_cons (ps_if (pt_cmpR op_gt (pe_op op_addA (pv 2) pe_int) (pv 1) (nomark _)) (pss_one ps_dead) pss_nil)
      (pss_cons (ps_fldK (K := K) rfl (pv 0) (pe_op op_addA (pe_lst (pa_cons (pe_callC c_head_word (hr.mono (by decide)) rfl (pa_cons (pv 2) (pa_cons pe_bl pa_nil))) pa_nil)) (pe_op op_mulA (pe_lst (pa_cons pe_int pa_nil)) (pe_op op_sub (pv 1) pe_int))) rfl)
      (pss_one (ps_fldK (K := K) rfl (pv 0) (pe_op op_addA (pv 2) pe_int) rfl)))))), ?_⟩
    repeat walk_at "t_w"
    refine w_whole (by rw [p60']; omega) (by rw [p60']; omega) fun H2 e2 => ?_
    repeat walk_at "t_w"
    refine w_pos (by omega) ?_
    repeat walk_at "t_w"
    rw [decide_eq_true (show (z : Int) ≤ 400 by omega)]
    repeat walk_at "t_w"
    refine w_whole (by rw [p60']; omega) (by rw [p60']; omega) fun H3 e3 => ?_
    repeat walk_at "t_w"
    refine w_pos (by omega) ?_
    repeat walk_at "t_w"
    rw [decide_eq_true (show (d : Int) ≤ 20 by omega)]
    repeat walk_at "t_w"
    refine w_neg (by omega) ?_
    have hcd : cells [List.replicate d (Thing.num 0)] = d + 1 := by rw [cells_cons, List.length_replicate]; show 1 + d + 0 = _; omega
    have hlen : ((z : Int) - 1).toNat = z - 1 := by omega
    repeat walk_at "t_w"
    rename_i q4 e4 p3 hp3 p2 hp2 p1 hp1 r hrr
    have hE4 : Ex H q4 := (e2.trans e3).trans e4
    have hEr := ex_new hp1 (o := HO.lst (List.replicate ((z : Int) - 1).toNat (V.int 0))) (ex_new hp2 (o := HO.lst [V.int 0]) (ex_new hp3 (o := HO.lst [V.int (if false = true then 4 * (d : Int) + 2 else 4 * (d : Int))]) hE4))
    have hr0 : H r = none := fresh_back hEr hrr
    have nrx : r ≠ x := fun e => by rw [e, hX] at hr0; cases hr0
    refine k r _ hr0 (Evl.Ex.mut (Evl.Ex.mut (off_ex.trans (hEr.trans (Evl.Ex.new hrr))) (off_in (by simp))) (off_in (by simp))) ⟨⟨dx, ?_⟩, ?_, RowOk.new hdz hz4⟩
    · rw [upd_same, hcd]; rfl
    · rw [upd_ne nrx, upd_ne nrx, upd_same, hlen, if_neg (by decide), row_new hdz]
theorem c_Room_made (T : Txt K mg) (R : RmT K mg C cB cR) (D : DefM K C "made" "Room.made" s_Room_made) (c_words_of : CalX P w K mg base "words_of" 3 ["things", "places"] (spWordsOf K cB)) (c_head_word : Cal P w K mg base "head_word" 1 ["many", "marked"] spHead) (c_Room_places : CalM P w K mg base C "places" 3 ["self"] (spPlacesM C)) :
    CalM P w K mg base C "made" 4 ["self", "things"] (spMade C cB cR K) := by
  refine CalM.of D sc_Room_made (fun vs H Q E h => ?_) (fun _ _ _ _ _ _ us hl => match us, hl with | [_, _], _ => rfl) (fun f cdv A outer s H vs Q E hr h => ?_)
  · obtain ⟨x, r, l, bs, sp, ws, ps, rfl, _⟩ := h; rfl
  · obtain ⟨x, r, l, bs, sp, ws, ps, rfl, Rm, hL, hA, hl, ho, kb, kr, kk⟩ := h
    have hu : _ + 64 < cLine := hr.units
    have hCl := R.cl
    have hNr := R.nr
    have hNu := R.nu
    obtain ⟨⟨dx, hX⟩, hR, hro⟩ := id Rm
    have hlr := rowAt_len bs sp
    have hsm := hro.small
    refine ⟨_, (pss_cons (ps_set (i := 2) sc_Room_made.nd rfl (Or.inl rfl) (pe_callCX c_words_of (hr.mono (by decide)) (passes_call (takes_of rfl rfl rfl rfl) (fun _ _ _ _ h => h)) rfl (pa_cons (pv 1) (pa_cons (pe_methC0 R.cl c_Room_places (hr.mono (by decide)) (passes_call (takes_of rfl rfl rfl rfl) (fun _ _ _ _ h => h)) (pv 0)) pa_nil))))
      (pss_cons (ps_set (i := 3) sc_Room_made.nd rfl (Or.inl rfl) (pe_fldK (K := K) rfl (pv 0) rfl))
      (pss_cons (ps_set (i := 4) sc_Room_made.nd rfl (Or.inl rfl) (pe_op op_addA (pe_op op_addA (pv 3) pe_int) (pe_callB (call_lenK (K := K) rfl) (by rfl) T.b_len (by decide +kernel) (pa_cons (pv 2) pa_nil))))
      (pss_cons (ps_if (pt_cmpR op_gt (pv 4) (pe_callB (call_lenK (K := K) rfl) (by rfl) T.b_len (by decide +kernel) (pa_cons (pe_fldK (K := K) rfl (pv 0) rfl) pa_nil)) (nomark _)) (pss_one (ps_raise rfl (takes_of rfl rfl rfl rfl) (pmk_own PySem.F.excBase_ValueError R.xNoRoom.xc R.xNoRoom.g R.xNoRoom.k (raises_own R.xNoRoom.b R.xNoRoom.t) rfl))) pss_nil)
      (pss_cons (ps_setSl (pe_fldK (K := K) rfl (pv 0) rfl) (po_some (pv 3)) (po_some (pv 4)) (pe_lst (pa_cons (pe_callC c_head_word (hr.mono (by decide)) rfl (pa_cons (pe_callB (call_lenK (K := K) rfl) (by rfl) T.b_len (by decide +kernel) (pa_cons (pv 2) pa_nil)) (pa_cons pe_bl pa_nil))) (pa_starK (K := K) rfl (pv 2) pa_nil))) rfl)
      (pss_cons (ps_fldK (K := K) rfl (pv 0) (pv 4) rfl)
      (pss_one (ps_ret (pv 3))))))))), ?_⟩
    repeat walk_at "t_w"
    refine w_placesM Rm fun q H2 hq e2 hq2 => ?_
    repeat walk_at "t_w"
    refine w_wordsOf ps (asI (places bs)) (by walk_at "t_sq") (hA.mono fun _ _ => PAt.ex (by walk_at "t_ex")) hl ho (by walk_at "t_sq") (fun hb H' e' => kb hb _ (by walk_at "t_ex")) fun hall lw H3 hlw e3 hlw3 => ?_
    have hpl : ps.length ≤ 1000 := by rw [← hA.length]; exact hl
    repeat walk_at "t_w"
    refine w_ite (fun hn => ?_) (fun hn => ?_)
    · repeat walk_at "t_w"
      refine kr hall ?_ _ (by walk_at "t_ex")
      simp only [List.length_map, hlr] at hn
      omega
    · simp only [List.length_map, hlr] at hn
      obtain ⟨fs, efs, hfs⟩ := pt_things ho hall
      have hfl : ps.length = fs.length := by rw [efs, List.length_map]
      have hwl : ((ps.map PT.word).map V.int).length = fs.length := by rw [List.length_map, List.length_map, hfl]
      repeat walk_at "t_w"
      rename_i H4 e4
      refine ⟨sz_of (by simp only [List.length_cons, List.length_append, List.length_nil, hwl]; omega), fun b hb => ?_⟩
      repeat walk_at "t_w"
      have hX4 : H4 x = some (.ins C dx [("_row", .ref r), ("_used", .int ((cells bs : Nat) : Int))]) := by walk_at "t_hp"
      have hR4 : H4 r = some (.lst ((rowAt bs sp).map V.int)) := by walk_at "t_hp"
      have nrb : r ≠ b := ne_of_none hR4 hb
      have nxb : x ≠ b := ne_of_none hX4 hb
      have nxr : x ≠ r := Rm.ne
      have hE4 : Ex H H4 := by walk_at "t_ex"
      rw [hwl]
      refine w_setSlE (hp_ne nrb hR4) upd_same nrb (by omega) (by omega) (by rw [List.length_map, hlr]; omega) (by simp only [List.length_map, List.length_append, List.length_singleton, List.length_nil, hlr, List.length_cons]; omega) ?_
      repeat walk_at "t_w"
      refine kk fs efs hfs (by omega) _ (Evl.Ex.mut (Evl.Ex.mut (off_ex.trans (hE4.trans (Evl.Ex.new hb))) (off_in (by simp))) (off_in (by simp))) ⟨⟨dx, ?_⟩, ?_, hro.made hfs (by omega)⟩
      · rw [upd_same, cells_snoc]
        show some (HO.ins C dx [("_row", V.ref r), ("_used", V.int (((cells bs : Nat) : Int) + 1 + (fs.length : Int)))]) = _
        rw [show ((cells bs + 1 + fs.length : Nat) : Int) = ((cells bs : Nat) : Int) + 1 + (fs.length : Int) by omega]
      · rw [upd_ne (Ne.symm nxr), upd_same, ← rowAt_made hro hfs (by omega), if_neg (by decide), efs, pts_words hfs, Int.toNat_natCast, show (((cells bs : Nat) : Int) + 1 + (fs.length : Int)).toNat = cells bs + 1 + fs.length by omega]
        rw [List.map_append, List.map_append, List.map_take, List.map_drop, List.append_nil]; rfl
theorem c_Room_put (T : Txt K mg) (R : RmT K mg C cB cR) (D : DefM K C "put" "Room.put" s_Room_put) (c_fields_of : Cal P w K mg base "fields_of" 1 ["head"] (spI1 gFields)) (c_is_whole : Cal P w K mg base "is_whole" 1 ["n"] spWhole) (c_words_of : CalX P w K mg base "words_of" 3 ["things", "places"] (spWordsOf K cB)) (c_Room_places : CalM P w K mg base C "places" 3 ["self"] (spPlacesM C)) (c_Room__require_box : CalM P w K mg base C "_require_box" 4 ["self", "place"] (spReq C cB)) :
    CalM P w K mg base C "put" 5 ["self", "place", "field", "thing"] (spPut C cB) := by
  refine CalM.of D sc_Room_put (fun vs H Q E h => ?_) (fun _ _ _ _ _ _ us hl => match us, hl with | [_, _, _, _], _ => rfl) (fun f cdv A outer s H vs Q E hr h => ?_)
  · obtain ⟨x, r, bs, sp, p, f, v, rfl, _⟩ := h; rfl
  · obtain ⟨x, r, bs, sp, p, fz, v, rfl, Rm, h1, h2, kb, kk⟩ := h
    have hu : _ + 64 < cLine := hr.units
    have hCl := R.cl
    have hNr := R.nr
    have hNu := R.nu
    obtain ⟨⟨dx, hX⟩, hR, hro⟩ := id Rm
    have hlr := rowAt_len bs sp
    have hsm := hro.small
    refine ⟨_, (pss_cons (ps_expr (pe_methC R.cl c_Room__require_box (hr.mono (by decide)) (passes_call (takes_of rfl rfl rfl rfl) (fun _ _ _ _ h => h)) (pv 0) (pa_cons (pv 1) pa_nil)))
      (pss_cons (ps_if (PW.pt (pw_or (pt_not (pt_val (pe_callC c_is_whole (hr.mono (by decide)) rfl (pa_cons (pv 2) pa_nil)))) (pw_or1 (pt_not (pt_chain op_le op_lt pe_int (pv 2) (pe_callC c_fields_of (hr.mono (by decide)) rfl (pa_cons (pe_ix (ix_seqK (K := K) rfl) (pe_fldK (K := K) rfl (pv 0) rfl) (pv 1) (fun _ _ => rfl)) pa_nil))))))) (pss_one ps_dead) pss_nil)
      (pss_cons (ps_set (i := 4) sc_Room_put.nd rfl (Or.inl rfl) (pe_callCX c_words_of (hr.mono (by decide)) (passes_call (takes_of rfl rfl rfl rfl) (fun _ _ _ _ h => h)) rfl (pa_cons (pe_lst (pa_cons (pv 3) pa_nil)) (pa_cons (pe_methC0 R.cl c_Room_places (hr.mono (by decide)) (passes_call (takes_of rfl rfl rfl rfl) (fun _ _ _ _ h => h)) (pv 0)) pa_nil))))
      (pss_one (ps_asg (pe_ix (ix_seqK (K := K) rfl) (pv 4) pe_int (fun _ _ => rfl)) (pg_sub (pe_fldK (K := K) rfl (pv 0) rfl) (pe_op op_addA (pe_op op_addA (pv 1) pe_int) (pv 2)) set_list)))))), ?_⟩
    repeat walk_at "t_w"
    refine w_req Rm h1 h2 kb fun hin H2 e2 => ?_
    obtain ⟨i, j, fs, t, rfl, hbi, rfl, hj, hv, ht, kq⟩ := kk hin
    have hi := (List.getElem?_eq_some_iff.mp hbi).1
    have hpl := pl_lt hi (Nat.le_refl _)
    rw [pl_all] at hpl
    have hst := pl_step hbi
    have hst2 : pl bs (i + 1) ≤ cells bs := by
      rcases Nat.lt_or_ge (i + 1) bs.length with q | q
      · have := pl_lt q (Nat.le_refl _); rw [pl_all] at this; omega
      · have : i + 1 = bs.length := by omega
        rw [this, pl_all]; exact Nat.le_refl _
    have hpr : pl bs i < (rowAt bs sp).length := by omega
    have hhd := rowAt_head (sp := sp) hbi
    have h0j : 0 ≤ (j : Int) := by omega
    have hjl : (j : Int) < (rowAt bs sp).getD (pl bs i) 0 / 4 := by rw [hhd]; omega
    repeat walk_at "t_w"
    refine w_whole (by rw [p60']; omega) (by rw [p60']; omega) fun H3 e3 => ?_
    repeat walk_at "t_w"
    rename_i H4 e4 q hq
    have hE4 : Ex H H4 := by walk_at "t_ex"
    have Rm4 : RoomAt C (upd H4 q (.lst [v])) x r bs sp := Rm.ex (by walk_at "t_ex")
    refine w_placesM Rm4 fun lp H5 hlp e5 hlp5 => ?_
    repeat walk_at "t_w"
    refine w_wordsOf [t.pt bs] (asI (places bs)) (SqL.of (e5 _ _ upd_same)) (.cons (hand_pt (hv.ex (by walk_at "t_ex"))) .nil) (by simp) (fun p hp => by rw [List.mem_singleton.mp hp]; exact pt_ok hro ht) (by walk_at "t_sq") (fun ⟨p, hp, h3, h4⟩ => absurd (by rw [List.mem_singleton.mp hp] at h3 ⊢; exact pt_in ht h3) h4) fun hall lw H6 hlw e6 hlw6 => ?_
    have hX6 : H6 x = some (.ins C dx [("_row", .ref r), ("_used", .int ((cells bs : Nat) : Int))]) := by walk_at "t_hp"
    have hR6 : H6 r = some (.lst ((rowAt bs sp).map V.int)) := by walk_at "t_hp"
    have hE6 : Ex H H6 := by walk_at "t_ex"
    have hlw7 : H6 lw = some (.lst [V.int (t.pt bs).word]) := hlw6
    clear hlw6
    have hix : ixN ((rowAt bs sp).map V.int).length (((pl bs i : Nat) : Int) + 1 + (j : Int)) = some (pl bs i + 1 + j) := by
      rw [show ((pl bs i : Nat) : Int) + 1 + (j : Int) = ((pl bs i + 1 + j : Nat) : Int) by omega]
      exact ixn_map (by omega)
    repeat walk_at "t_w"
    obtain ⟨s1, s2, s3⟩ := rowAt_set (sp := sp) (t := t) hbi hj
    refine kq _ (Evl.Ex.mut (off_ex.trans hE6) (off_in (by simp))) ⟨⟨dx, ?_⟩, ?_, hro.put hbi hj ht⟩
    · rw [upd_ne Rm.ne, s3]; exact hX6
    · rw [upd_same, map_set, pt_word ht, s1]
end
end Tw

set_option Elab.async false
set_option linter.all false
set_option maxRecDepth 100000
set_option maxHeartbeats 4000000
namespace Tw
open PySem PySem.Spec PyProof.Rows L2
open Evl (Ex ex_l ex_t fresh_back sz_of sz_lt)
local macro_rules | `(tactic| walk_at "t_hp") => `(tactic| first
  | assumption
  | exact upd_same
  | (refine' hp_ne ?hne ?hrest; (case hne => walk_at "t_ne"); (case hrest => walk_at "t_hp"))
  | (refine' hp_ex ?hx ?hrest; (case hx => assumption); (case hrest => walk_at "t_hp")))
local macro_rules | `(tactic| walk_at "t_ne") => `(tactic| first
  | assumption
  | exact Ne.symm (by assumption)
  | (refine' ne_of_none ?h1 ?h2; (case h2 => assumption); (case h1 => walk_at "t_hp"))
  | (refine' Ne.symm (ne_of_none ?h1 ?h2); (case h2 => assumption); (case h1 => walk_at "t_hp")))
local macro_rules | `(tactic| walk_at "t_none") => `(tactic| first
  | assumption
  | (refine' fresh_back ?e ?n; (case n => assumption); (case e => walk_at "t_ex")))
local macro_rules | `(tactic| walk_at "t_ex") => `(tactic| first
  | assumption
  | exact Evl.Ex.refl _
  | (refine' ex_new ?n ?e; (case n => assumption); (case e => walk_at "t_ex"))
  | (refine' Evl.Ex.mut ?e ?n; (case n => walk_at "t_none"); (case e => walk_at "t_ex"))
  | (refine' Evl.Ex.trans ?a ?b; (case b => assumption); (case a => walk_at "t_ex")))
local macro_rules | `(tactic| walk_at "t_sq") => `(tactic| first
  | assumption
  | (refine' SqL.of ?h; (case h => walk_at "t_hp"))
  | (refine' ex_l ?e ?s; (case s => assumption); (case e => walk_at "t_ex")))
local macro_rules | `(tactic| walk_at "t_sqt") => `(tactic| first
  | assumption
  | (refine' SqT.of ?h; (case h => walk_at "t_hp"))
  | (refine' ex_t ?e ?s; (case s => assumption); (case e => walk_at "t_ex")))
local macro_rules | `(tactic| walk_at "t_mul") => `(tactic| first
  | assumption
  | exact Or.inl (Or.inl ⟨by decide, by decide⟩)
  | exact Or.inl (Or.inr ⟨by decide, by decide⟩)
  | exact Or.inl (Or.inl ⟨by omega, by omega⟩)
  | exact Or.inl (Or.inr ⟨by omega, by omega⟩))
local macro_rules | `(tactic| walk_at "t_c") => `(tactic| first
  | assumption
  | decide
  | (show (0 : Int) < _; decide)
  | (show (0 : Int) < _; omega)
  | exact ⟨by decide, by decide⟩
  | exact ⟨by decide, by decide, by decide⟩
  | exact ⟨by omega, by omega⟩
  | exact ⟨by omega, by omega, by omega, by omega⟩)
local macro_rules | `(tactic| walk_at "t_w") => `(tactic| first
  | (with_reducible refine w_seq ?_)
  | (with_reducible refine w_asg ?_)
  | (with_reducible refine w_gName ?_)
  | (with_reducible refine w_nx ?_)
  | (with_reducible refine w_rt ?_)
  | (with_reducible refine w_ct ?_)
  | (with_reducible refine w_bk ?_)
  | (with_reducible refine w_ret ?_)
  | (with_reducible refine w_retN ?_)
  | (with_reducible refine w_drop ?_)
  | (with_reducible refine w_ifS ?_)
  | (with_reducible refine w_next ?_)
  | (with_reducible refine w_break ?_)
  | (with_reducible refine w_cont ?_)
  | ((with_reducible refine' w_var ?h ?_); (case h => rfl))
  | (with_reducible refine w_c ?_)
  | (with_reducible refine w_op ?_)
  | (with_reducible refine w_un ?_)
  | (with_reducible refine w_I0 ?_)
  | ((with_reducible refine' w_I ?c ?_); (case c => walk_at "t_c"))
  | (with_reducible refine w_U ?_)
  | (with_reducible refine w_addI ?_)
  | ((with_reducible refine' w_addL ?h1 ?h2 ?hz ?_); (case h1 => walk_at "t_hp"); (case h2 => walk_at "t_hp"); (case hz => walk_at "t_z"))
  | ((with_reducible refine' w_mulI ?c ?_); (case c => walk_at "t_mul"))
  | ((with_reducible refine' w_mulL1 ?h1 ?b1 ?b2 ?_); (case h1 => walk_at "t_hp"); (case b1 => walk_at "t_z"); (case b2 => walk_at "t_z"))
  | ((with_reducible refine' w_mulL ?h1 ?b1 ?b2 ?hz ?_); (case h1 => walk_at "t_hp"); (case b1 => walk_at "t_z"); (case b2 => walk_at "t_z"); (case hz => walk_at "t_z"))
  | (with_reducible refine w_notIB ?_)
  | (with_reducible refine w_notBB ?_)
  | (with_reducible refine w_notN ?_)
  | (with_reducible refine w_isBB ?_)
  | (with_reducible refine w_isN ?_)
  | (with_reducible refine w_eqI ?_)
  | (with_reducible refine w_neI ?_)
  | (with_reducible refine w_eqB ?_)
  | (with_reducible refine w_neB ?_)
  | (with_reducible refine w_eqS ?_)
  | (with_reducible refine w_neS ?_)
  | (with_reducible refine w_test ?_)
  | (with_reducible refine w_B ?_)
  | (with_reducible refine w_exB ?_)
  | (with_reducible refine w_and ?_)
  | (with_reducible refine w_or ?_)
  | (with_reducible refine w_not ?_)
  | (with_reducible refine w_andV ?_)
  | (with_reducible refine w_orV ?_)
  | (with_reducible refine w_notV ?_)
  | (with_reducible refine w_bl ?_)
  | (with_reducible refine w_if ?_)
  | (with_reducible refine w_nil ?_)
  | (with_reducible refine w_cons ?_)
  | (with_reducible refine w_cb ?_)
  | (with_reducible refine w_call ?_)
  | (with_reducible refine w_tup ?_)
  | (with_reducible refine w_lst ?_)
  | ((with_reducible refine' w_fin ?hz ?_); (case hz => (simp only [List.length_cons, List.length_nil]; decide)))
  | ((with_reducible refine' w_len ?s ?_); (case s => walk_at "t_sq"))
  | ((with_reducible refine' w_lenT ?s ?_); (case s => walk_at "t_sqt"))
  | (with_reducible refine w_intI ?_)
  | (with_reducible refine w_intB ?_)
  | ((with_reducible refine' w_list ?s ?_); (case s => walk_at "t_sq"))
  | (with_reducible refine w_max ?_)
  | (with_reducible refine w_min ?_)
  | (with_reducible refine w_abs ?_)
  | (with_reducible refine w_sl ?_)
  | (with_reducible refine w_noPart ?_)
  | (with_reducible refine w_part ?_)
  | (with_reducible refine w_exI ?_)
  | ((with_reducible refine' w_slL ?s ?_); (case s => walk_at "t_sq"))
  | ((with_reducible refine' w_ixLI ?s ?b ?_); (case s => walk_at "t_sq"); (case b => walk_at "t_lt"))
  | ((with_reducible refine' w_ixL ?s ?e ?_); (case s => walk_at "t_sq"); (case e => walk_at "t_at"))
  | ((with_reducible refine' w_ixT ?s ?e ?_); (case s => walk_at "t_sqt"); (case e => walk_at "t_at"))
  | (with_reducible refine w_gSub ?_)
  | ((with_reducible refine' w_setLI ?e ?b ?_); (case e => walk_at "t_hp"); (case b => walk_at "t_lt"))
  | ((with_reducible refine' w_setL ?e ?b ?_); (case e => walk_at "t_hp"); (case b => walk_at "t_ixn"))
  | (with_reducible refine w_bm ?_)
  | (with_reducible refine w_bm0 ?_)
  | ((with_reducible refine' w_tyL ?e ?_); (case e => walk_at "t_sq"))
  | ((with_reducible refine' w_app ?e ?hz ?_); (case e => walk_at "t_hp"); (case hz => walk_at "t_z"))
  | (with_reducible refine w_iteT ?_)
  | (with_reducible refine w_iteF ?_)
  | (with_reducible refine w_iteNT ?_)
  | (with_reducible refine w_iteNF ?_)
  | (with_reducible refine w_for ?_)
  | (with_reducible refine w_iList ?_)
  | ((with_reducible refine' w_exL ?s ?_); (case s => walk_at "t_sq"))
  | (with_reducible refine w_iTup ?_)
  | ((with_reducible refine' w_exT ?s ?_); (case s => walk_at "t_sqt"))
  | (with_reducible refine w_iRng1 ?_)
  | ((with_reducible refine w_exR1 ?b ?_); (case b => walk_at "t_c"))
  | (with_reducible refine w_iRng2 ?_)
  | ((with_reducible refine w_exR2 ?b ?_); (case b => walk_at "t_c"))
  | (with_reducible refine w_yes ?_)
  | ((with_reducible refine w_pos ?p ?_); (case p => walk_at "t_p"))
  | ((with_reducible refine w_neg ?p ?_); (case p => walk_at "t_p"))
  | ((with_reducible refine w_posN ?p ?_); (case p => walk_at "t_p"))
  | ((with_reducible refine w_negN ?p ?_); (case p => walk_at "t_p"))
  | ((with_reducible refine' w_notInL ?s ?_); (case s => walk_at "t_sq"))
  | ((with_reducible refine' w_inL ?s ?_); (case s => walk_at "t_sq"))
  | ((with_reducible refine' w_sum ?s ?_); (case s => walk_at "t_sq"))
  | (with_reducible refine w_isiI ?_)
  | ((with_reducible refine' w_isiL ?e ?_); (case e => walk_at "t_ty"))
  | ((with_reducible refine' w_isiT ?e ?_); (case e => walk_at "t_ty"))
  | (with_reducible intro p hp_new))
local macro_rules | `(tactic| walk_at "t_ty") => `(tactic| first | assumption | (refine' tyx_l ?e; (case e => walk_at "t_hp")) | (refine' tyx_t ?e; (case e => walk_at "t_hp")))
local macro_rules | `(tactic| walk_at "t_z") => `(tactic| first | assumption | decide | omega | (simp only [List.length_cons, List.length_nil, List.length_map, List.length_append, List.length_replicate]; first | done | decide | omega))
local macro_rules | `(tactic| walk_at "t_at") => `(tactic| first | assumption | rfl)
local macro_rules | `(tactic| walk_at "t_ixn") => `(tactic| first | assumption | rfl)
local macro_rules | `(tactic| walk_at "t_ev") => `(tactic| (intro H1 e Q q; (repeat walk_at "t_w"); exact q _ (by walk_at "t_ex")))
local macro_rules | `(tactic| walk_at "t_p") => `(tactic| first | assumption | decide | decide +kernel)
local macro_rules | `(tactic| walk_at "t_lt") => `(tactic| first | assumption | omega | (simp only [List.length_set, List.length_map, List.length_append]; first | assumption | omega))
local macro_rules | `(tactic| walk_at "t_w") => `(tactic| first
  | ((with_reducible refine' w_at ?s ?hl ?h0 ?_); (case s => walk_at "t_sq"); (case hl => walk_at "t_z"); (case h0 => walk_at "t_z"))
  | (with_reducible refine w_isInt ?_)
  | (with_reducible refine w_I1 ?_)
  | (with_reducible refine w_Head ?_)
  | ((with_reducible refine' w_number ?hb ?_); (case hb => walk_at "t_bits")))
local macro_rules | `(tactic| walk_at "t_bits") => `(tactic| assumption)
local macro_rules | `(tactic| walk_at "t_w") => `(tactic| first
  | (with_reducible refine w_tru ?_)
  | ((with_reducible refine' w_truL ?s ?_); (case s => walk_at "t_sq"))
  | (with_reducible refine w_dnew ?_)
  | (with_reducible refine w_disp1 ?_)
  | ((with_reducible refine' w_aug ?e ?_); (case e => rfl))
  | (with_reducible refine w_ipI ?_)
  | ((with_reducible refine' w_inD ?e ?_); (case e => walk_at "t_hp"))
  | ((with_reducible refine' w_notInD ?e ?_); (case e => walk_at "t_hp"))
  | (with_reducible refine w_dget ?_)
  | ((with_reducible refine' w_dgetE ?e ?hv ?_); (case e => walk_at "t_hp"); (case hv => walk_at "t_dv"))
  | (with_reducible refine w_dput ?_)
  | ((with_reducible refine' w_dputE ?e ?hl ?_); (case e => walk_at "t_hp"); (case hl => walk_at "t_z"))
  | ((with_reducible refine' w_extend ?e1 ?e2 ?hz ?_); (case e1 => walk_at "t_hp"); (case e2 => walk_at "t_hp"); (case hz => walk_at "t_z")))
local macro_rules | `(tactic| walk_at "t_dv") => `(tactic| assumption)
local macro_rules | `(tactic| walk_at "t_hp") => `(tactic| first
  | (with_reducible refine hp_off0 ?_; walk_at "t_hp")
  | ((with_reducible refine' hp_off1 ?hne ?hrest); (case hne => walk_at "t_ne"); (case hrest => walk_at "t_hp")))
local macro_rules | `(tactic| walk_at "t_w") => `(tactic| first
  | (with_reducible refine w_fld ?_)
  | ((with_reducible refine' w_fldE ?e ?c ?n ?l ?_); (case e => walk_at "t_hp"); (case c => assumption); (case n => assumption); (case l => rfl))
  | (with_reducible refine w_sfld ?_)
  | ((with_reducible refine' w_sfldE ?e ?c ?n ?l ?_); (case e => walk_at "t_hp"); (case c => assumption); (case n => assumption); (case l => first | decide | (show 1 < 1000; decide) | (show 2 < 1000; decide)))
  | (with_reducible refine w_setSl ?_)
  | (with_reducible refine w_make ?_)
  | ((with_reducible refine' w_gfld0 ?hv ?e ?c ?n ?l ?_); (case hv => rfl); (case e => walk_at "t_hp"); (case c => assumption); (case n => assumption); (case l => first | decide | (show 1 < 1000; decide) | (show 2 < 1000; decide)))
  | (with_reducible refine w_meth ?_)
  | (with_reducible refine w_methX ?_)
  | ((with_reducible refine' w_methE ?e ?l ?_); (case e => walk_at "t_hp"); (case l => rfl))
  | (with_reducible refine w_chain ?_)
  | ((with_reducible refine' w_gTup ?s ?l ?_); (case s => walk_at "t_sqt"); (case l => rfl))
  | (with_reducible refine w_gCons ?_)
  | (with_reducible refine w_gNil ?_)
  | (with_reducible refine w_star ?_)
  | ((with_reducible refine' w_starL ?s ?_); (case s => walk_at "t_sq"))
  | (with_reducible refine w_isiIB ?_)
  | (with_reducible refine w_isiS ?_))
abbrev s_law_places_of : Stmt := topS 33
theorem sc_law_places_of : FnScope ["_law_order", "_law_fields", "_law_found", "_law_at_here", "_law_one"] ["_law_order", "_law_fields"] (defScope s_law_places_of) := ⟨rfl, rfl, rfl, by decide +kernel, rfl, by decide +kernel, by decide +kernel⟩

abbrev s_law_thing : Stmt := topS 35
theorem sc_law_thing : FnScope ["_law_seed", "_law_order"] ["_law_seed", "_law_order"] (defScope s_law_thing) := ⟨rfl, rfl, rfl, by decide +kernel, rfl, by decide +kernel, by decide +kernel⟩

abbrev s_law_handed : Stmt := topS 36
theorem sc_law_handed : FnScope ["_law_thing_here", "_law_places"] ["_law_thing_here", "_law_places"] (defScope s_law_handed) := ⟨rfl, rfl, rfl, by decide +kernel, rfl, by decide +kernel, by decide +kernel⟩

abbrev s_law_come_to : Stmt := topS 37
theorem sc_law_come_to : FnScope ["_law_order", "_law_fields", "_law_found", "_law_turn", "_law_thing_here", "_law_one"] ["_law_order", "_law_fields"] (defScope s_law_come_to) := ⟨rfl, rfl, rfl, by decide +kernel, rfl, by decide +kernel, by decide +kernel⟩

theorem all2_choose {R : V → Thing → Prop} {n : Nat} : ∀ {ys : List V}, (∀ (i : Nat) (v : V), ys[i]? = some v → ∃ t, Thing.ok n t ∧ R v t) → ∃ fs, All2 R ys fs ∧ ∀ t ∈ fs, Thing.ok n t
  | [], _ => ⟨[], .nil, fun t h => nomatch h⟩
  | v :: ys, h => by
    obtain ⟨t, ht, r⟩ := h 0 v rfl
    obtain ⟨fs, ha, hf⟩ := all2_choose (ys := ys) fun i w e => h (i + 1) w e
    refine ⟨t :: fs, .cons r ha, fun u hu => ?_⟩
    rcases List.mem_cons.mp hu with rfl | hu
    · exact ht
    · exact hf u hu
theorem all2_pt {H : Hp} {bs : List (List Thing)} {ys : List V} {fs : List Thing} (h : All2 (HandAt H bs) ys fs) : All2 (PAt H) ys (fs.map (Thing.pt bs)) := by
  induction h with
  | nil => exact .nil
  | cons r _ ih => exact .cons (hand_pt r) ih
theorem small_bits {z : Int} (h : z.natAbs < 2 ^ 1000) : Builtin.Int.intBits z ≤ 3000000 := Nat.le_trans (lt_bits h) (by decide)
theorem lt1000 {z : Int} (h0 : 0 ≤ z) (h1 : z < 1000000000) : z.natAbs < 2 ^ 1000 := Nat.lt_trans (show z.natAbs < 1000000000 by omega) (by decide +kernel)
section
variable {C cB cR x r : Addr} {K : PySem.W.Frag} {H : Hp} {Q : VK} {E : XK} {bs : List (List Thing)} {sp : Nat}
theorem w_madeOk {l : Addr} {ws : List V} (fs : List Thing) (R : RoomAt C H x r bs sp) (hl : H l = some (.lst ws)) (ha : All2 (HandAt H bs) ws fs) (hf : ∀ t ∈ fs, Thing.ok bs.length t) (hz : 1 + fs.length ≤ sp)
    (k : ∀ H2, Ex (off [x, r] H) H2 → RoomAt C H2 x r (bs ++ [fs]) (sp - (1 + fs.length)) → Q (.int ((cells bs : Nat) : Int)) H2) : spMade C cB cR K (.ref x :: ([.ref l] ++ [])) H Q E := by
  have hin : ∀ p ∈ fs.map (Thing.pt bs), p.1 = true → p.2 ∈ asI (places bs) := fun p hp hb => by
    obtain ⟨t, ht, rfl⟩ := List.mem_map.mp hp
    exact pt_in (hf t ht) hb
  have hsm := R.ok.small
  refine ⟨x, r, l, bs, sp, ws, fs.map (Thing.pt bs), rfl, R, hl, all2_pt ha, by rw [ha.length]; omega, fun p hp => ?_, fun ⟨p, hp, h1, h2⟩ => absurd (hin p hp h1) h2, fun _ h => ?_, fun fs' e hf' hz' H2 e2 R2 => ?_⟩
  · obtain ⟨t, ht, rfl⟩ := List.mem_map.mp hp
    exact pt_ok R.ok (hf t ht)
  · rw [List.length_map] at h; omega
  · have : fs = fs' := by
      refine List.ext_getElem? fun i => ?_
      have h1 : (fs.map (Thing.pt bs))[i]? = (fs'.map (Thing.pt bs))[i]? := by rw [e]
      rw [List.getElem?_map, List.getElem?_map] at h1
      cases ha : fs[i]? with
      | none =>
        rw [ha] at h1
        cases hb : fs'[i]? with
        | none => rfl
        | some u => rw [hb] at h1; cases h1
      | some t =>
        rw [ha] at h1
        cases hb : fs'[i]? with
        | none => rw [hb] at h1; cases h1
        | some u =>
          rw [hb] at h1
          have h2 : t.pt bs = u.pt bs := Option.some.inj h1
          have ot := hf t (List.mem_of_getElem? ha)
          have ou := hf' u (List.mem_of_getElem? hb)
          cases t with
          | num a =>
            cases u with
            | num b => cases h2; rfl
            | box b => exact absurd (show false = true from congrArg Prod.fst h2) (by decide)
          | box a =>
            cases u with
            | num b => exact absurd (show true = false from congrArg Prod.fst h2) (by decide)
            | box b =>
              have h3 : ((pl bs a : Nat) : Int) = ((pl bs b : Nat) : Int) := congrArg Prod.snd h2
              have ha' : a < bs.length := ot
              have hb' : b < bs.length := ou
              rw [pl_inj (Nat.le_of_lt ha') (Nat.le_of_lt hb') (by omega)]
    subst this
    exact k H2 e2 R2
theorem place_bd {i : Nat} (R : RoomAt C H x r bs sp) (hi : i < bs.length) : -(10 ^ 60) < ((pl bs i : Nat) : Int) ∧ ((pl bs i : Nat) : Int) < 10 ^ 60 := pt_ok (t := .box i) R.ok hi
theorem w_toldOk {i : Nat} {fs : List Thing} (R : RoomAt C H x r bs sp) (hb : bs[i]? = some fs) (k : ∀ l ws H2, H l = none → Ex H H2 → H2 l = some (.lst ws) → All2 (HandAt H2 bs) ws fs → Q (.ref l) H2) : spTold C cB (.ref x :: ([.int ((pl bs i : Nat) : Int)] ++ [])) H Q E := by
  have hi := (List.getElem?_eq_some_iff.mp hb).1
  obtain ⟨h1, h2⟩ := place_bd R hi
  refine ⟨x, r, bs, sp, _, rfl, R, h1, h2, fun h => absurd (mem_places.mpr ⟨i, hi, rfl⟩) h, fun i' fs' e hb' => ?_⟩
  have : i = i' := pl_inj (Nat.le_of_lt hi) (Nat.le_of_lt (List.getElem?_eq_some_iff.mp hb').1) (by omega)
  subst this
  rw [hb] at hb'
  cases hb'
  exact k
theorem w_putOk {i j : Nat} {fs : List Thing} {v : V} (t : Thing) (R : RoomAt C H x r bs sp) (hb : bs[i]? = some fs) (hj : j < fs.length) (hv : HandAt H bs v t) (ht : t.ok bs.length) (k : ∀ H2, Ex (off [x, r] H) H2 → RoomAt C H2 x r (bs.set i (fs.set j t)) sp → Q .non H2) :
    spPut C cB (.ref x :: ([.int ((pl bs i : Nat) : Int), .int (j : Int), v] ++ [])) H Q E := by
  have hi := (List.getElem?_eq_some_iff.mp hb).1
  obtain ⟨h1, h2⟩ := place_bd R hi
  exact ⟨x, r, bs, sp, _, _, v, rfl, R, h1, h2, fun h => absurd (mem_places.mpr ⟨i, hi, rfl⟩) h, fun _ => ⟨i, j, fs, t, rfl, hb, rfl, hj, hv, ht, k⟩⟩
end
theorem nat_of {z : Int} (h : 0 ≤ z) : ∃ n : Nat, z = (n : Int) := ⟨z.toNat, by omega⟩
theorem idx_mod {s : Int} {n : Nat} (h : 0 < n) : ∃ j : Nat, s % (n : Int) = (j : Int) ∧ j < n := nat_mod h
/-! ### the law's own boxes: their names, their things -/
/-- the name of the k-th box -/
def nm (os : List Int) (k : Nat) : Int := os.getD k 0
def Thing.named (os : List Int) : Thing → List V
  | .num n => [.str "number", .int n]
  | .box k => [.str "box", .int (nm os k)]
def NamedAt (H : Hp) (os : List Int) (v : V) (t : Thing) : Prop := ∃ a, v = .ref a ∧ H a = some (.tup (t.named os))
theorem NamedAt.ex {H H' : Hp} {os : List Int} (x : Ex H H') {v : V} {t : Thing} : NamedAt H os v t → NamedAt H' os v t := fun ⟨a, e, h⟩ => ⟨a, e, x _ _ h⟩
def FldAt (H : Hp) (os : List Int) (v : V) (fs : List Thing) : Prop := ∃ l ws, v = .ref l ∧ H l = some (.lst ws) ∧ All2 (NamedAt H os) ws fs
theorem FldAt.ex {H H' : Hp} {os : List Int} (x : Ex H H') {v : V} {fs : List Thing} : FldAt H os v fs → FldAt H' os v fs := fun ⟨l, ws, e, h, a⟩ => ⟨l, ws, e, x _ _ h, a.mono fun _ _ => NamedAt.ex x⟩
/-- the dict of the fields -/
def FldOk (H : Hp) (kvs : List (Key × V)) (os : List Int) (bs : List (List Thing)) : Prop := ∀ k fs, bs[k]? = some fs → ∃ v, valV kvs (.inl (nm os k)) = some v ∧ FldAt H os v fs
theorem FldOk.ex {H H' : Hp} {kvs : List (Key × V)} {os : List Int} {bs : List (List Thing)} (x : Ex H H') (h : FldOk H kvs os bs) : FldOk H' kvs os bs := fun k fs e => by
  obtain ⟨v, h1, h2⟩ := h k fs e
  exact ⟨v, h1, h2.ex x⟩
/-- names, one for each box, none twice, the door's 0 -/
structure NamesOk (os : List Int) (n : Nat) : Prop where
  len : os.length = n
  nd : os.Nodup
  zero : os[0]? = some 0
theorem NamesOk.inj {os : List Int} {n : Nat} (h : NamesOk os n) {i j : Nat} (hi : i < n) (hj : j < n) (e : nm os i = nm os j) : i = j := by
  have l := h.len
  have hi' : os[i]? = some os[i] := List.getElem?_eq_getElem (by omega)
  have hj' : os[j]? = some os[j] := List.getElem?_eq_getElem (by omega)
  unfold nm at e
  rw [List.getD_eq_getElem?_getD, List.getD_eq_getElem?_getD, hi', hj'] at e
  exact (List.getElem_inj h.nd).mp e
theorem NamesOk.get {os : List Int} {n : Nat} (h : NamesOk os n) {i : Nat} (hi : i < n) : os[i]? = some (nm os i) := by
  have l := h.len
  unfold nm
  rw [List.getD_eq_getElem?_getD, List.getElem?_eq_getElem (by omega)]; rfl
theorem NamesOk.nm0 {os : List Int} {n : Nat} (h : NamesOk os n) : nm os 0 = 0 := by
  unfold nm; rw [List.getD_eq_getElem?_getD, h.zero]; rfl
/-- the dict of the places -/
def PlD (os : List Int) (bs : List (List Thing)) (n : Nat) (kvs : List (Key × V)) : Prop := kvs.length ≤ n ∧ ∀ k, k < n → valV kvs (.inl (nm os k)) = some (.int ((pl bs k : Nat) : Int))
def spPlacesOf (K : PySem.W.Frag) : Sp := fun vs H Q _ => ∃ (o d : Addr) (os : List Int) (kvs : List (Key × V)) (bs : List (List Thing)), vs = [.ref o, .ref d] ∧ SqL K H o (os.map V.int) ∧ H d = some (.dK kvs) ∧ FldOk H kvs os bs ∧ NamesOk os bs.length ∧ bs.length ≤ 1000 ∧
  ∀ kv2, PlD os bs bs.length kv2 → ∀ p H2, H p = none → Ex H H2 → H2 p = some (.dK kv2) → Q (.ref p) H2
theorem w_placesOf {K : PySem.W.Frag} {H : Hp} {Q : VK} {E : XK} {o d : Addr} {os : List Int} {kvs : List (Key × V)} {bs : List (List Thing)} (s : SqL K H o (os.map V.int)) (e : H d = some (.dK kvs)) (f : FldOk H kvs os bs) (n : NamesOk os bs.length) (hl : bs.length ≤ 1000)
    (k : ∀ kv2, PlD os bs bs.length kv2 → ∀ p H2, H p = none → Ex H H2 → H2 p = some (.dK kv2) → Q (.ref p) H2) : spPlacesOf K ([.ref o, .ref d] ++ []) H Q E := ⟨o, d, os, kvs, bs, rfl, s, e, f, n, hl, k⟩
def spCellsOf (K : PySem.W.Frag) : Sp := fun vs H Q _ => ∃ (o d : Addr) (os : List Int) (kvs : List (Key × V)) (bs : List (List Thing)) (sp : Nat), vs = [.ref o, .ref d, .int ((cells bs + sp : Nat) : Int)] ∧ SqL K H o (os.map V.int) ∧ H d = some (.dK kvs) ∧ FldOk H kvs os bs ∧ NamesOk os bs.length ∧ RowOk bs sp ∧ Evl.RetL ((rowAt bs sp).map V.int) H Q
theorem w_cellsOf {K : PySem.W.Frag} {H : Hp} {Q : VK} {E : XK} {o d : Addr} {os : List Int} {kvs : List (Key × V)} {bs : List (List Thing)} {sp : Nat} (s : SqL K H o (os.map V.int)) (e : H d = some (.dK kvs)) (f : FldOk H kvs os bs) (n : NamesOk os bs.length) (r : RowOk bs sp)
    (k : ∀ p H2, H p = none → Ex H H2 → H2 p = some (.lst ((rowAt bs sp).map V.int)) → Q (.ref p) H2) : spCellsOf K ([.ref o, .ref d, .int ((cells bs + sp : Nat) : Int)] ++ []) H Q E := ⟨o, d, os, kvs, bs, sp, rfl, s, e, f, n, r, k⟩
def spThingN (K : PySem.W.Frag) : Sp := fun vs H Q _ => ∃ (s : Int) (q : Addr) (os : List Int) (n : Nat), vs = [.int s, .ref q] ∧ 0 ≤ s ∧ s < 1000000 ∧ SqL K H q (os.map V.int) ∧ NamesOk os n ∧ 1 ≤ n ∧
  ∀ t a H2, Thing.ok n t → H a = none → Ex H H2 → H2 a = some (.tup (t.named os)) → Q (.ref a) H2
theorem w_thingN {K : PySem.W.Frag} {H : Hp} {Q : VK} {E : XK} {s : Int} {q : Addr} {os : List Int} (n : Nat) (h0 : 0 ≤ s) (h1 : s < 1000000) (hq : SqL K H q (os.map V.int)) (ho : NamesOk os n) (hb : 1 ≤ n)
    (k : ∀ t a H2, Thing.ok n t → H a = none → Ex H H2 → H2 a = some (.tup (t.named os)) → Q (.ref a) H2) : spThingN K ([.int s, .ref q] ++ []) H Q E := ⟨s, q, os, n, rfl, h0, h1, hq, ho, hb, k⟩
def spHanded : Sp := fun vs H Q _ => ∃ (v : V) (d : Addr) (kv2 : List (Key × V)) (os : List Int) (bs : List (List Thing)) (t : Thing), vs = [v, .ref d] ∧ H d = some (.dK kv2) ∧ PlD os bs bs.length kv2 ∧ NamedAt H os v t ∧ t.ok bs.length ∧
  ∀ v2 H2, Ex H H2 → HandAt H2 bs v2 t → Q v2 H2
theorem w_handed {H : Hp} {Q : VK} {E : XK} {v : V} {d : Addr} {kv2 : List (Key × V)} {os : List Int} {bs : List (List Thing)} (t : Thing) (e : H d = some (.dK kv2)) (p : PlD os bs bs.length kv2) (n : NamedAt H os v t) (ht : t.ok bs.length)
    (k : ∀ v2 H2, Ex H H2 → HandAt H2 bs v2 t → Q v2 H2) : spHanded ([v, .ref d] ++ []) H Q E := ⟨v, d, kv2, os, bs, t, rfl, e, p, n, ht, k⟩
def spComeToN (K : PySem.W.Frag) : Sp := fun vs H Q _ => ∃ (o d : Addr) (os : List Int) (kvs : List (Key × V)) (bs : List (List Thing)) (sp : Nat), vs = [.ref o, .ref d] ∧ SqL K H o (os.map V.int) ∧ H d = some (.dK kvs) ∧ FldOk H kvs os bs ∧ NamesOk os bs.length ∧ RowOk bs sp ∧ ∀ al, AliveOk bs al → Evl.RetL ((al.map (nm os)).map V.int) H Q
theorem w_comeToN {K : PySem.W.Frag} {H : Hp} {Q : VK} {E : XK} {o d : Addr} {os : List Int} {kvs : List (Key × V)} {bs : List (List Thing)} (sp : Nat) (s : SqL K H o (os.map V.int)) (e : H d = some (.dK kvs)) (f : FldOk H kvs os bs) (n : NamesOk os bs.length) (r : RowOk bs sp)
    (k : ∀ al, AliveOk bs al → ∀ p H2, H p = none → Ex H H2 → H2 p = some (.lst ((al.map (nm os)).map V.int)) → Q (.ref p) H2) : spComeToN K ([.ref o, .ref d] ++ []) H Q E := ⟨o, d, os, kvs, bs, sp, rfl, s, e, f, n, r, k⟩
theorem os_get {os : List Int} {i : Nat} {x : V} (h : (os.map V.int)[i]? = some x) : x = .int (nm os i) ∧ i < os.length := by
  rw [List.getElem?_map] at h
  cases e : os[i]? with
  | none => rw [e] at h; cases h
  | some z =>
    rw [e] at h
    refine ⟨?_, (List.getElem?_eq_some_iff.mp e).1⟩
    unfold nm
    rw [List.getD_eq_getElem?_getD, e]
    exact (Option.some.inj h).symm
/-- what stands while the law goes from the door: fs what is found, the first t of it gone through -/
structure Found (bs : List (List Thing)) (t : Nat) (fs : List Nat) : Prop where
  nd : fs.Nodup
  zero : fs[0]? = some 0
  lt : ∀ k ∈ fs, k < bs.length
  re : ∀ k ∈ fs, Reach bs k
  cl : ∀ i k q, i < t → fs[i]? = some k → Edge bs k q → q ∈ fs
theorem Found.all {bs : List (List Thing)} {fs : List Nat} (h : Found bs bs.length fs) {k : Nat} (r : Reach bs k) : k ∈ fs := by
  have hf := nodup_few h.nd h.lt
  induction r with
  | door => exact List.mem_of_getElem? h.zero
  | step _ e ih =>
    obtain ⟨i, hi⟩ := List.getElem?_of_mem ih
    exact h.cl i _ _ (by have := (List.getElem?_eq_some_iff.mp hi).1; omega) hi e
theorem Found.join {bs : List (List Thing)} {t : Nat} {gs : List Nat} (G : Found bs t gs) {c k : Nat} (hgc : gs[t]? = some c) (e : Edge bs c k) (hk : k < bs.length) (hn : k ∉ gs) : Found bs t (gs ++ [k]) := by
  have htl := (List.getElem?_eq_some_iff.mp hgc).1
  refine ⟨?_, ?_, ?_, ?_, ?_⟩
  · exact List.nodup_append.mpr ⟨G.nd, by simp, fun a ha b hb e => hn (by rw [List.mem_singleton] at hb; rw [← hb, ← e]; exact ha)⟩
  · rw [List.getElem?_append_left (by have := (List.getElem?_eq_some_iff.mp G.zero).1; omega)]; exact G.zero
  · intro x hx
    rcases List.mem_append.mp hx with e | e
    · exact G.lt x e
    · rw [List.mem_singleton.mp e]; exact hk
  · intro x hx
    rcases List.mem_append.mp hx with q | q
    · exact G.re x q
    · rw [List.mem_singleton.mp q]
      exact .step (G.re c (List.mem_of_getElem? hgc)) e
  · intro i x q' hi hx e
    rw [List.getElem?_append_left (by omega)] at hx
    exact List.mem_append_left _ (G.cl i x q' hi hx e)
theorem mem_nm {os : List Int} {n : Nat} (h : NamesOk os n) {gs : List Nat} (hg : ∀ k ∈ gs, k < n) {k : Nat} (hk : k < n) : nm os k ∈ gs.map (nm os) ↔ k ∈ gs := by
  constructor
  · intro hm
    obtain ⟨j, hj, e⟩ := List.mem_map.mp hm
    rw [← h.inj (hg j hj) hk e]; exact hj
  · exact fun h => List.mem_map.mpr ⟨k, h, rfl⟩
theorem nm_snoc (os : List Int) (gs : List Nat) (k : Nat) : (gs.map (nm os)).map V.int ++ [V.int (nm os k)] = ((gs ++ [k]).map (nm os)).map V.int := by
  rw [List.map_append, List.map_append]; rfl
section
variable {P : Program} {w : World} {K : PySem.W.Frag} {mg : Str → Option Value} {base : Heap}
theorem c_law_places_of (T : Txt K mg) (D : DefAt K mg "_law_places_of" "_law_places_of" s_law_places_of) : Cal P w K mg base "_law_places_of" 1 ["_law_order", "_law_fields"] (spPlacesOf K) := by
  refine Cal.of D sc_law_places_of (fun vs H Q E h => ?_) (fun _ _ _ _ _ _ us hl => match us, hl with | [_, _], _ => rfl) (fun f cdv A outer s H vs Q E hr h => ?_)
  · obtain ⟨o, d, os, kvs, bs, rfl, _⟩ := h; rfl
  · obtain ⟨o, d, os, kvs, bs, rfl, hO, hD, hF, hN, hl, k⟩ := h
    have hu : _ + 64 < cLine := hr.units
    refine ⟨_, (pss_cons (ps_set (i := 2) sc_law_places_of.nd rfl (Or.inl rfl) pe_dnewK)
      (pss_cons (ps_set (i := 3) sc_law_places_of.nd rfl (Or.inl rfl) pe_int)
      (pss_cons (ps_for (PassesOwn.never) rfl (pi_listK (K := K) rfl (pv 0)) (pg_name (i := 4) sc_law_places_of.nd rfl (Or.inl rfl)) (pss_cons (ps_dput (hu1 hu) (pv 2) (pv 4) (pv 3) rfl)
      (pss_one (ps_set (i := 3) sc_law_places_of.nd rfl (Or.inl rfl) (pe_op op_addA (pe_op op_addA (pv 3) pe_int) (pe_callB (call_lenK (K := K) rfl) (by rfl) T.b_len (by decide +kernel) (pa_cons (pe_dget (hu1 hu) (pv 1) (pv 4) (fun _ _ => rfl)) pa_nil)))))))
      (pss_one (ps_ret (pv 2)))))), ?_⟩
    repeat walk_at "t_w"
    rename_i g hg
    have ndg : d ≠ g := ne_of_none hD hg
    refine loopL (xs := os.map V.int) (fun j σ' H' => ∃ (kv2 : List (Key × V)) (y : Option V), σ' = [some (.ref o), some (.ref d), some (.ref g), some (.int ((pl bs j : Nat) : Int)), y] ∧ Ex H H' ∧ H' g = some (.dK kv2) ∧ PlD os bs j kv2) ?_ ?_ ?_ ?_
    · exact ⟨[], none, rfl, by walk_at "t_ex", upd_same, Nat.le_refl _, fun k hk => absurd hk (Nat.not_lt_zero _)⟩
    · rintro j σ' H' _ ⟨kv2, y, rfl, hE, _⟩
      exact ex_l hE hO
    · rintro j x σ' H' hj ⟨kv2, y, rfl, hE, hG, hP⟩
      obtain ⟨rfl, hjl⟩ := os_get hj
      rw [hN.len] at hjl
      obtain ⟨fs, hfs⟩ : ∃ fs, bs[j]? = some fs := ⟨_, List.getElem?_eq_getElem hjl⟩
      obtain ⟨v, hv, l, ws, rfl, hl2, hA⟩ := hF j fs hfs
      have hz1 : kv2.length < 1000000 := by have := hP.1; omega
      have hl3 : H' l = some (.lst ws) := hE _ _ hl2
      have nlg : l ≠ g := ne_of_none hl2 hg
      have hD' : H' d = some (.dK kvs) := hE _ _ hD
      repeat walk_at "t_w"
      have em : ((pl bs j : Nat) : Int) + 1 + (ws.length : Int) = ((pl bs (j + 1) : Nat) : Int) := by rw [pl_step hfs, hA.length]; omega
      refine ⟨_, _, by rw [← em]; rfl, by walk_at "t_ex", upd_same, ?_, fun k hk => ?_⟩
      · have := length_putK kv2 (.inl (nm os j)) (.int ((pl bs j : Nat) : Int)); have := hP.1; omega
      · rw [valV_putI]
        by_cases e : k = j
        · subst e; rw [if_pos rfl]
        · rw [if_neg (fun z => e (hN.inj (by omega) hjl z))]
          exact hP.2 k (by omega)
    · rintro σ' H' ⟨kv2, y, rfl, hE, hG, hP⟩
      rw [List.length_map, hN.len] at hP
      repeat walk_at "t_w"
      exact k kv2 hP _ _ hg hE hG
theorem c_law_thing (T : Txt K mg) (D : DefAt K mg "_law_thing" "_law_thing" s_law_thing) (c_law_number : Cal P w K mg base "_law_number" 1 ["_law_seed"] spNumber) : Cal P w K mg base "_law_thing" 2 ["_law_seed", "_law_order"] (spThingN K) := by
  refine Cal.of D sc_law_thing (fun vs H Q E h => ?_) (fun _ _ _ _ _ _ us hl => match us, hl with | [_, _], _ => rfl) (fun f cdv A outer s H vs Q E hr h => ?_)
  · obtain ⟨s, q, os, n, rfl, _⟩ := h; rfl
  · obtain ⟨s, q, os, n, rfl, h0, h1, hq, hN, hb, k⟩ := h
    have hu : _ + 64 < cLine := hr.units
    have hb3 : Builtin.Int.intBits (s / 3) ≤ 3000000 := small_bits (lt1000 (by omega) (by omega))
    refine ⟨_, (pss_cons (ps_if (pt_cmpR (op_eqK (K := K) rfl hu) (pe_op op_mod (pv 0) pe_int) pe_int (nomark _)) (pss_one (ps_ret (pe_tup (pa_cons pe_str (pa_cons (pe_callC c_law_number (hr.mono (by decide)) rfl (pa_cons (pe_op op_fdiv (pv 0) pe_int) pa_nil)) pa_nil))))) pss_nil)
      (pss_one (ps_ret (pe_tup (pa_cons pe_str (pa_cons (pe_ix (ix_seqK (K := K) rfl) (pv 1) (pe_op op_mod (pe_op op_fdiv (pv 0) pe_int) (pe_callB (call_lenK (K := K) rfl) (by rfl) T.b_len (by decide +kernel) (pa_cons (pv 1) pa_nil))) (fun _ _ => rfl)) pa_nil)))))), ?_⟩
    repeat walk_at "t_w"
    refine w_ite (fun h2 => ?_) (fun h2 => ?_)
    · repeat walk_at "t_w"
      exact k (.num (lawNum (s / 3))) _ _ (lawNum_lt _) (by walk_at "t_none") (by walk_at "t_ex") upd_same
    · have hln : ((os.map V.int).length : Int) = (n : Int) := by rw [List.length_map, hN.len]
      have hp0 : (0 : Int) < ((os.map V.int).length : Int) := by rw [hln]; omega
      repeat walk_at "t_w"
      rw [hln]
      obtain ⟨j, ej, hj⟩ := idx_mod (s := s / 3) (n := n) (by omega)
      rw [ej]
      have hjl : j < os.length := by rw [hN.len]; exact hj
      repeat walk_at "t_w"
      exact k (.box j) _ _ hj (by walk_at "t_none") (by walk_at "t_ex") upd_same
theorem c_law_handed (T : Txt K mg) (D : DefAt K mg "_law_handed" "_law_handed" s_law_handed) : Cal P w K mg base "_law_handed" 1 ["_law_thing_here", "_law_places"] spHanded := by
  refine Cal.of D sc_law_handed (fun vs H Q E h => ?_) (fun _ _ _ _ _ _ us hl => match us, hl with | [_, _], _ => rfl) (fun f cdv A outer s H vs Q E hr h => ?_)
  · obtain ⟨v, d, kv2, os, bs, t, rfl, _⟩ := h; rfl
  · obtain ⟨v, d, kv2, os, bs, t, rfl, hd, hP, ⟨a, rfl, ha⟩, ht, k⟩ := h
    have hu : _ + 64 < cLine := hr.units
    refine ⟨_, (pss_cons (ps_if (pt_cmpR (op_eqK (K := K) rfl hu) (pe_ix (ix_seqK (K := K) rfl) (pv 0) pe_int (fun _ _ => rfl)) pe_str (nomark _)) (pss_one (ps_ret (pv 0))) pss_nil)
      (pss_one (ps_ret (pe_tup (pa_cons pe_str (pa_cons (pe_dget (hu1 hu) (pv 1) (pe_ix (ix_seqK (K := K) rfl) (pv 0) pe_int (fun _ _ => rfl)) (fun _ _ => rfl)) pa_nil)))))), ?_⟩
    cases t with
    | num n =>
      have ha : H a = some (.tup [.str "number", .int n]) := ha
      repeat walk_at "t_w"
      exact k _ _ (by walk_at "t_ex") ⟨a, rfl, by walk_at "t_hp"⟩
    | box q =>
      have ha : H a = some (.tup [.str "box", .int (nm os q)]) := ha
      have hv := hP.2 q ht
      repeat walk_at "t_w"
      exact k _ _ (by walk_at "t_ex") ⟨_, rfl, upd_same⟩
theorem c_law_come_to (T : Txt K mg) (D : DefAt K mg "_law_come_to" "_law_come_to" s_law_come_to) : Cal P w K mg base "_law_come_to" 1 ["_law_order", "_law_fields"] (spComeToN K) := by
  refine Cal.of D sc_law_come_to (fun vs H Q E h => ?_) (fun _ _ _ _ _ _ us hl => match us, hl with | [_, _], _ => rfl) (fun f cdv A outer s H vs Q E hr h => ?_)
  · obtain ⟨o, d, os, kvs, bs, sp, rfl, _⟩ := h; rfl
  · obtain ⟨o, d, os, kvs, bs, sp, rfl, hO, hD, hF, hN, hro, k⟩ := h
    have hu : _ + 64 < cLine := hr.units
    have hfew := hro.few
    have hone := hro.one
    have hlm : (os.map V.int).length ≤ 1000 := by rw [List.length_map, hN.len]; omega
    refine ⟨_, (pss_cons (ps_set (i := 2) sc_law_come_to.nd rfl (Or.inr rfl) (pe_lst (pa_cons pe_int pa_nil)))
      (pss_cons (ps_for (PassesOwn.never) rfl (pi_range1 rfl T.b_range (pa_cons (pe_callB (call_lenK (K := K) rfl) (by rfl) T.b_len (by decide +kernel) (pa_cons (pv 0) pa_nil)) pa_nil)) (pg_name (i := 3) sc_law_come_to.nd rfl (Or.inl rfl)) (pss_one (ps_if (pt_cmpR op_lt (pv 3) (pe_callB (call_lenK (K := K) rfl) (by rfl) T.b_len (by decide +kernel) (pa_cons (pv 2) pa_nil)) (nomark _)) (pss_one (ps_for (PassesOwn.never) rfl (pi_listK (K := K) rfl (pe_dget (hu1 hu) (pv 1) (pe_ix (ix_seqK (K := K) rfl) (pv 2) (pv 3) (fun _ _ => rfl)) (fun _ _ => rfl))) (pg_name (i := 4) sc_law_come_to.nd rfl (Or.inl rfl)) (pss_one (ps_if (PW.pt (pw_and (pt_cmpR (op_eqK (K := K) rfl hu) (pe_ix (ix_seqK (K := K) rfl) (pv 4) pe_int (fun _ _ => rfl)) pe_str (nomark _)) (pw_and1 (pt_cmpR (op_notInK (K := K) rfl) (pe_ix (ix_seqK (K := K) rfl) (pv 4) pe_int (fun _ _ => rfl)) (pv 2) (by rfl))))) (pss_one (ps_set (i := 2) sc_law_come_to.nd rfl (Or.inr rfl) (pe_op op_addA (pv 2) (pe_lst (pa_cons (pe_ix (ix_seqK (K := K) rfl) (pv 4) pe_int (fun _ _ => rfl)) pa_nil))))) pss_nil)))) pss_nil)))
      (pss_one (ps_ret (pe_lc (own := [("_law_one", 5)]) (g := (gName 5)) rfl sc_law_come_to.nd (pi_listK (K := K) rfl (pv 0)) (blkOk_by (own := [("_law_one", 5)]) (N := ["_law_order", "_law_fields", "_law_found", "_law_turn", "_law_thing_here", "_law_one"]) (sc := defScope s_law_come_to) (by decide +kernel)) (fun _ _ _ _ _ => (pg_name (i := 5) sc_law_come_to.nd rfl (Or.inl rfl))) (fun _ _ _ _ _ => (pts_one (pt_cmpR (op_inK (K := K) rfl) (pv 5) (pv 2) (by rfl)))) (fun _ _ _ _ _ => (pv 5))))))), ?_⟩
    repeat walk_at "t_w"
    rename_i l0 hl0
    refine loopR (fun t σ' H' => ∃ (fs : List Nat) (l : Addr) (y3 y4 : Option V), σ' = [some (.ref o), some (.ref d), some (.ref l), y3, y4, none] ∧ Ex H H' ∧ H' l = some (.lst ((fs.map (nm os)).map V.int)) ∧ Found bs t fs) ?_ ?_ ?_
    · refine ⟨[0], l0, none, none, rfl, by walk_at "t_ex", ?_, ⟨by simp, rfl, ?_, ?_, fun i k q hi => absurd hi (Nat.not_lt_zero _)⟩⟩
      · rw [upd_same]
        show some (HO.lst [V.int 0]) = some (HO.lst [V.int (nm os 0)])
        rw [hN.nm0]
      · intro k hk; rw [List.mem_singleton.mp hk]; exact hone
      · intro k hk; rw [List.mem_singleton.mp hk]; exact .door
    · rintro t σ' H' ht ⟨fs, l, y3, y4, rfl, hE, hL, Fd⟩
      have hfl := nodup_few Fd.nd Fd.lt
      repeat walk_at "t_w"
      rw [List.length_map, List.length_map]
      refine w_ite (fun h1 => ?_) (fun h1 => ?_)
      · obtain ⟨c, hc⟩ : ∃ c, fs[t]? = some c := ⟨fs[t], List.getElem?_eq_getElem (by omega)⟩
        have hat : atI ((fs.map (nm os)).map V.int) (0 + (t : Int)) = some (.int (nm os c)) := by
          rw [Int.zero_add]
          refine atI_nat ?_
          rw [List.getElem?_map, List.getElem?_map, hc]; rfl
        have hcl : c < bs.length := Fd.lt c (List.mem_of_getElem? hc)
        have hbc : bs[c]? = some bs[c] := List.getElem?_eq_getElem hcl
        obtain ⟨v, hv, p, vs, rfl, hp, hvs⟩ := hF c _ hbc
        repeat walk_at "t_w"
        refine loopL (xs := vs) (fun j σ' H'' => ∃ (gs : List Nat) (l : Addr) (y4 : Option V), σ' = [some (.ref o), some (.ref d), some (.ref l), some (.int (0 + (t : Int))), y4, none] ∧ Ex H H'' ∧ H'' l = some (.lst ((gs.map (nm os)).map V.int)) ∧ Found bs t gs ∧ gs[t]? = some c ∧ ∀ q, Thing.box q ∈ (bs[c]).take j → q ∈ gs) ?_ ?_ ?_ ?_
        · exact ⟨fs, l, y4, rfl, by walk_at "t_ex", hL, Fd, hc, fun q hq => by simp at hq⟩
        · rintro j σ' H3 _ ⟨gs, l, y4, rfl, hE3, _⟩
          exact SqL.of (hE3 _ _ hp)
        · rintro j x σ' H3 hj ⟨gs, l, y4, rfl, hE3, hL3, G, hgc, hq⟩
          obtain ⟨th, hth, q, rfl, hq3⟩ := hvs.get hj
          have hgl := nodup_few G.nd G.lt
          cases th with
          | num n =>
            have hq3 : H q = some (.tup [.str "number", .int n]) := hq3
            repeat walk_at "t_w"
            refine ⟨gs, l, _, rfl, hE3, hL3, G, hgc, fun q' hq' => ?_⟩
            rw [take_snoc hth] at hq'
            exact hq q' (by simpa using hq')
          | box k' =>
            have hq3 : H q = some (.tup [.str "box", .int (nm os k')]) := hq3
            have hk' : k' < bs.length := hro.ok _ (List.getElem_mem hcl) _ (List.mem_of_getElem? hth)
            have hz2 : ((gs.map (nm os)).map V.int).length + [V.int (nm os k')].length ≤ 1000000 := by rw [List.length_map, List.length_map]; show gs.length + 1 ≤ _; omega
            repeat walk_at "t_w"
            refine w_iteN (fun h2 => ?_) (fun h2 => ?_)
            · have hn : k' ∉ gs := fun e => h2 ((mem_nm hN G.lt hk').mpr e)
              repeat walk_at "t_w"
              refine ⟨gs ++ [k'], _, _, rfl, by walk_at "t_ex", by rw [upd_same]; exact congrArg (fun l => some (HO.lst l)) (nm_snoc os gs k'), G.join hgc ⟨_, hbc, List.mem_of_getElem? hth⟩ hk' hn, ?_, ?_⟩
              · have htl := (List.getElem?_eq_some_iff.mp hgc).1
                rw [List.getElem?_append_left htl]; exact hgc
              · intro q' hq'
                rw [take_snoc hth] at hq'
                rcases List.mem_append.mp hq' with e | e
                · exact List.mem_append_left _ (hq q' e)
                · have : q' = k' := by simpa using e
                  rw [this]; simp
            · have hn : k' ∈ gs := (mem_nm hN G.lt hk').mp h2
              repeat walk_at "t_w"
              refine ⟨gs, l, _, rfl, hE3, hL3, G, hgc, fun q' hq' => ?_⟩
              rw [take_snoc hth] at hq'
              rcases List.mem_append.mp hq' with e | e
              · exact hq q' e
              · have : q' = k' := by simpa using e
                rw [this]; exact hn
        · rintro σ' H3 ⟨gs, l, y4, rfl, hE3, hL3, G, hgc, hq⟩
          repeat walk_at "t_w"
          refine ⟨gs, l, _, _, rfl, hE3, hL3, ⟨G.nd, G.zero, G.lt, G.re, ?_⟩⟩
          intro i x q' hi hx e
          by_cases hit : i < t
          · exact G.cl i x q' hit hx e
          · have : i = t := by omega
            subst this
            rw [hgc] at hx
            cases hx
            obtain ⟨fl, hfl2, hb⟩ := e
            rw [hbc] at hfl2
            cases hfl2
            exact hq q' (by rw [hvs.length, List.take_length]; exact hb)
      · repeat walk_at "t_w"
        refine ⟨fs, l, _, _, rfl, hE, hL, ⟨Fd.nd, Fd.zero, Fd.lt, Fd.re, ?_⟩⟩
        intro i x q' hi hx e
        have := (List.getElem?_eq_some_iff.mp hx).1
        exact Fd.cl i x q' (by omega) hx e
    · rintro σ' H' ⟨fs, l, y3, y4, rfl, hE, hL, Fd⟩
      rw [Int.toNat_natCast, List.length_map, hN.len] at Fd
      have hO' := ex_l hE hO
      repeat walk_at "t_w"
      refine w_lcL (a := o) (xs := os.map V.int) (fun i => decide (i ∈ fs)) (fun i => .int (nm os i)) ?ha ?hx ?hz ?hw ?ht ?he ?hk
      case ha => walk_at "t_ev"
      case hx => exact hO'
      case hz => rw [List.length_map, hN.len]; omega
      case hw => intro x; rfl
      case ht =>
        intro i x G e hi G2 e2 Q2 q2
        obtain ⟨rfl, hil⟩ := os_get hi
        rw [hN.len] at hil
        repeat walk_at "t_w"
        have : decide (nm os i ∈ fs.map (nm os)) = decide (i ∈ fs) := decide_eq_decide.mpr (mem_nm hN Fd.lt hil)
        rw [this]
        exact q2 _ (by walk_at "t_ex")
      case he =>
        intro i x G e hi hf
        obtain ⟨rfl, hil⟩ := os_get hi
        walk_at "t_ev"
      case hk =>
        intro p H2 hp e2 hp2
        refine k ((List.range bs.length).filter fun i => decide (i ∈ fs)) ⟨List.Pairwise.filter _ List.pairwise_lt_range, fun q => ⟨fun hq => ?_, fun r => ?_⟩⟩ p H2 (by walk_at "t_none") (by walk_at "t_ex") ?_
        · exact Fd.re q (by simpa using (List.mem_filter.mp hq).2)
        · have := Fd.all r
          exact List.mem_filter.mpr ⟨List.mem_range.mpr (Fd.lt q this), by simpa using this⟩
        · rw [hp2, List.length_map, hN.len]
          unfold Evl.given
          rw [List.map_map]; rfl
end
end Tw

set_option Elab.async false
set_option linter.all false
set_option maxRecDepth 100000
set_option maxHeartbeats 4000000
namespace Tw
open PySem PySem.Spec PyProof.Rows L2
open Evl (Ex ex_l ex_t fresh_back sz_of sz_lt)
local macro_rules | `(tactic| walk_at "t_hp") => `(tactic| first
  | assumption
  | exact upd_same
  | (refine' hp_ne ?hne ?hrest; (case hne => walk_at "t_ne"); (case hrest => walk_at "t_hp"))
  | (refine' hp_ex ?hx ?hrest; (case hx => assumption); (case hrest => walk_at "t_hp")))
local macro_rules | `(tactic| walk_at "t_ne") => `(tactic| first
  | assumption
  | exact Ne.symm (by assumption)
  | (refine' ne_of_none ?h1 ?h2; (case h2 => assumption); (case h1 => walk_at "t_hp"))
  | (refine' Ne.symm (ne_of_none ?h1 ?h2); (case h2 => assumption); (case h1 => walk_at "t_hp")))
local macro_rules | `(tactic| walk_at "t_none") => `(tactic| first
  | assumption
  | (refine' fresh_back ?e ?n; (case n => assumption); (case e => walk_at "t_ex")))
local macro_rules | `(tactic| walk_at "t_ex") => `(tactic| first
  | assumption
  | exact Evl.Ex.refl _
  | (refine' ex_new ?n ?e; (case n => assumption); (case e => walk_at "t_ex"))
  | (refine' Evl.Ex.mut ?e ?n; (case n => walk_at "t_none"); (case e => walk_at "t_ex"))
  | (refine' Evl.Ex.trans ?a ?b; (case b => assumption); (case a => walk_at "t_ex")))
local macro_rules | `(tactic| walk_at "t_sq") => `(tactic| first
  | assumption
  | (refine' SqL.of ?h; (case h => walk_at "t_hp"))
  | (refine' ex_l ?e ?s; (case s => assumption); (case e => walk_at "t_ex")))
local macro_rules | `(tactic| walk_at "t_sqt") => `(tactic| first
  | assumption
  | (refine' SqT.of ?h; (case h => walk_at "t_hp"))
  | (refine' ex_t ?e ?s; (case s => assumption); (case e => walk_at "t_ex")))
local macro_rules | `(tactic| walk_at "t_mul") => `(tactic| first
  | assumption
  | exact Or.inl (Or.inl ⟨by decide, by decide⟩)
  | exact Or.inl (Or.inr ⟨by decide, by decide⟩)
  | exact Or.inl (Or.inl ⟨by omega, by omega⟩)
  | exact Or.inl (Or.inr ⟨by omega, by omega⟩))
local macro_rules | `(tactic| walk_at "t_c") => `(tactic| first
  | assumption
  | decide
  | (show (0 : Int) < _; decide)
  | (show (0 : Int) < _; omega)
  | exact ⟨by decide, by decide⟩
  | exact ⟨by decide, by decide, by decide⟩
  | exact ⟨by omega, by omega⟩
  | exact ⟨by omega, by omega, by omega, by omega⟩)
local macro_rules | `(tactic| walk_at "t_w") => `(tactic| first
  | (with_reducible refine w_seq ?_)
  | (with_reducible refine w_asg ?_)
  | (with_reducible refine w_gName ?_)
  | (with_reducible refine w_nx ?_)
  | (with_reducible refine w_rt ?_)
  | (with_reducible refine w_ct ?_)
  | (with_reducible refine w_bk ?_)
  | (with_reducible refine w_ret ?_)
  | (with_reducible refine w_retN ?_)
  | (with_reducible refine w_drop ?_)
  | (with_reducible refine w_ifS ?_)
  | (with_reducible refine w_next ?_)
  | (with_reducible refine w_break ?_)
  | (with_reducible refine w_cont ?_)
  | ((with_reducible refine' w_var ?h ?_); (case h => rfl))
  | (with_reducible refine w_c ?_)
  | (with_reducible refine w_op ?_)
  | (with_reducible refine w_un ?_)
  | (with_reducible refine w_I0 ?_)
  | ((with_reducible refine' w_I ?c ?_); (case c => walk_at "t_c"))
  | (with_reducible refine w_U ?_)
  | (with_reducible refine w_addI ?_)
  | ((with_reducible refine' w_addL ?h1 ?h2 ?hz ?_); (case h1 => walk_at "t_hp"); (case h2 => walk_at "t_hp"); (case hz => walk_at "t_z"))
  | ((with_reducible refine' w_mulI ?c ?_); (case c => walk_at "t_mul"))
  | ((with_reducible refine' w_mulL1 ?h1 ?b1 ?b2 ?_); (case h1 => walk_at "t_hp"); (case b1 => walk_at "t_z"); (case b2 => walk_at "t_z"))
  | ((with_reducible refine' w_mulL ?h1 ?b1 ?b2 ?hz ?_); (case h1 => walk_at "t_hp"); (case b1 => walk_at "t_z"); (case b2 => walk_at "t_z"); (case hz => walk_at "t_z"))
  | (with_reducible refine w_notIB ?_)
  | (with_reducible refine w_notBB ?_)
  | (with_reducible refine w_notN ?_)
  | (with_reducible refine w_isBB ?_)
  | (with_reducible refine w_isN ?_)
  | (with_reducible refine w_eqI ?_)
  | (with_reducible refine w_neI ?_)
  | (with_reducible refine w_eqB ?_)
  | (with_reducible refine w_neB ?_)
  | (with_reducible refine w_eqS ?_)
  | (with_reducible refine w_neS ?_)
  | (with_reducible refine w_test ?_)
  | (with_reducible refine w_B ?_)
  | (with_reducible refine w_exB ?_)
  | (with_reducible refine w_and ?_)
  | (with_reducible refine w_or ?_)
  | (with_reducible refine w_not ?_)
  | (with_reducible refine w_andV ?_)
  | (with_reducible refine w_orV ?_)
  | (with_reducible refine w_notV ?_)
  | (with_reducible refine w_bl ?_)
  | (with_reducible refine w_if ?_)
  | (with_reducible refine w_nil ?_)
  | (with_reducible refine w_cons ?_)
  | (with_reducible refine w_cb ?_)
  | (with_reducible refine w_call ?_)
  | (with_reducible refine w_tup ?_)
  | (with_reducible refine w_lst ?_)
  | ((with_reducible refine' w_fin ?hz ?_); (case hz => (simp only [List.length_cons, List.length_nil]; decide)))
  | ((with_reducible refine' w_len ?s ?_); (case s => walk_at "t_sq"))
  | ((with_reducible refine' w_lenT ?s ?_); (case s => walk_at "t_sqt"))
  | (with_reducible refine w_intI ?_)
  | (with_reducible refine w_intB ?_)
  | ((with_reducible refine' w_list ?s ?_); (case s => walk_at "t_sq"))
  | (with_reducible refine w_max ?_)
  | (with_reducible refine w_min ?_)
  | (with_reducible refine w_abs ?_)
  | (with_reducible refine w_sl ?_)
  | (with_reducible refine w_noPart ?_)
  | (with_reducible refine w_part ?_)
  | (with_reducible refine w_exI ?_)
  | ((with_reducible refine' w_slL ?s ?_); (case s => walk_at "t_sq"))
  | ((with_reducible refine' w_ixLI ?s ?b ?_); (case s => walk_at "t_sq"); (case b => walk_at "t_lt"))
  | ((with_reducible refine' w_ixL ?s ?e ?_); (case s => walk_at "t_sq"); (case e => walk_at "t_at"))
  | ((with_reducible refine' w_ixT ?s ?e ?_); (case s => walk_at "t_sqt"); (case e => walk_at "t_at"))
  | (with_reducible refine w_gSub ?_)
  | ((with_reducible refine' w_setLI ?e ?b ?_); (case e => walk_at "t_hp"); (case b => walk_at "t_lt"))
  | ((with_reducible refine' w_setL ?e ?b ?_); (case e => walk_at "t_hp"); (case b => walk_at "t_ixn"))
  | (with_reducible refine w_bm ?_)
  | (with_reducible refine w_bm0 ?_)
  | ((with_reducible refine' w_tyL ?e ?_); (case e => walk_at "t_sq"))
  | ((with_reducible refine' w_app ?e ?hz ?_); (case e => walk_at "t_hp"); (case hz => walk_at "t_z"))
  | (with_reducible refine w_iteT ?_)
  | (with_reducible refine w_iteF ?_)
  | (with_reducible refine w_iteNT ?_)
  | (with_reducible refine w_iteNF ?_)
  | (with_reducible refine w_for ?_)
  | (with_reducible refine w_iList ?_)
  | ((with_reducible refine' w_exL ?s ?_); (case s => walk_at "t_sq"))
  | (with_reducible refine w_iTup ?_)
  | ((with_reducible refine' w_exT ?s ?_); (case s => walk_at "t_sqt"))
  | (with_reducible refine w_iRng1 ?_)
  | ((with_reducible refine w_exR1 ?b ?_); (case b => walk_at "t_c"))
  | (with_reducible refine w_iRng2 ?_)
  | ((with_reducible refine w_exR2 ?b ?_); (case b => walk_at "t_c"))
  | (with_reducible refine w_yes ?_)
  | ((with_reducible refine w_pos ?p ?_); (case p => walk_at "t_p"))
  | ((with_reducible refine w_neg ?p ?_); (case p => walk_at "t_p"))
  | ((with_reducible refine w_posN ?p ?_); (case p => walk_at "t_p"))
  | ((with_reducible refine w_negN ?p ?_); (case p => walk_at "t_p"))
  | ((with_reducible refine' w_notInL ?s ?_); (case s => walk_at "t_sq"))
  | ((with_reducible refine' w_inL ?s ?_); (case s => walk_at "t_sq"))
  | ((with_reducible refine' w_sum ?s ?_); (case s => walk_at "t_sq"))
  | (with_reducible refine w_isiI ?_)
  | ((with_reducible refine' w_isiL ?e ?_); (case e => walk_at "t_ty"))
  | ((with_reducible refine' w_isiT ?e ?_); (case e => walk_at "t_ty"))
  | (with_reducible intro p hp_new))
local macro_rules | `(tactic| walk_at "t_ty") => `(tactic| first | assumption | (refine' tyx_l ?e; (case e => walk_at "t_hp")) | (refine' tyx_t ?e; (case e => walk_at "t_hp")))
local macro_rules | `(tactic| walk_at "t_z") => `(tactic| first | assumption | decide | omega | (simp only [List.length_cons, List.length_nil, List.length_map, List.length_append, List.length_replicate]; first | done | decide | omega))
local macro_rules | `(tactic| walk_at "t_at") => `(tactic| first | assumption | rfl)
local macro_rules | `(tactic| walk_at "t_ixn") => `(tactic| first | assumption | rfl)
local macro_rules | `(tactic| walk_at "t_ev") => `(tactic| (intro H1 e Q q; (repeat walk_at "t_w"); exact q _ (by walk_at "t_ex")))
local macro_rules | `(tactic| walk_at "t_p") => `(tactic| first | assumption | decide | decide +kernel)
local macro_rules | `(tactic| walk_at "t_lt") => `(tactic| first | assumption | omega | (simp only [List.length_set, List.length_map, List.length_append]; first | assumption | omega))
local macro_rules | `(tactic| walk_at "t_w") => `(tactic| first
  | ((with_reducible refine' w_at ?s ?hl ?h0 ?_); (case s => walk_at "t_sq"); (case hl => walk_at "t_z"); (case h0 => walk_at "t_z"))
  | (with_reducible refine w_isInt ?_)
  | (with_reducible refine w_I1 ?_)
  | (with_reducible refine w_Head ?_)
  | ((with_reducible refine' w_number ?hb ?_); (case hb => walk_at "t_bits")))
local macro_rules | `(tactic| walk_at "t_bits") => `(tactic| assumption)
local macro_rules | `(tactic| walk_at "t_w") => `(tactic| first
  | (with_reducible refine w_tru ?_)
  | ((with_reducible refine' w_truL ?s ?_); (case s => walk_at "t_sq"))
  | (with_reducible refine w_dnew ?_)
  | (with_reducible refine w_disp1 ?_)
  | ((with_reducible refine' w_aug ?e ?_); (case e => rfl))
  | (with_reducible refine w_ipI ?_)
  | ((with_reducible refine' w_inD ?e ?_); (case e => walk_at "t_hp"))
  | ((with_reducible refine' w_notInD ?e ?_); (case e => walk_at "t_hp"))
  | (with_reducible refine w_dget ?_)
  | ((with_reducible refine' w_dgetE ?e ?hv ?_); (case e => walk_at "t_hp"); (case hv => walk_at "t_dv"))
  | (with_reducible refine w_dput ?_)
  | ((with_reducible refine' w_dputE ?e ?hl ?_); (case e => walk_at "t_hp"); (case hl => walk_at "t_z"))
  | ((with_reducible refine' w_extend ?e1 ?e2 ?hz ?_); (case e1 => walk_at "t_hp"); (case e2 => walk_at "t_hp"); (case hz => walk_at "t_z")))
local macro_rules | `(tactic| walk_at "t_dv") => `(tactic| assumption)
local macro_rules | `(tactic| walk_at "t_hp") => `(tactic| first
  | (with_reducible refine hp_off0 ?_; walk_at "t_hp")
  | ((with_reducible refine' hp_off1 ?hne ?hrest); (case hne => walk_at "t_ne"); (case hrest => walk_at "t_hp")))
local macro_rules | `(tactic| walk_at "t_w") => `(tactic| first
  | (with_reducible refine w_fld ?_)
  | ((with_reducible refine' w_fldE ?e ?c ?n ?l ?_); (case e => walk_at "t_hp"); (case c => assumption); (case n => assumption); (case l => rfl))
  | (with_reducible refine w_sfld ?_)
  | ((with_reducible refine' w_sfldE ?e ?c ?n ?l ?_); (case e => walk_at "t_hp"); (case c => assumption); (case n => assumption); (case l => first | decide | (show 1 < 1000; decide) | (show 2 < 1000; decide)))
  | (with_reducible refine w_setSl ?_)
  | (with_reducible refine w_make ?_)
  | ((with_reducible refine' w_gfld0 ?hv ?e ?c ?n ?l ?_); (case hv => rfl); (case e => walk_at "t_hp"); (case c => assumption); (case n => assumption); (case l => first | decide | (show 1 < 1000; decide) | (show 2 < 1000; decide)))
  | (with_reducible refine w_meth ?_)
  | (with_reducible refine w_methX ?_)
  | ((with_reducible refine' w_methE ?e ?l ?_); (case e => walk_at "t_hp"); (case l => rfl))
  | (with_reducible refine w_chain ?_)
  | ((with_reducible refine' w_gTup ?s ?l ?_); (case s => walk_at "t_sqt"); (case l => rfl))
  | (with_reducible refine w_gCons ?_)
  | (with_reducible refine w_gNil ?_)
  | (with_reducible refine w_star ?_)
  | ((with_reducible refine' w_starL ?s ?_); (case s => walk_at "t_sq"))
  | (with_reducible refine w_isiIB ?_)
  | (with_reducible refine w_isiS ?_))
abbrev s_law_many : Stmt := topS 38
theorem sc_law_many : FnScope ["_law_cell", "_law_seed"] ["_law_cell", "_law_seed"] (defScope s_law_many) := ⟨rfl, rfl, rfl, by decide +kernel, rfl, by decide +kernel, by decide +kernel⟩

abbrev s_law_cells_of : Stmt := topS 34
theorem sc_law_cells_of : FnScope ["_law_order", "_law_fields", "_law_size", "_law_places", "_law_row", "_law_one", "_law_thing_here"] ["_law_order", "_law_fields", "_law_size"] (defScope s_law_cells_of) := ⟨rfl, rfl, rfl, by decide +kernel, rfl, by decide +kernel, by decide +kernel⟩

def spMany : Sp := fun vs H Q _ => ∃ (cl s : Int), vs = [.int cl, .int s] ∧ 0 ≤ s ∧ ∀ n : Nat, n < 390 → Evl.RetV (.int (n : Int)) H Q
theorem w_many {H : Hp} {Q : VK} {E : XK} {cl s : Int} (h0 : 0 ≤ s) (k : ∀ n : Nat, n < 390 → ∀ H2, Ex H H2 → Q (.int (n : Int)) H2) : spMany ([.int cl, .int s] ++ []) H Q E := ⟨cl, s, rfl, h0, k⟩
/-! ### the data of what is told -/
def Thing.handD (bs : List (List Thing)) : Thing → PyData
  | .num n => .tuple [.str "number", .int n]
  | .box k => .tuple [.str "box", .int ((pl bs k : Nat) : Int)]
theorem dp_hand {K : PySem.W.Frag} {H : Hp} {bs : List (List Thing)} {v : V} {t : Thing} (h : HandAt H bs v t) : Dp K H v (t.handD bs) := by
  obtain ⟨a, rfl, h⟩ := h
  cases t with
  | num n => exact .tup (SqT.of h) (.cons (.str _) (.cons (.int _) .nil))
  | box k => exact .tup (SqT.of h) (.cons (.str _) (.cons (.int _) .nil))
theorem dpAll_hand {K : PySem.W.Frag} {H : Hp} {bs : List (List Thing)} {ws : List V} {fs : List Thing} (h : All2 (HandAt H bs) ws fs) : DpAll K H ws (fs.map (Thing.handD bs)) := by
  induction h with
  | nil => exact .nil
  | cons r _ ih => exact .cons (dp_hand r) ih
theorem dpAll_snoc {K : PySem.W.Frag} {H : Hp} {v : V} {d : PyData} (h2 : Dp K H v d) : ∀ {ws : List V} {ds : List PyData}, DpAll K H ws ds → DpAll K H (ws ++ [v]) (ds ++ [d])
  | _, _, .nil => .cons h2 .nil
  | _, _, .cons r t => .cons r (dpAll_snoc h2 t)
/-- of depth one at most -/
theorem shaped_one {ds : List PyData} (h : ∀ d ∈ ds, d.canLay0 = true ∧ d.depth ≤ 1) : SeqAt.shaped (.list ds) = true := by
  have h1 : ∀ ds : List PyData, (∀ d ∈ ds, d.canLay0 = true ∧ d.depth ≤ 1) → PyData.canLayAll0 ds = true ∧ PyData.depthAll ds ≤ 1 := by
    intro ds h
    induction ds with
    | nil => exact ⟨rfl, Nat.zero_le _⟩
    | cons d r ih =>
      obtain ⟨a, b⟩ := h d (List.mem_cons_self ..)
      obtain ⟨c, e⟩ := ih fun x hx => h x (List.mem_cons_of_mem _ hx)
      exact ⟨by simp [PyData.canLayAll0, a, c], by simp only [PyData.depthAll]; omega⟩
  obtain ⟨a, b⟩ := h1 ds h
  unfold SeqAt.shaped
  rw [Bool.and_eq_true]
  exact ⟨by simp [PyData.canLay0, a], decide_eq_true (by simp [PyData.depth]; omega)⟩
theorem hand_flat (bs : List (List Thing)) (t : Thing) : (t.handD bs).canLay0 = true ∧ (t.handD bs).depth ≤ 1 := by
  cases t with
  | num n =>
    have h : PyData.canLay0 (.str "number") = true := by decide +kernel
    exact ⟨by simp [Thing.handD, PyData.canLay0, PyData.canLayAll0] at h ⊢; exact h, by simp [Thing.handD, PyData.depth, PyData.depthAll]⟩
  | box n =>
    have h : PyData.canLay0 (.str "box") = true := by decide +kernel
    exact ⟨by simp [Thing.handD, PyData.canLay0, PyData.canLayAll0] at h ⊢; exact h, by simp [Thing.handD, PyData.depth, PyData.depthAll]⟩
theorem int_flat (z : Int) : (PyData.int z).canLay0 = true ∧ (PyData.int z).depth ≤ 1 := ⟨by simp [PyData.canLay0], by simp [PyData.depth]⟩
theorem shaped_hand (bs : List (List Thing)) (fs : List Thing) : SeqAt.shaped (.list (fs.map (Thing.handD bs))) = true := shaped_one fun d hd => by
  obtain ⟨t, _, rfl⟩ := List.mem_map.mp hd
  exact hand_flat bs t
theorem shaped_hand3 (bs : List (List Thing)) (fs : List Thing) (e : PyData) (he : e.canLay0 = true ∧ e.depth ≤ 1) : SeqAt.shaped (.list (fs.map (Thing.handD bs) ++ [e])) = true := shaped_one fun d hd => by
  rcases List.mem_append.mp hd with h | h
  · obtain ⟨t, _, rfl⟩ := List.mem_map.mp h
    exact hand_flat bs t
  · rw [List.mem_singleton.mp h]; exact he
theorem shaped_ints3 (xs : List Int) : SeqAt.shaped (.list (xs.map PyData.int ++ [.int 3])) = true := shaped_one fun d hd => by
  rcases List.mem_append.mp hd with h | h
  · obtain ⟨t, _, rfl⟩ := List.mem_map.mp h
    exact int_flat t
  · rw [List.mem_singleton.mp h]; exact int_flat 3
section
variable {P : Program} {w : World} {K : PySem.W.Frag} {mg : Str → Option Value} {base : Heap} {C cB cR : Addr}
theorem c_law_many (T : Txt K mg) (D : DefAt K mg "_law_many" "_law_many" s_law_many) : Cal P w K mg base "_law_many" 1 ["_law_cell", "_law_seed"] spMany := by
  refine Cal.of D sc_law_many (fun vs H Q E h => ?_) (fun _ _ _ _ _ _ us hl => match us, hl with | [_, _], _ => rfl) (fun f cdv A outer s H vs Q E hr h => ?_)
  · obtain ⟨cl, s, rfl, _⟩ := h; rfl
  · obtain ⟨cl, sd, rfl, h0, k⟩ := h
    have hu : _ + 64 < cLine := hr.units
    have k1 := k (sd % 390).toNat (by omega)
    have k2 := k (sd % 30).toNat (by omega)
    have k3 := k (sd % 5).toNat (by omega)
    rw [show (((sd % 390).toNat : Nat) : Int) = sd % 390 by omega] at k1
    rw [show (((sd % 30).toNat : Nat) : Int) = sd % 30 by omega] at k2
    rw [show (((sd % 5).toNat : Nat) : Int) = sd % 5 by omega] at k3
    refine ⟨_, (pss_cons (ps_if (PW.pt (pw_and (pt_cmpR (op_eqK (K := K) rfl hu) (pe_op op_mod (pv 0) pe_int) pe_int (nomark _)) (pw_and1 (pt_cmpR (op_eqK (K := K) rfl hu) (pe_op op_mod (pe_op op_fdiv (pv 1) pe_int) pe_int) pe_int (nomark _))))) (pss_one (ps_ret (pe_op op_mod (pv 1) pe_int))) pss_nil)
      (pss_cons (ps_if (pt_cmpR (op_eqK (K := K) rfl hu) (pe_op op_mod (pv 0) pe_int) pe_int (nomark _)) (pss_one (ps_ret (pe_op op_mod (pv 1) pe_int))) pss_nil)
      (pss_one (ps_ret (pe_op op_mod (pv 1) pe_int))))), ?_⟩
    repeat walk_at "t_w"
    refine w_ite (fun h1 => ?_) (fun h1 => ?_)
    · repeat walk_at "t_w"
      refine w_ite (fun h2 => ?_) (fun h2 => ?_)
      · repeat walk_at "t_w"
        exact k1 _ (by walk_at "t_ex")
      · have h1' : decide (cl % 8 = 7) = true := decide_eq_true h1
        repeat walk_at "t_w"
        exact k2 _ (by walk_at "t_ex")
    · repeat walk_at "t_w"
      exact k3 _ (by walk_at "t_ex")
theorem c_law_cells_of (T : Txt K mg) (D : DefAt K mg "_law_cells_of" "_law_cells_of" s_law_cells_of) (c_law_places_of : Cal P w K mg base "_law_places_of" 1 ["_law_order", "_law_fields"] (spPlacesOf K)) : Cal P w K mg base "_law_cells_of" 2 ["_law_order", "_law_fields", "_law_size"] (spCellsOf K) := by
  refine Cal.of D sc_law_cells_of (fun vs H Q E h => ?_) (fun _ _ _ _ _ _ us hl => match us, hl with | [_, _, _], _ => rfl) (fun f cdv A outer s H vs Q E hr h => ?_)
  · obtain ⟨o, d, os, kvs, bs, sp, rfl, _⟩ := h; rfl
  · obtain ⟨o, d, os, kvs, bs, sp, rfl, hO, hD, hF, hN, hro, k⟩ := h
    have hu : _ + 64 < cLine := hr.units
    have hfew := hro.few
    have hsm := hro.small
    refine ⟨_, (pss_cons (ps_set (i := 3) sc_law_cells_of.nd rfl (Or.inl rfl) (pe_callC c_law_places_of (hr.mono (by decide)) rfl (pa_cons (pv 0) (pa_cons (pv 1) pa_nil))))
      (pss_cons (ps_set (i := 4) sc_law_cells_of.nd rfl (Or.inl rfl) (pe_lst pa_nil))
      (pss_cons (ps_for (PassesOwn.never) rfl (pi_listK (K := K) rfl (pv 0)) (pg_name (i := 5) sc_law_cells_of.nd rfl (Or.inl rfl)) (pss_cons (ps_expr (pe_bmK (K := K) rfl PySem.F.plainAttrs_list PySem.F.slot_list_append PySem.F.type_list_append mt_append (pv 4) (pa_cons (pe_op op_mulA pe_int (pe_callB (call_lenK (K := K) rfl) (by rfl) T.b_len (by decide +kernel) (pa_cons (pe_dget (hu1 hu) (pv 1) (pv 5) (fun _ _ => rfl)) pa_nil))) pa_nil)))
      (pss_one (ps_for (PassesOwn.never) rfl (pi_listK (K := K) rfl (pe_dget (hu1 hu) (pv 1) (pv 5) (fun _ _ => rfl))) (pg_name (i := 6) sc_law_cells_of.nd rfl (Or.inl rfl)) (pss_one (ps_if (pt_cmpR (op_eqK (K := K) rfl hu) (pe_ix (ix_seqK (K := K) rfl) (pv 6) pe_int (fun _ _ => rfl)) pe_str (nomark _)) (pss_one (ps_expr (pe_bmK (K := K) rfl PySem.F.plainAttrs_list PySem.F.slot_list_append PySem.F.type_list_append mt_append (pv 4) (pa_cons (pe_op op_mulA pe_int (pe_ix (ix_seqK (K := K) rfl) (pv 6) pe_int (fun _ _ => rfl))) pa_nil)))) (pss_one (ps_expr (pe_bmK (K := K) rfl PySem.F.plainAttrs_list PySem.F.slot_list_append PySem.F.type_list_append mt_append (pv 4) (pa_cons (pe_op op_addA (pe_op op_mulA pe_int (pe_dget (hu1 hu) (pv 3) (pe_ix (ix_seqK (K := K) rfl) (pv 6) pe_int (fun _ _ => rfl)) (fun _ _ => rfl))) pe_int) pa_nil))))))))))
      (pss_one (ps_ret (pe_op op_addA (pv 4) (pe_op op_mulA (pe_lst (pa_cons pe_int pa_nil)) (pe_op op_sub (pv 2) (pe_callB (call_lenK (K := K) rfl) (by rfl) T.b_len (by decide +kernel) (pa_cons (pv 4) pa_nil)))))))))), ?_⟩
    repeat walk_at "t_w"
    refine w_placesOf hO hD hF hN (by omega) fun kv2 hP g H2 hg e2 hg2 => ?_
    have hO2 := ex_l e2 hO
    have hD2 := e2 _ _ hD
    have hF2 := hF.ex e2
    repeat walk_at "t_w"
    rename_i lf hlf
    have ngl : g ≠ lf := ne_of_none hg2 hlf
    have ndl : d ≠ lf := ne_of_none hD2 hlf
    refine loopL (xs := os.map V.int) (fun i σ' H' => ∃ (y y2 : Option V), σ' = [some (.ref o), some (.ref d), some (.int ((cells bs + sp : Nat) : Int)), some (.ref g), some (.ref lf), y, y2] ∧ Ex H2 H' ∧ H' lf = some (.lst ((rowOf (places bs) (bs.take i)).map V.int))) ?_ ?_ ?_ ?_
    · exact ⟨none, none, rfl, by walk_at "t_ex", upd_same⟩
    · rintro i σ' H' _ ⟨y, y2, rfl, hE, _⟩
      exact ex_l hE hO2
    · rintro i x σ' H' hi ⟨y, y2, rfl, hE, hL⟩
      obtain ⟨rfl, hil⟩ := os_get hi
      rw [hN.len] at hil
      obtain ⟨fs, hfs⟩ : ∃ fs, bs[i]? = some fs := ⟨_, List.getElem?_eq_getElem hil⟩
      obtain ⟨v, hv, p, vs, rfl, hp, hA⟩ := hF2 i fs hfs
      have hfo := hro.ok fs (List.mem_of_getElem? hfs)
      have hcl : cells (bs.take i) + 1 + fs.length ≤ 1000 := by
        have h1 := pl_step hfs
        have h2 : pl bs (i + 1) ≤ cells bs := by
          rcases Nat.lt_or_ge (i + 1) bs.length with q | q
          · have := pl_lt q (Nat.le_refl _); rw [pl_all] at this; omega
          · have : i + 1 = bs.length := by omega
            rw [this, pl_all]; exact Nat.le_refl _
        have : pl bs i = cells (bs.take i) := rfl
        omega
      have hz2 : ((rowOf (places bs) (bs.take i)).map V.int).length < 1000000 := by rw [List.length_map, rowOf_len]; omega
      have hp' : H' p = some (.lst vs) := hE _ _ hp
      have npl : p ≠ lf := ne_of_none hp hlf
      have hD' : H' d = some (.dK kvs) := hE _ _ hD2
      repeat walk_at "t_w"
      refine loopL (xs := vs) (fun j σ' H'' => ∃ (y2 : Option V), σ' = [some (.ref o), some (.ref d), some (.int ((cells bs + sp : Nat) : Int)), some (.ref g), some (.ref lf), some (.int (nm os i)), y2] ∧ Ex H2 H'' ∧ H'' lf = some (.lst ((rowOf (places bs) (bs.take i) ++ 4 * (fs.length : Int) :: (fs.take j).map (word (places bs))).map V.int))) ?_ ?_ ?_ ?_
      · refine ⟨y2, rfl, by walk_at "t_ex", ?_⟩
        rw [upd_same, hA.length, List.map_append]; rfl
      · rintro j σ' H3 _ ⟨y2, rfl, hE3, _⟩
        exact SqL.of (hE3 _ _ hp)
      · rintro j x σ' H3 hj ⟨y2, rfl, hE3, hL3⟩
        obtain ⟨t, ht, q, rfl, hq⟩ := hA.get hj
        have hjl := (List.getElem?_eq_some_iff.mp ht).1
        have hz3 : ((rowOf (places bs) (bs.take i) ++ 4 * (fs.length : Int) :: (fs.take j).map (word (places bs))).map V.int).length < 1000000 := by
          rw [List.length_map, List.length_append, rowOf_len, List.length_cons, List.length_map, List.length_take]; omega
        have es : (rowOf (places bs) (bs.take i) ++ 4 * (fs.length : Int) :: (fs.take j).map (word (places bs))).map V.int ++ [V.int (word (places bs) t)] = (rowOf (places bs) (bs.take i) ++ 4 * (fs.length : Int) :: (fs.take (j + 1)).map (word (places bs))).map V.int := by
          rw [take_snoc ht]
          simp only [List.map_append, List.map_cons, List.map_nil, List.append_assoc, List.cons_append]
        cases t with
        | num n =>
          have hq : H2 q = some (.tup [.str "number", .int n]) := hq
          repeat walk_at "t_w"
          exact ⟨_, rfl, by walk_at "t_ex", by rw [upd_same]; exact congrArg (fun l => some (HO.lst l)) es⟩
        | box k' =>
          have hq : H2 q = some (.tup [.str "box", .int (nm os k')]) := hq
          have hk : k' < bs.length := hfo _ (List.mem_of_getElem? ht)
          have hvk := hP.2 k' hk
          have hw1 : word (places bs) (.box k') = 2 * ((pl bs k' : Nat) : Int) + 1 := by
            show 2 * (((places bs).getD k' 0 : Nat) : Int) + 1 = _
            rw [places_getD hk]
          rw [hw1] at es
          repeat walk_at "t_w"
          exact ⟨_, rfl, by walk_at "t_ex", by rw [upd_same]; exact congrArg (fun l => some (HO.lst l)) es⟩
      · rintro σ' H3 ⟨y2, rfl, hE3, hL3⟩
        repeat walk_at "t_w"
        refine ⟨_, _, rfl, hE3, ?_⟩
        rw [hL3, hA.length, List.take_length, rowOf_take hfs]; rfl
    · rintro σ' H' ⟨y, y2, rfl, hE, hL⟩
      rw [List.length_map, hN.len, List.take_length] at hL
      have hz3 : (rowOf (places bs) bs).length = cells bs := rowOf_len _ _
      have hz2 : (((cells bs + sp : Nat) : Int) - (((rowOf (places bs) bs).map V.int).length : Int)) = (sp : Int) := by rw [List.length_map, hz3]; omega
      have hz4 : ((rowOf (places bs) bs).map V.int).length + sp ≤ 1000000 := by rw [List.length_map, hz3]; omega
      repeat walk_at "t_w"
      rename_i ra hra rz hrz r1 hr1
      obtain ⟨zs, hzs, hzl⟩ : ∃ zs : List V, zs = List.replicate sp (V.int 0) ∧ zs.length = sp := ⟨_, rfl, List.length_replicate⟩
      rw [hz2, Int.toNat_natCast, ← hzs] at hr1 ⊢
      refine k _ _ (by walk_at "t_none") (by walk_at "t_ex") ?_
      rw [upd_same]
      unfold rowAt
      rw [List.map_append, List.map_replicate, hzs]
end
end Tw

set_option Elab.async false
set_option linter.all false
set_option maxRecDepth 100000
set_option maxHeartbeats 4000000
namespace Tw
open PySem PySem.Spec PyProof.Rows L2
open Evl (Ex ex_l ex_t fresh_back sz_of sz_lt)
local macro_rules | `(tactic| walk_at "t_hp") => `(tactic| first
  | assumption
  | exact upd_same
  | (refine' hp_ne ?hne ?hrest; (case hne => walk_at "t_ne"); (case hrest => walk_at "t_hp"))
  | (refine' hp_ex ?hx ?hrest; (case hx => assumption); (case hrest => walk_at "t_hp")))
local macro_rules | `(tactic| walk_at "t_ne") => `(tactic| first
  | assumption
  | exact Ne.symm (by assumption)
  | (refine' ne_of_none ?h1 ?h2; (case h2 => assumption); (case h1 => walk_at "t_hp"))
  | (refine' Ne.symm (ne_of_none ?h1 ?h2); (case h2 => assumption); (case h1 => walk_at "t_hp")))
local macro_rules | `(tactic| walk_at "t_none") => `(tactic| first
  | assumption
  | (refine' fresh_back ?e ?n; (case n => assumption); (case e => walk_at "t_ex")))
local macro_rules | `(tactic| walk_at "t_ex") => `(tactic| first
  | assumption
  | exact Evl.Ex.refl _
  | (refine' ex_new ?n ?e; (case n => assumption); (case e => walk_at "t_ex"))
  | (refine' Evl.Ex.mut ?e ?n; (case n => walk_at "t_none"); (case e => walk_at "t_ex"))
  | (refine' Evl.Ex.trans ?a ?b; (case b => assumption); (case a => walk_at "t_ex")))
local macro_rules | `(tactic| walk_at "t_sq") => `(tactic| first
  | assumption
  | (refine' SqL.of ?h; (case h => walk_at "t_hp"))
  | (refine' ex_l ?e ?s; (case s => assumption); (case e => walk_at "t_ex")))
local macro_rules | `(tactic| walk_at "t_sqt") => `(tactic| first
  | assumption
  | (refine' SqT.of ?h; (case h => walk_at "t_hp"))
  | (refine' ex_t ?e ?s; (case s => assumption); (case e => walk_at "t_ex")))
local macro_rules | `(tactic| walk_at "t_mul") => `(tactic| first
  | assumption
  | exact Or.inl (Or.inl ⟨by decide, by decide⟩)
  | exact Or.inl (Or.inr ⟨by decide, by decide⟩)
  | exact Or.inl (Or.inl ⟨by omega, by omega⟩)
  | exact Or.inl (Or.inr ⟨by omega, by omega⟩))
local macro_rules | `(tactic| walk_at "t_c") => `(tactic| first
  | assumption
  | decide
  | (show (0 : Int) < _; decide)
  | (show (0 : Int) < _; omega)
  | exact ⟨by decide, by decide⟩
  | exact ⟨by decide, by decide, by decide⟩
  | exact ⟨by omega, by omega⟩
  | exact ⟨by omega, by omega, by omega, by omega⟩)
local macro_rules | `(tactic| walk_at "t_w") => `(tactic| first
  | (with_reducible refine w_seq ?_)
  | (with_reducible refine w_asg ?_)
  | (with_reducible refine w_gName ?_)
  | (with_reducible refine w_nx ?_)
  | (with_reducible refine w_rt ?_)
  | (with_reducible refine w_ct ?_)
  | (with_reducible refine w_bk ?_)
  | (with_reducible refine w_ret ?_)
  | (with_reducible refine w_retN ?_)
  | (with_reducible refine w_drop ?_)
  | (with_reducible refine w_ifS ?_)
  | (with_reducible refine w_next ?_)
  | (with_reducible refine w_break ?_)
  | (with_reducible refine w_cont ?_)
  | ((with_reducible refine' w_var ?h ?_); (case h => rfl))
  | (with_reducible refine w_c ?_)
  | (with_reducible refine w_op ?_)
  | (with_reducible refine w_un ?_)
  | (with_reducible refine w_I0 ?_)
  | ((with_reducible refine' w_I ?c ?_); (case c => walk_at "t_c"))
  | (with_reducible refine w_U ?_)
  | (with_reducible refine w_addI ?_)
  | ((with_reducible refine' w_addL ?h1 ?h2 ?hz ?_); (case h1 => walk_at "t_hp"); (case h2 => walk_at "t_hp"); (case hz => walk_at "t_z"))
  | ((with_reducible refine' w_mulI ?c ?_); (case c => walk_at "t_mul"))
  | ((with_reducible refine' w_mulL1 ?h1 ?b1 ?b2 ?_); (case h1 => walk_at "t_hp"); (case b1 => walk_at "t_z"); (case b2 => walk_at "t_z"))
  | ((with_reducible refine' w_mulL ?h1 ?b1 ?b2 ?hz ?_); (case h1 => walk_at "t_hp"); (case b1 => walk_at "t_z"); (case b2 => walk_at "t_z"); (case hz => walk_at "t_z"))
  | (with_reducible refine w_notIB ?_)
  | (with_reducible refine w_notBB ?_)
  | (with_reducible refine w_notN ?_)
  | (with_reducible refine w_isBB ?_)
  | (with_reducible refine w_isN ?_)
  | (with_reducible refine w_eqI ?_)
  | (with_reducible refine w_neI ?_)
  | (with_reducible refine w_eqB ?_)
  | (with_reducible refine w_neB ?_)
  | (with_reducible refine w_eqS ?_)
  | (with_reducible refine w_neS ?_)
  | (with_reducible refine w_test ?_)
  | (with_reducible refine w_B ?_)
  | (with_reducible refine w_exB ?_)
  | (with_reducible refine w_and ?_)
  | (with_reducible refine w_or ?_)
  | (with_reducible refine w_not ?_)
  | (with_reducible refine w_andV ?_)
  | (with_reducible refine w_orV ?_)
  | (with_reducible refine w_notV ?_)
  | (with_reducible refine w_bl ?_)
  | (with_reducible refine w_if ?_)
  | (with_reducible refine w_nil ?_)
  | (with_reducible refine w_cons ?_)
  | (with_reducible refine w_cb ?_)
  | (with_reducible refine w_call ?_)
  | (with_reducible refine w_tup ?_)
  | (with_reducible refine w_lst ?_)
  | ((with_reducible refine' w_fin ?hz ?_); (case hz => (simp only [List.length_cons, List.length_nil]; decide)))
  | ((with_reducible refine' w_len ?s ?_); (case s => walk_at "t_sq"))
  | ((with_reducible refine' w_lenT ?s ?_); (case s => walk_at "t_sqt"))
  | (with_reducible refine w_intI ?_)
  | (with_reducible refine w_intB ?_)
  | ((with_reducible refine' w_list ?s ?_); (case s => walk_at "t_sq"))
  | (with_reducible refine w_max ?_)
  | (with_reducible refine w_min ?_)
  | (with_reducible refine w_abs ?_)
  | (with_reducible refine w_sl ?_)
  | (with_reducible refine w_noPart ?_)
  | (with_reducible refine w_part ?_)
  | (with_reducible refine w_exI ?_)
  | ((with_reducible refine' w_slL ?s ?_); (case s => walk_at "t_sq"))
  | ((with_reducible refine' w_ixLI ?s ?b ?_); (case s => walk_at "t_sq"); (case b => walk_at "t_lt"))
  | ((with_reducible refine' w_ixL ?s ?e ?_); (case s => walk_at "t_sq"); (case e => walk_at "t_at"))
  | ((with_reducible refine' w_ixT ?s ?e ?_); (case s => walk_at "t_sqt"); (case e => walk_at "t_at"))
  | (with_reducible refine w_gSub ?_)
  | ((with_reducible refine' w_setLI ?e ?b ?_); (case e => walk_at "t_hp"); (case b => walk_at "t_lt"))
  | ((with_reducible refine' w_setL ?e ?b ?_); (case e => walk_at "t_hp"); (case b => walk_at "t_ixn"))
  | (with_reducible refine w_bm ?_)
  | (with_reducible refine w_bm0 ?_)
  | ((with_reducible refine' w_tyL ?e ?_); (case e => walk_at "t_sq"))
  | ((with_reducible refine' w_app ?e ?hz ?_); (case e => walk_at "t_hp"); (case hz => walk_at "t_z"))
  | (with_reducible refine w_iteT ?_)
  | (with_reducible refine w_iteF ?_)
  | (with_reducible refine w_iteNT ?_)
  | (with_reducible refine w_iteNF ?_)
  | (with_reducible refine w_for ?_)
  | (with_reducible refine w_iList ?_)
  | ((with_reducible refine' w_exL ?s ?_); (case s => walk_at "t_sq"))
  | (with_reducible refine w_iTup ?_)
  | ((with_reducible refine' w_exT ?s ?_); (case s => walk_at "t_sqt"))
  | (with_reducible refine w_iRng1 ?_)
  | ((with_reducible refine w_exR1 ?b ?_); (case b => walk_at "t_c"))
  | (with_reducible refine w_iRng2 ?_)
  | ((with_reducible refine w_exR2 ?b ?_); (case b => walk_at "t_c"))
  | (with_reducible refine w_yes ?_)
  | ((with_reducible refine w_pos ?p ?_); (case p => walk_at "t_p"))
  | ((with_reducible refine w_neg ?p ?_); (case p => walk_at "t_p"))
  | ((with_reducible refine w_posN ?p ?_); (case p => walk_at "t_p"))
  | ((with_reducible refine w_negN ?p ?_); (case p => walk_at "t_p"))
  | ((with_reducible refine' w_notInL ?s ?_); (case s => walk_at "t_sq"))
  | ((with_reducible refine' w_inL ?s ?_); (case s => walk_at "t_sq"))
  | ((with_reducible refine' w_sum ?s ?_); (case s => walk_at "t_sq"))
  | (with_reducible refine w_isiI ?_)
  | ((with_reducible refine' w_isiL ?e ?_); (case e => walk_at "t_ty"))
  | ((with_reducible refine' w_isiT ?e ?_); (case e => walk_at "t_ty"))
  | (with_reducible intro p hp_new))
local macro_rules | `(tactic| walk_at "t_ty") => `(tactic| first | assumption | (refine' tyx_l ?e; (case e => walk_at "t_hp")) | (refine' tyx_t ?e; (case e => walk_at "t_hp")))
local macro_rules | `(tactic| walk_at "t_z") => `(tactic| first | assumption | decide | omega | (simp only [List.length_cons, List.length_nil, List.length_map, List.length_append, List.length_replicate]; first | done | decide | omega))
local macro_rules | `(tactic| walk_at "t_at") => `(tactic| first | assumption | rfl)
local macro_rules | `(tactic| walk_at "t_ixn") => `(tactic| first | assumption | rfl)
local macro_rules | `(tactic| walk_at "t_ev") => `(tactic| (intro H1 e Q q; (repeat walk_at "t_w"); exact q _ (by walk_at "t_ex")))
local macro_rules | `(tactic| walk_at "t_p") => `(tactic| first | assumption | decide | decide +kernel)
local macro_rules | `(tactic| walk_at "t_lt") => `(tactic| first | assumption | omega | (simp only [List.length_set, List.length_map, List.length_append]; first | assumption | omega))
local macro_rules | `(tactic| walk_at "t_w") => `(tactic| first
  | ((with_reducible refine' w_at ?s ?hl ?h0 ?_); (case s => walk_at "t_sq"); (case hl => walk_at "t_z"); (case h0 => walk_at "t_z"))
  | (with_reducible refine w_isInt ?_)
  | (with_reducible refine w_I1 ?_)
  | (with_reducible refine w_Head ?_)
  | ((with_reducible refine' w_number ?hb ?_); (case hb => walk_at "t_bits")))
local macro_rules | `(tactic| walk_at "t_bits") => `(tactic| assumption)
local macro_rules | `(tactic| walk_at "t_w") => `(tactic| first
  | (with_reducible refine w_tru ?_)
  | ((with_reducible refine' w_truL ?s ?_); (case s => walk_at "t_sq"))
  | (with_reducible refine w_dnew ?_)
  | (with_reducible refine w_disp1 ?_)
  | ((with_reducible refine' w_aug ?e ?_); (case e => rfl))
  | (with_reducible refine w_ipI ?_)
  | ((with_reducible refine' w_inD ?e ?_); (case e => walk_at "t_hp"))
  | ((with_reducible refine' w_notInD ?e ?_); (case e => walk_at "t_hp"))
  | (with_reducible refine w_dget ?_)
  | ((with_reducible refine' w_dgetE ?e ?hv ?_); (case e => walk_at "t_hp"); (case hv => walk_at "t_dv"))
  | (with_reducible refine w_dput ?_)
  | ((with_reducible refine' w_dputE ?e ?hl ?_); (case e => walk_at "t_hp"); (case hl => walk_at "t_z"))
  | ((with_reducible refine' w_extend ?e1 ?e2 ?hz ?_); (case e1 => walk_at "t_hp"); (case e2 => walk_at "t_hp"); (case hz => walk_at "t_z")))
local macro_rules | `(tactic| walk_at "t_dv") => `(tactic| assumption)
local macro_rules | `(tactic| walk_at "t_hp") => `(tactic| first
  | (with_reducible refine hp_off0 ?_; walk_at "t_hp")
  | ((with_reducible refine' hp_off1 ?hne ?hrest); (case hne => walk_at "t_ne"); (case hrest => walk_at "t_hp")))
local macro_rules | `(tactic| walk_at "t_w") => `(tactic| first
  | (with_reducible refine w_fld ?_)
  | ((with_reducible refine' w_fldE ?e ?c ?n ?l ?_); (case e => walk_at "t_hp"); (case c => assumption); (case n => assumption); (case l => rfl))
  | (with_reducible refine w_sfld ?_)
  | ((with_reducible refine' w_sfldE ?e ?c ?n ?l ?_); (case e => walk_at "t_hp"); (case c => assumption); (case n => assumption); (case l => first | decide | (show 1 < 1000; decide) | (show 2 < 1000; decide)))
  | (with_reducible refine w_setSl ?_)
  | (with_reducible refine w_make ?_)
  | ((with_reducible refine' w_gfld0 ?hv ?e ?c ?n ?l ?_); (case hv => rfl); (case e => walk_at "t_hp"); (case c => assumption); (case n => assumption); (case l => first | decide | (show 1 < 1000; decide) | (show 2 < 1000; decide)))
  | (with_reducible refine w_meth ?_)
  | (with_reducible refine w_methX ?_)
  | ((with_reducible refine' w_methE ?e ?l ?_); (case e => walk_at "t_hp"); (case l => rfl))
  | (with_reducible refine w_chain ?_)
  | ((with_reducible refine' w_gTup ?s ?l ?_); (case s => walk_at "t_sqt"); (case l => rfl))
  | (with_reducible refine w_gCons ?_)
  | (with_reducible refine w_gNil ?_)
  | (with_reducible refine w_star ?_)
  | ((with_reducible refine' w_starL ?s ?_); (case s => walk_at "t_sq"))
  | (with_reducible refine w_isiIB ?_)
  | (with_reducible refine w_isiS ?_))
abbrev s_law_told : Stmt := topS 41
theorem sc_law_told : FnScope ["_law_room", "_law_state", "_law_places", "_law_one", "_law_due", "_law_thing_here", "_law_found"] ["_law_room", "_law_state"] (defScope s_law_told) := ⟨rfl, rfl, rfl, by decide +kernel, rfl, by decide +kernel, by decide +kernel⟩

/-! ### the state of the law's loop -/
def PairAt (K : PySem.W.Frag) (H : Hp) (v : V) : Prop := ∃ q a b dt, v = .ref q ∧ H q = some (.tup [.ref a, .ref b]) ∧ Dp K H (.ref a) dt ∧ Dp K H (.ref b) dt ∧ SeqAt.shaped dt = true
theorem PairAt.ex {K : PySem.W.Frag} {H H' : Hp} (x : Ex H H') {v : V} : PairAt K H v → PairAt K H' v := fun ⟨q, a, b, dt, e, h, d1, d2, s⟩ => ⟨q, a, b, dt, e, x _ _ h, Dp.mono x d1, Dp.mono x d2, s⟩
/-- T: what may change; of it the room and its row, the order, the fields, the counter, what is remembered -/
structure Sta (K : PySem.W.Frag) (C : Addr) (T : List Addr) (H : Hp) (x r o d c m : Addr) (bs : List (List Thing)) (sp : Nat) (os : List Int) (kvs : List (Key × V)) (fr : Int) (rem : List V) : Prop where
  room : RoomAt C H x r bs sp
  ord : H o = some (.lst (os.map V.int))
  fld : H d = some (.dK kvs)
  cnt : H c = some (.lst [.int fr])
  kept : H m = some (.lst rem)
  nd : [r, o, c, m].Nodup
  names : NamesOk os bs.length
  lt : ∀ z ∈ os, z < fr
  flds : FldOk (off T H) kvs os bs
  rems : ∀ v ∈ rem, PairAt K (off T H) v
  sub : ∀ a ∈ [x, r, o, d, c, m], a ∈ T
section
variable {K : PySem.W.Frag} {C : Addr} {T : List Addr} {H H' : Hp} {x r o d c m : Addr} {bs : List (List Thing)} {sp : Nat} {os : List Int} {kvs : List (Key × V)} {fr : Int} {rem : List V}
theorem Sta.ex (s : Sta K C T H x r o d c m bs sp os kvs fr rem) (e : Ex H H') (hT : ∀ a ∈ T, ∃ u, H a = some u) : Sta K C T H' x r o d c m bs sp os kvs fr rem :=
  ⟨s.room.ex e, e _ _ s.ord, e _ _ s.fld, e _ _ s.cnt, e _ _ s.kept, s.nd, s.names, s.lt, s.flds.ex (off_mono e), fun v hv => (s.rems v hv).ex (off_mono e), s.sub⟩
/-- the six are there, and none is a tuple -/
theorem Sta.six (s : Sta K C T H x r o d c m bs sp os kvs fr rem) : ∀ a ∈ [x, r, o, d, c, m], ∃ u, H a = some u ∧ ∀ ts, u ≠ .tup ts := by
  obtain ⟨dx, hX⟩ := s.room.ins
  intro a ha
  simp only [List.mem_cons, List.not_mem_nil, or_false] at ha
  rcases ha with rfl | rfl | rfl | rfl | rfl | rfl
  · exact ⟨_, hX, fun ts z => nomatch z⟩
  · exact ⟨_, s.room.row, fun ts z => nomatch z⟩
  · exact ⟨_, s.ord, fun ts z => nomatch z⟩
  · exact ⟨_, s.fld, fun ts z => nomatch z⟩
  · exact ⟨_, s.cnt, fun ts z => nomatch z⟩
  · exact ⟨_, s.kept, fun ts z => nomatch z⟩
theorem Sta.out (s : Sta K C T H x r o d c m bs sp os kvs fr rem) {a : Addr} (h : H a = none) : a ∉ [x, r, o, d, c, m] := fun ha => by
  obtain ⟨u, hu, _⟩ := s.six a ha
  rw [h] at hu; cases hu
theorem Sta.fldsOn (s : Sta K C T H x r o d c m bs sp os kvs fr rem) : FldOk H kvs os bs := s.flds.ex off_ex
theorem hand_off {S : List Addr} {v : V} {t : Thing} (h : HandAt H bs v t) (n : ∀ a ∈ S, ∀ ts, H a ≠ some (.tup ts)) : HandAt (off S H) bs v t := by
  obtain ⟨a, rfl, h⟩ := h
  exact ⟨a, rfl, hp_off (fun z => n a z _ h) h⟩
/-- a pair remembered -/
theorem Sta.app {T' : List Addr} {q f p : Addr} {xs : List V} {ds : List PyData} {G : Hp} (s : Sta K C T H x r o d c m bs sp os kvs fr rem) (eT : Ex (off T H) (off T' G)) (hsub : ∀ a ∈ [x, r, o, d, c, m], a ∈ T') (heq : ∀ a ∈ [x, r, o, d, c, m], a ≠ m → ∀ u, H a = some u → G a = some u)
    (gm : G m = some (.lst (rem ++ [.ref q]))) (q1 : off T' G q = some (.tup [.ref f, .ref p])) (f1 : off T' G f = some (.lst xs)) (p1 : off T' G p = some (.lst xs)) (hd : DpAll K (off T' G) xs ds) (sh : SeqAt.shaped (.list ds) = true) :
    Sta K C T' G x r o d c m bs sp os kvs fr (rem ++ [.ref q]) := by
  obtain ⟨dx, hX⟩ := s.room.ins
  have nd := s.nd
  simp only [List.nodup_cons, List.mem_cons, List.not_mem_nil, or_false, not_or] at nd
  have nxm : x ≠ m := ne_of hX s.kept (fun z => nomatch z)
  have ndm : d ≠ m := ne_of s.fld s.kept (fun z => nomatch z)
  refine ⟨⟨⟨dx, heq x (by simp) nxm _ hX⟩, heq r (by simp) nd.1.2.2 _ s.room.row, s.room.ok⟩, heq o (by simp) nd.2.1.2 _ s.ord, heq d (by simp) ndm _ s.fld, heq c (by simp) nd.2.2.1 _ s.cnt, gm, s.nd, s.names, s.lt, s.flds.ex eT, fun v hv => ?_, hsub⟩
  rcases List.mem_append.mp hv with h | h
  · exact (s.rems v h).ex eT
  · rw [List.mem_singleton.mp h]
    exact ⟨q, f, p, .list ds, rfl, q1, .lst (SqL.of f1) hd, .lst (SqL.of p1) hd, sh⟩
end
/-- where the state lies -/
abbrev stV (o d c m : Addr) (z : Int) : List V := [.ref o, .ref d, .int z, .ref c, .ref m]
def spToldN (K : PySem.W.Frag) (C : Addr) : Sp := fun vs H Q _ => ∃ (x r o d c m st : Addr) (z : Int) (bs : List (List Thing)) (sp : Nat) (os : List Int) (kvs : List (Key × V)) (fr : Int) (rem : List V), vs = [.ref x, .ref st] ∧ H st = some (.tup (stV o d c m z)) ∧
  Sta K C [x, r, o, d, c, m] H x r o d c m bs sp os kvs fr rem ∧ rem.length ≤ 10000 ∧ ∀ rem2 H2, Ex (off [m] H) H2 → Sta K C [x, r, o, d, c, m] H2 x r o d c m bs sp os kvs fr rem2 → rem2.length ≤ rem.length + 1 → Q (.bl true) H2
theorem w_toldN {K : PySem.W.Frag} {C : Addr} {H : Hp} {Q : VK} {E : XK} {x r o d c m st : Addr} {z : Int} {bs : List (List Thing)} {sp : Nat} {os : List Int} {kvs : List (Key × V)} {fr : Int} {rem : List V} (e : H st = some (.tup (stV o d c m z))) (s : Sta K C [x, r, o, d, c, m] H x r o d c m bs sp os kvs fr rem) (hl : rem.length ≤ 10000)
    (k : ∀ rem2 H2, Ex (off [m] H) H2 → Sta K C [x, r, o, d, c, m] H2 x r o d c m bs sp os kvs fr rem2 → rem2.length ≤ rem.length + 1 → Q (.bl true) H2) : spToldN K C ([.ref x, .ref st] ++ []) H Q E := ⟨x, r, o, d, c, m, st, z, bs, sp, os, kvs, fr, rem, rfl, e, s, hl, k⟩
theorem hd_some {os : List Int} {i : Nat} (h : i < os.length) : atI (os.map V.int) (i : Int) = some (.int (nm os i)) := at_mapD h
section
variable {P : Program} {w : World} {K : PySem.W.Frag} {mg : Str → Option Value} {base : Heap} {C cB cR : Addr}
theorem c_law_told (T : Txt K mg) (R : RmT K mg C cB cR) (D : DefAt K mg "_law_told" "_law_told" s_law_told) (c_law_is_int : Cal P w K mg base "_law_is_int" 1 ["_law_value"] spIsInt) (c_law_places_of : Cal P w K mg base "_law_places_of" 1 ["_law_order", "_law_fields"] (spPlacesOf K)) (c_law_handed : Cal P w K mg base "_law_handed" 1 ["_law_thing_here", "_law_places"] spHanded)
    (c_Room_told : CalM P w K mg base C "told" 5 ["self", "place"] (spTold C cB)) : Cal P w K mg base "_law_told" 6 ["_law_room", "_law_state"] (spToldN K C) := by
  refine Cal.of D sc_law_told (fun vs H Q E h => ?_) (fun _ _ _ _ _ _ us hl => match us, hl with | [_, _], _ => rfl) (fun f cdv A outer s H vs Q E hr h => ?_)
  · obtain ⟨x, r, o, d, c, m, st, z, bs, sp, os, kvs, fr, rem, rfl, _⟩ := h; rfl
  · obtain ⟨x, r, o, d, c, m, st, z, bs, sp, os, kvs, fr, rem, rfl, hst, S, hrl, k⟩ := h
    have hu : _ + 64 < cLine := hr.units
    have hN := S.names
    have hF := S.fldsOn
    have hO := S.ord
    have hD := S.fld
    have hM := S.kept
    have hfew := S.room.ok.few
    have hone := S.room.ok.one
    have hst' : H st = some (.tup [.ref o, .ref d, .int z, .ref c, .ref m]) := hst
    refine ⟨_, (pss_cons (ps_set (i := 2) sc_law_told.nd rfl (Or.inr rfl) (pe_callC c_law_places_of (hr.mono (by decide)) rfl (pa_cons (pe_ix (ix_seqK (K := K) rfl) (pv 1) pe_int (fun _ _ => rfl)) (pa_cons (pe_ix (ix_seqK (K := K) rfl) (pv 1) pe_int (fun _ _ => rfl)) pa_nil))))
      (pss_cons (ps_for (PassesOwn.never) rfl (pi_listK (K := K) rfl (pe_ix (ix_seqK (K := K) rfl) (pv 1) pe_int (fun _ _ => rfl))) (pg_name (i := 3) sc_law_told.nd rfl (Or.inl rfl)) (pss_cons (ps_setLc (i := 4) (own := [("_law_thing_here", 5)]) (g := (gName 5)) rfl sc_law_told.nd rfl rfl (sw_true rfl rfl rfl (by decide +kernel)) (pi_listK (K := K) rfl (pe_dget (hu1 hu) (pe_ix (ix_seqK (K := K) rfl) (pv 1) pe_int (fun _ _ => rfl)) (pv 3) (fun _ _ => rfl))) (blkOk_by (own := [("_law_thing_here", 5)]) (N := ["_law_room", "_law_state", "_law_places", "_law_one", "_law_due", "_law_thing_here", "_law_found"]) (sc := defScope s_law_told) (by decide +kernel)) (fun _ _ _ _ _ => (pg_name (i := 5) sc_law_told.nd rfl (Or.inl rfl))) (fun _ _ _ _ _ => pts_nil) (fun _ _ _ _ _ => (pe_callC c_law_handed (hr.mono (by decide)) rfl (pa_cons (pv 5) (pa_cons (pv 2) pa_nil)))))
      (pss_cons (ps_set (i := 6) sc_law_told.nd rfl (Or.inl rfl) (pe_methC R.cl c_Room_told (hr.mono (by decide)) passL (pv 0) (pa_cons (pe_dget (hu1 hu) (pv 2) (pv 3) (fun _ _ => rfl)) pa_nil)))
      (pss_cons (ps_if (PW.pt (pw_or (pt_not (pt_val (pe_callB (call_isiK' (K := K) rfl) (by rfl) T.b_isinstance (by decide +kernel) (pa_cons (pv 6) (pa_cons (pe_bltn (v := .ty "list") (by rfl) T.b_list (by decide +kernel) rfl) pa_nil))))) (pw_or1 (pt_cmpR (op_neK (K := K) rfl hu) (pv 6) (pv 4) (nomark _))))) (pss_one (ps_ret pe_bl)) pss_nil)
      (pss_cons (ps_for (PassesOwn.never) rfl (pi_listK (K := K) rfl (pv 6)) (pg_name (i := 5) sc_law_told.nd rfl (Or.inl rfl)) (pss_one (ps_if (PW.pt (pw_or (pt_not (pt_val (pe_callB (call_isiK' (K := K) rfl) (by rfl) T.b_isinstance (by decide +kernel) (pa_cons (pv 5) (pa_cons (pe_bltn (v := .ty "tuple") (by rfl) T.b_tuple (by decide +kernel) rfl) pa_nil))))) (pw_or1 (pt_not (pt_val (pe_callC c_law_is_int (hr.mono (by decide)) rfl (pa_cons (pe_ix (ix_seqK (K := K) rfl) (pv 5) pe_int (fun _ _ => rfl)) pa_nil))))))) (pss_one (ps_ret pe_bl)) pss_nil)))
      (pss_cons (ps_expr (pe_bmK (K := K) rfl PySem.F.plainAttrs_list PySem.F.slot_list_append PySem.F.type_list_append mt_append (pv 6) (pa_cons pe_int pa_nil)))
      (pss_one (ps_if (pt_cmpR (op_neK (K := K) rfl hu) (pe_methC R.cl c_Room_told (hr.mono (by decide)) passL (pv 0) (pa_cons (pe_dget (hu1 hu) (pv 2) (pv 3) (fun _ _ => rfl)) pa_nil)) (pv 4) (nomark _)) (pss_one (ps_ret pe_bl)) pss_nil))))))))
      (pss_cons (ps_expr (pe_bmK (K := K) rfl PySem.F.plainAttrs_list PySem.F.slot_list_append PySem.F.type_list_append mt_append (pe_ix (ix_seqK (K := K) rfl) (pv 1) pe_int (fun _ _ => rfl)) (pa_cons (pe_tup (pa_cons (pv 6) (pa_cons (pe_callTy (call_listK (K := K) rfl) (by rfl) T.b_list (by decide +kernel) (pa_cons (pv 6) pa_nil)) pa_nil))) pa_nil)))
      (pss_one (ps_ret pe_bl))))), ?_⟩
    repeat walk_at "t_w"
    refine w_placesOf (SqL.of hO) hD hF hN (by omega) fun kv2 hP g H2 hg e2 hg2 => ?_
    repeat walk_at "t_w"
    refine loopL (xs := os.map V.int) (fun j σ' H' => ∃ (y3 y4 y5 : Option V) (f : Addr) (ws : List V) (fs : List Thing), σ' = [some (.ref x), some (.ref st), some (.ref g), y3, y4, y5, (if j = 0 then none else some (.ref f))] ∧ Ex H2 H' ∧ (0 < j → H f = none ∧ H' f = some (.lst (ws ++ [.int 3])) ∧ All2 (HandAt H' bs) ws fs)) ?_ ?_ ?_ ?_
    · exact ⟨none, none, none, x, [], [], rfl, by walk_at "t_ex", fun h => absurd h (Nat.lt_irrefl 0)⟩
    · rintro j σ' H' _ ⟨y3, y4, y5, f, ws, fs, rfl, hE, _⟩
      exact SqL.of (hE _ _ (e2 _ _ hO))
    · rintro j y σ' H' hj ⟨y3, y4, y5, f0, ws0, fs0, rfl, hE, _⟩
      obtain ⟨rfl, hjl⟩ := os_get hj
      rw [hN.len] at hjl
      generalize (if j = 0 then none else some (V.ref f0)) = y6
      obtain ⟨fs, hfs⟩ : ∃ fs, bs[j]? = some fs := ⟨_, List.getElem?_eq_getElem hjl⟩
      obtain ⟨v, hv, l, ts, rfl, hl, hA⟩ := (hF.ex (e2.trans hE)) j fs hfs
      have hEH : Ex H H' := e2.trans hE
      have hD' : H' d = some (.dK kvs) := hEH _ _ hD
      have hg' : H' g = some (.dK kv2) := hE _ _ hg2
      have hst2 := hEH _ _ hst'
      have hfo := S.room.ok.ok fs (List.mem_of_getElem? hfs)
      have hvp := hP.2 j hjl
      have hf400 : fs.length ≤ 400 := by
        have h1 := pl_step hfs
        have h2 : pl bs (j + 1) ≤ cells bs := by
          rcases Nat.lt_or_ge (j + 1) bs.length with q | q
          · have := pl_lt q (Nat.le_refl _); rw [pl_all] at this; omega
          · have : j + 1 = bs.length := by omega
            rw [this, pl_all]; exact Nat.le_refl _
        have := S.room.ok.small
        omega
      have htl := hA.length
      repeat walk_at "t_w"
      refine w_lc ?_
      repeat walk_at "t_w"
      refine lcjLM (xs := ts) (fun i v H => ∃ t, fs[i]? = some t ∧ HandAt H bs v t) (fun i v H H' e ⟨t, h1, h2⟩ => ⟨t, h1, h2.ex e⟩) (SqL.of hl) ?_ ?_ ?_ ?_
      · intro Dl i y H6 acc hDl hacc e6 hy Q6 k6
        obtain ⟨t, ht, hn⟩ := hA.get hy
        repeat walk_at "t_w"
        refine w_handed t (e6 _ _ hg') hP (hn.ex e6) (hfo t (List.mem_of_getElem? ht)) fun v2 H7 e7 h7 => ?_
        refine k6 _ _ e7 ⟨t, ht, ?_⟩
        obtain ⟨a, rfl, ha⟩ := h7
        have nad : a ≠ Dl := fun z => by rw [z, e7 _ _ hacc] at ha; cases ha
        exact ⟨a, rfl, by rw [del_ne nad]; exact ha⟩
      · exact fun x => rfl
      · omega
      · intro Dl H6 us hDl e6 hD6 hul hus
        have hUA : All2 (HandAt (del H6 Dl) bs) us fs := All2.of_get (by omega) fun i v t hv ht => by
          obtain ⟨t', h1, h2⟩ := hus i v hv
          rw [ht] at h1
          cases h1
          exact h2
        have hUA6 : All2 (HandAt H6 bs) us fs := hUA.mono fun _ _ z => z.ex del_ex
        have hg6 : H6 g = some (.dK kv2) := e6 _ _ hg'
        obtain ⟨⟨dx, hX⟩, hR, hro⟩ := id S.room
        have hX6 := (hEH.trans e6) _ _ hX
        repeat walk_at "t_w"
        refine w_toldOk (S.room.ex (hEH.trans e6)) hfs fun f ws H7 hf e7 hf7 hws => ?_
        have hf0 : H f = none := fresh_back (hEH.trans e6) hf
        have hD7 : H7 Dl = some (.lst us) := e7 _ _ hD6
        have hX7 := e7 _ _ hX6
        have hg7 : H7 g = some (.dK kv2) := e7 _ _ hg6
        have hwl := hws.length
        repeat walk_at "t_w"
        refine w_neSame (d := .list (fs.map (Thing.handD bs))) (.lst (SqL.of (by walk_at "t_hp")) (dpAll_hand (hws.mono fun _ _ z => z.ex (by walk_at "t_ex")))) (.lst (SqL.of (by walk_at "t_hp")) (dpAll_hand (hUA6.mono fun _ _ z => z.ex (by walk_at "t_ex")))) (shaped_hand bs fs) ?_
        repeat walk_at "t_w"
        refine loopL_pure (xs := ws) (by walk_at "t_sq") ?_ ?_ (by rfl)
        · intro i y H8 hy e8
          obtain ⟨t, ht, a, rfl, ha⟩ := hws.get hy
          have ha8 : H8 a = some (.tup (t.hand bs)) := by walk_at "t_hp"
          cases t with
          | num n =>
            have ha8 : H8 a = some (.tup [.str "number", .int n]) := ha8
            repeat walk_at "t_w"
            exact ⟨⟨_, rfl⟩, by walk_at "t_ex"⟩
          | box n =>
            have ha8 : H8 a = some (.tup [.str "box", .int ((pl bs n : Nat) : Int)]) := ha8
            repeat walk_at "t_w"
            exact ⟨⟨_, rfl⟩, by walk_at "t_ex"⟩
        · intro y H8 e8
          have hE8 : Ex H7 H8 := by walk_at "t_ex"
          have hf8 : H8 f = some (.lst ws) := hE8 _ _ hf7
          have hz9 : ws.length < 1000000 := by omega
          have hg8 : H8 g = some (.dK kv2) := hE8 _ _ hg7
          have hX8 := hE8 _ _ hX7
          have ngf : g ≠ f := fun e => by rw [e, hf8] at hg8; cases hg8
          have nxf : x ≠ f := fun e => by rw [e, hf8] at hX8; cases hX8
          have nDf : Dl ≠ f := fun e => by rw [e] at hD6; rw [hD6] at hf; cases hf
          have nrf : r ≠ f := fun e => by rw [e, hf0] at hR; cases hR
          repeat walk_at "t_w"
          have R9 : RoomAt C (upd H8 f (.lst (ws ++ [.int 3]))) x r bs sp := ⟨⟨dx, by rw [upd_ne nxf]; exact hX8⟩, by rw [upd_ne nrf]; exact hE8 _ _ (e7 _ _ (e6 _ _ (hEH _ _ hR))), hro⟩
          refine w_toldOk R9 hfs fun f2 ws2 H9 hf2 e9 hf9 hws2 => ?_
          have hD9 : H9 Dl = some (.lst us) := e9 _ _ (by rw [upd_ne nDf]; exact hE8 _ _ hD7)
          have hf9' : H9 f = some (.lst (ws ++ [.int 3])) := e9 _ _ upd_same
          have hUA9 : All2 (HandAt H9 bs) us fs := hUA.mono fun v t z => by
            obtain ⟨a, rfl, ha⟩ := z
            have ha6 : H6 a = some (.tup (t.hand bs)) := del_ex _ _ ha
            have naf : a ≠ f := fun e => by rw [e, hf] at ha6; cases ha6
            exact ⟨a, rfl, e9 _ _ (by rw [upd_ne naf]; exact hE8 _ _ (e7 _ _ ha6))⟩
          have hws9 : All2 (HandAt H9 bs) ws fs := hws.mono fun v t z => by
            obtain ⟨a, rfl, ha⟩ := z
            have naf : a ≠ f := fun e => by rw [e, hf7] at ha; cases ha
            exact ⟨a, rfl, e9 _ _ (by rw [upd_ne naf]; exact hE8 _ _ ha)⟩
          repeat walk_at "t_w"
          refine w_neSame (d := .list (fs.map (Thing.handD bs))) (.lst (SqL.of (by walk_at "t_hp")) (dpAll_hand (hws2.mono fun _ _ z => z.ex (by walk_at "t_ex")))) (.lst (SqL.of (by walk_at "t_hp")) (dpAll_hand (hUA9.mono fun _ _ z => z.ex (by walk_at "t_ex")))) (shaped_hand bs fs) ?_
          have hf2' : H2 f = none := fresh_back (hE.trans e6) hf
          have hEx : Ex H2 (upd H8 f (.lst (ws ++ [.int 3]))) := Evl.Ex.mut (((hE.trans e6).trans e7).trans hE8) hf2'
          repeat walk_at "t_w"
          exact ⟨_, _, _, f, ws, fs, by rw [if_neg (Nat.succ_ne_zero j)]; rfl, hEx.trans (by walk_at "t_ex"), fun _ => ⟨hf0, by walk_at "t_hp", hws9.mono fun _ _ z => z.ex (by walk_at "t_ex")⟩⟩
    · rintro σ' H' ⟨y3, y4, y5, f, ws, fs, rfl, hE, hlast⟩
      rw [List.length_map, hN.len] at hlast ⊢
      obtain ⟨hf0, hf, hws⟩ := hlast (by omega)
      rw [if_neg (by omega)]
      have hEH : Ex H H' := e2.trans hE
      have hst2 := hEH _ _ hst'
      have hM' : H' m = some (.lst rem) := hEH _ _ hM
      have hz9 : rem.length < 1000000 := by omega
      repeat walk_at "t_w"
      rename_i p hp q hq
      have hp0 : H p = none := fresh_back hEH hp
      have hq0 : H q = none := fresh_back (hEH.trans (Evl.Ex.new hp)) hq
      have npm : p ≠ m := fun e => by rw [e, hM] at hp0; cases hp0
      have nqm : q ≠ m := fun e => by rw [e, hM] at hq0; cases hq0
      have nfm : f ≠ m := fun e => by rw [e, hM] at hf0; cases hf0
      have nqp : q ≠ p := fun e => ne_of_upd hq e
      have nfp : f ≠ p := ne_of_none hf hp
      have nfq : f ≠ q := fun e => by rw [← e, upd_ne nfp, hf] at hq; cases hq
      obtain ⟨G, hG⟩ : ∃ G, G = upd (upd (upd H' p (.lst (ws ++ [.int 3]))) q (.tup [.ref f, .ref p])) m (.lst (rem ++ [.ref q])) := ⟨_, rfl⟩
      have hEG : Ex H (upd (upd H' p (.lst (ws ++ [.int 3]))) q (.tup [.ref f, .ref p])) := (hEH.trans (Evl.Ex.new hp)).trans (Evl.Ex.new hq)
      have hin : m ∈ [x, r, o, d, c, m] := by simp
      have hw9 : All2 (HandAt (off [x, r, o, d, c, m] G) bs) ws fs := hws.mono fun v t z => by
        obtain ⟨a, rfl, ha⟩ := z
        have nap : a ≠ p := ne_of_none ha hp
        have naq : a ≠ q := fun e => by rw [← e, upd_ne nap, ha] at hq; cases hq
        have hout : a ∉ [x, r, o, d, c, m] := fun hm => by
          obtain ⟨u, hu, hnt⟩ := S.six a hm
          rw [hEH _ _ hu] at ha
          exact hnt _ (Option.some.inj ha)
        have nam : a ≠ m := fun e => hout (by rw [e]; exact hin)
        exact ⟨a, rfl, hp_off hout (by rw [hG, upd_ne nam, upd_ne naq, upd_ne nap]; exact ha)⟩
      repeat walk_at "t_w"
      refine k (rem ++ [.ref q]) _ (Evl.Ex.mut (off_ex.trans hEG) (off_in (by simp))) ?_ (by simp)
      rw [← hG]
      refine S.app (q := q) (f := f) (p := p) (xs := ws ++ [.int 3]) (ds := fs.map (Thing.handD bs) ++ [.int 3]) (by rw [hG, off_upd hin]; exact off_mono hEG) (fun a h => h) (fun a ha nam u hu => by rw [hG, upd_ne nam]; exact hEG _ _ hu) (by rw [hG, upd_same])
        (hp_off (S.out hq0) (by rw [hG, upd_ne nqm, upd_same])) (hp_off (S.out hf0) (by rw [hG, upd_ne nfm, upd_ne nfq, upd_ne nfp]; exact hf)) (hp_off (S.out hp0) (by rw [hG, upd_ne npm, upd_ne (Ne.symm nqp), upd_same])) (dpAll_snoc (.int 3) (dpAll_hand hw9)) (shaped_hand3 bs fs _ (int_flat 3))
end
end Tw

set_option Elab.async false
set_option linter.all false
set_option maxRecDepth 100000
set_option maxHeartbeats 4000000
namespace Tw
open PySem PySem.Spec PyProof.Rows L2
open Evl (Ex ex_l ex_t fresh_back sz_of sz_lt)
local macro_rules | `(tactic| walk_at "t_hp") => `(tactic| first
  | assumption
  | exact upd_same
  | (refine' hp_ne ?hne ?hrest; (case hne => walk_at "t_ne"); (case hrest => walk_at "t_hp"))
  | (refine' hp_ex ?hx ?hrest; (case hx => assumption); (case hrest => walk_at "t_hp")))
local macro_rules | `(tactic| walk_at "t_ne") => `(tactic| first
  | assumption
  | exact Ne.symm (by assumption)
  | (refine' ne_of_none ?h1 ?h2; (case h2 => assumption); (case h1 => walk_at "t_hp"))
  | (refine' Ne.symm (ne_of_none ?h1 ?h2); (case h2 => assumption); (case h1 => walk_at "t_hp")))
local macro_rules | `(tactic| walk_at "t_none") => `(tactic| first
  | assumption
  | (refine' fresh_back ?e ?n; (case n => assumption); (case e => walk_at "t_ex")))
local macro_rules | `(tactic| walk_at "t_ex") => `(tactic| first
  | assumption
  | exact Evl.Ex.refl _
  | (refine' ex_new ?n ?e; (case n => assumption); (case e => walk_at "t_ex"))
  | (refine' Evl.Ex.mut ?e ?n; (case n => walk_at "t_none"); (case e => walk_at "t_ex"))
  | (refine' Evl.Ex.trans ?a ?b; (case b => assumption); (case a => walk_at "t_ex")))
local macro_rules | `(tactic| walk_at "t_sq") => `(tactic| first
  | assumption
  | (refine' SqL.of ?h; (case h => walk_at "t_hp"))
  | (refine' ex_l ?e ?s; (case s => assumption); (case e => walk_at "t_ex")))
local macro_rules | `(tactic| walk_at "t_sqt") => `(tactic| first
  | assumption
  | (refine' SqT.of ?h; (case h => walk_at "t_hp"))
  | (refine' ex_t ?e ?s; (case s => assumption); (case e => walk_at "t_ex")))
local macro_rules | `(tactic| walk_at "t_mul") => `(tactic| first
  | assumption
  | exact Or.inl (Or.inl ⟨by decide, by decide⟩)
  | exact Or.inl (Or.inr ⟨by decide, by decide⟩)
  | exact Or.inl (Or.inl ⟨by omega, by omega⟩)
  | exact Or.inl (Or.inr ⟨by omega, by omega⟩))
local macro_rules | `(tactic| walk_at "t_c") => `(tactic| first
  | assumption
  | decide
  | (show (0 : Int) < _; decide)
  | (show (0 : Int) < _; omega)
  | exact ⟨by decide, by decide⟩
  | exact ⟨by decide, by decide, by decide⟩
  | exact ⟨by omega, by omega⟩
  | exact ⟨by omega, by omega, by omega, by omega⟩)
local macro_rules | `(tactic| walk_at "t_w") => `(tactic| first
  | (with_reducible refine w_seq ?_)
  | (with_reducible refine w_asg ?_)
  | (with_reducible refine w_gName ?_)
  | (with_reducible refine w_nx ?_)
  | (with_reducible refine w_rt ?_)
  | (with_reducible refine w_ct ?_)
  | (with_reducible refine w_bk ?_)
  | (with_reducible refine w_ret ?_)
  | (with_reducible refine w_retN ?_)
  | (with_reducible refine w_drop ?_)
  | (with_reducible refine w_ifS ?_)
  | (with_reducible refine w_next ?_)
  | (with_reducible refine w_break ?_)
  | (with_reducible refine w_cont ?_)
  | ((with_reducible refine' w_var ?h ?_); (case h => rfl))
  | (with_reducible refine w_c ?_)
  | (with_reducible refine w_op ?_)
  | (with_reducible refine w_un ?_)
  | (with_reducible refine w_I0 ?_)
  | ((with_reducible refine' w_I ?c ?_); (case c => walk_at "t_c"))
  | (with_reducible refine w_U ?_)
  | (with_reducible refine w_addI ?_)
  | ((with_reducible refine' w_addL ?h1 ?h2 ?hz ?_); (case h1 => walk_at "t_hp"); (case h2 => walk_at "t_hp"); (case hz => walk_at "t_z"))
  | ((with_reducible refine' w_mulI ?c ?_); (case c => walk_at "t_mul"))
  | ((with_reducible refine' w_mulL1 ?h1 ?b1 ?b2 ?_); (case h1 => walk_at "t_hp"); (case b1 => walk_at "t_z"); (case b2 => walk_at "t_z"))
  | ((with_reducible refine' w_mulL ?h1 ?b1 ?b2 ?hz ?_); (case h1 => walk_at "t_hp"); (case b1 => walk_at "t_z"); (case b2 => walk_at "t_z"); (case hz => walk_at "t_z"))
  | (with_reducible refine w_notIB ?_)
  | (with_reducible refine w_notBB ?_)
  | (with_reducible refine w_notN ?_)
  | (with_reducible refine w_isBB ?_)
  | (with_reducible refine w_isN ?_)
  | (with_reducible refine w_eqI ?_)
  | (with_reducible refine w_neI ?_)
  | (with_reducible refine w_eqB ?_)
  | (with_reducible refine w_neB ?_)
  | (with_reducible refine w_eqS ?_)
  | (with_reducible refine w_neS ?_)
  | (with_reducible refine w_test ?_)
  | (with_reducible refine w_B ?_)
  | (with_reducible refine w_exB ?_)
  | (with_reducible refine w_and ?_)
  | (with_reducible refine w_or ?_)
  | (with_reducible refine w_not ?_)
  | (with_reducible refine w_andV ?_)
  | (with_reducible refine w_orV ?_)
  | (with_reducible refine w_notV ?_)
  | (with_reducible refine w_bl ?_)
  | (with_reducible refine w_if ?_)
  | (with_reducible refine w_nil ?_)
  | (with_reducible refine w_cons ?_)
  | (with_reducible refine w_cb ?_)
  | (with_reducible refine w_call ?_)
  | (with_reducible refine w_tup ?_)
  | (with_reducible refine w_lst ?_)
  | ((with_reducible refine' w_fin ?hz ?_); (case hz => (simp only [List.length_cons, List.length_nil]; decide)))
  | ((with_reducible refine' w_len ?s ?_); (case s => walk_at "t_sq"))
  | ((with_reducible refine' w_lenT ?s ?_); (case s => walk_at "t_sqt"))
  | (with_reducible refine w_intI ?_)
  | (with_reducible refine w_intB ?_)
  | ((with_reducible refine' w_list ?s ?_); (case s => walk_at "t_sq"))
  | (with_reducible refine w_max ?_)
  | (with_reducible refine w_min ?_)
  | (with_reducible refine w_abs ?_)
  | (with_reducible refine w_sl ?_)
  | (with_reducible refine w_noPart ?_)
  | (with_reducible refine w_part ?_)
  | (with_reducible refine w_exI ?_)
  | ((with_reducible refine' w_slL ?s ?_); (case s => walk_at "t_sq"))
  | ((with_reducible refine' w_ixLI ?s ?b ?_); (case s => walk_at "t_sq"); (case b => walk_at "t_lt"))
  | ((with_reducible refine' w_ixL ?s ?e ?_); (case s => walk_at "t_sq"); (case e => walk_at "t_at"))
  | ((with_reducible refine' w_ixT ?s ?e ?_); (case s => walk_at "t_sqt"); (case e => walk_at "t_at"))
  | (with_reducible refine w_gSub ?_)
  | ((with_reducible refine' w_setLI ?e ?b ?_); (case e => walk_at "t_hp"); (case b => walk_at "t_lt"))
  | ((with_reducible refine' w_setL ?e ?b ?_); (case e => walk_at "t_hp"); (case b => walk_at "t_ixn"))
  | (with_reducible refine w_bm ?_)
  | (with_reducible refine w_bm0 ?_)
  | ((with_reducible refine' w_tyL ?e ?_); (case e => walk_at "t_sq"))
  | ((with_reducible refine' w_app ?e ?hz ?_); (case e => walk_at "t_hp"); (case hz => walk_at "t_z"))
  | (with_reducible refine w_iteT ?_)
  | (with_reducible refine w_iteF ?_)
  | (with_reducible refine w_iteNT ?_)
  | (with_reducible refine w_iteNF ?_)
  | (with_reducible refine w_for ?_)
  | (with_reducible refine w_iList ?_)
  | ((with_reducible refine' w_exL ?s ?_); (case s => walk_at "t_sq"))
  | (with_reducible refine w_iTup ?_)
  | ((with_reducible refine' w_exT ?s ?_); (case s => walk_at "t_sqt"))
  | (with_reducible refine w_iRng1 ?_)
  | ((with_reducible refine w_exR1 ?b ?_); (case b => walk_at "t_c"))
  | (with_reducible refine w_iRng2 ?_)
  | ((with_reducible refine w_exR2 ?b ?_); (case b => walk_at "t_c"))
  | (with_reducible refine w_yes ?_)
  | ((with_reducible refine w_pos ?p ?_); (case p => walk_at "t_p"))
  | ((with_reducible refine w_neg ?p ?_); (case p => walk_at "t_p"))
  | ((with_reducible refine w_posN ?p ?_); (case p => walk_at "t_p"))
  | ((with_reducible refine w_negN ?p ?_); (case p => walk_at "t_p"))
  | ((with_reducible refine' w_notInL ?s ?_); (case s => walk_at "t_sq"))
  | ((with_reducible refine' w_inL ?s ?_); (case s => walk_at "t_sq"))
  | ((with_reducible refine' w_sum ?s ?_); (case s => walk_at "t_sq"))
  | (with_reducible refine w_isiI ?_)
  | ((with_reducible refine' w_isiL ?e ?_); (case e => walk_at "t_ty"))
  | ((with_reducible refine' w_isiT ?e ?_); (case e => walk_at "t_ty"))
  | (with_reducible intro p hp_new))
local macro_rules | `(tactic| walk_at "t_ty") => `(tactic| first | assumption | (refine' tyx_l ?e; (case e => walk_at "t_hp")) | (refine' tyx_t ?e; (case e => walk_at "t_hp")))
local macro_rules | `(tactic| walk_at "t_z") => `(tactic| first | assumption | decide | omega | (simp only [List.length_cons, List.length_nil, List.length_map, List.length_append, List.length_replicate]; first | done | decide | omega))
local macro_rules | `(tactic| walk_at "t_at") => `(tactic| first | assumption | rfl)
local macro_rules | `(tactic| walk_at "t_ixn") => `(tactic| first | assumption | rfl)
local macro_rules | `(tactic| walk_at "t_ev") => `(tactic| (intro H1 e Q q; (repeat walk_at "t_w"); exact q _ (by walk_at "t_ex")))
local macro_rules | `(tactic| walk_at "t_p") => `(tactic| first | assumption | decide | decide +kernel)
local macro_rules | `(tactic| walk_at "t_lt") => `(tactic| first | assumption | omega | (simp only [List.length_set, List.length_map, List.length_append]; first | assumption | omega))
local macro_rules | `(tactic| walk_at "t_w") => `(tactic| first
  | ((with_reducible refine' w_at ?s ?hl ?h0 ?_); (case s => walk_at "t_sq"); (case hl => walk_at "t_z"); (case h0 => walk_at "t_z"))
  | (with_reducible refine w_isInt ?_)
  | (with_reducible refine w_I1 ?_)
  | (with_reducible refine w_Head ?_)
  | ((with_reducible refine' w_number ?hb ?_); (case hb => walk_at "t_bits")))
local macro_rules | `(tactic| walk_at "t_bits") => `(tactic| assumption)
local macro_rules | `(tactic| walk_at "t_w") => `(tactic| first
  | (with_reducible refine w_tru ?_)
  | ((with_reducible refine' w_truL ?s ?_); (case s => walk_at "t_sq"))
  | (with_reducible refine w_dnew ?_)
  | (with_reducible refine w_disp1 ?_)
  | ((with_reducible refine' w_aug ?e ?_); (case e => rfl))
  | (with_reducible refine w_ipI ?_)
  | ((with_reducible refine' w_inD ?e ?_); (case e => walk_at "t_hp"))
  | ((with_reducible refine' w_notInD ?e ?_); (case e => walk_at "t_hp"))
  | (with_reducible refine w_dget ?_)
  | ((with_reducible refine' w_dgetE ?e ?hv ?_); (case e => walk_at "t_hp"); (case hv => walk_at "t_dv"))
  | (with_reducible refine w_dput ?_)
  | ((with_reducible refine' w_dputE ?e ?hl ?_); (case e => walk_at "t_hp"); (case hl => walk_at "t_z"))
  | ((with_reducible refine' w_extend ?e1 ?e2 ?hz ?_); (case e1 => walk_at "t_hp"); (case e2 => walk_at "t_hp"); (case hz => walk_at "t_z")))
local macro_rules | `(tactic| walk_at "t_dv") => `(tactic| assumption)
local macro_rules | `(tactic| walk_at "t_hp") => `(tactic| first
  | (with_reducible refine hp_off0 ?_; walk_at "t_hp")
  | ((with_reducible refine' hp_off1 ?hne ?hrest); (case hne => walk_at "t_ne"); (case hrest => walk_at "t_hp")))
local macro_rules | `(tactic| walk_at "t_w") => `(tactic| first
  | (with_reducible refine w_fld ?_)
  | ((with_reducible refine' w_fldE ?e ?c ?n ?l ?_); (case e => walk_at "t_hp"); (case c => assumption); (case n => assumption); (case l => rfl))
  | (with_reducible refine w_sfld ?_)
  | ((with_reducible refine' w_sfldE ?e ?c ?n ?l ?_); (case e => walk_at "t_hp"); (case c => assumption); (case n => assumption); (case l => first | decide | (show 1 < 1000; decide) | (show 2 < 1000; decide)))
  | (with_reducible refine w_setSl ?_)
  | (with_reducible refine w_make ?_)
  | ((with_reducible refine' w_gfld0 ?hv ?e ?c ?n ?l ?_); (case hv => rfl); (case e => walk_at "t_hp"); (case c => assumption); (case n => assumption); (case l => first | decide | (show 1 < 1000; decide) | (show 2 < 1000; decide)))
  | (with_reducible refine w_meth ?_)
  | (with_reducible refine w_methX ?_)
  | ((with_reducible refine' w_methE ?e ?l ?_); (case e => walk_at "t_hp"); (case l => rfl))
  | (with_reducible refine w_chain ?_)
  | ((with_reducible refine' w_gTup ?s ?l ?_); (case s => walk_at "t_sqt"); (case l => rfl))
  | (with_reducible refine w_gCons ?_)
  | (with_reducible refine w_gNil ?_)
  | (with_reducible refine w_star ?_)
  | ((with_reducible refine' w_starL ?s ?_); (case s => walk_at "t_sq"))
  | (with_reducible refine w_isiIB ?_)
  | (with_reducible refine w_isiS ?_))
abbrev s_law_stands : Stmt := topS 42
theorem sc_law_stands : FnScope ["_law_room", "_law_state", "_law_used", "_law_one", "_law_places", "_law_found", "_law_pair"] ["_law_room", "_law_state"] (defScope s_law_stands) := ⟨rfl, rfl, rfl, by decide +kernel, rfl, by decide +kernel, by decide +kernel⟩

theorem exo {S0 S : List Addr} {H H1 H2 : Hp} (x : Ex (off S0 H) H1) (n : ∀ a ∈ S, a ∈ S0 ∨ H a = none) (y : Ex (off S H1) H2) : Ex (off S0 H) H2 := fun a o e => by
  have ha : a ∉ S0 := fun z => by rw [off_in z] at e; cases e
  have hH : H a = some o := by rw [off_out ha] at e; exact e
  refine y a o ?_
  rw [off_out (fun z => (n a z).elim ha fun q => by rw [q] at hH; cases hH)]
  exact x a o e
theorem given_places {bs : List (List Thing)} {n : Nat} (h : n = bs.length) : Evl.given n (fun _ => true) (fun i => V.int ((pl bs i : Nat) : Int)) = (asI (places bs)).map V.int := by
  subst h
  rw [given_all]
  unfold asI
  apply List.ext_getElem?
  intro i
  rw [List.getElem?_map, List.getElem?_map, List.getElem?_map]
  by_cases hi : i < bs.length
  · rw [List.getElem?_eq_getElem (by simpa using hi), List.getElem_range, places_get hi]; rfl
  · rw [List.getElem?_eq_none (by simpa using hi), List.getElem?_eq_none (by rw [places_len]; omega)]; rfl
theorem given_come {bs : List (List Thing)} {al : List Nat} {n : Nat} (h : n = al.length) : Evl.given n (fun _ => true) (fun i => V.int ((pl bs (al.getD i 0) : Nat) : Int)) = (asI (al.map (pl bs))).map V.int := by
  subst h
  rw [given_all]
  unfold asI
  apply List.ext_getElem?
  intro i
  rw [List.getElem?_map, List.getElem?_map, List.getElem?_map, List.getElem?_map]
  by_cases hi : i < al.length
  · rw [List.getElem?_eq_getElem (by simpa using hi), List.getElem_range, List.getElem?_eq_getElem hi]
    have e : al.getD i 0 = al[i] := by rw [List.getD_eq_getElem?_getD, List.getElem?_eq_getElem hi]; rfl
    show some (V.int ((pl bs (al.getD i 0) : Nat) : Int)) = _
    rw [e]; rfl
  · rw [List.getElem?_eq_none (by simpa using hi), List.getElem?_eq_none (by omega)]; rfl
theorem nm_get {os : List Int} {al : List Nat} {i : Nat} {y : V} (h : ((al.map (nm os)).map V.int)[i]? = some y) : y = .int (nm os (al.getD i 0)) ∧ i < al.length ∧ al.getD i 0 ∈ al := by
  rw [List.getElem?_map, List.getElem?_map] at h
  cases e : al[i]? with
  | none => rw [e] at h; cases h
  | some k =>
    rw [e] at h
    have : al.getD i 0 = k := by rw [List.getD_eq_getElem?_getD, e]; rfl
    rw [this]
    exact ⟨(Option.some.inj h).symm, (List.getElem?_eq_some_iff.mp e).1, List.mem_of_getElem? e⟩
def spStands (K : PySem.W.Frag) (C : Addr) : Sp := fun vs H Q _ => ∃ (x r o d c m st : Addr) (bs : List (List Thing)) (sp : Nat) (os : List Int) (kvs : List (Key × V)) (fr : Int) (rem : List V), vs = [.ref x, .ref st] ∧ H st = some (.tup (stV o d c m ((cells bs + sp : Nat) : Int))) ∧
  Sta K C [x, r, o, d, c, m] H x r o d c m bs sp os kvs fr rem ∧ rem.length ≤ 9000 ∧ ∀ rem2 H2, Ex (off [m] H) H2 → Sta K C [x, r, o, d, c, m] H2 x r o d c m bs sp os kvs fr rem2 → rem2.length ≤ rem.length + 6 → Q (.bl true) H2
theorem w_stands {K : PySem.W.Frag} {C : Addr} {H : Hp} {Q : VK} {E : XK} {x r o d c m st : Addr} {bs : List (List Thing)} {sp : Nat} {os : List Int} {kvs : List (Key × V)} {fr : Int} {rem : List V} (e : H st = some (.tup (stV o d c m ((cells bs + sp : Nat) : Int)))) (s : Sta K C [x, r, o, d, c, m] H x r o d c m bs sp os kvs fr rem) (hl : rem.length ≤ 9000)
    (k : ∀ rem2 H2, Ex (off [m] H) H2 → Sta K C [x, r, o, d, c, m] H2 x r o d c m bs sp os kvs fr rem2 → rem2.length ≤ rem.length + 6 → Q (.bl true) H2) : spStands K C ([.ref x, .ref st] ++ []) H Q E := ⟨x, r, o, d, c, m, st, bs, sp, os, kvs, fr, rem, rfl, e, s, hl, k⟩
theorem fresh_exo {H H1 : Hp} {m f : Addr} {u : HO} (e : Ex (off [m] H) H1) (hm : H1 m = some u) (hf : H1 f = none) : H f = none := by
  cases q : H f with
  | none => rfl
  | some w =>
    have hn : f ≠ m := fun z => by rw [z, hm] at hf; cases hf
    have := e f w (hp_off (by simpa using hn) q)
    rw [hf] at this; cases this
theorem Sta.widen {K : PySem.W.Frag} {C : Addr} {T T' : List Addr} {H G : Hp} {x r o d c m : Addr} {bs : List (List Thing)} {sp : Nat} {os : List Int} {kvs : List (Key × V)} {fr : Int} {rem : List V} (s : Sta K C T H x r o d c m bs sp os kvs fr rem) (e : Ex H G) (h : ∀ a ∈ T', a ∈ T ∨ H a = none) (ht : ∀ a ∈ T, a ∈ T') :
    Sta K C T' G x r o d c m bs sp os kvs fr rem := by
  have eT : Ex (off T H) (off T' G) := ex_off (off_ex.trans e) h
  exact ⟨s.room.ex e, e _ _ s.ord, e _ _ s.fld, e _ _ s.cnt, e _ _ s.kept, s.nd, s.names, s.lt, s.flds.ex eT, fun v hv => (s.rems v hv).ex eT, fun a ha => ht a (s.sub a ha)⟩
/-- one of the four lists: it is changed, then remembered -/
structure Four (K : PySem.W.Frag) (T : List Addr) (H : Hp) (p : Addr × List V × List PyData) : Prop where
  at_ : H p.1 = some (.lst p.2.1)
  dat : DpAll K (off T H) p.2.1 p.2.2
  few : p.2.1.length ≤ 1000
  sh : SeqAt.shaped (.list (p.2.2 ++ [.int 3])) = true
section
variable {P : Program} {w : World} {K : PySem.W.Frag} {mg : Str → Option Value} {base : Heap} {C cB cR : Addr}
theorem c_law_stands (T : Txt K mg) (R : RmT K mg C cB cR) (D : DefAt K mg "_law_stands" "_law_stands" s_law_stands) (c_law_words_are : Cal P w K mg base "_law_words_are" 2 ["_law_found", "_law_due"] (spWordsAre K)) (c_law_places_of : Cal P w K mg base "_law_places_of" 1 ["_law_order", "_law_fields"] (spPlacesOf K)) (c_law_cells_of : Cal P w K mg base "_law_cells_of" 2 ["_law_order", "_law_fields", "_law_size"] (spCellsOf K))
    (c_law_come_to : Cal P w K mg base "_law_come_to" 1 ["_law_order", "_law_fields"] (spComeToN K)) (c_law_told : Cal P w K mg base "_law_told" 6 ["_law_room", "_law_state"] (spToldN K C)) (c_Room_told : CalM P w K mg base C "told" 5 ["self", "place"] (spTold C cB)) (c_Room_used : CalM P w K mg base C "used" 1 ["self"] (spUsed C))
    (c_Room_cells : CalM P w K mg base C "cells" 1 ["self"] (spCells C)) (c_Room_places : CalM P w K mg base C "places" 3 ["self"] (spPlacesM C)) (c_Room_come_to : CalM P w K mg base C "come_to" 4 ["self"] (spComeTo C)) : Cal P w K mg base "_law_stands" 7 ["_law_room", "_law_state"] (spStands K C) := by
  refine Cal.of D sc_law_stands (fun vs H Q E h => ?_) (fun _ _ _ _ _ _ us hl => match us, hl with | [_, _], _ => rfl) (fun f cdv A outer s H vs Q E hr h => ?_)
  · obtain ⟨x, r, o, d, c, m, st, bs, sp, os, kvs, fr, rem, rfl, _⟩ := h; rfl
  · obtain ⟨x, r, o, d, c, m, st, bs, sp, os, kvs, fr, rem, rfl, hst, S, hrl, k⟩ := h
    have hu : _ + 64 < cLine := hr.units
    have hN := S.names
    have hF := S.fldsOn
    have hO := S.ord
    have hD := S.fld
    have hM := S.kept
    have hro := S.room.ok
    have hfew := hro.few
    have hone := hro.one
    have hsm := hro.small
    have hlr := rowAt_len bs sp
    have hpn := places_len bs
    have hom : (os.map V.int).length = bs.length := by rw [List.length_map, hN.len]
    have hst' : H st = some (.tup [.ref o, .ref d, .int ((cells bs + sp : Nat) : Int), .ref c, .ref m]) := hst
    have nsm : st ≠ m := ne_of hst' hM (fun z => nomatch z)
    obtain ⟨⟨dx, hX⟩, hR, _⟩ := id S.room
    refine ⟨_, (pss_cons (ps_set (i := 2) sc_law_stands.nd rfl (Or.inl rfl) (pe_callB (cr_sumK (K := K) rfl rfl) (by rfl) T.b_sum (by decide +kernel) (pa_cons (pe_lc (own := [("_law_one", 3)]) (g := (gName 3)) rfl sc_law_stands.nd (pi_listK (K := K) rfl (pe_ix (ix_seqK (K := K) rfl) (pv 1) pe_int (fun _ _ => rfl))) (blkOk_by (own := [("_law_one", 3)]) (N := ["_law_room", "_law_state", "_law_used", "_law_one", "_law_places", "_law_found", "_law_pair"]) (sc := defScope s_law_stands) (by decide +kernel)) (fun _ _ _ _ _ => (pg_name (i := 3) sc_law_stands.nd rfl (Or.inl rfl))) (fun _ _ _ _ _ => pts_nil) (fun _ _ _ _ _ => (pe_op op_addA pe_int (pe_callB (call_lenK (K := K) rfl) (by rfl) T.b_len (by decide +kernel) (pa_cons (pe_dget (hu1 hu) (pe_ix (ix_seqK (K := K) rfl) (pv 1) pe_int (fun _ _ => rfl)) (pv 3) (fun _ _ => rfl)) pa_nil))))) pa_nil)))
      (pss_cons (ps_set (i := 4) sc_law_stands.nd rfl (Or.inr rfl) (pe_callC c_law_places_of (hr.mono (by decide)) rfl (pa_cons (pe_ix (ix_seqK (K := K) rfl) (pv 1) pe_int (fun _ _ => rfl)) (pa_cons (pe_ix (ix_seqK (K := K) rfl) (pv 1) pe_int (fun _ _ => rfl)) pa_nil))))
      (pss_cons (ps_if (PW.pt (pw_or (pt_not (pt_val (pe_callC c_law_words_are (hr.mono (by decide)) rfl (pa_cons (pe_lst (pa_cons (pe_methC0 R.cl c_Room_used (hr.mono (by decide)) passL (pv 0)) pa_nil)) (pa_cons (pe_lst (pa_cons (pv 2) pa_nil)) pa_nil))))) (pw_or1 (pt_not (pt_val (pe_callC c_law_told (hr.mono (by decide)) rfl (pa_cons (pv 0) (pa_cons (pv 1) pa_nil)))))))) (pss_one (ps_ret pe_bl)) pss_nil)
      (pss_cons (ps_if (pt_not (pt_val (pe_callC c_law_words_are (hr.mono (by decide)) rfl (pa_cons (pe_methC0 R.cl c_Room_places (hr.mono (by decide)) passL (pv 0)) (pa_cons (pe_lc (own := [("_law_one", 3)]) (g := (gName 3)) rfl sc_law_stands.nd (pi_listK (K := K) rfl (pe_ix (ix_seqK (K := K) rfl) (pv 1) pe_int (fun _ _ => rfl))) (blkOk_by (own := [("_law_one", 3)]) (N := ["_law_room", "_law_state", "_law_used", "_law_one", "_law_places", "_law_found", "_law_pair"]) (sc := defScope s_law_stands) (by decide +kernel)) (fun _ _ _ _ _ => (pg_name (i := 3) sc_law_stands.nd rfl (Or.inl rfl))) (fun _ _ _ _ _ => pts_nil) (fun _ _ _ _ _ => (pe_dget (hu1 hu) (pv 4) (pv 3) (fun _ _ => rfl)))) pa_nil))))) (pss_one (ps_ret pe_bl)) pss_nil)
      (pss_cons (ps_if (pt_not (pt_val (pe_callC c_law_words_are (hr.mono (by decide)) rfl (pa_cons (pe_methC0 R.cl c_Room_come_to (hr.mono (by decide)) passL (pv 0)) (pa_cons (pe_lc (own := [("_law_one", 3)]) (g := (gName 3)) rfl sc_law_stands.nd (pi_listK (K := K) rfl (pe_callC c_law_come_to (hr.mono (by decide)) rfl (pa_cons (pe_ix (ix_seqK (K := K) rfl) (pv 1) pe_int (fun _ _ => rfl)) (pa_cons (pe_ix (ix_seqK (K := K) rfl) (pv 1) pe_int (fun _ _ => rfl)) pa_nil)))) (blkOk_by (own := [("_law_one", 3)]) (N := ["_law_room", "_law_state", "_law_used", "_law_one", "_law_places", "_law_found", "_law_pair"]) (sc := defScope s_law_stands) (by decide +kernel)) (fun _ _ _ _ _ => (pg_name (i := 3) sc_law_stands.nd rfl (Or.inl rfl))) (fun _ _ _ _ _ => pts_nil) (fun _ _ _ _ _ => (pe_dget (hu1 hu) (pv 4) (pv 3) (fun _ _ => rfl)))) pa_nil))))) (pss_one (ps_ret pe_bl)) pss_nil)
      (pss_cons (ps_for (PassesOwn.never) rfl (pi_listK (K := K) rfl (pe_lst (pa_cons (pe_methC0 R.cl c_Room_cells (hr.mono (by decide)) passL (pv 0)) (pa_cons (pe_methC0 R.cl c_Room_places (hr.mono (by decide)) passL (pv 0)) (pa_cons (pe_methC0 R.cl c_Room_come_to (hr.mono (by decide)) passL (pv 0)) (pa_cons (pe_methC R.cl c_Room_told (hr.mono (by decide)) passL (pv 0) (pa_cons pe_int pa_nil)) pa_nil)))))) (pg_name (i := 5) sc_law_stands.nd rfl (Or.inl rfl)) (pss_cons (ps_expr (pe_bmK (K := K) rfl PySem.F.plainAttrs_list PySem.F.slot_list_append PySem.F.type_list_append mt_append (pv 5) (pa_cons pe_int pa_nil)))
      (pss_one (ps_expr (pe_bmK (K := K) rfl PySem.F.plainAttrs_list PySem.F.slot_list_append PySem.F.type_list_append mt_append (pe_ix (ix_seqK (K := K) rfl) (pv 1) pe_int (fun _ _ => rfl)) (pa_cons (pe_tup (pa_cons (pv 5) (pa_cons (pe_callTy (call_listK (K := K) rfl) (by rfl) T.b_list (by decide +kernel) (pa_cons (pv 5) pa_nil)) pa_nil))) pa_nil))))))
      (pss_cons (ps_if (pt_not (pt_val (pe_callC c_law_words_are (hr.mono (by decide)) rfl (pa_cons (pe_methC0 R.cl c_Room_places (hr.mono (by decide)) passL (pv 0)) (pa_cons (pe_lc (own := [("_law_one", 3)]) (g := (gName 3)) rfl sc_law_stands.nd (pi_listK (K := K) rfl (pe_ix (ix_seqK (K := K) rfl) (pv 1) pe_int (fun _ _ => rfl))) (blkOk_by (own := [("_law_one", 3)]) (N := ["_law_room", "_law_state", "_law_used", "_law_one", "_law_places", "_law_found", "_law_pair"]) (sc := defScope s_law_stands) (by decide +kernel)) (fun _ _ _ _ _ => (pg_name (i := 3) sc_law_stands.nd rfl (Or.inl rfl))) (fun _ _ _ _ _ => pts_nil) (fun _ _ _ _ _ => (pe_dget (hu1 hu) (pv 4) (pv 3) (fun _ _ => rfl)))) pa_nil))))) (pss_one (ps_ret pe_bl)) pss_nil)
      (pss_cons (ps_if (pt_not (pt_val (pe_callC c_law_told (hr.mono (by decide)) rfl (pa_cons (pv 0) (pa_cons (pv 1) pa_nil))))) (pss_one (ps_ret pe_bl)) pss_nil)
      (pss_cons (ps_if (pt_not (pt_val (pe_callC c_law_words_are (hr.mono (by decide)) rfl (pa_cons (pe_methC0 R.cl c_Room_cells (hr.mono (by decide)) passL (pv 0)) (pa_cons (pe_callC c_law_cells_of (hr.mono (by decide)) rfl (pa_cons (pe_ix (ix_seqK (K := K) rfl) (pv 1) pe_int (fun _ _ => rfl)) (pa_cons (pe_ix (ix_seqK (K := K) rfl) (pv 1) pe_int (fun _ _ => rfl)) (pa_cons (pe_ix (ix_seqK (K := K) rfl) (pv 1) pe_int (fun _ _ => rfl)) pa_nil)))) pa_nil))))) (pss_one (ps_ret pe_bl)) pss_nil)
      (pss_one (ps_ret (pe_cmpR (op_eqK (K := K) rfl hu) (pe_callB (call_lenK (K := K) rfl) (by rfl) T.b_len (by decide +kernel) (pa_cons (pe_lc (own := [("_law_pair", 6)]) (g := (gName 6)) rfl sc_law_stands.nd (pi_listK (K := K) rfl (pe_ix (ix_seqK (K := K) rfl) (pv 1) pe_int (fun _ _ => rfl))) (blkOk_by (own := [("_law_pair", 6)]) (N := ["_law_room", "_law_state", "_law_used", "_law_one", "_law_places", "_law_found", "_law_pair"]) (sc := defScope s_law_stands) (by decide +kernel)) (fun _ _ _ _ _ => (pg_name (i := 6) sc_law_stands.nd rfl (Or.inl rfl))) (fun _ _ _ _ _ => (pts_one (pt_cmpR (op_neK (K := K) rfl hu) (pe_ix (ix_seqK (K := K) rfl) (pv 6) pe_int (fun _ _ => rfl)) (pe_ix (ix_seqK (K := K) rfl) (pv 6) pe_int (fun _ _ => rfl)) (nomark _)))) (fun _ _ _ _ _ => (pv 6))) pa_nil)) pe_int (nomark _))))))))))))), ?_⟩
    repeat walk_at "t_w"
    refine w_lcL (a := o) (xs := os.map V.int) (fun _ => true) (fun i => V.int (1 + ((bs.getD i []).length : Int))) ?ha ?hx ?hz ?hw ?ht ?he ?hk
    case ha => walk_at "t_ev"
    case hx => exact SqL.of hO
    case hz => rw [hom]; omega
    case hw => intro x; rfl
    case ht => intro i x G e hi; walk_at "t_ev"
    case he =>
      intro i y G e hi hf
      obtain ⟨rfl, hil⟩ := os_get hi
      rw [hN.len] at hil
      obtain ⟨fs, hfs⟩ : ∃ fs, bs[i]? = some fs := ⟨_, List.getElem?_eq_getElem hil⟩
      obtain ⟨v, hv, l, ts, rfl, hl, hA⟩ := (hF.ex e) i fs hfs
      have ef : bs.getD i [] = fs := by rw [List.getD_eq_getElem?_getD, hfs]; rfl
      have hstG := e _ _ hst'
      have hDG := e _ _ hD
      rw [ef, ← hA.length]
      intro H1 e1 Q1 q1
      have hstG1 := e1 _ _ hstG
      have hDG1 := e1 _ _ hDG
      have hl1 := e1 _ _ hl
      repeat walk_at "t_w"
      exact q1 _ (by walk_at "t_ex")
    case hk =>
      intro lu H1 hlu e1 hlu1
      rw [given_cells hom] at hlu1
      repeat walk_at "t_w"
      rw [sum_cells]
      repeat walk_at "t_w"
      refine w_placesOf (SqL.of (e1 _ _ hO)) (e1 _ _ hD) (hF.ex e1) hN (by omega) fun kv2 hP g H2 hg e2 hg2 => ?_
      have hE2 : Ex H H2 := e1.trans e2
      have hX2 := hE2 _ _ hX
      repeat walk_at "t_w"
      refine w_usedM (S.room.ex hE2) fun H3 e3 => ?_
      repeat walk_at "t_w"
      refine w_words2 [((cells bs : Nat) : Int)] (by walk_at "t_hp") (SqL.of (by walk_at "t_hp")) rfl rfl (by simp) fun H4 e4 => ?_
      have hE24 : Ex H2 H4 := by walk_at "t_ex"
      have hE4 : Ex H H4 := hE2.trans hE24
      have S4 := S.ex hE4 fun a ha => let ⟨u, h, _⟩ := S.six a ha; ⟨u, h⟩
      have hg4 := hE24 _ _ hg2
      have ngm : g ≠ m := ne_of hg4 S4.kept (fun z => nomatch z)
      repeat walk_at "t_w"
      refine w_toldN (hE4 _ _ hst') S4 (by omega) fun rem5 H5 e5 S5 hrl5 => ?_
      have hst5 : H5 st = some (.tup [.ref o, .ref d, .int ((cells bs + sp : Nat) : Int), .ref c, .ref m]) := e5 _ _ (hp_off (by simpa using nsm) (hE4 _ _ hst'))
      have hg5 : H5 g = some (.dK kv2) := e5 _ _ (hp_off (by simpa using ngm) hg4)
      have E5 : Ex (off [m] H) H5 := exo (off_ex.trans hE4) (fun a ha => .inl ha) e5
      clear hE24 hE4 hE2 e5 e4 e3 e2 e1 hg2 hg4 hlu1 S4 hX2
      obtain ⟨⟨dx5, hX5⟩, hR5, _⟩ := id S5.room
      have hO5 := S5.ord
      have hD5 := S5.fld
      have hF5 := S5.fldsOn
      repeat walk_at "t_w"
      refine w_placesM S5.room fun q1 H6 hq1 e6 hq16 => ?_
      have hst6 := e6 _ _ hst5
      have hg6 := e6 _ _ hg5
      repeat walk_at "t_w"
      refine w_lcL (a := o) (xs := os.map V.int) (fun _ => true) (fun i => V.int ((pl bs i : Nat) : Int)) ?ha ?hx ?hz ?hw ?ht ?he ?hk
      case ha => walk_at "t_ev"
      case hx => exact SqL.of (e6 _ _ hO5)
      case hz => rw [hom]; omega
      case hw => intro x; rfl
      case ht => intro i x G e hi; walk_at "t_ev"
      case he =>
        intro i y G e hi hf
        obtain ⟨rfl, hil⟩ := os_get hi
        rw [hN.len] at hil
        have hvp := hP.2 i hil
        have hgG := e _ _ hg6
        walk_at "t_ev"
      case hk =>
        intro q2 H7 hq2 e7 hq27
        rw [given_places hom] at hq27
        repeat walk_at "t_w"
        refine w_words2 (asI (places bs)) (by walk_at "t_hp") (SqL.of (by walk_at "t_hp")) rfl rfl (by rw [asI_len, hpn]; omega) fun H8 e8 => ?_
        have hE8 : Ex H5 H8 := by walk_at "t_ex"
        have hX8 := hE8 _ _ hX5
        have hst8 := hE8 _ _ hst5
        have hg8 := hE8 _ _ hg5
        repeat walk_at "t_w"
        refine w_comeTo (S5.room.ex hE8) fun al hal q3 H9 hq3 e9 hq39 => ?_
        have hE9 : Ex H5 H9 := hE8.trans e9
        have hst9 := hE9 _ _ hst5
        have hg9 := hE9 _ _ hg5
        have hall := hal.lt hro
        have hall4 : al.length ≤ bs.length := nodup_few hal.nodup hall
        repeat walk_at "t_w"
        refine w_lc ?_
        repeat walk_at "t_w"
        refine w_comeToN sp (SqL.of (hE9 _ _ hO5)) (hE9 _ _ hD5) (hF5.ex hE9) hN hro fun al2 hal2 q4 H10 hq4 e10 hq410 => ?_
        cases hal2.uniq hal
        have hg10 := e10 _ _ hg9
        repeat walk_at "t_w"
        refine lcjL (xs := (al.map (nm os)).map V.int) (Evl.Cw H10 (fun _ => true) (fun i => V.int ((pl bs (al.getD i 0) : Nat) : Int))) ?_ ?_ ?_ ?_
        · exact fun Dl hD => ⟨hD, Evl.Ex.new hD, upd_same⟩
        · exact fun Dl i H' _ p => SqL.of (p.2.1 _ _ hq410)
        · intro Dl i y H11 hDl hy pp
          obtain ⟨rfl, hil, hia⟩ := nm_get hy
          have hvp := hP.2 _ (hall _ hia)
          have hg11 := pp.2.1 _ _ hg10
          refine ⟨rfl, Evl.cw_turn pp (by omega) ?_ ?_⟩
          · walk_at "t_ev"
          · intro _; walk_at "t_ev"
        · intro Dl H11 hDl pp
          obtain ⟨p1, p2, p3⟩ := pp
          rw [given_come (by rw [List.length_map, List.length_map])] at p3
          have hq311 := p2 _ _ (e10 _ _ hq39)
          repeat walk_at "t_w"
          refine w_words2 (asI (al.map (pl bs))) (by walk_at "t_hp") (SqL.of (by walk_at "t_hp")) rfl rfl (by rw [asI_len, List.length_map]; omega) fun H12 e12 => ?_
          have hE12 : Ex H5 H12 := by walk_at "t_ex"
          have S12 := S5.ex hE12 fun a ha => let ⟨u, h, _⟩ := S5.six a ha; ⟨u, h⟩
          have hst12 := hE12 _ _ hst5
          have hg12 := hE12 _ _ hg5
          have E12 : Ex (off [m] H) H12 := E5.trans hE12
          clear e12 p1 p2 p3 hq311 hg10 hq410 e10 hg9 hst9 hE9 hq39 e9 hg8 hst8 hX8 hE8 e8 hq27 e7 hg6 hst6 hq16 e6 hE12 S5 hst5 hg5 E5 hX5 hR5 hO5 hD5 hF5
          obtain ⟨⟨dx12, hX12⟩, hR12, _⟩ := id S12.room
          have hb0 : bs[0]? = some bs[0] := List.getElem?_eq_getElem hone
          repeat walk_at "t_w"
          refine w_cellsM S12.room fun f1 G1 hf1 x1 hf1' => ?_
          have hX13 := x1 _ _ hX12
          repeat walk_at "t_w"
          refine w_placesM (S12.room.ex x1) fun f2 G2 hf2 x2 hf2' => ?_
          have hX14 := x2 _ _ hX13
          repeat walk_at "t_w"
          refine w_comeTo (S12.room.ex (x1.trans x2)) fun al3 hal3 f3 G3 hf3 x3 hf3' => ?_
          cases hal3.uniq hal
          have hX15 := x3 _ _ hX14
          repeat walk_at "t_w"
          refine w_toldOk (i := 0) (S12.room.ex ((x1.trans x2).trans x3)) hb0 fun f4 ws4 G4 hf4 x4 hf4' hws4 => ?_
          have hX16 := x4 _ _ hX15
          repeat walk_at "t_w"
          rename_i lf hlf
          have hst16 : G4 st = some (.tup [.ref o, .ref d, .int ((cells bs + sp : Nat) : Int), .ref c, .ref m]) := x4 _ _ (x3 _ _ (x2 _ _ (x1 _ _ hst12)))
          have hg16 : G4 g = some (.dK kv2) := x4 _ _ (x3 _ _ (x2 _ _ (x1 _ _ hg12)))
          have a1 : G4 f1 = some (.lst ((rowAt bs sp).map V.int)) := x4 _ _ (x3 _ _ (x2 _ _ hf1'))
          have a2 : G4 f2 = some (.lst ((asI (places bs)).map V.int)) := x4 _ _ (x3 _ _ hf2')
          have a3 : G4 f3 = some (.lst ((asI (al.map (pl bs))).map V.int)) := x4 _ _ hf3'
          have b1 := hf1
          have b2 : H12 f2 = none := fresh_back x1 hf2
          have b3 : H12 f3 = none := fresh_back (x1.trans x2) hf3
          have b4 : H12 f4 = none := fresh_back ((x1.trans x2).trans x3) hf4
          have n12 : f1 ≠ f2 := ne_of_none hf1' hf2
          have n13 : f1 ≠ f3 := ne_of_none (x2 _ _ hf1') hf3
          have n14 : f1 ≠ f4 := ne_of_none (x3 _ _ (x2 _ _ hf1')) hf4
          have n23 : f2 ≠ f3 := ne_of_none hf2' hf3
          have n24 : f2 ≠ f4 := ne_of_none (x3 _ _ hf2') hf4
          have n34 : f3 ≠ f4 := ne_of_none hf3' hf4
          have xG4 : Ex H12 G4 := ((x1.trans x2).trans x3).trans x4
          have hm12 := S12.kept
          obtain ⟨L, hL⟩ : ∃ L : List (Addr × List V × List PyData), L = [(f1, (rowAt bs sp).map V.int, (rowAt bs sp).map PyData.int), (f2, (asI (places bs)).map V.int, (asI (places bs)).map PyData.int), (f3, (asI (al.map (pl bs))).map V.int, (asI (al.map (pl bs))).map PyData.int), (f4, ws4, bs[0].map (Thing.handD bs))] := ⟨_, rfl⟩
          have hLx : L.map (fun p => V.ref p.1) = [V.ref f1, V.ref f2, V.ref f3, V.ref f4] := by rw [hL]; rfl
          have hLf : ∀ a ∈ L.map (·.1), H12 a = none := by
            rw [hL]
            intro a ha
            simp only [List.map_cons, List.map_nil, List.mem_cons, List.not_mem_nil, or_false] at ha
            rcases ha with rfl | rfl | rfl | rfl
            · exact b1
            · exact b2
            · exact b3
            · exact b4
          have hLn : (L.map (·.1)).Nodup := by
            rw [hL]
            simp only [List.map_cons, List.map_nil, List.nodup_cons, List.mem_cons, List.not_mem_nil, or_false, not_or, List.nodup_nil, and_true, not_false_eq_true]
            exact ⟨⟨n12, n13, n14⟩, ⟨n23, n24⟩, n34⟩
          have hL4 : L.length = 4 := by rw [hL]; rfl
          have hG4f : ∀ a ∈ L.map (·.1), ∃ u, G4 a = some u := by
            rw [hL]
            intro a ha
            simp only [List.map_cons, List.map_nil, List.mem_cons, List.not_mem_nil, or_false] at ha
            rcases ha with rfl | rfl | rfl | rfl
            · exact ⟨_, a1⟩
            · exact ⟨_, a2⟩
            · exact ⟨_, a3⟩
            · exact ⟨_, hf4'⟩
          obtain ⟨G5, hG5⟩ : ∃ G5, G5 = upd G4 lf (.lst [V.ref f1, V.ref f2, V.ref f3, V.ref f4]) := ⟨_, rfl⟩
          have xG5 : Ex H12 G5 := by rw [hG5]; exact xG4.trans (Evl.Ex.new hlf)
          have x45 : Ex G4 G5 := by rw [hG5]; exact Evl.Ex.new hlf
          have hlf5 : G5 lf = some (.lst (L.map fun p => V.ref p.1)) := by rw [hG5, upd_same, hLx]
          have nlm : lf ≠ m := fun e => by rw [e, xG4 _ _ hm12] at hlf; cases hlf
          have nlL : lf ∉ L.map (·.1) := fun e => by obtain ⟨u, hu⟩ := hG4f _ e; rw [hlf] at hu; cases hu
          have ngL : g ∉ L.map (·.1) := fun e => by have := hLf _ e; rw [hg12] at this; cases this
          have nsL : st ∉ L.map (·.1) := fun e => by have := hLf _ e; rw [hst12] at this; cases this
          have hdat : ∀ p ∈ L, Four K ([x, r, o, d, c, m] ++ L.map (·.1)) G5 p := by
            have hT : ∀ a ∈ [x, r, o, d, c, m] ++ L.map (·.1), ∀ ts, G5 a ≠ some (.tup ts) := by
              intro a ha ts
              rcases List.mem_append.mp ha with h | h
              · obtain ⟨u, hu, hn⟩ := S12.six a h
                rw [xG5 _ _ hu]
                exact fun z => hn ts (Option.some.inj z)
              · rw [hL] at h
                simp only [List.map_cons, List.map_nil, List.mem_cons, List.not_mem_nil, or_false] at h
                rcases h with rfl | rfl | rfl | rfl
                · rw [x45 _ _ a1]; exact fun z => nomatch z
                · rw [x45 _ _ a2]; exact fun z => nomatch z
                · rw [x45 _ _ a3]; exact fun z => nomatch z
                · rw [x45 _ _ hf4']; exact fun z => nomatch z
            have hw5 : All2 (HandAt (off ([x, r, o, d, c, m] ++ L.map (·.1)) G5) bs) ws4 bs[0] := hws4.mono fun v t z => hand_off (z.ex x45) hT
            have hfl : bs[0].length ≤ 400 := by
              have h1 := pl_step hb0
              have h2 : pl bs (0 + 1) ≤ cells bs := by
                rcases Nat.lt_or_ge (0 + 1) bs.length with q | q
                · have := pl_lt q (Nat.le_refl _); rw [pl_all] at this; omega
                · have : 0 + 1 = bs.length := by omega
                  rw [this, pl_all]; exact Nat.le_refl _
              omega
            intro p hp
            rw [hL] at hp
            simp only [List.mem_cons, List.not_mem_nil, or_false] at hp
            rcases hp with rfl | rfl | rfl | rfl
            · exact ⟨x45 _ _ a1, dpAll_int _, by rw [List.length_map, hlr]; omega, shaped_ints3 _⟩
            · exact ⟨x45 _ _ a2, dpAll_int _, by rw [List.length_map, asI_len, hpn]; omega, shaped_ints3 _⟩
            · exact ⟨x45 _ _ a3, dpAll_int _, by rw [List.length_map, asI_len, List.length_map]; omega, shaped_ints3 _⟩
            · exact ⟨x45 _ _ hf4', dpAll_hand hw5, by rw [hws4.length]; omega, shaped_hand3 bs _ _ (int_flat 3)⟩
          have S50 : Sta K C ([x, r, o, d, c, m] ++ L.map (·.1)) G5 x r o d c m bs sp os kvs fr rem5 := S12.widen xG5 (fun a ha => (List.mem_append.mp ha).imp id (hLf a)) (fun a ha => List.mem_append_left _ ha)
          have hst17 : G5 st = some (.tup [.ref o, .ref d, .int ((cells bs + sp : Nat) : Int), .ref c, .ref m]) := x45 _ _ hst16
          have hg17 : G5 g = some (.dK kv2) := x45 _ _ hg16
          have hLH : ∀ a ∈ L.map (·.1), H a = none := fun a ha => fresh_exo E12 hm12 (hLf a ha)
          have E5 : Ex (off [m] H) G5 := E12.trans xG5
          rw [← hG5]
          clear a1 a2 a3 b1 b2 b3 b4 n12 n13 n14 n23 n24 n34 hf1 hf1' hf2 hf2' hf3 hf3' hf4 hf4' hws4 hL hG5 hLx hlf x45 xG5 xG4 x1 x2 x3 x4 hX13 hX14 hX15 hX16 hG4f hg16 hst16 hLf hX12 hR12
          refine loopL (xs := L.map fun p => V.ref p.1) (fun j σ' H' => ∃ (remj : List V) (y5 : Option V), σ' = [some (.ref x), some (.ref st), some (.int ((cells bs : Nat) : Int)), none, some (.ref g), y5, none] ∧ Sta K C ([x, r, o, d, c, m] ++ (L.drop j).map (·.1)) H' x r o d c m bs sp os kvs fr remj ∧
            remj.length ≤ rem5.length + j ∧ Ex (off (m :: L.map (·.1)) G5) H' ∧ ∀ p ∈ L.drop j, Four K ([x, r, o, d, c, m] ++ (L.drop j).map (·.1)) H' p) ?_ ?_ ?_ ?_
          · exact ⟨rem5, none, rfl, S50, Nat.le_refl _, off_ex, hdat⟩
          · rintro j σ' H' _ ⟨remj, y5, rfl, Sj, hrj, hE, _⟩
            exact SqL.of (hE _ _ (hp_off (by simp only [List.mem_cons, not_or]; exact ⟨nlm, nlL⟩) hlf5))
          · rintro j y σ' H' hj ⟨remj, y5, rfl, Sj, hrj, hE, h4⟩
            rw [List.getElem?_map] at hj
            cases hp : L[j]? with
            | none => rw [hp] at hj; cases hj
            | some pq =>
              rw [hp] at hj
              cases hj
              obtain ⟨f, xs, ds⟩ := pq
              have hjl := (List.getElem?_eq_some_iff.mp hp).1
              have hdr : L.drop j = (f, xs, ds) :: L.drop (j + 1) := by
                rw [List.drop_eq_getElem_cons hjl, (List.getElem?_eq_some_iff.mp hp).2]
              obtain ⟨hf, hfd, hfw, hfs⟩ := h4 (f, xs, ds) (by rw [hdr]; exact List.mem_cons_self ..)
              have hf : H' f = some (.lst xs) := hf
              have hfw : xs.length ≤ 1000 := hfw
              have hfL : f ∈ L.map (·.1) := List.mem_map.mpr ⟨_, List.mem_of_getElem? hp, rfl⟩
              have hstj : H' st = some (.tup [.ref o, .ref d, .int ((cells bs + sp : Nat) : Int), .ref c, .ref m]) := hE _ _ (hp_off (by simp only [List.mem_cons, not_or]; exact ⟨nsm, nsL⟩) hst17)
              have hmj := Sj.kept
              have nmf : m ≠ f := fun e => by
                have := hLH f hfL
                rw [← e, hM] at this; cases this
              have nsf : st ≠ f := fun e => nsL (e ▸ hfL)
              have hz1 : xs.length < 1000000 := by omega
              have hz2 : remj.length < 1000000 := by omega
              repeat walk_at "t_w"
              rename_i p hpn2 q hqn
              have npf : p ≠ f := fun e => by rw [e, upd_same] at hpn2; cases hpn2
              have hp0 : H' p = none := by rw [upd_ne npf] at hpn2; exact hpn2
              have nqp : q ≠ p := fun e => by rw [e, upd_same] at hqn; cases hqn
              have nqf : q ≠ f := fun e => by rw [e, upd_ne (Ne.symm npf), upd_same] at hqn; cases hqn
              have hq0 : H' q = none := by rw [upd_ne nqp, upd_ne nqf] at hqn; exact hqn
              have npm : p ≠ m := fun e => by rw [e, hmj] at hp0; cases hp0
              have nqm : q ≠ m := fun e => by rw [e, hmj] at hq0; cases hq0
              obtain ⟨G, hG⟩ : ∃ G, G = upd (upd (upd (upd H' f (.lst (xs ++ [.int 3]))) p (.lst (xs ++ [.int 3]))) q (.tup [.ref f, .ref p])) m (.lst (remj ++ [.ref q])) := ⟨_, rfl⟩
              have hGe : ∀ a u, a ≠ f → a ≠ m → H' a = some u → G a = some u := fun a u h1 h2 h3 => by
                have h4 : a ≠ p := fun e => by rw [e, hp0] at h3; cases h3
                have h5 : a ≠ q := fun e => by rw [e, hq0] at h3; cases h3
                rw [hG, upd_ne h2, upd_ne h5, upd_ne h4, upd_ne h1]; exact h3
              have hTsub : ∀ a ∈ [x, r, o, d, c, m] ++ (L.drop (j + 1)).map (·.1), a ∈ [x, r, o, d, c, m] ++ (L.drop j).map (·.1) := fun a ha => by
                rw [hdr, List.map_cons]
                rcases List.mem_append.mp ha with h | h
                · exact List.mem_append_left _ h
                · exact List.mem_append_right _ (List.mem_cons_of_mem _ h)
              have hfT : f ∈ [x, r, o, d, c, m] ++ (L.drop j).map (·.1) := by rw [hdr, List.map_cons]; exact List.mem_append_right _ (List.mem_cons_self ..)
              have hmT : m ∈ [x, r, o, d, c, m] ++ (L.drop j).map (·.1) := List.mem_append_left _ (by simp)
              have eT : Ex (off ([x, r, o, d, c, m] ++ (L.drop j).map (·.1)) H') (off ([x, r, o, d, c, m] ++ (L.drop (j + 1)).map (·.1)) G) := fun a u e => by
                have ha : a ∉ [x, r, o, d, c, m] ++ (L.drop j).map (·.1) := fun z => by rw [off_in z] at e; cases e
                rw [off_out ha] at e
                rw [off_out (fun z => ha (hTsub a z))]
                exact hGe a u (fun z => ha (z ▸ hfT)) (fun z => ha (z ▸ hmT)) e
              have hin6 : ∀ a ∈ [x, r, o, d, c, m], a ≠ f := fun a ha e => by
                obtain ⟨u, hu, _⟩ := S.six a ha
                have := hLH f hfL
                rw [← e, hu] at this; cases this
              have hTin : ∀ a ∈ [x, r, o, d, c, m] ++ (L.drop (j + 1)).map (·.1), ∃ u, H' a = some u := fun a ha => by
                rcases List.mem_append.mp ha with h | h
                · obtain ⟨u, hu, _⟩ := Sj.six a h; exact ⟨u, hu⟩
                · obtain ⟨p', hp', rfl⟩ := List.mem_map.mp h
                  exact ⟨_, (h4 p' (by rw [hdr]; exact List.mem_cons_of_mem _ hp')).at_⟩
              have hnodj : f ∉ (L.drop (j + 1)).map (·.1) := by
                have h1 : ((L.drop j).map (·.1)).Nodup := by rw [List.map_drop]; exact hLn.sublist (List.drop_sublist _ _)
                rw [hdr, List.map_cons] at h1
                exact (List.nodup_cons.mp h1).1
              have hfout : f ∉ [x, r, o, d, c, m] ++ (L.drop (j + 1)).map (·.1) := fun h => (List.mem_append.mp h).elim (fun z => hin6 f z rfl) hnodj
              have hqout : q ∉ [x, r, o, d, c, m] ++ (L.drop (j + 1)).map (·.1) := fun h => by obtain ⟨u, hu⟩ := hTin q h; rw [hq0] at hu; cases hu
              have hpout : p ∉ [x, r, o, d, c, m] ++ (L.drop (j + 1)).map (·.1) := fun h => by obtain ⟨u, hu⟩ := hTin p h; rw [hp0] at hu; cases hu
              repeat walk_at "t_w"
              rw [← hG]
              refine ⟨remj ++ [.ref q], _, rfl, ?_, by rw [List.length_append]; show remj.length + 1 ≤ _; omega, fun a u e => ?_, fun p' hp' => ?_⟩
              · refine Sj.app (q := q) (f := f) (p := p) (xs := xs ++ [.int 3]) (ds := ds ++ [.int 3]) eT (fun a ha => List.mem_append_left _ ha) (fun a ha nam u hu => hGe a u (hin6 a ha) nam hu) (by rw [hG, upd_same])
                  (hp_off hqout (by rw [hG, upd_ne nqm, upd_same])) (hp_off hfout (by rw [hG, upd_ne (Ne.symm nmf), upd_ne (Ne.symm nqf), upd_ne (Ne.symm npf), upd_same])) (hp_off hpout (by rw [hG, upd_ne npm, upd_ne (Ne.symm nqp), upd_same])) (dpAll_snoc (.int 3) (DpAll.mono eT hfd)) hfs
              · have ha : a ∉ m :: L.map (·.1) := fun z => by rw [off_in z] at e; cases e
                exact hGe a u (fun z => ha (z ▸ List.mem_cons_of_mem _ hfL)) (fun z => ha (z ▸ List.mem_cons_self ..)) (hE a u e)
              · obtain ⟨k1, k2, k3, k4⟩ := h4 p' (by rw [hdr]; exact List.mem_cons_of_mem _ hp')
                have hp'L : p'.1 ∈ (L.drop (j + 1)).map (·.1) := List.mem_map.mpr ⟨p', hp', rfl⟩
                have hp'6 : p'.1 ≠ m := fun e => by
                  have h1 : m ∈ L.map (·.1) := by rw [← e]; exact List.mem_map.mpr ⟨p', List.mem_of_mem_drop hp', rfl⟩
                  have := hLH m h1
                  rw [hM] at this; cases this
                exact ⟨hGe _ _ (fun e => hnodj (e ▸ hp'L)) hp'6 k1, DpAll.mono eT k2, k3, k4⟩
          · rintro σ' H' ⟨remj, y5, rfl, Sj, hrj, hE, _⟩
            rw [List.length_map, hL4, List.drop_of_length_le (by omega)] at Sj
            rw [List.length_map, hL4] at hrj
            change Sta K C [x, r, o, d, c, m] H' x r o d c m bs sp os kvs fr remj at Sj
            have hstj : H' st = some (.tup [.ref o, .ref d, .int ((cells bs + sp : Nat) : Int), .ref c, .ref m]) := hE _ _ (hp_off (by simp only [List.mem_cons, not_or]; exact ⟨nsm, nsL⟩) hst17)
            have ngm : g ≠ m := fun e => by rw [e, hm12] at hg12; cases hg12
            have hgj : H' g = some (.dK kv2) := hE _ _ (hp_off (by simp only [List.mem_cons, not_or]; exact ⟨ngm, ngL⟩) hg17)
            have Ej : Ex (off [m] H) H' := exo E5 (fun a ha => by
              rcases List.mem_cons.mp ha with rfl | h
              · exact .inl (by simp)
              · exact .inr (hLH a h)) hE
            clear hE hdat S50 hst17 hg17 E5 hlf5 nlL ngL nsL hLH hLn hL4 S12 hst12 hg12 E12 hm12 nlm
            obtain ⟨⟨dxj, hXj⟩, hRj, _⟩ := id Sj.room
            have hOj := Sj.ord
            have hDj := Sj.fld
            have hFj := Sj.fldsOn
            repeat walk_at "t_w"
            refine w_placesM Sj.room fun q1 J1 hq1 j1 hq16 => ?_
            have hst6 := j1 _ _ hstj
            have hg6 := j1 _ _ hgj
            repeat walk_at "t_w"
            refine w_lcL (a := o) (xs := os.map V.int) (fun _ => true) (fun i => V.int ((pl bs i : Nat) : Int)) ?ha ?hx ?hz ?hw ?ht ?he ?hk
            case ha => walk_at "t_ev"
            case hx => exact SqL.of (j1 _ _ hOj)
            case hz => rw [hom]; omega
            case hw => intro x; rfl
            case ht => intro i x G e hi; walk_at "t_ev"
            case he =>
              intro i y G e hi hf
              obtain ⟨rfl, hil⟩ := os_get hi
              rw [hN.len] at hil
              have hvp := hP.2 i hil
              have hgG := e _ _ hg6
              walk_at "t_ev"
            case hk =>
              intro q2 J2 hq2 j2 hq27
              rw [given_places hom] at hq27
              repeat walk_at "t_w"
              refine w_words2 (asI (places bs)) (by walk_at "t_hp") (SqL.of (by walk_at "t_hp")) rfl rfl (by rw [asI_len, hpn]; omega) fun J3 j3 => ?_
              have hE3 : Ex H' J3 := by walk_at "t_ex"
              have S3 := Sj.ex hE3 fun a ha => let ⟨u, h, _⟩ := Sj.six a ha; ⟨u, h⟩
              repeat walk_at "t_w"
              refine w_toldN (hE3 _ _ hstj) S3 (by omega) fun rem6 J4 j4 S4 hrl6 => ?_
              have hst7 : J4 st = some (.tup [.ref o, .ref d, .int ((cells bs + sp : Nat) : Int), .ref c, .ref m]) := j4 _ _ (hp_off (by simpa using nsm) (hE3 _ _ hstj))
              have E7 : Ex (off [m] H) J4 := exo (Ej.trans hE3) (fun a ha => .inl ha) j4
              clear hq27 j2 hg6 hst6 hq16 j1 j3 hXj hRj hOj hDj hFj Ej hgj hstj Sj hE3 S3 j4
              obtain ⟨⟨dx7, hX7⟩, _, _⟩ := id S4.room
              repeat walk_at "t_w"
              refine w_cellsM S4.room fun q3 J5 hq3 j5 hq35 => ?_
              have hst8 := j5 _ _ hst7
              repeat walk_at "t_w"
              refine w_cellsOf (SqL.of (j5 _ _ S4.ord)) (j5 _ _ S4.fld) (S4.fldsOn.ex j5) hN hro fun q4 J6 hq4 j6 hq46 => ?_
              repeat walk_at "t_w"
              refine w_words2 (rowAt bs sp) (by walk_at "t_hp") (SqL.of (by walk_at "t_hp")) rfl rfl (by omega) fun J7 j7 => ?_
              have hE7 : Ex J4 J7 := (j5.trans j6).trans j7
              have S7 := S4.ex hE7 fun a ha => let ⟨u, h, _⟩ := S4.six a ha; ⟨u, h⟩
              have hst9 := hE7 _ _ hst7
              have hm9 := S7.kept
              repeat walk_at "t_w"
              refine w_lcL (a := m) (xs := rem6) (fun _ => false) (fun _ => .non) ?ha ?hx ?hz ?hw ?ht ?he ?hk
              case ha => walk_at "t_ev"
              case hx => exact SqL.of hm9
              case hz => omega
              case hw => intro x; rfl
              case ht =>
                intro i y G e hi G2 e2 Q2 q2
                obtain ⟨qq, aa, bb, dt, rfl, hqq, da, db, sh⟩ := (S7.rems y (List.mem_of_getElem? hi)).ex ((off_ex.trans e).trans e2)
                repeat walk_at "t_w"
                refine w_neSame da db sh ?_
                repeat walk_at "t_w"
                exact q2 _ (by walk_at "t_ex")
              case he => intro i y G e hi hf; cases hf
              case hk =>
                intro q5 J8 hq5 j8 hq58
                rw [given_none] at hq58
                repeat walk_at "t_w"
                exact k rem6 _ (E7.trans (hE7.trans j8)) (S7.ex j8 fun a ha => let ⟨u, h, _⟩ := S7.six a ha; ⟨u, h⟩) (by omega)
end
end Tw

set_option Elab.async false
set_option linter.all false
set_option maxRecDepth 100000
set_option maxHeartbeats 4000000
namespace Tw
open PySem PySem.Spec PyProof.Rows L2
open Evl (Ex ex_l ex_t fresh_back sz_of sz_lt)
local macro_rules | `(tactic| walk_at "t_hp") => `(tactic| first
  | assumption
  | exact upd_same
  | (refine' hp_ne ?hne ?hrest; (case hne => walk_at "t_ne"); (case hrest => walk_at "t_hp"))
  | (refine' hp_ex ?hx ?hrest; (case hx => assumption); (case hrest => walk_at "t_hp")))
local macro_rules | `(tactic| walk_at "t_ne") => `(tactic| first
  | assumption
  | exact Ne.symm (by assumption)
  | (refine' ne_of_none ?h1 ?h2; (case h2 => assumption); (case h1 => walk_at "t_hp"))
  | (refine' Ne.symm (ne_of_none ?h1 ?h2); (case h2 => assumption); (case h1 => walk_at "t_hp")))
local macro_rules | `(tactic| walk_at "t_none") => `(tactic| first
  | assumption
  | (refine' fresh_back ?e ?n; (case n => assumption); (case e => walk_at "t_ex")))
local macro_rules | `(tactic| walk_at "t_ex") => `(tactic| first
  | assumption
  | exact Evl.Ex.refl _
  | (refine' ex_new ?n ?e; (case n => assumption); (case e => walk_at "t_ex"))
  | (refine' Evl.Ex.mut ?e ?n; (case n => walk_at "t_none"); (case e => walk_at "t_ex"))
  | (refine' Evl.Ex.trans ?a ?b; (case b => assumption); (case a => walk_at "t_ex")))
local macro_rules | `(tactic| walk_at "t_sq") => `(tactic| first
  | assumption
  | (refine' SqL.of ?h; (case h => walk_at "t_hp"))
  | (refine' ex_l ?e ?s; (case s => assumption); (case e => walk_at "t_ex")))
local macro_rules | `(tactic| walk_at "t_sqt") => `(tactic| first
  | assumption
  | (refine' SqT.of ?h; (case h => walk_at "t_hp"))
  | (refine' ex_t ?e ?s; (case s => assumption); (case e => walk_at "t_ex")))
local macro_rules | `(tactic| walk_at "t_mul") => `(tactic| first
  | assumption
  | exact Or.inl (Or.inl ⟨by decide, by decide⟩)
  | exact Or.inl (Or.inr ⟨by decide, by decide⟩)
  | exact Or.inl (Or.inl ⟨by omega, by omega⟩)
  | exact Or.inl (Or.inr ⟨by omega, by omega⟩))
local macro_rules | `(tactic| walk_at "t_c") => `(tactic| first
  | assumption
  | decide
  | (show (0 : Int) < _; decide)
  | (show (0 : Int) < _; omega)
  | exact ⟨by decide, by decide⟩
  | exact ⟨by decide, by decide, by decide⟩
  | exact ⟨by omega, by omega⟩
  | exact ⟨by omega, by omega, by omega, by omega⟩)
local macro_rules | `(tactic| walk_at "t_w") => `(tactic| first
  | (with_reducible refine w_seq ?_)
  | (with_reducible refine w_asg ?_)
  | (with_reducible refine w_gName ?_)
  | (with_reducible refine w_nx ?_)
  | (with_reducible refine w_rt ?_)
  | (with_reducible refine w_ct ?_)
  | (with_reducible refine w_bk ?_)
  | (with_reducible refine w_ret ?_)
  | (with_reducible refine w_retN ?_)
  | (with_reducible refine w_drop ?_)
  | (with_reducible refine w_ifS ?_)
  | (with_reducible refine w_next ?_)
  | (with_reducible refine w_break ?_)
  | (with_reducible refine w_cont ?_)
  | ((with_reducible refine' w_var ?h ?_); (case h => rfl))
  | (with_reducible refine w_c ?_)
  | (with_reducible refine w_op ?_)
  | (with_reducible refine w_un ?_)
  | (with_reducible refine w_I0 ?_)
  | ((with_reducible refine' w_I ?c ?_); (case c => walk_at "t_c"))
  | (with_reducible refine w_U ?_)
  | (with_reducible refine w_addI ?_)
  | ((with_reducible refine' w_addL ?h1 ?h2 ?hz ?_); (case h1 => walk_at "t_hp"); (case h2 => walk_at "t_hp"); (case hz => walk_at "t_z"))
  | ((with_reducible refine' w_mulI ?c ?_); (case c => walk_at "t_mul"))
  | ((with_reducible refine' w_mulL1 ?h1 ?b1 ?b2 ?_); (case h1 => walk_at "t_hp"); (case b1 => walk_at "t_z"); (case b2 => walk_at "t_z"))
  | ((with_reducible refine' w_mulL ?h1 ?b1 ?b2 ?hz ?_); (case h1 => walk_at "t_hp"); (case b1 => walk_at "t_z"); (case b2 => walk_at "t_z"); (case hz => walk_at "t_z"))
  | (with_reducible refine w_notIB ?_)
  | (with_reducible refine w_notBB ?_)
  | (with_reducible refine w_notN ?_)
  | (with_reducible refine w_isBB ?_)
  | (with_reducible refine w_isN ?_)
  | (with_reducible refine w_eqI ?_)
  | (with_reducible refine w_neI ?_)
  | (with_reducible refine w_eqB ?_)
  | (with_reducible refine w_neB ?_)
  | (with_reducible refine w_eqS ?_)
  | (with_reducible refine w_neS ?_)
  | (with_reducible refine w_test ?_)
  | (with_reducible refine w_B ?_)
  | (with_reducible refine w_exB ?_)
  | (with_reducible refine w_and ?_)
  | (with_reducible refine w_or ?_)
  | (with_reducible refine w_not ?_)
  | (with_reducible refine w_andV ?_)
  | (with_reducible refine w_orV ?_)
  | (with_reducible refine w_notV ?_)
  | (with_reducible refine w_bl ?_)
  | (with_reducible refine w_if ?_)
  | (with_reducible refine w_nil ?_)
  | (with_reducible refine w_cons ?_)
  | (with_reducible refine w_cb ?_)
  | (with_reducible refine w_call ?_)
  | (with_reducible refine w_tup ?_)
  | (with_reducible refine w_lst ?_)
  | ((with_reducible refine' w_fin ?hz ?_); (case hz => (simp only [List.length_cons, List.length_nil]; decide)))
  | ((with_reducible refine' w_len ?s ?_); (case s => walk_at "t_sq"))
  | ((with_reducible refine' w_lenT ?s ?_); (case s => walk_at "t_sqt"))
  | (with_reducible refine w_intI ?_)
  | (with_reducible refine w_intB ?_)
  | ((with_reducible refine' w_list ?s ?_); (case s => walk_at "t_sq"))
  | (with_reducible refine w_max ?_)
  | (with_reducible refine w_min ?_)
  | (with_reducible refine w_abs ?_)
  | (with_reducible refine w_sl ?_)
  | (with_reducible refine w_noPart ?_)
  | (with_reducible refine w_part ?_)
  | (with_reducible refine w_exI ?_)
  | ((with_reducible refine' w_slL ?s ?_); (case s => walk_at "t_sq"))
  | ((with_reducible refine' w_ixLI ?s ?b ?_); (case s => walk_at "t_sq"); (case b => walk_at "t_lt"))
  | ((with_reducible refine' w_ixL ?s ?e ?_); (case s => walk_at "t_sq"); (case e => walk_at "t_at"))
  | ((with_reducible refine' w_ixT ?s ?e ?_); (case s => walk_at "t_sqt"); (case e => walk_at "t_at"))
  | (with_reducible refine w_gSub ?_)
  | ((with_reducible refine' w_setLI ?e ?b ?_); (case e => walk_at "t_hp"); (case b => walk_at "t_lt"))
  | ((with_reducible refine' w_setL ?e ?b ?_); (case e => walk_at "t_hp"); (case b => walk_at "t_ixn"))
  | (with_reducible refine w_bm ?_)
  | (with_reducible refine w_bm0 ?_)
  | ((with_reducible refine' w_tyL ?e ?_); (case e => walk_at "t_sq"))
  | ((with_reducible refine' w_app ?e ?hz ?_); (case e => walk_at "t_hp"); (case hz => walk_at "t_z"))
  | (with_reducible refine w_iteT ?_)
  | (with_reducible refine w_iteF ?_)
  | (with_reducible refine w_iteNT ?_)
  | (with_reducible refine w_iteNF ?_)
  | (with_reducible refine w_for ?_)
  | (with_reducible refine w_iList ?_)
  | ((with_reducible refine' w_exL ?s ?_); (case s => walk_at "t_sq"))
  | (with_reducible refine w_iTup ?_)
  | ((with_reducible refine' w_exT ?s ?_); (case s => walk_at "t_sqt"))
  | (with_reducible refine w_iRng1 ?_)
  | ((with_reducible refine w_exR1 ?b ?_); (case b => walk_at "t_c"))
  | (with_reducible refine w_iRng2 ?_)
  | ((with_reducible refine w_exR2 ?b ?_); (case b => walk_at "t_c"))
  | (with_reducible refine w_yes ?_)
  | ((with_reducible refine w_pos ?p ?_); (case p => walk_at "t_p"))
  | ((with_reducible refine w_neg ?p ?_); (case p => walk_at "t_p"))
  | ((with_reducible refine w_posN ?p ?_); (case p => walk_at "t_p"))
  | ((with_reducible refine w_negN ?p ?_); (case p => walk_at "t_p"))
  | ((with_reducible refine' w_notInL ?s ?_); (case s => walk_at "t_sq"))
  | ((with_reducible refine' w_inL ?s ?_); (case s => walk_at "t_sq"))
  | ((with_reducible refine' w_sum ?s ?_); (case s => walk_at "t_sq"))
  | (with_reducible refine w_isiI ?_)
  | ((with_reducible refine' w_isiL ?e ?_); (case e => walk_at "t_ty"))
  | ((with_reducible refine' w_isiT ?e ?_); (case e => walk_at "t_ty"))
  | (with_reducible intro p hp_new))
local macro_rules | `(tactic| walk_at "t_ty") => `(tactic| first | assumption | (refine' tyx_l ?e; (case e => walk_at "t_hp")) | (refine' tyx_t ?e; (case e => walk_at "t_hp")))
local macro_rules | `(tactic| walk_at "t_z") => `(tactic| first | assumption | decide | omega | (simp only [List.length_cons, List.length_nil, List.length_map, List.length_append, List.length_replicate]; first | done | decide | omega))
local macro_rules | `(tactic| walk_at "t_at") => `(tactic| first | assumption | rfl)
local macro_rules | `(tactic| walk_at "t_ixn") => `(tactic| first | assumption | rfl)
local macro_rules | `(tactic| walk_at "t_ev") => `(tactic| (intro H1 e Q q; (repeat walk_at "t_w"); exact q _ (by walk_at "t_ex")))
local macro_rules | `(tactic| walk_at "t_p") => `(tactic| first | assumption | decide | decide +kernel)
local macro_rules | `(tactic| walk_at "t_lt") => `(tactic| first | assumption | omega | (simp only [List.length_set, List.length_map, List.length_append]; first | assumption | omega))
local macro_rules | `(tactic| walk_at "t_w") => `(tactic| first
  | ((with_reducible refine' w_at ?s ?hl ?h0 ?_); (case s => walk_at "t_sq"); (case hl => walk_at "t_z"); (case h0 => walk_at "t_z"))
  | (with_reducible refine w_isInt ?_)
  | (with_reducible refine w_I1 ?_)
  | (with_reducible refine w_Head ?_)
  | ((with_reducible refine' w_number ?hb ?_); (case hb => walk_at "t_bits")))
local macro_rules | `(tactic| walk_at "t_bits") => `(tactic| assumption)
local macro_rules | `(tactic| walk_at "t_w") => `(tactic| first
  | (with_reducible refine w_tru ?_)
  | ((with_reducible refine' w_truL ?s ?_); (case s => walk_at "t_sq"))
  | (with_reducible refine w_dnew ?_)
  | (with_reducible refine w_disp1 ?_)
  | ((with_reducible refine' w_aug ?e ?_); (case e => rfl))
  | (with_reducible refine w_ipI ?_)
  | ((with_reducible refine' w_inD ?e ?_); (case e => walk_at "t_hp"))
  | ((with_reducible refine' w_notInD ?e ?_); (case e => walk_at "t_hp"))
  | (with_reducible refine w_dget ?_)
  | ((with_reducible refine' w_dgetE ?e ?hv ?_); (case e => walk_at "t_hp"); (case hv => walk_at "t_dv"))
  | (with_reducible refine w_dput ?_)
  | ((with_reducible refine' w_dputE ?e ?hl ?_); (case e => walk_at "t_hp"); (case hl => walk_at "t_z"))
  | ((with_reducible refine' w_extend ?e1 ?e2 ?hz ?_); (case e1 => walk_at "t_hp"); (case e2 => walk_at "t_hp"); (case hz => walk_at "t_z")))
local macro_rules | `(tactic| walk_at "t_dv") => `(tactic| assumption)
local macro_rules | `(tactic| walk_at "t_hp") => `(tactic| first
  | (with_reducible refine hp_off0 ?_; walk_at "t_hp")
  | ((with_reducible refine' hp_off1 ?hne ?hrest); (case hne => walk_at "t_ne"); (case hrest => walk_at "t_hp")))
local macro_rules | `(tactic| walk_at "t_w") => `(tactic| first
  | (with_reducible refine w_fld ?_)
  | ((with_reducible refine' w_fldE ?e ?c ?n ?l ?_); (case e => walk_at "t_hp"); (case c => assumption); (case n => assumption); (case l => rfl))
  | (with_reducible refine w_sfld ?_)
  | ((with_reducible refine' w_sfldE ?e ?c ?n ?l ?_); (case e => walk_at "t_hp"); (case c => assumption); (case n => assumption); (case l => first | decide | (show 1 < 1000; decide) | (show 2 < 1000; decide)))
  | (with_reducible refine w_setSl ?_)
  | (with_reducible refine w_make ?_)
  | ((with_reducible refine' w_gfld0 ?hv ?e ?c ?n ?l ?_); (case hv => rfl); (case e => walk_at "t_hp"); (case c => assumption); (case n => assumption); (case l => first | decide | (show 1 < 1000; decide) | (show 2 < 1000; decide)))
  | (with_reducible refine w_meth ?_)
  | (with_reducible refine w_methX ?_)
  | ((with_reducible refine' w_methE ?e ?l ?_); (case e => walk_at "t_hp"); (case l => rfl))
  | (with_reducible refine w_chain ?_)
  | ((with_reducible refine' w_gTup ?s ?l ?_); (case s => walk_at "t_sqt"); (case l => rfl))
  | (with_reducible refine w_gCons ?_)
  | (with_reducible refine w_gNil ?_)
  | (with_reducible refine w_star ?_)
  | ((with_reducible refine' w_starL ?s ?_); (case s => walk_at "t_sq"))
  | (with_reducible refine w_isiIB ?_)
  | (with_reducible refine w_isiS ?_))
abbrev s_law_put : Stmt := topS 40
theorem sc_law_put : FnScope ["_law_room", "_law_state", "_law_seed", "_law_order", "_law_fields", "_law_one", "_law_field", "_law_thing_here", "_law_places", "_law_other", "_law_found", "_law_row"] ["_law_room", "_law_state", "_law_seed"] (defScope s_law_put) := ⟨rfl, rfl, rfl, by decide +kernel, rfl, by decide +kernel, by decide +kernel⟩

/-! ### deeds -/
def spPutN (K : PySem.W.Frag) (C : Addr) : Sp := fun vs H Q _ => ∃ (x r o d c m st : Addr) (sd : Int) (bs : List (List Thing)) (sp : Nat) (os : List Int) (kvs : List (Key × V)) (fr : Int) (rem : List V), vs = [.ref x, .ref st, .int sd] ∧ H st = some (.tup (stV o d c m ((cells bs + sp : Nat) : Int))) ∧
  Sta K C [x, r, o, d, c, m] H x r o d c m bs sp os kvs fr rem ∧ 0 ≤ sd ∧ sd < 1000000 ∧ kvs.length ≤ 1000 ∧ ∀ bs2 kvs2 H2, Ex (off [x, r, d] H) H2 → Sta K C [x, r, o, d, c, m] H2 x r o d c m bs2 sp os kvs2 fr rem → cells bs2 = cells bs → kvs2.length ≤ kvs.length + 1 → Q (.bl true) H2
theorem w_putN {K : PySem.W.Frag} {C : Addr} {H : Hp} {Q : VK} {E : XK} {x r o d c m st : Addr} {sd : Int} {bs : List (List Thing)} {sp : Nat} {os : List Int} {kvs : List (Key × V)} {fr : Int} {rem : List V} (e : H st = some (.tup (stV o d c m ((cells bs + sp : Nat) : Int)))) (s : Sta K C [x, r, o, d, c, m] H x r o d c m bs sp os kvs fr rem) (h0 : 0 ≤ sd) (h1 : sd < 1000000) (hk : kvs.length ≤ 1000)
    (k : ∀ bs2 kvs2 H2, Ex (off [x, r, d] H) H2 → Sta K C [x, r, o, d, c, m] H2 x r o d c m bs2 sp os kvs2 fr rem → cells bs2 = cells bs → kvs2.length ≤ kvs.length + 1 → Q (.bl true) H2) : spPutN K C ([.ref x, .ref st, .int sd] ++ []) H Q E := ⟨x, r, o, d, c, m, st, sd, bs, sp, os, kvs, fr, rem, rfl, e, s, h0, h1, hk, k⟩
/-- another thing in a field: the law's own -/
theorem FldOk.put {H : Hp} {kvs : List (Key × V)} {os : List Int} {bs : List (List Thing)} {i j : Nat} {fs : List Thing} {t : Thing} {v : V} (h : FldOk H kvs os bs) (hN : NamesOk os bs.length) (hi : bs[i]? = some fs) (hv : FldAt H os v (fs.set j t)) : FldOk H (putK kvs (.inl (nm os i)) v) os (bs.set i (fs.set j t)) := by
  intro k gs hk
  have hil := (List.getElem?_eq_some_iff.mp hi).1
  have hkl := (List.getElem?_eq_some_iff.mp hk).1
  rw [List.length_set] at hkl
  rw [valV_putI]
  by_cases e : k = i
  · subst e
    rw [List.getElem?_set_self hil] at hk
    cases hk
    rw [if_pos rfl]
    exact ⟨v, rfl, hv⟩
  · rw [if_neg (fun z => e (hN.inj hkl hil z))]
    rw [List.getElem?_set_ne (fun z => e z.symm)] at hk
    exact h k gs hk
theorem All2.set {α β : Type} {R : α → β → Prop} {a : α} {b : β} (r : R a b) : ∀ {as : List α} {bs : List β} (i : Nat), All2 R as bs → All2 R (as.set i a) (bs.set i b)
  | _, _, _, .nil => .nil
  | _, _, 0, .cons _ t => .cons r t
  | _, _, i + 1, .cons q t => .cons q (All2.set r i t)
theorem All2.set' {α β : Type} {R : α → β → Prop} {a : α} {b : β} {as : List α} {bs : List β} (h : All2 R as bs) (r : R a b) (i : Nat) : All2 R (as.set i a) (bs.set i b) := All2.set r i h
theorem NamesOk.put {os : List Int} {bs : List (List Thing)} {i : Nat} {gs : List Thing} (h : NamesOk os bs.length) : NamesOk os (bs.set i gs).length := by rw [List.length_set]; exact h
section
variable {P : Program} {w : World} {K : PySem.W.Frag} {mg : Str → Option Value} {base : Heap} {C cB cR : Addr}
theorem c_law_put (T : Txt K mg) (R : RmT K mg C cB cR) (D : DefAt K mg "_law_put" "_law_put" s_law_put) (c_law_words_are : Cal P w K mg base "_law_words_are" 2 ["_law_found", "_law_due"] (spWordsAre K)) (c_law_places_of : Cal P w K mg base "_law_places_of" 1 ["_law_order", "_law_fields"] (spPlacesOf K)) (c_law_thing : Cal P w K mg base "_law_thing" 2 ["_law_seed", "_law_order"] (spThingN K)) (c_law_handed : Cal P w K mg base "_law_handed" 1 ["_law_thing_here", "_law_places"] spHanded)
    (c_law_come_to : Cal P w K mg base "_law_come_to" 1 ["_law_order", "_law_fields"] (spComeToN K)) (c_Room_put : CalM P w K mg base C "put" 5 ["self", "place", "field", "thing"] (spPut C cB)) (c_Room_come_to : CalM P w K mg base C "come_to" 4 ["self"] (spComeTo C)) : Cal P w K mg base "_law_put" 6 ["_law_room", "_law_state", "_law_seed"] (spPutN K C) := by
  refine Cal.of D sc_law_put (fun vs H Q E h => ?_) (fun _ _ _ _ _ _ us hl => match us, hl with | [_, _, _], _ => rfl) (fun f cdv A outer s H vs Q E hr h => ?_)
  · obtain ⟨x, r, o, d, c, m, st, sd, bs, sp, os, kvs, fr, rem, rfl, _⟩ := h; rfl
  · obtain ⟨x, r, o, d, c, m, st, sd, bs, sp, os, kvs, fr, rem, rfl, hst, S, h0, h1, hkl, k⟩ := h
    have hu : _ + 64 < cLine := hr.units
    have hN := S.names
    have hF := S.fldsOn
    have hO := S.ord
    have hD := S.fld
    have hro := S.room.ok
    have hfew := hro.few
    have hone := hro.one
    have hsm := hro.small
    have hom : (os.map V.int).length = bs.length := by rw [List.length_map, hN.len]
    have hln : ((os.map V.int).length : Int) = (bs.length : Int) := by rw [hom]
    have hp0 : (0 : Int) < ((os.map V.int).length : Int) := by rw [hln]; omega
    have hst' : H st = some (.tup [.ref o, .ref d, .int ((cells bs + sp : Nat) : Int), .ref c, .ref m]) := hst
    obtain ⟨⟨dx, hX⟩, hR, _⟩ := id S.room
    refine ⟨_, (pss_cons (ps_set (i := 3) sc_law_put.nd rfl (Or.inl rfl) (pe_ix (ix_seqK (K := K) rfl) (pv 1) pe_int (fun _ _ => rfl)))
      (pss_cons (ps_set (i := 4) sc_law_put.nd rfl (Or.inl rfl) (pe_ix (ix_seqK (K := K) rfl) (pv 1) pe_int (fun _ _ => rfl)))
      (pss_cons (ps_set (i := 5) sc_law_put.nd rfl (Or.inl rfl) (pe_ix (ix_seqK (K := K) rfl) (pv 3) (pe_op op_mod (pv 2) (pe_callB (call_lenK (K := K) rfl) (by rfl) T.b_len (by decide +kernel) (pa_cons (pv 3) pa_nil))) (fun _ _ => rfl)))
      (Evl.pss_cut (ps_if (pt_cmpR (op_eqK (K := K) rfl hu) (pe_op op_mod (pe_op op_fdiv (pv 2) pe_int) pe_int) pe_int (nomark _)) (pss_one (ps_set (i := 5) sc_law_put.nd rfl (Or.inl rfl) pe_int)) pss_nil)
      (pss_cons (ps_if (pt_cmpR (op_eqK (K := K) rfl hu) (pe_callB (call_lenK (K := K) rfl) (by rfl) T.b_len (by decide +kernel) (pa_cons (pe_dget (hu1 hu) (pv 4) (pv 5) (fun _ _ => rfl)) pa_nil)) pe_int (nomark _)) (pss_one (ps_ret pe_bl)) pss_nil)
      (pss_cons (ps_set (i := 6) sc_law_put.nd rfl (Or.inl rfl) (pe_op op_mod (pe_op op_fdiv (pv 2) pe_int) (pe_callB (call_lenK (K := K) rfl) (by rfl) T.b_len (by decide +kernel) (pa_cons (pe_dget (hu1 hu) (pv 4) (pv 5) (fun _ _ => rfl)) pa_nil))))
      (pss_cons (ps_set (i := 7) sc_law_put.nd rfl (Or.inl rfl) (pe_callC c_law_thing (hr.mono (by decide)) rfl (pa_cons (pe_op op_mod (pe_op op_mulA (pe_op op_fdiv (pv 2) pe_int) pe_int) pe_int) (pa_cons (pv 3) pa_nil))))
      (pss_cons (ps_set (i := 8) sc_law_put.nd rfl (Or.inr rfl) (pe_callC c_law_places_of (hr.mono (by decide)) rfl (pa_cons (pv 3) (pa_cons (pv 4) pa_nil))))
      (pss_cons (ps_if (pt_not (pt_val (pe_callC c_law_words_are (hr.mono (by decide)) rfl (pa_cons (pe_methC0 R.cl c_Room_come_to (hr.mono (by decide)) passL (pv 0)) (pa_cons (pe_lc (own := [("_law_other", 9)]) (g := (gName 9)) rfl sc_law_put.nd (pi_listK (K := K) rfl (pe_callC c_law_come_to (hr.mono (by decide)) rfl (pa_cons (pv 3) (pa_cons (pv 4) pa_nil)))) (blkOk_by (own := [("_law_other", 9)]) (N := ["_law_room", "_law_state", "_law_seed", "_law_order", "_law_fields", "_law_one", "_law_field", "_law_thing_here", "_law_places", "_law_other", "_law_found", "_law_row"]) (sc := defScope s_law_put) (by decide +kernel)) (fun _ _ _ _ _ => (pg_name (i := 9) sc_law_put.nd rfl (Or.inl rfl))) (fun _ _ _ _ _ => pts_nil) (fun _ _ _ _ _ => (pe_dget (hu1 hu) (pv 8) (pv 9) (fun _ _ => rfl)))) pa_nil))))) (pss_one (ps_ret pe_bl)) pss_nil)
      (pss_cons (ps_set (i := 10) sc_law_put.nd rfl (Or.inl rfl) (pe_methC R.cl c_Room_put (hr.mono (by decide)) passL (pv 0) (pa_cons (pe_dget (hu1 hu) (pv 8) (pv 5) (fun _ _ => rfl)) (pa_cons (pv 6) (pa_cons (pe_callC c_law_handed (hr.mono (by decide)) rfl (pa_cons (pv 7) (pa_cons (pv 8) pa_nil))) pa_nil)))))
      (pss_cons (ps_set (i := 11) sc_law_put.nd rfl (Or.inl rfl) (pe_callTy (call_listK (K := K) rfl) (by rfl) T.b_list (by decide +kernel) (pa_cons (pe_dget (hu1 hu) (pv 4) (pv 5) (fun _ _ => rfl)) pa_nil)))
      (pss_cons (ps_asg (pv 7) (pg_sub (pv 11) (pv 6) set_list))
      (pss_cons (ps_dput (hu1 hu) (pv 4) (pv 5) (pv 11) rfl)
      (pss_cons (ps_if (pt_not (pt_val (pe_callC c_law_words_are (hr.mono (by decide)) rfl (pa_cons (pe_methC0 R.cl c_Room_come_to (hr.mono (by decide)) passL (pv 0)) (pa_cons (pe_lc (own := [("_law_other", 9)]) (g := (gName 9)) rfl sc_law_put.nd (pi_listK (K := K) rfl (pe_callC c_law_come_to (hr.mono (by decide)) rfl (pa_cons (pv 3) (pa_cons (pv 4) pa_nil)))) (blkOk_by (own := [("_law_other", 9)]) (N := ["_law_room", "_law_state", "_law_seed", "_law_order", "_law_fields", "_law_one", "_law_field", "_law_thing_here", "_law_places", "_law_other", "_law_found", "_law_row"]) (sc := defScope s_law_put) (by decide +kernel)) (fun _ _ _ _ _ => (pg_name (i := 9) sc_law_put.nd rfl (Or.inl rfl))) (fun _ _ _ _ _ => pts_nil) (fun _ _ _ _ _ => (pe_dget (hu1 hu) (pv 8) (pv 9) (fun _ _ => rfl)))) pa_nil))))) (pss_one (ps_ret pe_bl)) pss_nil)
      (pss_one (ps_ret (pe_cmpR op_isA (pv 10) pe_non (nomark _)))))))))))))))))), ?_⟩
    repeat walk_at "t_w"
    rw [hln]
    obtain ⟨j0, ej, hj0⟩ := idx_mod (s := sd) (n := bs.length) (by omega)
    rw [ej]
    have hjl : j0 < os.length := by rw [hN.len]; exact hj0
    repeat walk_at "t_w"
    refine Evl.q_cut (M := fun σ' H' => ∃ i : Nat, i < bs.length ∧ σ' = [some (.ref x), some (.ref st), some (.int sd), some (.ref o), some (.ref d), some (.int (nm os i)), none, none, none, none, none, none] ∧ Ex H H') ?_ ?_
    · repeat walk_at "t_w"
      refine w_ite (fun h3 => ?_) (fun h3 => ?_)
      · repeat walk_at "t_w"
        exact ⟨0, hone, by rw [hN.nm0]; rfl, by walk_at "t_ex"⟩
      · repeat walk_at "t_w"
        exact ⟨j0, hj0, rfl, by walk_at "t_ex"⟩
    · rintro σ' H1 ⟨i, hi, rfl, hE1⟩
      obtain ⟨fs, hfs⟩ : ∃ fs, bs[i]? = some fs := ⟨_, List.getElem?_eq_getElem hi⟩
      obtain ⟨v, hv, l, ts, rfl, hlo, hAo⟩ := S.flds i fs hfs
      have hlT : l ∉ [x, r, o, d, c, m] := fun z => by rw [off_in z] at hlo; cases hlo
      have hl : H1 l = some (.lst ts) := hE1 _ _ (off_ex _ _ hlo)
      have hA : All2 (NamedAt H1 os) ts fs := hAo.mono fun _ _ z => z.ex (off_ex.trans hE1)
      have htl := hA.length
      have hD1 := hE1 _ _ hD
      have hO1 := hE1 _ _ hO
      have S1 := S.ex hE1 fun a ha => let ⟨u, h, _⟩ := S.six a ha; ⟨u, h⟩
      repeat walk_at "t_w"
      refine w_ite (fun h3 => ?_) (fun h3 => ?_)
      · repeat walk_at "t_w"
        exact k bs kvs _ (off_ex.trans (hE1.trans (by walk_at "t_ex"))) (S1.ex (by walk_at "t_ex") fun a ha => let ⟨u, h, _⟩ := S1.six a ha; ⟨u, h⟩) rfl (by omega)
      · obtain ⟨jf, ejf, hjf⟩ := idx_mod (s := sd / 21) (n := ts.length) (by omega)
        have hp1 : (0 : Int) < (ts.length : Int) := by omega
        have hb0 : 0 ≤ sd / 500 * 16807 % 999979 ∧ sd / 500 * 16807 % 999979 < 1000000 := by omega
        repeat walk_at "t_w"
        rw [ejf]
        refine w_thingN bs.length hb0.1 hb0.2 (by walk_at "t_sq") hN hone fun t at_ H2 ht hat e2 hat2 => ?_
        have hE2 : Ex H1 H2 := by walk_at "t_ex"
        repeat walk_at "t_w"
        refine w_placesOf (SqL.of (hE2 _ _ hO1)) (hE2 _ _ hD1) ((hF.ex hE1).ex hE2) hN (by omega) fun kv2 hP g H3 hg e3 hg3 => ?_
        have ngd : g ≠ d := Ne.symm (ne_of_none (hE2 _ _ hD1) hg)
        have hE3 : Ex H1 H3 := hE2.trans e3
        have hX3 := hE3 _ _ (hE1 _ _ hX)
        have hall0 := S1.room.ex hE3
        repeat walk_at "t_w"
        refine w_comeTo hall0 fun al hal q3 H4 hq3 e4 hq34 => ?_
        have hE4 : Ex H1 H4 := hE3.trans e4
        have hg4 := e4 _ _ hg3
        have hall := hal.lt hro
        have hall4 : al.length ≤ bs.length := nodup_few hal.nodup hall
        repeat walk_at "t_w"
        refine w_lc ?_
        repeat walk_at "t_w"
        refine w_comeToN sp (SqL.of (hE4 _ _ hO1)) (hE4 _ _ hD1) ((hF.ex hE1).ex hE4) hN hro fun al2 hal2 q4 H5 hq4 e5 hq45 => ?_
        cases hal2.uniq hal
        have hg5 := e5 _ _ hg4
        repeat walk_at "t_w"
        refine lcjL (xs := (al.map (nm os)).map V.int) (Evl.Cw H5 (fun _ => true) (fun i => V.int ((pl bs (al.getD i 0) : Nat) : Int))) ?_ ?_ ?_ ?_
        · exact fun Dl hD => ⟨hD, Evl.Ex.new hD, upd_same⟩
        · exact fun Dl i H' _ p => SqL.of (p.2.1 _ _ hq45)
        · intro Dl i y H11 hDl hy pp
          obtain ⟨rfl, hil, hia⟩ := nm_get hy
          have hvp := hP.2 _ (hall _ hia)
          have hg11 := pp.2.1 _ _ hg5
          refine ⟨rfl, Evl.cw_turn pp (by omega) ?_ ?_⟩
          · walk_at "t_ev"
          · intro _; walk_at "t_ev"
        · intro Dl H6 hDl pp
          obtain ⟨p1, p2, p3⟩ := pp
          rw [given_come (by rw [List.length_map, List.length_map])] at p3
          have hq36 := p2 _ _ (e5 _ _ hq34)
          repeat walk_at "t_w"
          refine w_words2 (asI (al.map (pl bs))) (by walk_at "t_hp") (SqL.of (by walk_at "t_hp")) rfl rfl (by rw [asI_len, List.length_map]; omega) fun H7 e7 => ?_
          have hE7 : Ex H1 H7 := hE4.trans ((e5.trans p2).trans e7)
          have hE27 : Ex H2 H7 := e3.trans (e4.trans ((e5.trans p2).trans e7))
          have S7 := S1.ex hE7 fun a ha => let ⟨u, h, _⟩ := S1.six a ha; ⟨u, h⟩
          have hg7 := e7 _ _ (p2 _ _ hg5)
          have hvi := hP.2 i hi
          obtain ⟨⟨dx7, hX7⟩, _, _⟩ := id S7.room
          have hat7 := hE27 _ _ hat2
          have hnt : NamedAt H7 os (.ref at_) t := ⟨at_, rfl, hat7⟩
          have hl7 := hE7 _ _ hl
          have hA7 : All2 (NamedAt H7 os) ts fs := hA.mono fun _ _ z => z.ex hE7
          have hD7 := S7.fld
          have hO7 := S7.ord
          have hF7 := S7.flds
          have hEH7 : Ex H H7 := hE1.trans hE7
          have hat0 : H1 at_ = none := hat
          clear hE27 p1 p3 p2 hq36 hq45 e5 hg5 hg4 hq34 e4 hX3 hall0 hg3 e3 hat2 hat e2 hE7 hE4 hE3 hE2 S1 hl hA hD1 hO1
          repeat walk_at "t_w"
          refine w_handed t hg7 hP hnt ht fun v2 H8 e8 h8 => ?_
          repeat walk_at "t_w"
          refine w_putOk t (S7.room.ex e8) hfs (by omega) h8 ht fun H9 e9 R9 => ?_
          have nd := S.nd
          simp only [List.nodup_cons, List.mem_cons, List.not_mem_nil, or_false, not_or] at nd
          have six := S.six
          have nxo : o ∉ [x, r] := by
            simp only [List.mem_cons, List.not_mem_nil, or_false, not_or]
            exact ⟨ne_of hO hX (fun z => nomatch z), Ne.symm nd.1.1⟩
          have nxd : d ∉ [x, r] := by
            simp only [List.mem_cons, List.not_mem_nil, or_false, not_or]
            exact ⟨ne_of hD hX (fun z => nomatch z), ne_of hD hR (fun z => nomatch z)⟩
          have nxc : c ∉ [x, r] := by
            simp only [List.mem_cons, List.not_mem_nil, or_false, not_or]
            exact ⟨ne_of S.cnt hX (fun z => nomatch z), Ne.symm nd.1.2.1⟩
          have nxm : m ∉ [x, r] := by
            simp only [List.mem_cons, List.not_mem_nil, or_false, not_or]
            exact ⟨ne_of S.kept hX (fun z => nomatch z), Ne.symm nd.1.2.2⟩
          have hD9 : H9 d = some (.dK kvs) := e9 _ _ (hp_off nxd (e8 _ _ hD7))
          have hO9 : H9 o = some (.lst (os.map V.int)) := e9 _ _ (hp_off nxo (e8 _ _ hO7))
          have hl9 : H9 l = some (.lst ts) := e9 _ _ (hp_off (fun z => hlT (List.mem_append_left [o, d, c, m] z)) (e8 _ _ hl7))
          have hix : ixN ts.length (jf : Int) = some jf := Evl.ixN_nat hjf
          have hz9 : kvs.length < 1000000 := by omega
          have ngx : g ∉ [x, r] := by
            simp only [List.mem_cons, List.not_mem_nil, or_false, not_or]
            exact ⟨ne_of hg7 hX7 (fun z => nomatch z), ne_of hg7 S7.room.row (fun z => nomatch z)⟩
          have hg9 : H9 g = some (.dK kv2) := e9 _ _ (hp_off ngx (e8 _ _ hg7))
          have hc9 : H9 c = some (.lst [.int fr]) := e9 _ _ (hp_off nxc (e8 _ _ S7.cnt))
          have hm9 : H9 m = some (.lst rem) := e9 _ _ (hp_off nxm (e8 _ _ S7.kept))
          obtain ⟨⟨dx9, hX9⟩, hR9, _⟩ := id R9
          repeat walk_at "t_w"
          rename_i p hp
          obtain ⟨rw1, rw2, rw3⟩ := rowAt_set (sp := sp) (t := t) hfs (show jf < fs.length by omega)
          have nxd' : x ≠ d := fun e => nxd (by rw [e]; simp)
          have nrd : r ≠ d := fun e => nxd (by rw [e]; simp)
          have nod : o ≠ d := ne_of hO hD (fun z => nomatch z)
          have ncd : c ≠ d := ne_of S.cnt hD (fun z => nomatch z)
          have nmd : m ≠ d := ne_of S.kept hD (fun z => nomatch z)
          have npd : p ≠ d := Ne.symm (ne_of_none hD9 hp)
          obtain ⟨G, hG⟩ : ∃ G, G = upd (upd (upd H9 p (.lst ts)) p (.lst (ts.set jf (.ref at_)))) d (.dK (putK kvs (.inl (nm os i)) (.ref p))) := ⟨_, rfl⟩
          have hGe : ∀ a u, a ≠ d → H9 a = some u → G a = some u := fun a u h1 h2 => by
            have h3 : a ≠ p := ne_of_none h2 hp
            rw [hG, upd_ne h1, upd_ne h3, upd_ne h3]; exact h2
          have hGH : ∀ a u, a ∉ [x, r, d] → H a = some u → G a = some u := fun a u h1 h2 => by
            simp only [List.mem_cons, List.not_mem_nil, or_false, not_or] at h1
            exact hGe a u h1.2.2 (e9 _ _ (hp_off (by simp only [List.mem_cons, List.not_mem_nil, or_false, not_or]; exact ⟨h1.1, h1.2.1⟩) (e8 _ _ (hEH7 _ _ h2))))
          have eT : Ex (off [x, r, o, d, c, m] H) (off [x, r, o, d, c, m] G) := fun a u e => by
            have ha : a ∉ [x, r, o, d, c, m] := fun z => by rw [off_in z] at e; cases e
            rw [off_out ha] at e
            rw [off_out ha]
            refine hGH a u (fun z => ha ?_) e
            simp only [List.mem_cons, List.not_mem_nil, or_false] at z ⊢
            rcases z with q | q | q
            · exact .inl q
            · exact .inr (.inl q)
            · exact .inr (.inr (.inr (.inl q)))
          have hp0 : H p = none := by
            cases q : H p with
            | none => rfl
            | some u =>
              have h1 : p ∉ [x, r] := fun z => by
                simp only [List.mem_cons, List.not_mem_nil, or_false] at z
                rcases z with e | e
                · rw [e, hX9] at hp; cases hp
                · rw [e, hR9] at hp; cases hp
              rw [e9 _ _ (hp_off h1 (e8 _ _ (hEH7 _ _ q)))] at hp; cases hp
          have hat6 : at_ ∉ [x, r, o, d, c, m] := fun z => by
            obtain ⟨u, hu, _⟩ := six _ z
            rw [hE1 _ _ hu] at hat0; cases hat0
          have hat9 : H9 at_ = some (.tup (t.named os)) := e9 _ _ (hp_off (fun z => hat6 (List.mem_append_left [o, d, c, m] z)) (e8 _ _ hat7))
          have hatG : off [x, r, o, d, c, m] G at_ = some (.tup (t.named os)) := hp_off hat6 (hGe _ _ (fun e => hat6 (by rw [e]; simp)) hat9)
          have SG : Sta K C [x, r, o, d, c, m] G x r o d c m (bs.set i (fs.set jf t)) sp os (putK kvs (.inl (nm os i)) (.ref p)) fr rem := by
            refine ⟨⟨⟨dx9, hGe _ _ nxd' hX9⟩, hGe _ _ nrd hR9, R9.ok⟩, hGe _ _ nod hO9, by rw [hG, upd_same], hGe _ _ ncd hc9, hGe _ _ nmd hm9, S.nd, hN.put, S.lt, ?_, fun v hv => (S.rems v hv).ex eT, S.sub⟩
            refine (S.flds.ex eT).put hN hfs ⟨p, ts.set jf (.ref at_), rfl, hp_off (S.out hp0) (by rw [hG, upd_ne npd, upd_same]), (hAo.mono fun _ _ z => z.ex eT).set' ⟨at_, rfl, hatG⟩ jf⟩
          have hgG : G g = some (.dK kv2) := hGe _ _ ngd hg9
          have eHG : Ex (off [x, r, d] H) G := fun a u e => by
            have ha : a ∉ [x, r, d] := fun z => by rw [off_in z] at e; cases e
            rw [off_out ha] at e
            exact hGH a u ha e
          have hlen2 : (bs.set i (fs.set jf t)).length = bs.length := List.length_set ..
          have hpl2 : ∀ k, k < bs.length → pl (bs.set i (fs.set jf t)) k = pl bs k := fun k hk => by
            rw [← places_getD (by omega), rw2, places_getD hk]
          rw [← hG]
          have hkl2 : (putK kvs (.inl (nm os i)) (.ref p)).length ≤ kvs.length + 1 := length_putK ..
          clear hG hatG hat9 hp0 eT hGH hGe hX9 hR9 hc9 hm9 hg9 hl9 hD9 hO9 hg7 hX7 hnt hat7 hl7 hA7 hD7 hO7 hF7 S7
          generalize hb2 : bs.set i (fs.set jf t) = bs2 at *
          generalize putK kvs (.inl (nm os i)) (.ref p) = kvsG at *
          obtain ⟨⟨dxG, hXG⟩, hRG, hroG⟩ := id SG.room
          repeat walk_at "t_w"
          refine w_comeTo SG.room fun al' hal' q5 J1 hq5 j1 hq51 => ?_
          have hgJ := j1 _ _ hgG
          have hall' := hal'.lt hroG
          have hall5 : al'.length ≤ bs.length := by rw [← hlen2]; exact nodup_few hal'.nodup hall'
          repeat walk_at "t_w"
          refine w_lc ?_
          repeat walk_at "t_w"
          refine w_comeToN sp (SqL.of (j1 _ _ SG.ord)) (j1 _ _ SG.fld) (SG.fldsOn.ex j1) SG.names hroG fun al3 hal3 q6 J2 hq6 j2 hq62 => ?_
          cases hal3.uniq hal'
          have hgJ2 := j2 _ _ hgJ
          repeat walk_at "t_w"
          refine lcjL (xs := (al'.map (nm os)).map V.int) (Evl.Cw J2 (fun _ => true) (fun i => V.int ((pl bs (al'.getD i 0) : Nat) : Int))) ?_ ?_ ?_ ?_
          · exact fun Dl hD => ⟨hD, Evl.Ex.new hD, upd_same⟩
          · exact fun Dl i H' _ p => SqL.of (p.2.1 _ _ hq62)
          · intro Dl i y H11 hDl hy pp
            obtain ⟨rfl, hil, hia⟩ := nm_get hy
            have hvp := hP.2 _ (by rw [← hlen2]; exact hall' _ hia)
            have hg11 := pp.2.1 _ _ hgJ2
            refine ⟨rfl, Evl.cw_turn pp (by omega) ?_ ?_⟩
            · walk_at "t_ev"
            · intro _; walk_at "t_ev"
          · intro Dl J3 hDl pp
            obtain ⟨p1, p2, p3⟩ := pp
            rw [given_come (by rw [List.length_map, List.length_map])] at p3
            have hq53 := p2 _ _ (j2 _ _ hq51)
            rw [show al'.map (pl bs2) = al'.map (pl bs) from List.map_congr_left fun k hk => hpl2 k (by rw [← hlen2]; exact hall' k hk)] at hq53
            repeat walk_at "t_w"
            refine w_words2 (asI (al'.map (pl bs))) (by walk_at "t_hp") (SqL.of (by walk_at "t_hp")) rfl rfl (by rw [asI_len, List.length_map]; omega) fun J4 j4 => ?_
            have hEG : Ex G J4 := ((j1.trans j2).trans p2).trans j4
            repeat walk_at "t_w"
            exact k bs2 kvsG _ (eHG.trans hEG) (SG.ex hEG fun a ha => let ⟨u, h, _⟩ := SG.six a ha; ⟨u, h⟩) rw3 hkl2
end
end Tw

set_option Elab.async false
set_option linter.all false
set_option maxRecDepth 100000
set_option maxHeartbeats 4000000
namespace Tw
open PySem PySem.Spec PyProof.Rows L2
open Evl (Ex ex_l ex_t fresh_back sz_of sz_lt)
local macro_rules | `(tactic| walk_at "t_hp") => `(tactic| first
  | assumption
  | exact upd_same
  | (refine' hp_ne ?hne ?hrest; (case hne => walk_at "t_ne"); (case hrest => walk_at "t_hp"))
  | (refine' hp_ex ?hx ?hrest; (case hx => assumption); (case hrest => walk_at "t_hp")))
local macro_rules | `(tactic| walk_at "t_ne") => `(tactic| first
  | assumption
  | exact Ne.symm (by assumption)
  | (refine' ne_of_none ?h1 ?h2; (case h2 => assumption); (case h1 => walk_at "t_hp"))
  | (refine' Ne.symm (ne_of_none ?h1 ?h2); (case h2 => assumption); (case h1 => walk_at "t_hp")))
local macro_rules | `(tactic| walk_at "t_none") => `(tactic| first
  | assumption
  | (refine' fresh_back ?e ?n; (case n => assumption); (case e => walk_at "t_ex")))
local macro_rules | `(tactic| walk_at "t_ex") => `(tactic| first
  | assumption
  | exact Evl.Ex.refl _
  | (refine' ex_new ?n ?e; (case n => assumption); (case e => walk_at "t_ex"))
  | (refine' Evl.Ex.mut ?e ?n; (case n => walk_at "t_none"); (case e => walk_at "t_ex"))
  | (refine' Evl.Ex.trans ?a ?b; (case b => assumption); (case a => walk_at "t_ex")))
local macro_rules | `(tactic| walk_at "t_sq") => `(tactic| first
  | assumption
  | (refine' SqL.of ?h; (case h => walk_at "t_hp"))
  | (refine' ex_l ?e ?s; (case s => assumption); (case e => walk_at "t_ex")))
local macro_rules | `(tactic| walk_at "t_sqt") => `(tactic| first
  | assumption
  | (refine' SqT.of ?h; (case h => walk_at "t_hp"))
  | (refine' ex_t ?e ?s; (case s => assumption); (case e => walk_at "t_ex")))
local macro_rules | `(tactic| walk_at "t_mul") => `(tactic| first
  | assumption
  | exact Or.inl (Or.inl ⟨by decide, by decide⟩)
  | exact Or.inl (Or.inr ⟨by decide, by decide⟩)
  | exact Or.inl (Or.inl ⟨by omega, by omega⟩)
  | exact Or.inl (Or.inr ⟨by omega, by omega⟩))
local macro_rules | `(tactic| walk_at "t_c") => `(tactic| first
  | assumption
  | decide
  | (show (0 : Int) < _; decide)
  | (show (0 : Int) < _; omega)
  | exact ⟨by decide, by decide⟩
  | exact ⟨by decide, by decide, by decide⟩
  | exact ⟨by omega, by omega⟩
  | exact ⟨by omega, by omega, by omega, by omega⟩)
local macro_rules | `(tactic| walk_at "t_w") => `(tactic| first
  | (with_reducible refine w_seq ?_)
  | (with_reducible refine w_asg ?_)
  | (with_reducible refine w_gName ?_)
  | (with_reducible refine w_nx ?_)
  | (with_reducible refine w_rt ?_)
  | (with_reducible refine w_ct ?_)
  | (with_reducible refine w_bk ?_)
  | (with_reducible refine w_ret ?_)
  | (with_reducible refine w_retN ?_)
  | (with_reducible refine w_drop ?_)
  | (with_reducible refine w_ifS ?_)
  | (with_reducible refine w_next ?_)
  | (with_reducible refine w_break ?_)
  | (with_reducible refine w_cont ?_)
  | ((with_reducible refine' w_var ?h ?_); (case h => rfl))
  | (with_reducible refine w_c ?_)
  | (with_reducible refine w_op ?_)
  | (with_reducible refine w_un ?_)
  | (with_reducible refine w_I0 ?_)
  | ((with_reducible refine' w_I ?c ?_); (case c => walk_at "t_c"))
  | (with_reducible refine w_U ?_)
  | (with_reducible refine w_addI ?_)
  | ((with_reducible refine' w_addL ?h1 ?h2 ?hz ?_); (case h1 => walk_at "t_hp"); (case h2 => walk_at "t_hp"); (case hz => walk_at "t_z"))
  | ((with_reducible refine' w_mulI ?c ?_); (case c => walk_at "t_mul"))
  | ((with_reducible refine' w_mulL1 ?h1 ?b1 ?b2 ?_); (case h1 => walk_at "t_hp"); (case b1 => walk_at "t_z"); (case b2 => walk_at "t_z"))
  | ((with_reducible refine' w_mulL ?h1 ?b1 ?b2 ?hz ?_); (case h1 => walk_at "t_hp"); (case b1 => walk_at "t_z"); (case b2 => walk_at "t_z"); (case hz => walk_at "t_z"))
  | (with_reducible refine w_notIB ?_)
  | (with_reducible refine w_notBB ?_)
  | (with_reducible refine w_notN ?_)
  | (with_reducible refine w_isBB ?_)
  | (with_reducible refine w_isN ?_)
  | (with_reducible refine w_eqI ?_)
  | (with_reducible refine w_neI ?_)
  | (with_reducible refine w_eqB ?_)
  | (with_reducible refine w_neB ?_)
  | (with_reducible refine w_eqS ?_)
  | (with_reducible refine w_neS ?_)
  | (with_reducible refine w_test ?_)
  | (with_reducible refine w_B ?_)
  | (with_reducible refine w_exB ?_)
  | (with_reducible refine w_and ?_)
  | (with_reducible refine w_or ?_)
  | (with_reducible refine w_not ?_)
  | (with_reducible refine w_andV ?_)
  | (with_reducible refine w_orV ?_)
  | (with_reducible refine w_notV ?_)
  | (with_reducible refine w_bl ?_)
  | (with_reducible refine w_if ?_)
  | (with_reducible refine w_nil ?_)
  | (with_reducible refine w_cons ?_)
  | (with_reducible refine w_cb ?_)
  | (with_reducible refine w_call ?_)
  | (with_reducible refine w_tup ?_)
  | (with_reducible refine w_lst ?_)
  | ((with_reducible refine' w_fin ?hz ?_); (case hz => (simp only [List.length_cons, List.length_nil]; decide)))
  | ((with_reducible refine' w_len ?s ?_); (case s => walk_at "t_sq"))
  | ((with_reducible refine' w_lenT ?s ?_); (case s => walk_at "t_sqt"))
  | (with_reducible refine w_intI ?_)
  | (with_reducible refine w_intB ?_)
  | ((with_reducible refine' w_list ?s ?_); (case s => walk_at "t_sq"))
  | (with_reducible refine w_max ?_)
  | (with_reducible refine w_min ?_)
  | (with_reducible refine w_abs ?_)
  | (with_reducible refine w_sl ?_)
  | (with_reducible refine w_noPart ?_)
  | (with_reducible refine w_part ?_)
  | (with_reducible refine w_exI ?_)
  | ((with_reducible refine' w_slL ?s ?_); (case s => walk_at "t_sq"))
  | ((with_reducible refine' w_ixLI ?s ?b ?_); (case s => walk_at "t_sq"); (case b => walk_at "t_lt"))
  | ((with_reducible refine' w_ixL ?s ?e ?_); (case s => walk_at "t_sq"); (case e => walk_at "t_at"))
  | ((with_reducible refine' w_ixT ?s ?e ?_); (case s => walk_at "t_sqt"); (case e => walk_at "t_at"))
  | (with_reducible refine w_gSub ?_)
  | ((with_reducible refine' w_setLI ?e ?b ?_); (case e => walk_at "t_hp"); (case b => walk_at "t_lt"))
  | ((with_reducible refine' w_setL ?e ?b ?_); (case e => walk_at "t_hp"); (case b => walk_at "t_ixn"))
  | (with_reducible refine w_bm ?_)
  | (with_reducible refine w_bm0 ?_)
  | ((with_reducible refine' w_tyL ?e ?_); (case e => walk_at "t_sq"))
  | ((with_reducible refine' w_app ?e ?hz ?_); (case e => walk_at "t_hp"); (case hz => walk_at "t_z"))
  | (with_reducible refine w_iteT ?_)
  | (with_reducible refine w_iteF ?_)
  | (with_reducible refine w_iteNT ?_)
  | (with_reducible refine w_iteNF ?_)
  | (with_reducible refine w_for ?_)
  | (with_reducible refine w_iList ?_)
  | ((with_reducible refine' w_exL ?s ?_); (case s => walk_at "t_sq"))
  | (with_reducible refine w_iTup ?_)
  | ((with_reducible refine' w_exT ?s ?_); (case s => walk_at "t_sqt"))
  | (with_reducible refine w_iRng1 ?_)
  | ((with_reducible refine w_exR1 ?b ?_); (case b => walk_at "t_c"))
  | (with_reducible refine w_iRng2 ?_)
  | ((with_reducible refine w_exR2 ?b ?_); (case b => walk_at "t_c"))
  | (with_reducible refine w_yes ?_)
  | ((with_reducible refine w_pos ?p ?_); (case p => walk_at "t_p"))
  | ((with_reducible refine w_neg ?p ?_); (case p => walk_at "t_p"))
  | ((with_reducible refine w_posN ?p ?_); (case p => walk_at "t_p"))
  | ((with_reducible refine w_negN ?p ?_); (case p => walk_at "t_p"))
  | ((with_reducible refine' w_notInL ?s ?_); (case s => walk_at "t_sq"))
  | ((with_reducible refine' w_inL ?s ?_); (case s => walk_at "t_sq"))
  | ((with_reducible refine' w_sum ?s ?_); (case s => walk_at "t_sq"))
  | (with_reducible refine w_isiI ?_)
  | ((with_reducible refine' w_isiL ?e ?_); (case e => walk_at "t_ty"))
  | ((with_reducible refine' w_isiT ?e ?_); (case e => walk_at "t_ty"))
  | (with_reducible intro p hp_new))
local macro_rules | `(tactic| walk_at "t_ty") => `(tactic| first | assumption | (refine' tyx_l ?e; (case e => walk_at "t_hp")) | (refine' tyx_t ?e; (case e => walk_at "t_hp")))
local macro_rules | `(tactic| walk_at "t_z") => `(tactic| first | assumption | decide | omega | (simp only [List.length_cons, List.length_nil, List.length_map, List.length_append, List.length_replicate]; first | done | decide | omega))
local macro_rules | `(tactic| walk_at "t_at") => `(tactic| first | assumption | rfl)
local macro_rules | `(tactic| walk_at "t_ixn") => `(tactic| first | assumption | rfl)
local macro_rules | `(tactic| walk_at "t_ev") => `(tactic| (intro H1 e Q q; (repeat walk_at "t_w"); exact q _ (by walk_at "t_ex")))
local macro_rules | `(tactic| walk_at "t_p") => `(tactic| first | assumption | decide | decide +kernel)
local macro_rules | `(tactic| walk_at "t_lt") => `(tactic| first | assumption | omega | (simp only [List.length_set, List.length_map, List.length_append]; first | assumption | omega))
local macro_rules | `(tactic| walk_at "t_w") => `(tactic| first
  | ((with_reducible refine' w_at ?s ?hl ?h0 ?_); (case s => walk_at "t_sq"); (case hl => walk_at "t_z"); (case h0 => walk_at "t_z"))
  | (with_reducible refine w_isInt ?_)
  | (with_reducible refine w_I1 ?_)
  | (with_reducible refine w_Head ?_)
  | ((with_reducible refine' w_number ?hb ?_); (case hb => walk_at "t_bits")))
local macro_rules | `(tactic| walk_at "t_bits") => `(tactic| assumption)
local macro_rules | `(tactic| walk_at "t_w") => `(tactic| first
  | (with_reducible refine w_tru ?_)
  | ((with_reducible refine' w_truL ?s ?_); (case s => walk_at "t_sq"))
  | (with_reducible refine w_dnew ?_)
  | (with_reducible refine w_disp1 ?_)
  | ((with_reducible refine' w_aug ?e ?_); (case e => rfl))
  | (with_reducible refine w_ipI ?_)
  | ((with_reducible refine' w_inD ?e ?_); (case e => walk_at "t_hp"))
  | ((with_reducible refine' w_notInD ?e ?_); (case e => walk_at "t_hp"))
  | (with_reducible refine w_dget ?_)
  | ((with_reducible refine' w_dgetE ?e ?hv ?_); (case e => walk_at "t_hp"); (case hv => walk_at "t_dv"))
  | (with_reducible refine w_dput ?_)
  | ((with_reducible refine' w_dputE ?e ?hl ?_); (case e => walk_at "t_hp"); (case hl => walk_at "t_z"))
  | ((with_reducible refine' w_extend ?e1 ?e2 ?hz ?_); (case e1 => walk_at "t_hp"); (case e2 => walk_at "t_hp"); (case hz => walk_at "t_z")))
local macro_rules | `(tactic| walk_at "t_dv") => `(tactic| assumption)
local macro_rules | `(tactic| walk_at "t_hp") => `(tactic| first
  | (with_reducible refine hp_off0 ?_; walk_at "t_hp")
  | ((with_reducible refine' hp_off1 ?hne ?hrest); (case hne => walk_at "t_ne"); (case hrest => walk_at "t_hp")))
local macro_rules | `(tactic| walk_at "t_w") => `(tactic| first
  | (with_reducible refine w_fld ?_)
  | ((with_reducible refine' w_fldE ?e ?c ?n ?l ?_); (case e => walk_at "t_hp"); (case c => assumption); (case n => assumption); (case l => rfl))
  | (with_reducible refine w_sfld ?_)
  | ((with_reducible refine' w_sfldE ?e ?c ?n ?l ?_); (case e => walk_at "t_hp"); (case c => assumption); (case n => assumption); (case l => first | decide | (show 1 < 1000; decide) | (show 2 < 1000; decide)))
  | (with_reducible refine w_setSl ?_)
  | (with_reducible refine w_make ?_)
  | ((with_reducible refine' w_gfld0 ?hv ?e ?c ?n ?l ?_); (case hv => rfl); (case e => walk_at "t_hp"); (case c => assumption); (case n => assumption); (case l => first | decide | (show 1 < 1000; decide) | (show 2 < 1000; decide)))
  | (with_reducible refine w_meth ?_)
  | (with_reducible refine w_methX ?_)
  | ((with_reducible refine' w_methE ?e ?l ?_); (case e => walk_at "t_hp"); (case l => rfl))
  | (with_reducible refine w_chain ?_)
  | ((with_reducible refine' w_gTup ?s ?l ?_); (case s => walk_at "t_sqt"); (case l => rfl))
  | (with_reducible refine w_gCons ?_)
  | (with_reducible refine w_gNil ?_)
  | (with_reducible refine w_star ?_)
  | ((with_reducible refine' w_starL ?s ?_); (case s => walk_at "t_sq"))
  | (with_reducible refine w_isiIB ?_)
  | (with_reducible refine w_isiS ?_))
abbrev s_law_made : Stmt := topS 39
theorem sc_law_made : FnScope ["_law_room", "_law_state", "_law_cell", "_law_seed", "_law_order", "_law_fields", "_law_seeds", "_law_k", "_law_things", "_law_one", "_law_places", "_law_used", "_law_due", "_law_thing_here", "_law_handed_here", "_law_found", "_law_fresh"] ["_law_room", "_law_state", "_law_cell", "_law_seed"] (defScope s_law_made) := ⟨rfl, rfl, rfl, by decide +kernel, rfl, by decide +kernel, by decide +kernel⟩

/-! ### a box made -/
def spMadeN (K : PySem.W.Frag) (C : Addr) : Sp := fun vs H Q _ => ∃ (x r o d c m st : Addr) (cl sd : Int) (bs : List (List Thing)) (sp : Nat) (os : List Int) (kvs : List (Key × V)) (fr : Int) (rem : List V), vs = [.ref x, .ref st, .int cl, .int sd] ∧ H st = some (.tup (stV o d c m ((cells bs + sp : Nat) : Int))) ∧
  Sta K C [x, r, o, d, c, m] H x r o d c m bs sp os kvs fr rem ∧ 0 ≤ sd ∧ sd < 1000000 ∧ kvs.length ≤ 1000 ∧ rem.length ≤ 10000 ∧ ∀ bs2 sp2 os2 kvs2 fr2 rem2 H2, Ex (off [x, r, o, d, c, m] H) H2 → Sta K C [x, r, o, d, c, m] H2 x r o d c m bs2 sp2 os2 kvs2 fr2 rem2 → cells bs2 + sp2 = cells bs + sp → kvs2.length ≤ kvs.length + 1 → rem2.length ≤ rem.length + 1 → Q (.bl true) H2
theorem w_madeN {K : PySem.W.Frag} {C : Addr} {H : Hp} {Q : VK} {E : XK} {x r o d c m st : Addr} {cl sd : Int} {bs : List (List Thing)} {sp : Nat} {os : List Int} {kvs : List (Key × V)} {fr : Int} {rem : List V} (e : H st = some (.tup (stV o d c m ((cells bs + sp : Nat) : Int)))) (s : Sta K C [x, r, o, d, c, m] H x r o d c m bs sp os kvs fr rem) (h0 : 0 ≤ sd) (h1 : sd < 1000000) (hk : kvs.length ≤ 1000) (hr : rem.length ≤ 10000)
    (k : ∀ bs2 sp2 os2 kvs2 fr2 rem2 H2, Ex (off [x, r, o, d, c, m] H) H2 → Sta K C [x, r, o, d, c, m] H2 x r o d c m bs2 sp2 os2 kvs2 fr2 rem2 → cells bs2 + sp2 = cells bs + sp → kvs2.length ≤ kvs.length + 1 → rem2.length ≤ rem.length + 1 → Q (.bl true) H2) : spMadeN K C ([.ref x, .ref st, .int cl, .int sd] ++ []) H Q E := ⟨x, r, o, d, c, m, st, cl, sd, bs, sp, os, kvs, fr, rem, rfl, e, s, h0, h1, hk, hr, k⟩
theorem w_madeAny {C cB cR x r : Addr} {K : PySem.W.Frag} {H : Hp} {Q : VK} {E : XK} {bs : List (List Thing)} {sp : Nat} {l : Addr} {ws : List V} (fs : List Thing) (R : RoomAt C H x r bs sp) (hl : H l = some (.lst ws)) (ha : All2 (HandAt H bs) ws fs) (hf : ∀ t ∈ fs, Thing.ok bs.length t) (hw : ws.length ≤ 1000)
    (kr : sp < 1 + fs.length → ∀ H', Ex H H' → E (.ref cR) none H')
    (k : 1 + fs.length ≤ sp → ∀ H2, Ex (off [x, r] H) H2 → RoomAt C H2 x r (bs ++ [fs]) (sp - (1 + fs.length)) → Q (.int ((cells bs : Nat) : Int)) H2) : spMade C cB cR K (.ref x :: ([.ref l] ++ [])) H Q E := by
  by_cases hz : 1 + fs.length ≤ sp
  · exact w_madeOk fs R hl ha hf hz (k hz)
  · have hin : ∀ p ∈ fs.map (Thing.pt bs), p.1 = true → p.2 ∈ asI (places bs) := fun p hp hb => by
      obtain ⟨t, ht, rfl⟩ := List.mem_map.mp hp
      exact pt_in (hf t ht) hb
    refine ⟨x, r, l, bs, sp, ws, fs.map (Thing.pt bs), rfl, R, hl, all2_pt ha, hw, fun p hp => ?_, fun ⟨p, hp, h1, h2⟩ => absurd (hin p hp h1) h2, fun _ _ => kr (by omega), fun fs' e _ hz' => ?_⟩
    · obtain ⟨t, ht, rfl⟩ := List.mem_map.mp hp
      exact pt_ok R.ok (hf t ht)
    · have : (fs.map (Thing.pt bs)).length = (fs'.map (Thing.pt bs)).length := by rw [e]
      rw [List.length_map, List.length_map] at this
      omega
theorem nm_app {os : List Int} {fr : Int} {k : Nat} (h : k < os.length) : nm (os ++ [fr]) k = nm os k := by
  unfold nm
  rw [List.getD_eq_getElem?_getD, List.getElem?_append_left h, ← List.getD_eq_getElem?_getD]
theorem nm_last {os : List Int} {fr : Int} : nm (os ++ [fr]) os.length = fr := by
  unfold nm
  rw [List.getD_eq_getElem?_getD, List.getElem?_append_right (Nat.le_refl _), Nat.sub_self]; rfl
theorem named_app {os : List Int} {fr : Int} {t : Thing} (h : t.ok os.length) : t.named (os ++ [fr]) = t.named os := by
  cases t with
  | num n => rfl
  | box k =>
    have hk : k < os.length := h
    show [V.str "box", V.int (nm (os ++ [fr]) k)] = [V.str "box", V.int (nm os k)]
    rw [nm_app hk]
theorem namedAll_app {H : Hp} {os : List Int} {fr : Int} {ws : List V} {fs : List Thing} (h : All2 (NamedAt H os) ws fs) : (∀ t ∈ fs, Thing.ok os.length t) → All2 (NamedAt H (os ++ [fr])) ws fs := by
  induction h with
  | nil => exact fun _ => .nil
  | cons r _ ih =>
    intro hf
    obtain ⟨a, e, ha⟩ := r
    exact .cons ⟨a, e, by rw [named_app (hf _ (List.mem_cons_self ..))]; exact ha⟩ (ih fun t ht => hf t (List.mem_cons_of_mem _ ht))
theorem NamesOk.made {os : List Int} {n : Nat} {fr : Int} (h : NamesOk os n) (hl : ∀ z ∈ os, z < fr) : NamesOk (os ++ [fr]) (n + 1) := by
  have hz := (List.getElem?_eq_some_iff.mp h.zero).1
  refine ⟨by rw [List.length_append, h.len]; rfl, List.nodup_append.mpr ⟨h.nd, by simp, fun a ha b hb e => ?_⟩, by rw [List.getElem?_append_left hz]; exact h.zero⟩
  have := hl a ha
  rw [List.mem_singleton.mp hb] at e
  omega
theorem nm_lt {os : List Int} {fr : Int} (hl : ∀ z ∈ os, z < fr) {k : Nat} (h : k < os.length) : nm os k < fr := by
  refine hl _ ?_
  unfold nm
  rw [List.getD_eq_getElem?_getD, List.getElem?_eq_getElem h]
  exact List.getElem_mem h
theorem FldOk.made {H : Hp} {kvs : List (Key × V)} {os : List Int} {bs : List (List Thing)} {fr : Int} {fs : List Thing} {v : V} (h : FldOk H kvs os bs) (hN : NamesOk os bs.length) (hl : ∀ z ∈ os, z < fr) (ho : ∀ fs ∈ bs, ∀ t ∈ fs, Thing.ok bs.length t) (hf : ∀ t ∈ fs, Thing.ok bs.length t) (hv : FldAt H os v fs) : FldOk H (putK kvs (.inl fr) v) (os ++ [fr]) (bs ++ [fs]) := by
  have hlen := hN.len
  intro k gs hk
  rw [valV_putI]
  by_cases e : k < bs.length
  · rw [List.getElem?_append_left e] at hk
    have h1 := nm_lt hl (k := k) (by omega)
    rw [nm_app (by omega), if_neg (by omega)]
    obtain ⟨v2, h2, l, ws, e2, h3, h4⟩ := h k gs hk
    exact ⟨v2, h2, l, ws, e2, h3, namedAll_app h4 (by rw [hlen]; exact ho gs (List.mem_of_getElem? hk))⟩
  · have h5 := (List.getElem?_eq_some_iff.mp hk).1
    rw [List.length_append] at h5
    have h6 : k = os.length := by
      have : k < bs.length + 1 := h5
      omega
    subst h6
    rw [hlen, List.getElem?_append_right (Nat.le_refl _), Nat.sub_self] at hk
    cases hk
    obtain ⟨l, ws, e2, h3, h4⟩ := hv
    rw [nm_last, if_pos rfl]
    exact ⟨v, rfl, l, ws, e2, h3, namedAll_app h4 (by rw [hlen]; exact hf)⟩
theorem named_off {S : List Addr} {H : Hp} {os : List Int} {v : V} {t : Thing} (h : NamedAt H os v t) (n : ∀ a ∈ S, ∀ ts, H a ≠ some (.tup ts)) : NamedAt (off S H) os v t := by
  obtain ⟨a, rfl, h⟩ := h
  exact ⟨a, rfl, hp_off (fun z => n a z _ h) h⟩
section
variable {P : Program} {w : World} {K : PySem.W.Frag} {mg : Str → Option Value} {base : Heap} {C cB cR : Addr}
theorem c_law_made (T : Txt K mg) (R : RmT K mg C cB cR) (D : DefAt K mg "_law_made" "_law_made" s_law_made) (c_law_many : Cal P w K mg base "_law_many" 1 ["_law_cell", "_law_seed"] spMany) (c_law_is_int : Cal P w K mg base "_law_is_int" 1 ["_law_value"] spIsInt) (c_law_places_of : Cal P w K mg base "_law_places_of" 1 ["_law_order", "_law_fields"] (spPlacesOf K)) (c_law_thing : Cal P w K mg base "_law_thing" 2 ["_law_seed", "_law_order"] (spThingN K)) (c_law_handed : Cal P w K mg base "_law_handed" 1 ["_law_thing_here", "_law_places"] spHanded)
    (c_Room_made : CalM P w K mg base C "made" 4 ["self", "things"] (spMade C cB cR K)) : Cal P w K mg base "_law_made" 6 ["_law_room", "_law_state", "_law_cell", "_law_seed"] (spMadeN K C) := by
  refine Cal.of D sc_law_made (fun vs H Q E h => ?_) (fun _ _ _ _ _ _ us hl => match us, hl with | [_, _, _, _], _ => rfl) (fun f cdv A outer s H vs Q E hr h => ?_)
  · obtain ⟨x, r, o, d, c, m, st, cl, sd, bs, sp, os, kvs, fr, rem, rfl, _⟩ := h; rfl
  · obtain ⟨x, r, o, d, c, m, st, cl, sd, bs, sp, os, kvs, fr, rem, rfl, hst, S, h0, h1, hkl, hrl, k⟩ := h
    have hu : _ + 64 < cLine := hr.units
    have hN := S.names
    have hF := S.fldsOn
    have hO := S.ord
    have hD := S.fld
    have hro := S.room.ok
    have hfew := hro.few
    have hone := hro.one
    have hsm := hro.small
    have hom : (os.map V.int).length = bs.length := by rw [List.length_map, hN.len]
    have hst' : H st = some (.tup [.ref o, .ref d, .int ((cells bs + sp : Nat) : Int), .ref c, .ref m]) := hst
    refine ⟨_, (pss_cons (ps_set (i := 4) sc_law_made.nd rfl (Or.inr rfl) (pe_ix (ix_seqK (K := K) rfl) (pv 1) pe_int (fun _ _ => rfl)))
      (pss_cons (ps_set (i := 5) sc_law_made.nd rfl (Or.inr rfl) (pe_ix (ix_seqK (K := K) rfl) (pv 1) pe_int (fun _ _ => rfl)))
      (pss_cons (ps_setLc (i := 6) (own := [("_law_k", 7)]) (g := (gName 7)) rfl sc_law_made.nd rfl rfl (sw_true rfl rfl rfl (by decide +kernel)) (pi_range1 rfl T.b_range (pa_cons (pe_callC c_law_many (hr.mono (by decide)) rfl (pa_cons (pv 2) (pa_cons (pv 3) pa_nil))) pa_nil)) (blkOk_by (own := [("_law_k", 7)]) (N := ["_law_room", "_law_state", "_law_cell", "_law_seed", "_law_order", "_law_fields", "_law_seeds", "_law_k", "_law_things", "_law_one", "_law_places", "_law_used", "_law_due", "_law_thing_here", "_law_handed_here", "_law_found", "_law_fresh"]) (sc := defScope s_law_made) (by decide +kernel)) (fun _ _ _ _ _ => (pg_name (i := 7) sc_law_made.nd rfl (Or.inl rfl))) (fun _ _ _ _ _ => pts_nil) (fun _ _ _ _ _ => (pe_op op_mod (pe_op op_mulA (pe_op op_addA (pv 3) (pe_op op_mulA pe_int (pv 7))) pe_int) pe_int)))
      (pss_cons (ps_setLc (i := 8) (own := [("_law_one", 9)]) (g := (gName 9)) rfl sc_law_made.nd rfl rfl (sw_true rfl rfl rfl (by decide +kernel)) (pi_listK (K := K) rfl (pv 6)) (blkOk_by (own := [("_law_one", 9)]) (N := ["_law_room", "_law_state", "_law_cell", "_law_seed", "_law_order", "_law_fields", "_law_seeds", "_law_k", "_law_things", "_law_one", "_law_places", "_law_used", "_law_due", "_law_thing_here", "_law_handed_here", "_law_found", "_law_fresh"]) (sc := defScope s_law_made) (by decide +kernel)) (fun _ _ _ _ _ => (pg_name (i := 9) sc_law_made.nd rfl (Or.inl rfl))) (fun _ _ _ _ _ => pts_nil) (fun _ _ _ _ _ => (pe_callC c_law_thing (hr.mono (by decide)) rfl (pa_cons (pv 9) (pa_cons (pv 4) pa_nil)))))
      (pss_cons (ps_set (i := 10) sc_law_made.nd rfl (Or.inr rfl) (pe_callC c_law_places_of (hr.mono (by decide)) rfl (pa_cons (pv 4) (pa_cons (pv 5) pa_nil))))
      (pss_cons (ps_set (i := 11) sc_law_made.nd rfl (Or.inl rfl) (pe_callB (cr_sumK (K := K) rfl rfl) (by rfl) T.b_sum (by decide +kernel) (pa_cons (pe_lc (own := [("_law_one", 9)]) (g := (gName 9)) rfl sc_law_made.nd (pi_listK (K := K) rfl (pv 4)) (blkOk_by (own := [("_law_one", 9)]) (N := ["_law_room", "_law_state", "_law_cell", "_law_seed", "_law_order", "_law_fields", "_law_seeds", "_law_k", "_law_things", "_law_one", "_law_places", "_law_used", "_law_due", "_law_thing_here", "_law_handed_here", "_law_found", "_law_fresh"]) (sc := defScope s_law_made) (by decide +kernel)) (fun _ _ _ _ _ => (pg_name (i := 9) sc_law_made.nd rfl (Or.inl rfl))) (fun _ _ _ _ _ => pts_nil) (fun _ _ _ _ _ => (pe_op op_addA pe_int (pe_callB (call_lenK (K := K) rfl) (by rfl) T.b_len (by decide +kernel) (pa_cons (pe_dget (hu1 hu) (pv 5) (pv 9) (fun _ _ => rfl)) pa_nil))))) pa_nil)))
      (pss_cons (ps_setLc (i := 12) (own := [("_law_thing_here", 13)]) (g := (gName 13)) rfl sc_law_made.nd rfl rfl (sw_true rfl rfl rfl (by decide +kernel)) (pi_listK (K := K) rfl (pv 8)) (blkOk_by (own := [("_law_thing_here", 13)]) (N := ["_law_room", "_law_state", "_law_cell", "_law_seed", "_law_order", "_law_fields", "_law_seeds", "_law_k", "_law_things", "_law_one", "_law_places", "_law_used", "_law_due", "_law_thing_here", "_law_handed_here", "_law_found", "_law_fresh"]) (sc := defScope s_law_made) (by decide +kernel)) (fun _ _ _ _ _ => (pg_name (i := 13) sc_law_made.nd rfl (Or.inl rfl))) (fun _ _ _ _ _ => pts_nil) (fun _ _ _ _ _ => (pe_callC c_law_handed (hr.mono (by decide)) rfl (pa_cons (pv 13) (pa_cons (pv 10) pa_nil)))))
      (pss_cons (ps_set (i := 14) sc_law_made.nd rfl (Or.inl rfl) (pe_callTy (call_listK (K := K) rfl) (by rfl) T.b_list (by decide +kernel) (pa_cons (pv 12) pa_nil)))
      (pss_cons (ps_try_only rfl rfl ⟨rfl, by decide, .inl R.xNoRoom.g⟩ takes0 (fun W pn xe tk _ => (pss_one (ps_set (i := 15) sc_law_made.nd rfl (Or.inl rfl) (pe_methX tk R.cl c_Room_made (hr.mono (by decide)) (pv 0) (pa_cons (pv 14) pa_nil))))) (fun a oe cls d pn _ _ => (pss_one (ps_ret (pe_and (pe_cmpR op_gt (pe_op op_addA (pe_op op_addA (pv 11) pe_int) (pe_callB (call_lenK (K := K) rfl) (by rfl) T.b_len (by decide +kernel) (pa_cons (pv 8) pa_nil))) (pe_ix (ix_seqK (K := K) rfl) (pv 1) pe_int (fun _ _ => rfl)) (nomark _)) (pe_one (pe_cmpR (op_eqK (K := K) rfl hu) (pv 14) (pv 12) (nomark _))))))))
      (pss_cons (ps_if (pt_cmpR (op_neK (K := K) rfl hu) (pv 14) (pv 12) (nomark _)) (pss_one (ps_ret pe_bl)) pss_nil)
      (pss_cons (ps_expr (pe_bmK (K := K) rfl PySem.F.plainAttrs_list PySem.F.slot_list_append PySem.F.type_list_append mt_append (pv 14) (pa_cons (pe_tup (pa_cons pe_str (pa_cons pe_int pa_nil))) pa_nil)))
      (pss_cons (ps_expr (pe_bmK (K := K) rfl PySem.F.plainAttrs_list PySem.F.slot_list_append PySem.F.type_list_append mt_append (pe_ix (ix_seqK (K := K) rfl) (pv 1) pe_int (fun _ _ => rfl)) (pa_cons (pe_tup (pa_cons (pv 14) (pa_cons (pe_callTy (call_listK (K := K) rfl) (by rfl) T.b_list (by decide +kernel) (pa_cons (pv 14) pa_nil)) pa_nil))) pa_nil)))
      (pss_cons (ps_if (PW.pt (pw_or (pt_cmpR op_gt (pe_op op_addA (pe_op op_addA (pv 11) pe_int) (pe_callB (call_lenK (K := K) rfl) (by rfl) T.b_len (by decide +kernel) (pa_cons (pv 8) pa_nil))) (pe_ix (ix_seqK (K := K) rfl) (pv 1) pe_int (fun _ _ => rfl)) (nomark _)) (pw_or (pt_not (pt_val (pe_callC c_law_is_int (hr.mono (by decide)) rfl (pa_cons (pv 15) pa_nil)))) (pw_or1 (pt_cmpR (op_neK (K := K) rfl hu) (pv 15) (pv 11) (nomark _)))))) (pss_one (ps_ret pe_bl)) pss_nil)
      (pss_cons (ps_set (i := 16) sc_law_made.nd rfl (Or.inl rfl) (pe_ix (ix_seqK (K := K) rfl) (pe_ix (ix_seqK (K := K) rfl) (pv 1) pe_int (fun _ _ => rfl)) pe_int (fun _ _ => rfl)))
      (pss_cons (ps_asg (pe_op op_addA (pv 16) pe_int) (pg_sub (pe_ix (ix_seqK (K := K) rfl) (pv 1) pe_int (fun _ _ => rfl)) pe_int set_list))
      (pss_cons (ps_expr (pe_bmK (K := K) rfl PySem.F.plainAttrs_list PySem.F.slot_list_append PySem.F.type_list_append mt_append (pv 4) (pa_cons (pv 16) pa_nil)))
      (pss_cons (ps_dput (hu1 hu) (pv 5) (pv 16) (pv 8) rfl)
      (pss_one (ps_ret pe_bl))))))))))))))))))), ?_⟩
    repeat walk_at "t_w"
    refine w_lc ?_
    repeat walk_at "t_w"
    refine w_many h0 fun n hn J0 j0 => ?_
    repeat walk_at "t_w"
    refine lcjR (Evl.Cw J0 (fun _ => true) (fun i => V.int ((sd + 977 * (0 + (i : Int))) * 16807 % 999979))) ?_ ?_ ?_
    · exact fun Dl hD => ⟨hD, Evl.Ex.new hD, upd_same⟩
    · intro Dl i G hDl hi pp
      refine ⟨rfl, Evl.cw_turn pp (by omega) ?_ ?_⟩
      · walk_at "t_ev"
      · intro _ G2 e2 Q2 q2
        repeat walk_at "t_w"
        exact q2 _ (by walk_at "t_ex")
    · intro D1 H1 hD1 pp
      obtain ⟨p1, p2, p3⟩ := pp
      have ej1 : Ex H H1 := j0.trans p2
      rw [given_all, Int.toNat_natCast] at p3
      obtain ⟨sds, hsds⟩ : ∃ sds : List V, sds = (List.range n).map (fun (i : Nat) => V.int ((sd + 977 * (0 + (i : Int))) * 16807 % 999979)) := ⟨_, rfl⟩
      rw [← hsds] at p3
      have hsl : sds.length = n := by rw [hsds, List.length_map, List.length_range]
      have hsg : ∀ (i : Nat) (v : V), sds[i]? = some v → ∃ z : Int, v = .int z ∧ 0 ≤ z ∧ z < 1000000 := fun i v e => by
        rw [hsds, List.getElem?_map] at e
        cases q : (List.range n)[i]? with
        | none => rw [q] at e; cases e
        | some j =>
          rw [q] at e
          exact ⟨_, (Option.some.inj e).symm, by omega, by omega⟩
      clear hsds p1 j0 p2
      repeat walk_at "t_w"
      refine w_lc ?_
      repeat walk_at "t_w"
      refine lcjLM (xs := sds) (fun i v H => ∃ t, Thing.ok bs.length t ∧ NamedAt H os v t) (fun i v H H' e ⟨t, h1, h2⟩ => ⟨t, h1, h2.ex e⟩) (SqL.of p3) ?_ (fun x => rfl) (by omega) ?_
      · intro Dl i y H6 acc hDl hacc e6 hy Q6 k6
        obtain ⟨z, rfl, hz0, hz1⟩ := hsg i y hy
        repeat walk_at "t_w"
        refine w_thingN bs.length hz0 hz1 (SqL.of (e6 _ _ (ej1 _ _ hO))) hN hone fun t a H7 ht ha e7 ha7 => ?_
        have nad : a ≠ Dl := fun z => by rw [z, hacc] at ha; cases ha
        exact k6 _ _ e7 ⟨t, ht, a, rfl, by rw [del_ne nad]; exact ha7⟩
      · intro D2 H2 ts hD2 e2 hD2v htl hts
        obtain ⟨fs, hfa0, hfo⟩ := all2_choose (R := NamedAt (del H2 D2) os) (n := bs.length) (ys := ts) fun i v e => hts i v e
        have hfa : All2 (NamedAt H2 os) ts fs := hfa0.mono fun _ _ z => z.ex del_ex
        have hfl : fs.length = n := by rw [← hfa.length, htl, hsl]
        have ej2 : Ex H H2 := ej1.trans e2
        have hO2 := ej2 _ _ hO
        have hD2' := ej2 _ _ hD
        have hF2 := hF.ex ej2
        have hD20 : H D2 = none := fresh_back ej1 hD2
        clear p3 hts hsg hD1 e2 ej1 hD2
        repeat walk_at "t_w"
        refine w_placesOf (SqL.of hO2) hD2' hF2 hN (by omega) fun kv2 hP g H3 hg e3 hg3 => ?_
        have ej3 : Ex H H3 := ej2.trans e3
        have hO3 := ej3 _ _ hO
        have hDv3 := e3 _ _ hD2v
        repeat walk_at "t_w"
        refine w_lcL (a := o) (xs := os.map V.int) (fun _ => true) (fun i => V.int (1 + ((bs.getD i []).length : Int))) ?ha ?hx ?hz ?hw ?ht ?he ?hk
        case ha => walk_at "t_ev"
        case hx => exact SqL.of hO3
        case hz => rw [hom]; omega
        case hw => intro x; rfl
        case ht => intro i x G e hi; walk_at "t_ev"
        case he =>
          intro i y G e hi hf
          obtain ⟨rfl, hil⟩ := os_get hi
          rw [hN.len] at hil
          obtain ⟨gs, hgs⟩ : ∃ gs, bs[i]? = some gs := ⟨_, List.getElem?_eq_getElem hil⟩
          obtain ⟨v, hv, l, us, rfl, hl, hA⟩ := (hF.ex (ej3.trans e)) i gs hgs
          have ef : bs.getD i [] = gs := by rw [List.getD_eq_getElem?_getD, hgs]; rfl
          have hDG := (ej3.trans e) _ _ hD
          rw [ef, ← hA.length]
          intro H1 e1 Q1 q1
          have hDG1 := e1 _ _ hDG
          have hl1 := e1 _ _ hl
          repeat walk_at "t_w"
          exact q1 _ (by walk_at "t_ex")
        case hk =>
          intro lu H4 hlu e4 hlu4
          rw [given_cells hom] at hlu4
          have hDv4 := e4 _ _ hDv3
          repeat walk_at "t_w"
          rw [sum_cells]
          repeat walk_at "t_w"
          refine w_lc ?_
          repeat walk_at "t_w"
          have hg4 := e4 _ _ hg3
          refine lcjLM (xs := ts) (fun i v H => ∃ t, fs[i]? = some t ∧ HandAt H bs v t) (fun i v H H' e ⟨t, h1, h2⟩ => ⟨t, h1, h2.ex e⟩) (SqL.of hDv4) ?_ (fun x => rfl) (by omega) ?_
          · intro Dl i y H6 acc hDl hacc e6 hy Q6 k6
            obtain ⟨t, ht, hn⟩ := hfa.get hy
            repeat walk_at "t_w"
            refine w_handed t (e6 _ _ hg4) hP (hn.ex ((e3.trans e4).trans e6)) (hfo t (List.mem_of_getElem? ht)) fun v2 H7 e7 h7 => ?_
            refine k6 _ _ e7 ⟨t, ht, ?_⟩
            obtain ⟨a, rfl, ha⟩ := h7
            have nad : a ≠ Dl := fun z => by rw [z, e7 _ _ hacc] at ha; cases ha
            exact ⟨a, rfl, by rw [del_ne nad]; exact ha⟩
          · intro D5 H5 us hD5 e5 hD5v hul hus
            have hUA0 : All2 (HandAt (del H5 D5) bs) us fs := All2.of_get (by omega) fun i v t hv ht => by
              obtain ⟨t', h1, h2⟩ := hus i v hv
              rw [ht] at h1
              cases h1
              exact h2
            have hD50 : H D5 = none := fresh_back (ej3.trans e4) hD5
            have hUA : All2 (HandAt H5 bs) us fs := hUA0.mono fun _ _ z => z.ex del_ex
            have ej5 : Ex H H5 := (ej3.trans e4).trans e5
            have e25 : Ex H2 H5 := (e3.trans e4).trans e5
            have hDv5 := e5 _ _ hDv4
            have hst5 := ej5 _ _ hst'
            have R5 := S.room.ex ej5
            have hull : us.length = n := by omega
            clear hus hg4 hlu4 hlu e4 e5 e3 hO3 hDv3 hDv4 hg3 hF2 hO2 hD2' ej3 ej2
            obtain ⟨⟨dx5, hX5⟩, _, _⟩ := id R5
            repeat walk_at "t_w"
            rename_i p hp
            have hp0 : H p = none := fresh_back ej5 hp
            have hUp : All2 (HandAt (upd H5 p (.lst us)) bs) us fs := hUA.mono fun _ _ z => z.ex (Evl.Ex.new hp)
            have e5p : Ex H5 (upd H5 p (.lst us)) := Evl.Ex.new hp
            have npD5 : D5 ≠ p := ne_of_none hD5v hp
            refine w_madeAny fs (R5.ex (Evl.Ex.new hp)) upd_same hUp hfo (by omega) (fun hz H6 e6 => ?_) fun hz H6 e6 R6 => ?_
            · refine ⟨true, R.xNoRoom.e, fun _ a ha => ?_, fun h => nomatch h⟩
              have e56 : Ex H5 H6 := e5p.trans e6
              have hp6 : H6 p = some (.lst us) := e6 _ _ upd_same
              have hD56 := e56 _ _ hD5v
              have hD26 := e56 _ _ hDv5
              have hst6 := e56 _ _ hst5
              have hgt : ((cells bs + sp : Nat) : Int) < ((cells bs : Nat) : Int) + 1 + (ts.length : Int) := by omega
              repeat walk_at "t_w"
              have hU6 : All2 (HandAt H6 bs) us fs := hUp.mono fun _ _ z => z.ex e6
              refine w_eqSame (d := .list (fs.map (Thing.handD bs))) (.lst (SqL.of hp6) (dpAll_hand hU6)) (.lst (SqL.of hD56) (dpAll_hand hU6)) (shaped_hand bs fs) ?_
              have eHH : Ex H H6 := ej5.trans e56
              exact k bs sp os kvs fr rem H6 (off_ex.trans eHH) (S.ex eHH fun a ha => let ⟨u, h, _⟩ := S.six a ha; ⟨u, h⟩) rfl (by omega) (by omega)
            · have hT : ∀ a ∈ [x, r], ∀ ts, (upd H5 p (.lst us)) a ≠ some (.tup ts) := fun a ha ts => by
                obtain ⟨u, hu, hn⟩ := S.six a (List.mem_append_left [o, d, c, m] ha)
                rw [e5p _ _ (ej5 _ _ hu)]
                exact fun z => hn ts (Option.some.inj z)
              have hU6 : All2 (HandAt H6 bs) us fs := hUp.mono fun _ _ z => (hand_off z hT).ex e6
              have hcp : ∀ a u, a ∉ [x, r] → H5 a = some u → H6 a = some u := fun a u h1 h2 => e6 _ _ (hp_off h1 (e5p _ _ h2))
              have h2x : ∀ a, H a = none → a ∉ [x, r] := fun a h z => S.out h (List.mem_append_left [o, d, c, m] z)
              have hp6 : H6 p = some (.lst us) := e6 _ _ (hp_off (h2x p hp0) upd_same)
              have hD56 : H6 D5 = some (.lst us) := hcp _ _ (h2x _ hD50) hD5v
              have hD26 : H6 D2 = some (.lst ts) := hcp _ _ (h2x _ hD20) hDv5
              have nd := S.nd
              simp only [List.nodup_cons, List.mem_cons, List.not_mem_nil, or_false, not_or] at nd
              obtain ⟨⟨dx0, hX0⟩, hR0, _⟩ := id S.room
              have hO6 : H6 o = some (.lst (os.map V.int)) := hcp _ _ (by simp only [List.mem_cons, List.not_mem_nil, or_false, not_or]; exact ⟨ne_of hO hX0 (fun z => nomatch z), Ne.symm nd.1.1⟩) (ej5 _ _ hO)
              have hd6 : H6 d = some (.dK kvs) := hcp _ _ (by simp only [List.mem_cons, List.not_mem_nil, or_false, not_or]; exact ⟨ne_of hD hX0 (fun z => nomatch z), ne_of hD hR0 (fun z => nomatch z)⟩) (ej5 _ _ hD)
              have hc6 : H6 c = some (.lst [.int fr]) := hcp _ _ (by simp only [List.mem_cons, List.not_mem_nil, or_false, not_or]; exact ⟨ne_of S.cnt hX0 (fun z => nomatch z), Ne.symm nd.1.2.1⟩) (ej5 _ _ S.cnt)
              have hm6 : H6 m = some (.lst rem) := hcp _ _ (by simp only [List.mem_cons, List.not_mem_nil, or_false, not_or]; exact ⟨ne_of S.kept hX0 (fun z => nomatch z), Ne.symm nd.1.2.2⟩) (ej5 _ _ S.kept)
              have hst6 : H6 st = some (.tup [.ref o, .ref d, .int ((cells bs + sp : Nat) : Int), .ref c, .ref m]) := hcp _ _ (by simp only [List.mem_cons, List.not_mem_nil, or_false, not_or]; exact ⟨ne_of hst' hX0 (fun z => nomatch z), ne_of hst' hR0 (fun z => nomatch z)⟩) hst5
              have nmp : m ≠ p := fun e => by rw [e] at hm6; have := S.kept; rw [e, hp0] at this; cases this
              have nop : o ≠ p := fun e => by have := hO; rw [e, hp0] at this; cases this
              have ndp : d ≠ p := fun e => by have := hD; rw [e, hp0] at this; cases this
              have ncp : c ≠ p := fun e => by have := S.cnt; rw [e, hp0] at this; cases this
              have nsp : st ≠ p := fun e => by rw [e, hp0] at hst'; cases hst'
              have n2p : D2 ≠ p := ne_of_none hDv5 hp
              have nom : o ≠ m := nd.2.1.2
              have noc : o ≠ c := nd.2.1.1
              have ncm : c ≠ m := nd.2.2.1
              have nod : o ≠ d := ne_of hO hD (fun z => nomatch z)
              have ncd : c ≠ d := ne_of S.cnt hD (fun z => nomatch z)
              have nmd : m ≠ d := ne_of S.kept hD (fun z => nomatch z)
              have nsm : st ≠ m := ne_of hst' S.kept (fun z => nomatch z)
              have nso : st ≠ o := ne_of hst' hO (fun z => nomatch z)
              have nsc : st ≠ c := ne_of hst' S.cnt (fun z => nomatch z)
              have n2m : D2 ≠ m := fun e => S.out hD20 (by rw [e]; simp)
              have n2o : D2 ≠ o := fun e => S.out hD20 (by rw [e]; simp)
              have n2c : D2 ≠ c := fun e => S.out hD20 (by rw [e]; simp)
              have hz1 : us.length < 1000000 := by omega
              have hz2 : rem.length < 1000000 := by omega
              have hz3 : (us ++ [V.ref p]).length < 1000000 := by rw [List.length_append]; show us.length + 1 < _; omega
              have hz4 : (os.map V.int).length < 1000000 := by omega
              have hz5 : kvs.length < 1000000 := by omega
              repeat walk_at "t_w"
              refine w_neSame (d := .list (fs.map (Thing.handD bs))) (.lst (SqL.of hp6) (dpAll_hand hU6)) (.lst (SqL.of hD56) (dpAll_hand hU6)) (shaped_hand bs fs) ?_
              have hfa6 : All2 (NamedAt H6 os) ts fs := hfa.mono fun _ _ z => (named_off ((z.ex e25).ex e5p) hT).ex e6
              have hHc : ∀ a u, a ∉ [x, r] → H a = some u → H6 a = some u := fun a u h1 h2 => hcp a u h1 (ej5 _ _ h2)
              obtain ⟨⟨dx6, hX6⟩, hR6, hro6⟩ := id R6
              clear hcp h2x hT hUp hUA e6 e5p hDv5 hst5 R5 hX5 hX0 hR0 ej5 e25 hfa hUA0 hD5v hD2v
              have hng : ¬ ((cells bs + sp : Nat) : Int) < ((cells bs : Nat) : Int) + 1 + (ts.length : Int) := by omega
              repeat walk_at "t_w"
              refine w_iteN (fun h => absurd rfl h) (fun _ => ?_)
              rename_i q1 hq1 q2 hq2 q3 hq3 H7 e7 _
              have n1p : q1 ≠ p := fun e => by rw [e, hp6] at hq1; cases hq1
              have n2p' : q2 ≠ p := fun e => by rw [e, upd_same] at hq2; cases hq2
              have n21 : q2 ≠ q1 := fun e => by rw [e, upd_ne n1p, upd_same] at hq2; cases hq2
              have hq20 : H6 q2 = none := by rw [upd_ne n2p', upd_ne n21] at hq2; exact hq2
              have n32 : q3 ≠ q2 := fun e => by rw [e, upd_same] at hq3; cases hq3
              have n3p : q3 ≠ p := fun e => by rw [e, upd_ne (Ne.symm n2p'), upd_same] at hq3; cases hq3
              have n31 : q3 ≠ q1 := fun e => by rw [e, upd_ne (Ne.symm n21), upd_ne n1p, upd_same] at hq3; cases hq3
              have hq30 : H6 q3 = none := by rw [upd_ne n32, upd_ne n3p, upd_ne n31] at hq3; exact hq3
              have n1m : q1 ≠ m := Ne.symm (ne_of_none hm6 hq1)
              have n2m' : q2 ≠ m := Ne.symm (ne_of_none hm6 hq20)
              have n3m : q3 ≠ m := Ne.symm (ne_of_none hm6 hq30)
              have hq17 : H7 q1 = some (.tup [.str "number", .int 7]) := e7 _ _ (by rw [upd_ne n1m, upd_ne (Ne.symm n31), upd_ne (Ne.symm n21), upd_ne n1p, upd_same])
              have hp7 : H7 p = some (.lst (us ++ [.ref q1])) := e7 _ _ (by rw [upd_ne (Ne.symm nmp), upd_ne (Ne.symm n3p), upd_ne (Ne.symm n2p'), upd_same])
              have hq27 : H7 q2 = some (.lst (us ++ [.ref q1])) := e7 _ _ (by rw [upd_ne n2m', upd_ne (Ne.symm n32), upd_same])
              have hq37 : H7 q3 = some (.tup [.ref p, .ref q2]) := e7 _ _ (by rw [upd_ne n3m, upd_same])
              have hm7 : H7 m = some (.lst (rem ++ [.ref q3])) := e7 _ _ upd_same
              have h67 : ∀ a u, a ≠ p → a ≠ m → H6 a = some u → H7 a = some u := fun a u h1 h2 h3 => e7 _ _ (by
                rw [upd_ne h2, upd_ne (ne_of_none h3 hq30), upd_ne (ne_of_none h3 hq20), upd_ne h1, upd_ne (ne_of_none h3 hq1)]; exact h3)
              clear e7 hq3 hq2
              have hO7 := h67 _ _ nop nom hO6
              have hd7 := h67 _ _ ndp (Ne.symm nmd) hd6
              have hc7 := h67 _ _ ncp ncm hc6
              have hst7 := h67 _ _ nsp nsm hst6
              have hD27 := h67 _ _ n2p n2m hD26
              have hback : ∀ a, H6 a = none → H a = none := fun a h1 => by
                cases q : H a with
                | none => rfl
                | some u =>
                  have h2 : a ∉ [x, r] := fun z => by
                    simp only [List.mem_cons, List.not_mem_nil, or_false] at z
                    rcases z with e | e
                    · rw [e, hX6] at h1; cases h1
                    · rw [e, hR6] at h1; cases h1
                  rw [hHc a u h2 q] at h1; cases h1
              repeat walk_at "t_w"
              obtain ⟨G, hG⟩ : ∃ G, G = upd (upd (upd H7 c (.lst ([V.int fr].set (Int.toNat 0) (.int (fr + 1))))) o (.lst (os.map V.int ++ [V.int fr]))) d (.dK (putK kvs (.inl fr) (.ref D2))) := ⟨_, rfl⟩
              have hGe : ∀ a u, a ≠ c → a ≠ o → a ≠ d → H7 a = some u → G a = some u := fun a u h1 h2 h3 h4 => by rw [hG, upd_ne h3, upd_ne h2, upd_ne h1]; exact h4
              have hT6 : ∀ a ∈ [x, r, o, d, c, m], ∀ ts, H6 a ≠ some (.tup ts) := by
                intro a ha ts
                simp only [List.mem_cons, List.not_mem_nil, or_false] at ha
                rcases ha with rfl | rfl | rfl | rfl | rfl | rfl
                · rw [hX6]; exact fun z => nomatch z
                · rw [hR6]; exact fun z => nomatch z
                · rw [hO6]; exact fun z => nomatch z
                · rw [hd6]; exact fun z => nomatch z
                · rw [hc6]; exact fun z => nomatch z
                · rw [hm6]; exact fun z => nomatch z
              have hTp : ∀ a ∈ p :: [x, r, o, d, c, m], ∀ ts, H6 a ≠ some (.tup ts) := fun a ha ts => by
                rcases List.mem_cons.mp ha with rfl | h
                · rw [hp6]; exact fun z => nomatch z
                · exact hT6 a h ts
              have notT : ∀ a, a ∉ [x, r, o, d, c, m] → a ≠ o ∧ a ≠ d ∧ a ≠ c ∧ a ≠ m ∧ a ∉ [x, r] := fun a h => by
                refine ⟨fun e => h ?_, fun e => h ?_, fun e => h ?_, fun e => h ?_, fun z => h (List.mem_append_left [o, d, c, m] z)⟩ <;> (rw [e]; simp)
              have hG6 : ∀ a u, a ∉ [x, r, o, d, c, m] → a ≠ p → H6 a = some u → G a = some u := fun a u h1 h2 h3 => by
                obtain ⟨g1, g2, g3, g4, _⟩ := notT a h1
                exact hGe a u g3 g1 g2 (h67 a u h2 g4 h3)
              have e6T : Ex (off (p :: [x, r, o, d, c, m]) H6) (off [x, r, o, d, c, m] G) := fun a u e => by
                have ha : a ∉ p :: [x, r, o, d, c, m] := fun z => by rw [off_in z] at e; cases e
                rw [off_out ha] at e
                have hb : a ∉ [x, r, o, d, c, m] := fun z => ha (List.mem_cons_of_mem _ z)
                rw [off_out hb]
                exact hG6 a u hb (fun z => ha (z ▸ List.mem_cons_self ..)) e
              have hHG : ∀ a u, a ∉ [x, r, o, d, c, m] → H a = some u → G a = some u := fun a u h1 h2 =>
                hG6 a u h1 (fun e => by rw [e, hp0] at h2; cases h2) (hHc a u (notT a h1).2.2.2.2 h2)
              have eT : Ex (off [x, r, o, d, c, m] H) G := fun a u e => by
                have ha : a ∉ [x, r, o, d, c, m] := fun z => by rw [off_in z] at e; cases e
                rw [off_out ha] at e
                exact hHG a u ha e
              have eTT : Ex (off [x, r, o, d, c, m] H) (off [x, r, o, d, c, m] G) := ex_off eT fun a ha => .inl ha
              have hfaG : All2 (NamedAt (off [x, r, o, d, c, m] G) os) ts fs := hfa6.mono fun _ _ z => (named_off z hTp).ex e6T
              have hUG : All2 (HandAt (off [x, r, o, d, c, m] G) bs) us fs := hU6.mono fun _ _ z => (hand_off z hTp).ex e6T
              have o1 := S.out (hback _ hq1)
              have o2 := S.out (hback _ hq20)
              have o3 := S.out (hback _ hq30)
              have op := S.out hp0
              have od2 := S.out hD20
              have h7G : ∀ a u, a ∉ [x, r, o, d, c, m] → H7 a = some u → off [x, r, o, d, c, m] G a = some u := fun a u h1 h2 => by
                obtain ⟨g1, g2, g3, _, _⟩ := notT a h1
                exact hp_off h1 (hGe a u g3 g1 g2 h2)
              have hUG2 : All2 (HandAt (off [x, r, o, d, c, m] G) bs) (us ++ [.ref q1]) (fs ++ [.num 7]) := hUG.snoc ⟨q1, rfl, h7G _ _ o1 hq17⟩
              have nxp : x ≠ p := ne_of hX6 hp6 (fun z => nomatch z)
              have nrp : r ≠ p := fun e => by have := S.room.row; rw [e, hp0] at this; cases this
              have nxm : x ≠ m := ne_of hX6 hm6 (fun z => nomatch z)
              have nxc : x ≠ c := ne_of hX6 hc6 (fun z => nomatch z)
              have nxo : x ≠ o := ne_of hX6 hO6 (fun z => nomatch z)
              have nxd : x ≠ d := ne_of hX6 hd6 (fun z => nomatch z)
              have nrd : r ≠ d := ne_of hR6 hd6 (fun z => nomatch z)
              have hlen : (bs ++ [fs]).length = bs.length + 1 := by rw [List.length_append]; rfl
              have SG : Sta K C [x, r, o, d, c, m] G x r o d c m (bs ++ [fs]) (sp - (1 + fs.length)) (os ++ [fr]) (putK kvs (.inl fr) (.ref D2)) (fr + 1) (rem ++ [.ref q3]) := by
                refine ⟨⟨⟨dx6, hGe _ _ nxc nxo nxd (h67 _ _ nxp nxm hX6)⟩, hGe _ _ nd.1.2.1 nd.1.1 nrd (h67 _ _ nrp nd.1.2.2 hR6), hro6⟩, ?_, by rw [hG, upd_same], ?_, hGe _ _ (Ne.symm ncm) (Ne.symm nom) nmd hm7, S.nd, by rw [hlen]; exact hN.made S.lt, fun z hz => ?_, ?_, fun v hv => ?_, S.sub⟩
                · rw [hG, upd_ne nod, upd_same, List.map_append]; rfl
                · rw [hG, upd_ne ncd, upd_ne (Ne.symm noc), upd_same]; rfl
                · rcases List.mem_append.mp hz with h | h
                  · have := S.lt z h; omega
                  · rw [List.mem_singleton.mp h]; omega
                · exact (S.flds.ex eTT).made hN S.lt hro.ok hfo ⟨D2, ts, rfl, h7G _ _ od2 hD27, hfaG⟩
                · rcases List.mem_append.mp hv with h | h
                  · exact (S.rems v h).ex eTT
                  · rw [List.mem_singleton.mp h]
                    exact ⟨q3, p, q2, .list ((fs ++ [Thing.num 7]).map (Thing.handD bs)), rfl, h7G _ _ o3 hq37, .lst (SqL.of (h7G _ _ op hp7)) (dpAll_hand hUG2), .lst (SqL.of (h7G _ _ o2 hq27)) (dpAll_hand hUG2), shaped_hand bs _⟩
              rw [← hG]
              exact k _ _ _ _ _ _ G eT SG (by rw [cells_snoc]; omega) (length_putK ..) (by rw [List.length_append]; exact Nat.le_refl _)
end
end Tw

set_option Elab.async false
set_option linter.all false
set_option maxRecDepth 100000
set_option maxHeartbeats 4000000
namespace Tw
open PySem PySem.Spec PyProof.Rows L2
open Evl (Ex ex_l ex_t fresh_back sz_of sz_lt)
local macro_rules | `(tactic| walk_at "t_hp") => `(tactic| first
  | assumption
  | exact upd_same
  | (refine' hp_ne ?hne ?hrest; (case hne => walk_at "t_ne"); (case hrest => walk_at "t_hp"))
  | (refine' hp_ex ?hx ?hrest; (case hx => assumption); (case hrest => walk_at "t_hp")))
local macro_rules | `(tactic| walk_at "t_ne") => `(tactic| first
  | assumption
  | exact Ne.symm (by assumption)
  | (refine' ne_of_none ?h1 ?h2; (case h2 => assumption); (case h1 => walk_at "t_hp"))
  | (refine' Ne.symm (ne_of_none ?h1 ?h2); (case h2 => assumption); (case h1 => walk_at "t_hp")))
local macro_rules | `(tactic| walk_at "t_none") => `(tactic| first
  | assumption
  | (refine' fresh_back ?e ?n; (case n => assumption); (case e => walk_at "t_ex")))
local macro_rules | `(tactic| walk_at "t_ex") => `(tactic| first
  | assumption
  | exact Evl.Ex.refl _
  | (refine' ex_new ?n ?e; (case n => assumption); (case e => walk_at "t_ex"))
  | (refine' Evl.Ex.mut ?e ?n; (case n => walk_at "t_none"); (case e => walk_at "t_ex"))
  | (refine' Evl.Ex.trans ?a ?b; (case b => assumption); (case a => walk_at "t_ex")))
local macro_rules | `(tactic| walk_at "t_sq") => `(tactic| first
  | assumption
  | (refine' SqL.of ?h; (case h => walk_at "t_hp"))
  | (refine' ex_l ?e ?s; (case s => assumption); (case e => walk_at "t_ex")))
local macro_rules | `(tactic| walk_at "t_sqt") => `(tactic| first
  | assumption
  | (refine' SqT.of ?h; (case h => walk_at "t_hp"))
  | (refine' ex_t ?e ?s; (case s => assumption); (case e => walk_at "t_ex")))
local macro_rules | `(tactic| walk_at "t_mul") => `(tactic| first
  | assumption
  | exact Or.inl (Or.inl ⟨by decide, by decide⟩)
  | exact Or.inl (Or.inr ⟨by decide, by decide⟩)
  | exact Or.inl (Or.inl ⟨by omega, by omega⟩)
  | exact Or.inl (Or.inr ⟨by omega, by omega⟩))
local macro_rules | `(tactic| walk_at "t_c") => `(tactic| first
  | assumption
  | decide
  | (show (0 : Int) < _; decide)
  | (show (0 : Int) < _; omega)
  | exact ⟨by decide, by decide⟩
  | exact ⟨by decide, by decide, by decide⟩
  | exact ⟨by omega, by omega⟩
  | exact ⟨by omega, by omega, by omega, by omega⟩)
local macro_rules | `(tactic| walk_at "t_w") => `(tactic| first
  | (with_reducible refine w_seq ?_)
  | (with_reducible refine w_asg ?_)
  | (with_reducible refine w_gName ?_)
  | (with_reducible refine w_nx ?_)
  | (with_reducible refine w_rt ?_)
  | (with_reducible refine w_ct ?_)
  | (with_reducible refine w_bk ?_)
  | (with_reducible refine w_ret ?_)
  | (with_reducible refine w_retN ?_)
  | (with_reducible refine w_drop ?_)
  | (with_reducible refine w_ifS ?_)
  | (with_reducible refine w_next ?_)
  | (with_reducible refine w_break ?_)
  | (with_reducible refine w_cont ?_)
  | ((with_reducible refine' w_var ?h ?_); (case h => rfl))
  | (with_reducible refine w_c ?_)
  | (with_reducible refine w_op ?_)
  | (with_reducible refine w_un ?_)
  | (with_reducible refine w_I0 ?_)
  | ((with_reducible refine' w_I ?c ?_); (case c => walk_at "t_c"))
  | (with_reducible refine w_U ?_)
  | (with_reducible refine w_addI ?_)
  | ((with_reducible refine' w_addL ?h1 ?h2 ?hz ?_); (case h1 => walk_at "t_hp"); (case h2 => walk_at "t_hp"); (case hz => walk_at "t_z"))
  | ((with_reducible refine' w_mulI ?c ?_); (case c => walk_at "t_mul"))
  | ((with_reducible refine' w_mulL1 ?h1 ?b1 ?b2 ?_); (case h1 => walk_at "t_hp"); (case b1 => walk_at "t_z"); (case b2 => walk_at "t_z"))
  | ((with_reducible refine' w_mulL ?h1 ?b1 ?b2 ?hz ?_); (case h1 => walk_at "t_hp"); (case b1 => walk_at "t_z"); (case b2 => walk_at "t_z"); (case hz => walk_at "t_z"))
  | (with_reducible refine w_notIB ?_)
  | (with_reducible refine w_notBB ?_)
  | (with_reducible refine w_notN ?_)
  | (with_reducible refine w_isBB ?_)
  | (with_reducible refine w_isN ?_)
  | (with_reducible refine w_eqI ?_)
  | (with_reducible refine w_neI ?_)
  | (with_reducible refine w_eqB ?_)
  | (with_reducible refine w_neB ?_)
  | (with_reducible refine w_eqS ?_)
  | (with_reducible refine w_neS ?_)
  | (with_reducible refine w_test ?_)
  | (with_reducible refine w_B ?_)
  | (with_reducible refine w_exB ?_)
  | (with_reducible refine w_and ?_)
  | (with_reducible refine w_or ?_)
  | (with_reducible refine w_not ?_)
  | (with_reducible refine w_andV ?_)
  | (with_reducible refine w_orV ?_)
  | (with_reducible refine w_notV ?_)
  | (with_reducible refine w_bl ?_)
  | (with_reducible refine w_if ?_)
  | (with_reducible refine w_nil ?_)
  | (with_reducible refine w_cons ?_)
  | (with_reducible refine w_cb ?_)
  | (with_reducible refine w_call ?_)
  | (with_reducible refine w_tup ?_)
  | (with_reducible refine w_lst ?_)
  | ((with_reducible refine' w_fin ?hz ?_); (case hz => (simp only [List.length_cons, List.length_nil]; decide)))
  | ((with_reducible refine' w_len ?s ?_); (case s => walk_at "t_sq"))
  | ((with_reducible refine' w_lenT ?s ?_); (case s => walk_at "t_sqt"))
  | (with_reducible refine w_intI ?_)
  | (with_reducible refine w_intB ?_)
  | ((with_reducible refine' w_list ?s ?_); (case s => walk_at "t_sq"))
  | (with_reducible refine w_max ?_)
  | (with_reducible refine w_min ?_)
  | (with_reducible refine w_abs ?_)
  | (with_reducible refine w_sl ?_)
  | (with_reducible refine w_noPart ?_)
  | (with_reducible refine w_part ?_)
  | (with_reducible refine w_exI ?_)
  | ((with_reducible refine' w_slL ?s ?_); (case s => walk_at "t_sq"))
  | ((with_reducible refine' w_ixLI ?s ?b ?_); (case s => walk_at "t_sq"); (case b => walk_at "t_lt"))
  | ((with_reducible refine' w_ixL ?s ?e ?_); (case s => walk_at "t_sq"); (case e => walk_at "t_at"))
  | ((with_reducible refine' w_ixT ?s ?e ?_); (case s => walk_at "t_sqt"); (case e => walk_at "t_at"))
  | (with_reducible refine w_gSub ?_)
  | ((with_reducible refine' w_setLI ?e ?b ?_); (case e => walk_at "t_hp"); (case b => walk_at "t_lt"))
  | ((with_reducible refine' w_setL ?e ?b ?_); (case e => walk_at "t_hp"); (case b => walk_at "t_ixn"))
  | (with_reducible refine w_bm ?_)
  | (with_reducible refine w_bm0 ?_)
  | ((with_reducible refine' w_tyL ?e ?_); (case e => walk_at "t_sq"))
  | ((with_reducible refine' w_app ?e ?hz ?_); (case e => walk_at "t_hp"); (case hz => walk_at "t_z"))
  | (with_reducible refine w_iteT ?_)
  | (with_reducible refine w_iteF ?_)
  | (with_reducible refine w_iteNT ?_)
  | (with_reducible refine w_iteNF ?_)
  | (with_reducible refine w_for ?_)
  | (with_reducible refine w_iList ?_)
  | ((with_reducible refine' w_exL ?s ?_); (case s => walk_at "t_sq"))
  | (with_reducible refine w_iTup ?_)
  | ((with_reducible refine' w_exT ?s ?_); (case s => walk_at "t_sqt"))
  | (with_reducible refine w_iRng1 ?_)
  | ((with_reducible refine w_exR1 ?b ?_); (case b => walk_at "t_c"))
  | (with_reducible refine w_iRng2 ?_)
  | ((with_reducible refine w_exR2 ?b ?_); (case b => walk_at "t_c"))
  | (with_reducible refine w_yes ?_)
  | ((with_reducible refine w_pos ?p ?_); (case p => walk_at "t_p"))
  | ((with_reducible refine w_neg ?p ?_); (case p => walk_at "t_p"))
  | ((with_reducible refine w_posN ?p ?_); (case p => walk_at "t_p"))
  | ((with_reducible refine w_negN ?p ?_); (case p => walk_at "t_p"))
  | ((with_reducible refine' w_notInL ?s ?_); (case s => walk_at "t_sq"))
  | ((with_reducible refine' w_inL ?s ?_); (case s => walk_at "t_sq"))
  | ((with_reducible refine' w_sum ?s ?_); (case s => walk_at "t_sq"))
  | (with_reducible refine w_isiI ?_)
  | ((with_reducible refine' w_isiL ?e ?_); (case e => walk_at "t_ty"))
  | ((with_reducible refine' w_isiT ?e ?_); (case e => walk_at "t_ty"))
  | (with_reducible intro p hp_new))
local macro_rules | `(tactic| walk_at "t_ty") => `(tactic| first | assumption | (refine' tyx_l ?e; (case e => walk_at "t_hp")) | (refine' tyx_t ?e; (case e => walk_at "t_hp")))
local macro_rules | `(tactic| walk_at "t_z") => `(tactic| first | assumption | decide | omega | (simp only [List.length_cons, List.length_nil, List.length_map, List.length_append, List.length_replicate]; first | done | decide | omega))
local macro_rules | `(tactic| walk_at "t_at") => `(tactic| first | assumption | rfl)
local macro_rules | `(tactic| walk_at "t_ixn") => `(tactic| first | assumption | rfl)
local macro_rules | `(tactic| walk_at "t_ev") => `(tactic| (intro H1 e Q q; (repeat walk_at "t_w"); exact q _ (by walk_at "t_ex")))
local macro_rules | `(tactic| walk_at "t_p") => `(tactic| first | assumption | decide | decide +kernel)
local macro_rules | `(tactic| walk_at "t_lt") => `(tactic| first | assumption | omega | (simp only [List.length_set, List.length_map, List.length_append]; first | assumption | omega))
local macro_rules | `(tactic| walk_at "t_w") => `(tactic| first
  | ((with_reducible refine' w_at ?s ?hl ?h0 ?_); (case s => walk_at "t_sq"); (case hl => walk_at "t_z"); (case h0 => walk_at "t_z"))
  | (with_reducible refine w_isInt ?_)
  | (with_reducible refine w_I1 ?_)
  | (with_reducible refine w_Head ?_)
  | ((with_reducible refine' w_number ?hb ?_); (case hb => walk_at "t_bits")))
local macro_rules | `(tactic| walk_at "t_bits") => `(tactic| assumption)
local macro_rules | `(tactic| walk_at "t_w") => `(tactic| first
  | (with_reducible refine w_tru ?_)
  | ((with_reducible refine' w_truL ?s ?_); (case s => walk_at "t_sq"))
  | (with_reducible refine w_dnew ?_)
  | (with_reducible refine w_disp1 ?_)
  | ((with_reducible refine' w_aug ?e ?_); (case e => rfl))
  | (with_reducible refine w_ipI ?_)
  | ((with_reducible refine' w_inD ?e ?_); (case e => walk_at "t_hp"))
  | ((with_reducible refine' w_notInD ?e ?_); (case e => walk_at "t_hp"))
  | (with_reducible refine w_dget ?_)
  | ((with_reducible refine' w_dgetE ?e ?hv ?_); (case e => walk_at "t_hp"); (case hv => walk_at "t_dv"))
  | (with_reducible refine w_dput ?_)
  | ((with_reducible refine' w_dputE ?e ?hl ?_); (case e => walk_at "t_hp"); (case hl => walk_at "t_z"))
  | ((with_reducible refine' w_extend ?e1 ?e2 ?hz ?_); (case e1 => walk_at "t_hp"); (case e2 => walk_at "t_hp"); (case hz => walk_at "t_z")))
local macro_rules | `(tactic| walk_at "t_dv") => `(tactic| assumption)
local macro_rules | `(tactic| walk_at "t_hp") => `(tactic| first
  | (with_reducible refine hp_off0 ?_; walk_at "t_hp")
  | ((with_reducible refine' hp_off1 ?hne ?hrest); (case hne => walk_at "t_ne"); (case hrest => walk_at "t_hp")))
local macro_rules | `(tactic| walk_at "t_w") => `(tactic| first
  | (with_reducible refine w_fld ?_)
  | ((with_reducible refine' w_fldE ?e ?c ?n ?l ?_); (case e => walk_at "t_hp"); (case c => assumption); (case n => assumption); (case l => rfl))
  | (with_reducible refine w_sfld ?_)
  | ((with_reducible refine' w_sfldE ?e ?c ?n ?l ?_); (case e => walk_at "t_hp"); (case c => assumption); (case n => assumption); (case l => first | decide | (show 1 < 1000; decide) | (show 2 < 1000; decide)))
  | (with_reducible refine w_setSl ?_)
  | (with_reducible refine w_make ?_)
  | ((with_reducible refine' w_gfld0 ?hv ?e ?c ?n ?l ?_); (case hv => rfl); (case e => walk_at "t_hp"); (case c => assumption); (case n => assumption); (case l => first | decide | (show 1 < 1000; decide) | (show 2 < 1000; decide)))
  | (with_reducible refine w_meth ?_)
  | (with_reducible refine w_methX ?_)
  | ((with_reducible refine' w_methE ?e ?l ?_); (case e => walk_at "t_hp"); (case l => rfl))
  | (with_reducible refine w_chain ?_)
  | ((with_reducible refine' w_gTup ?s ?l ?_); (case s => walk_at "t_sqt"); (case l => rfl))
  | (with_reducible refine w_gCons ?_)
  | (with_reducible refine w_gNil ?_)
  | (with_reducible refine w_star ?_)
  | ((with_reducible refine' w_starL ?s ?_); (case s => walk_at "t_sq"))
  | (with_reducible refine w_isiIB ?_)
  | (with_reducible refine w_isiS ?_))
abbrev s_law_begun : Stmt := topS 43
theorem sc_law_begun : FnScope ["_law_script", "_law_doors", "_law_size", "_law_fields"] ["_law_script"] (defScope s_law_begun) := ⟨rfl, rfl, rfl, by decide +kernel, rfl, by decide +kernel, by decide +kernel⟩

/-! ### the beginning -/
theorem w_dispE {σ : L2.St} {H : Hp} {Q : VK} {j : Int} {tv : TE} (h : ∀ p, H p = none → tv σ (upd H p (.dK [])) fun y H2 => H2 p = some (.dK []) ∧ ∃ kvs : List (Key × V), [(V.int j, y)] = kvs.map (fun kv => (kV kv.1, kv.2)) ∧ kvs.length ≤ 15 ∧ Q (.ref p) (upd H2 p (.dK (mergeK [] kvs)))) : tDisp [(tC (.int j), tv)] σ H Q := h
theorem w_dispD {H : Hp} {F : Hp → Prop} {p : Addr} {j : Int} {y : V} (e : H p = some (.dK [])) (h : F (upd H p (.dK [(.inl j, y)]))) : H p = some (.dK []) ∧ ∃ kvs : List (Key × V), [(V.int j, y)] = kvs.map (fun kv => (kV kv.1, kv.2)) ∧ kvs.length ≤ 15 ∧ F (upd H p (.dK (mergeK [] kvs))) :=
  ⟨e, [(.inl j, y)], rfl, (show 1 ≤ 15 by decide), h⟩
theorem all2_rep {α β : Type} {R : α → β → Prop} {a : α} {b : β} (r : R a b) : ∀ n, All2 R (List.replicate n a) (List.replicate n b)
  | 0 => .nil
  | n + 1 => .cons r (all2_rep r n)
theorem w_init' {C x dx : Addr} {H : Hp} {Q : VK} {E : XK} {z d : Nat} (hX : H x = some (.ins C dx [])) (h1 : 1 ≤ z) (h2 : z ≤ 400) (h3 : d ≤ 20) (h4 : d < z)
    (k : ∀ r H2, H r = none → Ex (off [x] H) H2 → RoomAt C H2 x r [List.replicate d (.num 0)] (z - d - 1) → Q .non H2) : spInit C (.ref x :: ([.int (z : Int), .int (d : Int)] ++ [])) H Q E := ⟨x, dx, z, d, rfl, hX, h1, h2, h3, h4, k⟩
def spBegun (K : PySem.W.Frag) (C : Addr) : Sp := fun vs H Q _ => ∃ (a : Addr) (ns : List Int), vs = [.ref a] ∧ SqL K H a (ns.map V.int) ∧ ns.length ≤ 1000 ∧ (∀ z ∈ ns, Builtin.Int.intBits z ≤ 1048576) ∧
  ∀ (x r o d c m st q : Addr) (bs : List (List Thing)) (sp : Nat) (kvs : List (Key × V)) (H2 : Hp), Ex H H2 → H2 q = some (.tup [.ref x, .ref st]) → H2 st = some (.tup (stV o d c m ((cells bs + sp : Nat) : Int))) → Sta K C [x, r, o, d, c, m] H2 x r o d c m bs sp [0] kvs 1 [] → kvs.length ≤ 1 → (∀ a ∈ [x, r, o, d, c, m], H a = none) → Q (.ref q) H2
section
variable {P : Program} {w : World} {K : PySem.W.Frag} {mg : Str → Option Value} {base : Heap} {C cB cR : Addr}
theorem c_law_begun (T : Txt K mg) (R : RmT K mg C cB cR) (D : DefAt K mg "_law_begun" "_law_begun" s_law_begun) (c_law_at : Cal P w K mg base "_law_at" 1 ["_law_script", "_law_place"] (spAt K)) (c_Room___init : CalK P w K mg base C 2 ["self", "size", "doors"] (spInit C)) : Cal P w K mg base "_law_begun" 4 ["_law_script"] (spBegun K C) := by
  refine Cal.of D sc_law_begun (fun vs H Q E h => ?_) (fun _ _ _ _ _ _ us hl => match us, hl with | [_], _ => rfl) (fun f cdv A outer s H vs Q E hr h => ?_)
  · obtain ⟨a, ns, rfl, _⟩ := h; rfl
  · obtain ⟨a, ns, rfl, hS, hlen, hB, k⟩ := h
    have hu : _ + 64 < cLine := hr.units
    refine ⟨_, (pss_cons (ps_set (i := 1) sc_law_begun.nd rfl (Or.inl rfl) (pe_op op_mod (pe_callC c_law_at (hr.mono (by decide)) rfl (pa_cons (pv 0) (pa_cons pe_int pa_nil))) pe_int))
      (pss_cons (ps_set (i := 2) sc_law_begun.nd rfl (Or.inl rfl) (pe_op op_addA (pe_op op_addA pe_int (pv 1)) (pe_op op_mod (pe_op op_mod (pe_op op_mulA (pe_callC c_law_at (hr.mono (by decide)) rfl (pa_cons (pv 0) (pa_cons pe_int pa_nil))) pe_int) pe_int) pe_int)))
      (Evl.pss_cut (ps_if (pt_cmpR (op_eqK (K := K) rfl hu) (pe_op op_mod (pe_op op_fdiv (pe_callC c_law_at (hr.mono (by decide)) rfl (pa_cons (pv 0) (pa_cons pe_int pa_nil))) pe_int) pe_int) pe_int (nomark _)) (pss_one (ps_set (i := 2) sc_law_begun.nd rfl (Or.inl rfl) (pe_op op_sub pe_int (pe_op op_mod (pe_op op_mod (pe_op op_mulA (pe_callC c_law_at (hr.mono (by decide)) rfl (pa_cons (pv 0) (pa_cons pe_int pa_nil))) pe_int) pe_int) pe_int)))) pss_nil)
      (pss_cons (ps_set (i := 3) sc_law_begun.nd rfl (Or.inl rfl) (pe_disp (pps_cons pe_int (pe_op op_mulA (pe_lst (pa_cons (pe_tup (pa_cons pe_str (pa_cons pe_int pa_nil))) pa_nil)) (pv 1)) pps_nil) (by rfl) (by rfl) (fun z => by cases z) (by decide)))
      (pss_one (ps_ret (pe_tup (pa_cons (pe_makeC c_Room___init (hr.mono (by decide)) rfl R.gR passL (pa_cons (pv 2) (pa_cons (pv 1) pa_nil))) (pa_cons (pe_tup (pa_cons (pe_lst (pa_cons pe_int pa_nil)) (pa_cons (pv 3) (pa_cons (pv 2) (pa_cons (pe_lst (pa_cons pe_int pa_nil)) (pa_cons (pe_lst pa_nil) pa_nil)))))) pa_nil))))))))), ?_⟩
    repeat walk_at "t_w"
    obtain ⟨d, ed, hd⟩ := nat_mod (x := ns.getD (Int.toNat 0) 0) (z := 21) (by decide)
    rw [show ns.getD (Int.toNat 0) 0 % 21 = (d : Int) from ed]
    refine Evl.q_cut (M := fun σ' H' => ∃ z : Nat, (d < z ∧ z ≤ 400) ∧ σ' = [some (.ref a), some (.int (d : Int)), some (.int (z : Int)), none] ∧ Ex H H') ?_ ?_
    · repeat walk_at "t_w"
      refine w_ite (fun h3 => ?_) (fun h3 => ?_)
      · repeat walk_at "t_w"
        exact ⟨(400 - ns.getD (Int.toNat 0) 0 * 48271 % 999983 % 370).toNat, by omega, by rw [Int.toNat_of_nonneg (by omega)]; rfl, by walk_at "t_ex"⟩
      · repeat walk_at "t_w"
        exact ⟨(1 + (d : Int) + ns.getD (Int.toNat 0) 0 * 48271 % 999983 % 100).toNat, by omega, by rw [Int.toNat_of_nonneg (by omega)]; rfl, by walk_at "t_ex"⟩
    · rintro σ' H1 ⟨z, ⟨hz1, hz2⟩, rfl, hE1⟩
      repeat walk_at "t_w"
      refine w_dispE fun p hp => ?_
      repeat walk_at "t_w"
      rename_i q1 hq1 q2 hq2 q3 hq3
      obtain ⟨ws, hws⟩ : ∃ ws, ws = List.replicate (Int.toNat (d : Int)) (V.ref q1) := ⟨_, rfl⟩
      rw [← hws]
      have n1p : q1 ≠ p := fun e => by rw [e, upd_same] at hq1; cases hq1
      have n21 : q2 ≠ q1 := fun e => by rw [e, upd_same] at hq2; cases hq2
      have n2p : q2 ≠ p := fun e => by rw [e, upd_ne (Ne.symm n1p), upd_same] at hq2; cases hq2
      have n32 : q3 ≠ q2 := fun e => by rw [e, upd_same] at hq3; cases hq3
      have n31 : q3 ≠ q1 := fun e => by rw [e, upd_ne (Ne.symm n21), upd_same] at hq3; cases hq3
      have n3p : q3 ≠ p := fun e => by rw [e, upd_ne (Ne.symm n2p), upd_ne (Ne.symm n1p), upd_same] at hq3; cases hq3
      refine w_dispD (by rw [upd_ne (Ne.symm n3p), upd_ne (Ne.symm n2p), upd_ne (Ne.symm n1p), upd_same]) ?_
      obtain ⟨G, hG⟩ : ∃ G, G = upd (upd (upd (upd (upd H1 p (.dK [])) q1 (.tup [.str "number", .int 0])) q2 (.lst [.ref q1])) q3 (.lst ws)) p (.dK [(.inl 0, .ref q3)]) := ⟨_, rfl⟩
      have eG : Ex H1 G := by
        rw [hG]
        exact Evl.Ex.mut ((((Evl.Ex.new hp).trans (Evl.Ex.new hq1)).trans (Evl.Ex.new hq2)).trans (Evl.Ex.new (by rw [← hq3]))) hp
      have hGp : G p = some (.dK [(.inl 0, .ref q3)]) := by rw [hG, upd_same]
      have hG3 : G q3 = some (.lst ws) := by rw [hG, upd_ne n3p, upd_same]
      have hG1 : G q1 = some (.tup [.str "number", .int 0]) := by rw [hG, upd_ne n1p, upd_ne (Ne.symm n31), upd_ne (Ne.symm n21), upd_same]
      have hp0 : H p = none := fresh_back hE1 hp
      rw [← hG]
      have eHG : Ex H G := hE1.trans eG
      clear hG hq1 hq2 hq3 n21 n2p n32 eG hp hE1
      repeat walk_at "t_w"
      rename_i x dx hx0 hdx0
      intro hne
      refine w_init' (z := z) (d := d) upd_same (by omega) hz2 (by omega) hz1 fun r H2 hr2 e2 Rm => ⟨rfl, ?_⟩
      have hrG : G r = none := none_of (none_of hr2)
      have h3 : ∀ a u, G a = some u → H2 a = some u := fun a u h => e2 _ _ (hp_off (by simpa using ne_of_none h hx0) (by rw [upd_ne (ne_of_none h hx0), upd_ne (ne_of_none h hdx0)]; exact h))
      have eH2 : Ex H H2 := fun a u h => h3 a u (eHG a u h)
      have hxH : H x = none := fresh_back eHG hx0
      have hrH : H r = none := fresh_back eHG hrG
      have k3x : q3 ≠ x := ne_of_none hG3 hx0
      have k3r : q3 ≠ r := ne_of_none hG3 hrG
      have k1x : q1 ≠ x := ne_of_none hG1 hx0
      have k1r : q1 ≠ r := ne_of_none hG1 hrG
      have hp2 := h3 _ _ hGp
      have h32 := h3 _ _ hG3
      have h12 := h3 _ _ hG1
      clear e2 hr2 hdx0 hx0 hne hrG h3 hG3 hG1 hGp eHG
      repeat walk_at "t_w"
      rename_i o ho c hc m hm st hst q hq
      have nco : c ≠ o := fun e => by rw [e, upd_same] at hc; cases hc
      have hc0 : H2 c = none := by rw [upd_ne nco] at hc; exact hc
      have nmc : m ≠ c := fun e => by rw [e, upd_same] at hm; cases hm
      have nmo : m ≠ o := fun e => by rw [e, upd_ne (Ne.symm nco), upd_same] at hm; cases hm
      have hm0 : H2 m = none := by rw [upd_ne nmc, upd_ne nmo] at hm; exact hm
      have e5 : Ex H2 (upd (upd (upd H2 o (.lst [.int 0])) c (.lst [.int 1])) m (.lst [])) := ((Evl.Ex.new ho).trans (Evl.Ex.new hc)).trans (Evl.Ex.new hm)
      have e6 := e5.trans (Evl.Ex.new (o := .tup [.ref o, .ref p, .int (z : Int), .ref c, .ref m]) hst)
      have e7 := e6.trans (Evl.Ex.new (o := .tup [.ref x, .ref st]) hq)
      have nst : ∀ a u, upd (upd (upd H2 o (.lst [.int 0])) c (.lst [.int 1])) m (.lst []) a = some u → (upd (upd (upd (upd (upd H2 o (.lst [.int 0])) c (.lst [.int 1])) m (.lst [])) st (.tup [.ref o, .ref p, .int (z : Int), .ref c, .ref m])) q (.tup [.ref x, .ref st])) a = some u := fun a u h => (Evl.Ex.new hq) _ _ ((Evl.Ex.new hst) _ _ h)
      obtain ⟨F, hF⟩ : ∃ F, F = upd (upd (upd (upd (upd H2 o (.lst [.int 0])) c (.lst [.int 1])) m (.lst [])) st (.tup [.ref o, .ref p, .int (z : Int), .ref c, .ref m])) q (.tup [.ref x, .ref st]) := ⟨_, rfl⟩
      rw [← hF] at e7 nst ⊢
      have nqs : q ≠ st := fun e => by rw [e, upd_same] at hq; cases hq
      have fq : F q = some (.tup [.ref x, .ref st]) := by rw [hF, upd_same]
      have fst' : F st = some (.tup [.ref o, .ref p, .int (z : Int), .ref c, .ref m]) := by rw [hF, upd_ne (Ne.symm nqs), upd_same]
      have fo : F o = some (.lst [.int 0]) := nst _ _ (by rw [upd_ne (Ne.symm nmo), upd_ne (Ne.symm nco), upd_same])
      have fc : F c = some (.lst [.int 1]) := nst _ _ (by rw [upd_ne (Ne.symm nmc), upd_same])
      have fm : F m = some (.lst []) := nst _ _ upd_same
      have ho0 : H o = none := fresh_back eH2 ho
      have hcH : H c = none := fresh_back eH2 hc0
      have hmH : H m = none := fresh_back eH2 hm0
      have hR2 := Rm.row
      have nro : r ≠ o := ne_of_none hR2 ho
      have nrc : r ≠ c := ne_of_none hR2 hc0
      have nrm : r ≠ m := ne_of_none hR2 hm0
      have hcd : cells [List.replicate d (Thing.num 0)] = d + 1 := by rw [cells_cons, List.length_replicate]; show 1 + d + 0 = _; omega
      have hsz : cells [List.replicate d (Thing.num 0)] + (z - d - 1) = z := by omega
      have q3T : q3 ∉ [x, r, o, p, c, m] := by
        simp only [List.mem_cons, List.not_mem_nil, or_false, not_or]
        exact ⟨k3x, k3r, ne_of_none h32 ho, n3p, ne_of_none h32 hc0, ne_of_none h32 hm0⟩
      have q1T : q1 ∉ [x, r, o, p, c, m] := by
        simp only [List.mem_cons, List.not_mem_nil, or_false, not_or]
        exact ⟨k1x, k1r, ne_of_none h12 ho, n1p, ne_of_none h12 hc0, ne_of_none h12 hm0⟩
      refine k x r o p c m st q _ _ [(.inl 0, .ref q3)] F (eH2.trans e7) fq (by rw [hsz]; exact fst') ⟨Rm.ex e7, fo, e7 _ _ hp2, fc, fm, ?_, ⟨rfl, by simp, rfl⟩, fun y hy => ?_, fun j gs hj => ?_, (fun v hv => nomatch hv), fun a h => h⟩ (Nat.le_refl _) ?_
      · simp only [List.nodup_cons, List.mem_cons, List.not_mem_nil, or_false, not_or, List.nodup_nil, and_true, not_false_eq_true]
        exact ⟨⟨nro, nrc, nrm⟩, ⟨Ne.symm nco, Ne.symm nmo⟩, Ne.symm nmc⟩
      · rw [List.mem_singleton.mp hy]; decide
      · cases j with
        | succ j => cases hj
        | zero =>
          cases hj
          refine ⟨.ref q3, rfl, q3, ws, rfl, hp_off q3T (e7 _ _ h32), ?_⟩
          rw [hws, Int.toNat_natCast]
          exact all2_rep ⟨q1, rfl, hp_off q1T (e7 _ _ h12)⟩ d
      · intro a ha
        simp only [List.mem_cons, List.not_mem_nil, or_false] at ha
        rcases ha with e | e | e | e | e | e
        · rw [e]; exact hxH
        · rw [e]; exact hrH
        · rw [e]; exact ho0
        · rw [e]; exact hp0
        · rw [e]; exact hcH
        · rw [e]; exact hmH
end
end Tw

set_option Elab.async false
set_option linter.all false
set_option maxRecDepth 100000
set_option maxHeartbeats 4000000
namespace Tw
open PySem PySem.Spec PyProof.Rows L2
open Evl (Ex ex_l ex_t fresh_back sz_of sz_lt)
local macro_rules | `(tactic| walk_at "t_hp") => `(tactic| first
  | assumption
  | exact upd_same
  | (refine' hp_ne ?hne ?hrest; (case hne => walk_at "t_ne"); (case hrest => walk_at "t_hp"))
  | (refine' hp_ex ?hx ?hrest; (case hx => assumption); (case hrest => walk_at "t_hp")))
local macro_rules | `(tactic| walk_at "t_ne") => `(tactic| first
  | assumption
  | exact Ne.symm (by assumption)
  | (refine' ne_of_none ?h1 ?h2; (case h2 => assumption); (case h1 => walk_at "t_hp"))
  | (refine' Ne.symm (ne_of_none ?h1 ?h2); (case h2 => assumption); (case h1 => walk_at "t_hp")))
local macro_rules | `(tactic| walk_at "t_none") => `(tactic| first
  | assumption
  | (refine' fresh_back ?e ?n; (case n => assumption); (case e => walk_at "t_ex")))
local macro_rules | `(tactic| walk_at "t_ex") => `(tactic| first
  | assumption
  | exact Evl.Ex.refl _
  | (refine' ex_new ?n ?e; (case n => assumption); (case e => walk_at "t_ex"))
  | (refine' Evl.Ex.mut ?e ?n; (case n => walk_at "t_none"); (case e => walk_at "t_ex"))
  | (refine' Evl.Ex.trans ?a ?b; (case b => assumption); (case a => walk_at "t_ex")))
local macro_rules | `(tactic| walk_at "t_sq") => `(tactic| first
  | assumption
  | (refine' SqL.of ?h; (case h => walk_at "t_hp"))
  | (refine' ex_l ?e ?s; (case s => assumption); (case e => walk_at "t_ex")))
local macro_rules | `(tactic| walk_at "t_sqt") => `(tactic| first
  | assumption
  | (refine' SqT.of ?h; (case h => walk_at "t_hp"))
  | (refine' ex_t ?e ?s; (case s => assumption); (case e => walk_at "t_ex")))
local macro_rules | `(tactic| walk_at "t_mul") => `(tactic| first
  | assumption
  | exact Or.inl (Or.inl ⟨by decide, by decide⟩)
  | exact Or.inl (Or.inr ⟨by decide, by decide⟩)
  | exact Or.inl (Or.inl ⟨by omega, by omega⟩)
  | exact Or.inl (Or.inr ⟨by omega, by omega⟩))
local macro_rules | `(tactic| walk_at "t_c") => `(tactic| first
  | assumption
  | decide
  | (show (0 : Int) < _; decide)
  | (show (0 : Int) < _; omega)
  | exact ⟨by decide, by decide⟩
  | exact ⟨by decide, by decide, by decide⟩
  | exact ⟨by omega, by omega⟩
  | exact ⟨by omega, by omega, by omega, by omega⟩)
local macro_rules | `(tactic| walk_at "t_w") => `(tactic| first
  | (with_reducible refine w_seq ?_)
  | (with_reducible refine w_asg ?_)
  | (with_reducible refine w_gName ?_)
  | (with_reducible refine w_nx ?_)
  | (with_reducible refine w_rt ?_)
  | (with_reducible refine w_ct ?_)
  | (with_reducible refine w_bk ?_)
  | (with_reducible refine w_ret ?_)
  | (with_reducible refine w_retN ?_)
  | (with_reducible refine w_drop ?_)
  | (with_reducible refine w_ifS ?_)
  | (with_reducible refine w_next ?_)
  | (with_reducible refine w_break ?_)
  | (with_reducible refine w_cont ?_)
  | ((with_reducible refine' w_var ?h ?_); (case h => rfl))
  | (with_reducible refine w_c ?_)
  | (with_reducible refine w_op ?_)
  | (with_reducible refine w_un ?_)
  | (with_reducible refine w_I0 ?_)
  | ((with_reducible refine' w_I ?c ?_); (case c => walk_at "t_c"))
  | (with_reducible refine w_U ?_)
  | (with_reducible refine w_addI ?_)
  | ((with_reducible refine' w_addL ?h1 ?h2 ?hz ?_); (case h1 => walk_at "t_hp"); (case h2 => walk_at "t_hp"); (case hz => walk_at "t_z"))
  | ((with_reducible refine' w_mulI ?c ?_); (case c => walk_at "t_mul"))
  | ((with_reducible refine' w_mulL1 ?h1 ?b1 ?b2 ?_); (case h1 => walk_at "t_hp"); (case b1 => walk_at "t_z"); (case b2 => walk_at "t_z"))
  | ((with_reducible refine' w_mulL ?h1 ?b1 ?b2 ?hz ?_); (case h1 => walk_at "t_hp"); (case b1 => walk_at "t_z"); (case b2 => walk_at "t_z"); (case hz => walk_at "t_z"))
  | (with_reducible refine w_notIB ?_)
  | (with_reducible refine w_notBB ?_)
  | (with_reducible refine w_notN ?_)
  | (with_reducible refine w_isBB ?_)
  | (with_reducible refine w_isN ?_)
  | (with_reducible refine w_eqI ?_)
  | (with_reducible refine w_neI ?_)
  | (with_reducible refine w_eqB ?_)
  | (with_reducible refine w_neB ?_)
  | (with_reducible refine w_eqS ?_)
  | (with_reducible refine w_neS ?_)
  | (with_reducible refine w_test ?_)
  | (with_reducible refine w_B ?_)
  | (with_reducible refine w_exB ?_)
  | (with_reducible refine w_and ?_)
  | (with_reducible refine w_or ?_)
  | (with_reducible refine w_not ?_)
  | (with_reducible refine w_andV ?_)
  | (with_reducible refine w_orV ?_)
  | (with_reducible refine w_notV ?_)
  | (with_reducible refine w_bl ?_)
  | (with_reducible refine w_if ?_)
  | (with_reducible refine w_nil ?_)
  | (with_reducible refine w_cons ?_)
  | (with_reducible refine w_cb ?_)
  | (with_reducible refine w_call ?_)
  | (with_reducible refine w_tup ?_)
  | (with_reducible refine w_lst ?_)
  | ((with_reducible refine' w_fin ?hz ?_); (case hz => (simp only [List.length_cons, List.length_nil]; decide)))
  | ((with_reducible refine' w_len ?s ?_); (case s => walk_at "t_sq"))
  | ((with_reducible refine' w_lenT ?s ?_); (case s => walk_at "t_sqt"))
  | (with_reducible refine w_intI ?_)
  | (with_reducible refine w_intB ?_)
  | ((with_reducible refine' w_list ?s ?_); (case s => walk_at "t_sq"))
  | (with_reducible refine w_max ?_)
  | (with_reducible refine w_min ?_)
  | (with_reducible refine w_abs ?_)
  | (with_reducible refine w_sl ?_)
  | (with_reducible refine w_noPart ?_)
  | (with_reducible refine w_part ?_)
  | (with_reducible refine w_exI ?_)
  | ((with_reducible refine' w_slL ?s ?_); (case s => walk_at "t_sq"))
  | ((with_reducible refine' w_ixLI ?s ?b ?_); (case s => walk_at "t_sq"); (case b => walk_at "t_lt"))
  | ((with_reducible refine' w_ixL ?s ?e ?_); (case s => walk_at "t_sq"); (case e => walk_at "t_at"))
  | ((with_reducible refine' w_ixT ?s ?e ?_); (case s => walk_at "t_sqt"); (case e => walk_at "t_at"))
  | (with_reducible refine w_gSub ?_)
  | ((with_reducible refine' w_setLI ?e ?b ?_); (case e => walk_at "t_hp"); (case b => walk_at "t_lt"))
  | ((with_reducible refine' w_setL ?e ?b ?_); (case e => walk_at "t_hp"); (case b => walk_at "t_ixn"))
  | (with_reducible refine w_bm ?_)
  | (with_reducible refine w_bm0 ?_)
  | ((with_reducible refine' w_tyL ?e ?_); (case e => walk_at "t_sq"))
  | ((with_reducible refine' w_app ?e ?hz ?_); (case e => walk_at "t_hp"); (case hz => walk_at "t_z"))
  | (with_reducible refine w_iteT ?_)
  | (with_reducible refine w_iteF ?_)
  | (with_reducible refine w_iteNT ?_)
  | (with_reducible refine w_iteNF ?_)
  | (with_reducible refine w_for ?_)
  | (with_reducible refine w_iList ?_)
  | ((with_reducible refine' w_exL ?s ?_); (case s => walk_at "t_sq"))
  | (with_reducible refine w_iTup ?_)
  | ((with_reducible refine' w_exT ?s ?_); (case s => walk_at "t_sqt"))
  | (with_reducible refine w_iRng1 ?_)
  | ((with_reducible refine w_exR1 ?b ?_); (case b => walk_at "t_c"))
  | (with_reducible refine w_iRng2 ?_)
  | ((with_reducible refine w_exR2 ?b ?_); (case b => walk_at "t_c"))
  | (with_reducible refine w_yes ?_)
  | ((with_reducible refine w_pos ?p ?_); (case p => walk_at "t_p"))
  | ((with_reducible refine w_neg ?p ?_); (case p => walk_at "t_p"))
  | ((with_reducible refine w_posN ?p ?_); (case p => walk_at "t_p"))
  | ((with_reducible refine w_negN ?p ?_); (case p => walk_at "t_p"))
  | ((with_reducible refine' w_notInL ?s ?_); (case s => walk_at "t_sq"))
  | ((with_reducible refine' w_inL ?s ?_); (case s => walk_at "t_sq"))
  | ((with_reducible refine' w_sum ?s ?_); (case s => walk_at "t_sq"))
  | (with_reducible refine w_isiI ?_)
  | ((with_reducible refine' w_isiL ?e ?_); (case e => walk_at "t_ty"))
  | ((with_reducible refine' w_isiT ?e ?_); (case e => walk_at "t_ty"))
  | (with_reducible intro p hp_new))
local macro_rules | `(tactic| walk_at "t_ty") => `(tactic| first | assumption | (refine' tyx_l ?e; (case e => walk_at "t_hp")) | (refine' tyx_t ?e; (case e => walk_at "t_hp")))
local macro_rules | `(tactic| walk_at "t_z") => `(tactic| first | assumption | decide | omega | (simp only [List.length_cons, List.length_nil, List.length_map, List.length_append, List.length_replicate]; first | done | decide | omega))
local macro_rules | `(tactic| walk_at "t_at") => `(tactic| first | assumption | rfl)
local macro_rules | `(tactic| walk_at "t_ixn") => `(tactic| first | assumption | rfl)
local macro_rules | `(tactic| walk_at "t_ev") => `(tactic| (intro H1 e Q q; (repeat walk_at "t_w"); exact q _ (by walk_at "t_ex")))
local macro_rules | `(tactic| walk_at "t_p") => `(tactic| first | assumption | decide | decide +kernel)
local macro_rules | `(tactic| walk_at "t_lt") => `(tactic| first | assumption | omega | (simp only [List.length_set, List.length_map, List.length_append]; first | assumption | omega))
local macro_rules | `(tactic| walk_at "t_w") => `(tactic| first
  | ((with_reducible refine' w_at ?s ?hl ?h0 ?_); (case s => walk_at "t_sq"); (case hl => walk_at "t_z"); (case h0 => walk_at "t_z"))
  | (with_reducible refine w_isInt ?_)
  | (with_reducible refine w_I1 ?_)
  | (with_reducible refine w_Head ?_)
  | ((with_reducible refine' w_number ?hb ?_); (case hb => walk_at "t_bits")))
local macro_rules | `(tactic| walk_at "t_bits") => `(tactic| assumption)
local macro_rules | `(tactic| walk_at "t_w") => `(tactic| first
  | (with_reducible refine w_tru ?_)
  | ((with_reducible refine' w_truL ?s ?_); (case s => walk_at "t_sq"))
  | (with_reducible refine w_dnew ?_)
  | (with_reducible refine w_disp1 ?_)
  | ((with_reducible refine' w_aug ?e ?_); (case e => rfl))
  | (with_reducible refine w_ipI ?_)
  | ((with_reducible refine' w_inD ?e ?_); (case e => walk_at "t_hp"))
  | ((with_reducible refine' w_notInD ?e ?_); (case e => walk_at "t_hp"))
  | (with_reducible refine w_dget ?_)
  | ((with_reducible refine' w_dgetE ?e ?hv ?_); (case e => walk_at "t_hp"); (case hv => walk_at "t_dv"))
  | (with_reducible refine w_dput ?_)
  | ((with_reducible refine' w_dputE ?e ?hl ?_); (case e => walk_at "t_hp"); (case hl => walk_at "t_z"))
  | ((with_reducible refine' w_extend ?e1 ?e2 ?hz ?_); (case e1 => walk_at "t_hp"); (case e2 => walk_at "t_hp"); (case hz => walk_at "t_z")))
local macro_rules | `(tactic| walk_at "t_dv") => `(tactic| assumption)
local macro_rules | `(tactic| walk_at "t_hp") => `(tactic| first
  | (with_reducible refine hp_off0 ?_; walk_at "t_hp")
  | ((with_reducible refine' hp_off1 ?hne ?hrest); (case hne => walk_at "t_ne"); (case hrest => walk_at "t_hp")))
local macro_rules | `(tactic| walk_at "t_w") => `(tactic| first
  | (with_reducible refine w_fld ?_)
  | ((with_reducible refine' w_fldE ?e ?c ?n ?l ?_); (case e => walk_at "t_hp"); (case c => assumption); (case n => assumption); (case l => rfl))
  | (with_reducible refine w_sfld ?_)
  | ((with_reducible refine' w_sfldE ?e ?c ?n ?l ?_); (case e => walk_at "t_hp"); (case c => assumption); (case n => assumption); (case l => first | decide | (show 1 < 1000; decide) | (show 2 < 1000; decide)))
  | (with_reducible refine w_setSl ?_)
  | (with_reducible refine w_make ?_)
  | ((with_reducible refine' w_gfld0 ?hv ?e ?c ?n ?l ?_); (case hv => rfl); (case e => walk_at "t_hp"); (case c => assumption); (case n => assumption); (case l => first | decide | (show 1 < 1000; decide) | (show 2 < 1000; decide)))
  | (with_reducible refine w_meth ?_)
  | (with_reducible refine w_methX ?_)
  | ((with_reducible refine' w_methE ?e ?l ?_); (case e => walk_at "t_hp"); (case l => rfl))
  | (with_reducible refine w_chain ?_)
  | ((with_reducible refine' w_gTup ?s ?l ?_); (case s => walk_at "t_sqt"); (case l => rfl))
  | (with_reducible refine w_gCons ?_)
  | (with_reducible refine w_gNil ?_)
  | (with_reducible refine w_star ?_)
  | ((with_reducible refine' w_starL ?s ?_); (case s => walk_at "t_sq"))
  | (with_reducible refine w_isiIB ?_)
  | (with_reducible refine w_isiS ?_))
abbrev s_law : Stmt := topS 44
theorem sc_law : FnScope ["_law_script", "_law_begun_here", "_law_room", "_law_state", "_law_k", "_law_cell", "_law_seed"] ["_law_script"] (defScope s_law) := ⟨rfl, rfl, rfl, by decide +kernel, rfl, by decide +kernel, by decide +kernel⟩

/-! ### what stands while the law goes on: H the heap at the beginning, j how many deeds -/
def LIa (K : PySem.W.Frag) (C : Addr) (H H' : Hp) (x o d c m st : Addr) (z j : Nat) (r : Addr) (bs : List (List Thing)) (sp : Nat) (os : List Int) (kvs : List (Key × V)) (fr : Int) (rem : List V) : Prop :=
  Ex H H' ∧ (∀ a ∈ [x, r, o, d, c, m], H a = none) ∧ H' st = some (.tup (stV o d c m (z : Int))) ∧ cells bs + sp = z ∧ Sta K C [x, r, o, d, c, m] H' x r o d c m bs sp os kvs fr rem ∧ kvs.length ≤ j ∧ rem.length ≤ 6 * j
def LI (K : PySem.W.Frag) (C : Addr) (H H' : Hp) (x o d c m st : Addr) (z j : Nat) : Prop := ∃ r bs sp os kvs fr rem, LIa K C H H' x o d c m st z j r bs sp os kvs fr rem
theorem LI.mono {K : PySem.W.Frag} {C : Addr} {H H' : Hp} {x o d c m st : Addr} {z i j : Nat} (h : i ≤ j) : LI K C H H' x o d c m st z i → LI K C H H' x o d c m st z j := fun ⟨r, bs, sp, os, kvs, fr, rem, a, b, c', d', e, f, g⟩ => ⟨r, bs, sp, os, kvs, fr, rem, a, b, c', d', e, by omega, by omega⟩
theorem LI.ex {K : PySem.W.Frag} {C : Addr} {H H' H2 : Hp} {x o d c m st : Addr} {z j : Nat} (e : Ex H' H2) : LI K C H H' x o d c m st z j → LI K C H H2 x o d c m st z j := fun ⟨r, bs, sp, os, kvs, fr, rem, a, b, c', d', S, f, g⟩ =>
  ⟨r, bs, sp, os, kvs, fr, rem, a.trans e, b, e _ _ c', d', S.ex e fun a ha => let ⟨u, h, _⟩ := S.six a ha; ⟨u, h⟩, f, g⟩
theorem Sta.notin {K : PySem.W.Frag} {C : Addr} {T : List Addr} {H : Hp} {x r o d c m st : Addr} {bs : List (List Thing)} {sp : Nat} {os : List Int} {kvs : List (Key × V)} {fr : Int} {rem ts : List V} (s : Sta K C T H x r o d c m bs sp os kvs fr rem) (h : H st = some (.tup ts)) : st ∉ [x, r, o, d, c, m] := fun ha => by
  obtain ⟨u, hu, hn⟩ := s.six st ha
  rw [h] at hu
  exact hn _ (Option.some.inj hu).symm
theorem ex_offT' {H H' H2 : Hp} {S : List Addr} (x : Ex H H') (n : ∀ a ∈ S, H a = none) (y : Ex (off S H') H2) : Ex H H2 := fun a o e => y a o (by
  rw [off_out (fun z => by rw [n a z] at e; cases e)]
  exact x a o e)
section
variable {K : PySem.W.Frag} {C : Addr} {H H' : Hp} {Q : VK} {E : XK} {x o d c m st : Addr} {z j : Nat}
theorem li_made {cl sd : Int} (I : LI K C H H' x o d c m st z j) (hj : j ≤ 200) (h0 : 0 ≤ sd) (h1 : sd < 1000000) (k : ∀ H2, LI K C H H2 x o d c m st z (j + 1) → Q (.bl true) H2) : spMadeN K C ([.ref x, .ref st, .int cl, .int sd] ++ []) H' Q E := by
  obtain ⟨r, bs, sp, os, kvs, fr, rem, e, n, hst, hz, S, hk, hr⟩ := I
  refine w_madeN (by rw [hz]; exact hst) S h0 h1 (by omega) (by omega) fun bs2 sp2 os2 kvs2 fr2 rem2 H2 e2 S2 h2 h3 h4 => k H2 ⟨r, bs2, sp2, os2, kvs2, fr2, rem2, ex_offT' e n e2, n, e2 _ _ (hp_off (S.notin hst) hst), by omega, S2, by omega, by omega⟩
theorem li_put {sd : Int} (I : LI K C H H' x o d c m st z j) (hj : j ≤ 200) (h0 : 0 ≤ sd) (h1 : sd < 1000000) (k : ∀ H2, LI K C H H2 x o d c m st z (j + 1) → Q (.bl true) H2) : spPutN K C ([.ref x, .ref st, .int sd] ++ []) H' Q E := by
  obtain ⟨r, bs, sp, os, kvs, fr, rem, e, n, hst, hz, S, hk, hr⟩ := I
  have hs : ∀ a ∈ [x, r, d], a ∈ [x, r, o, d, c, m] := fun a ha => by
    simp only [List.mem_cons, List.not_mem_nil, or_false] at ha
    rcases ha with q | q | q <;> (rw [q]; simp)
  refine w_putN (by rw [hz]; exact hst) S h0 h1 (by omega) fun bs2 kvs2 H2 e2 S2 h2 h3 => k H2 ⟨r, bs2, sp, os, kvs2, fr, rem, ex_offT' e (fun a ha => n a (hs a ha)) e2, n, e2 _ _ (hp_off (fun q => S.notin hst (hs _ q)) hst), by omega, S2, by omega, by omega⟩
theorem li_stands (I : LI K C H H' x o d c m st z j) (hj : j ≤ 200) (k : ∀ H2, LI K C H H2 x o d c m st z (j + 1) → Q (.bl true) H2) : spStands K C ([.ref x, .ref st] ++ []) H' Q E := by
  obtain ⟨r, bs, sp, os, kvs, fr, rem, e, n, hst, hz, S, hk, hr⟩ := I
  have hs : ∀ a ∈ [m], a ∈ [x, r, o, d, c, m] := fun a ha => by rw [List.mem_singleton.mp ha]; simp
  refine w_stands (by rw [hz]; exact hst) S (by omega) fun rem2 H2 e2 S2 h2 => k H2 ⟨r, bs, sp, os, kvs, fr, rem2, ex_offT' e (fun a ha => n a (hs a ha)) e2, n, e2 _ _ (hp_off (fun q => S.notin hst (hs _ q)) hst), hz, S2, by omega, by omega⟩
end
theorem w_begun {K : PySem.W.Frag} {C : Addr} {H : Hp} {Q : VK} {E : XK} {a : Addr} {ns : List Int} (s : SqL K H a (ns.map V.int)) (hl : ns.length ≤ 1000) (hB : ∀ z ∈ ns, Builtin.Int.intBits z ≤ 1048576)
    (k : ∀ (x r o d c m st q : Addr) (bs : List (List Thing)) (sp : Nat) (kvs : List (Key × V)) (H2 : Hp), Ex H H2 → H2 q = some (.tup [.ref x, .ref st]) → H2 st = some (.tup (stV o d c m ((cells bs + sp : Nat) : Int))) → Sta K C [x, r, o, d, c, m] H2 x r o d c m bs sp [0] kvs 1 [] → kvs.length ≤ 1 → (∀ a ∈ [x, r, o, d, c, m], H a = none) → Q (.ref q) H2) : spBegun K C ([.ref a] ++ []) H Q E := ⟨a, ns, rfl, s, hl, hB, k⟩
theorem ex_offT {H H' H2 : Hp} {S : List Addr} (x : Ex H H') (n : ∀ a ∈ S, H a = none) (y : Ex (off S H') H2) : Ex H H2 := fun a o e => y a o (by
  rw [off_out (fun z => by rw [n a z] at e; cases e)]
  exact x a o e)
theorem in1 {x a b c : Int} : inV (V.int x) [V.int a, V.int b, V.int c] = inV (V.int x) [V.int a, V.int b, V.int c] := rfl
structure Ds (K : PySem.W.Frag) (mg : Str → Option Value) (C : Addr) : Prop where
  number_word : DefAt K mg "number_word" "number_word" s_number_word
  link_word : DefAt K mg "link_word" "link_word" s_link_word
  head_word : DefAt K mg "head_word" "head_word" s_head_word
  is_link : DefAt K mg "is_link" "is_link" s_is_link
  told_by : DefAt K mg "told_by" "told_by" s_told_by
  fields_of : DefAt K mg "fields_of" "fields_of" s_fields_of
  heads : DefAt K mg "heads" "heads" s_heads
  field_words : DefAt K mg "field_words" "field_words" s_field_words
  reached : DefAt K mg "reached" "reached" s_reached
  is_whole : DefAt K mg "is_whole" "is_whole" s_is_whole
  is_thing : DefAt K mg "is_thing" "is_thing" s_is_thing
  words_of : DefAt K mg "words_of" "words_of" s_words_of
  thing_of : DefAt K mg "thing_of" "thing_of" s_thing_of
  Room___init : DefK K C "Room.__init__" s_Room___init
  Room_made : DefM K C "made" "Room.made" s_Room_made
  Room_put : DefM K C "put" "Room.put" s_Room_put
  Room_told : DefM K C "told" "Room.told" s_Room_told
  Room_places : DefM K C "places" "Room.places" s_Room_places
  Room_come_to : DefM K C "come_to" "Room.come_to" s_Room_come_to
  Room_used : DefM K C "used" "Room.used" s_Room_used
  Room_cells : DefM K C "cells" "Room.cells" s_Room_cells
  Room__require_box : DefM K C "_require_box" "Room._require_box" s_Room__require_box
  law_at : DefAt K mg "_law_at" "_law_at" s_law_at
  law_is_int : DefAt K mg "_law_is_int" "_law_is_int" s_law_is_int
  law_words_are : DefAt K mg "_law_words_are" "_law_words_are" s_law_words_are
  law_number : DefAt K mg "_law_number" "_law_number" s_law_number
  law_places_of : DefAt K mg "_law_places_of" "_law_places_of" s_law_places_of
  law_cells_of : DefAt K mg "_law_cells_of" "_law_cells_of" s_law_cells_of
  law_thing : DefAt K mg "_law_thing" "_law_thing" s_law_thing
  law_handed : DefAt K mg "_law_handed" "_law_handed" s_law_handed
  law_come_to : DefAt K mg "_law_come_to" "_law_come_to" s_law_come_to
  law_many : DefAt K mg "_law_many" "_law_many" s_law_many
  law_made : DefAt K mg "_law_made" "_law_made" s_law_made
  law_put : DefAt K mg "_law_put" "_law_put" s_law_put
  law_told : DefAt K mg "_law_told" "_law_told" s_law_told
  law_stands : DefAt K mg "_law_stands" "_law_stands" s_law_stands
  law_begun : DefAt K mg "_law_begun" "_law_begun" s_law_begun

section
variable {P : Program} {w : World} {K : PySem.W.Frag} {mg : Str → Option Value} {base : Heap} {C cB cR : Addr}
theorem ok_law {f : Addr} {fd : FuncData} (F : Fun K "law" "law" s_law f fd) (T : Txt K mg) (R : RmT K mg C cB cR) (X : Ds K mg C) : FnOk P w K mg base CX0 12 f fd ["_law_script"] (spLaw K) := by
  have c_fields_of := c_fields_of (P := P) (w := w) (base := base) T X.fields_of
  have c_is_link := c_is_link (P := P) (w := w) (base := base) T X.is_link
  have c_told_by := c_told_by (P := P) (w := w) (base := base) T X.told_by
  have c_link_word := c_link_word (P := P) (w := w) (base := base) T X.link_word
  have c_number_word := c_number_word (P := P) (w := w) (base := base) T X.number_word
  have c_head_word := c_head_word (P := P) (w := w) (base := base) T X.head_word
  have c_heads := c_heads (P := P) (w := w) (base := base) T X.heads c_fields_of
  have c_field_words := c_field_words (P := P) (w := w) (base := base) T X.field_words c_fields_of
  have c_reached := c_reached (P := P) (w := w) (base := base) T X.reached c_heads c_field_words c_is_link c_told_by
  have c_is_whole := c_is_whole (P := P) (w := w) (base := base) T X.is_whole
  have c_is_thing := c_is_thing (P := P) (w := w) (base := base) T X.is_thing c_is_whole
  have c_words_of := c_words_of (P := P) (w := w) (base := base) T R X.words_of c_is_thing c_link_word c_number_word
  have c_thing_of := c_thing_of (P := P) (w := w) (base := base) T X.thing_of c_is_link c_told_by
  have c_Room___init := c_Room___init (P := P) (w := w) (base := base) T R X.Room___init c_is_whole c_head_word
  have c_Room_places := c_Room_places (P := P) (w := w) (base := base) T R X.Room_places c_heads
  have c_Room_come_to := c_Room_come_to (P := P) (w := w) (base := base) T R X.Room_come_to c_reached
  have c_Room_used := c_Room_used (P := P) (w := w) (base := base) T R X.Room_used
  have c_Room_cells := c_Room_cells (P := P) (w := w) (base := base) T R X.Room_cells
  have c_Room__require_box := c_Room__require_box (P := P) (w := w) (base := base) T R X.Room__require_box c_is_whole c_Room_places
  have c_Room_told := c_Room_told (P := P) (w := w) (base := base) T R X.Room_told c_field_words c_thing_of c_Room__require_box
  have c_Room_made := c_Room_made (P := P) (w := w) (base := base) T R X.Room_made c_words_of c_head_word c_Room_places
  have c_Room_put := c_Room_put (P := P) (w := w) (base := base) T R X.Room_put c_fields_of c_is_whole c_words_of c_Room_places c_Room__require_box
  have c_law_at := c_law_at (P := P) (w := w) (base := base) T X.law_at
  have c_law_is_int := c_law_is_int (P := P) (w := w) (base := base) T X.law_is_int
  have c_law_words_are := c_law_words_are (P := P) (w := w) (base := base) T X.law_words_are c_law_is_int
  have c_law_number := c_law_number (P := P) (w := w) (base := base) T X.law_number
  have c_law_places_of := c_law_places_of (P := P) (w := w) (base := base) T X.law_places_of
  have c_law_thing := c_law_thing (P := P) (w := w) (base := base) T X.law_thing c_law_number
  have c_law_handed := c_law_handed (P := P) (w := w) (base := base) T X.law_handed
  have c_law_come_to := c_law_come_to (P := P) (w := w) (base := base) T X.law_come_to
  have c_law_many := c_law_many (P := P) (w := w) (base := base) T X.law_many
  have c_law_cells_of := c_law_cells_of (P := P) (w := w) (base := base) T X.law_cells_of c_law_places_of
  have c_law_told := c_law_told (P := P) (w := w) (base := base) T R X.law_told c_law_is_int c_law_places_of c_law_handed c_Room_told
  have c_law_stands := c_law_stands (P := P) (w := w) (base := base) T R X.law_stands c_law_words_are c_law_places_of c_law_cells_of c_law_come_to c_law_told c_Room_told c_Room_used c_Room_cells c_Room_places c_Room_come_to
  have c_law_put := c_law_put (P := P) (w := w) (base := base) T R X.law_put c_law_words_are c_law_places_of c_law_thing c_law_handed c_law_come_to c_Room_put c_Room_come_to
  have c_law_made := c_law_made (P := P) (w := w) (base := base) T R X.law_made c_law_many c_law_is_int c_law_places_of c_law_thing c_law_handed c_Room_made
  have c_law_begun := c_law_begun (P := P) (w := w) (base := base) T R X.law_begun c_law_at c_Room___init
  refine F.ok sc_law (fun vs H Q E h => ?_) (fun cdv A outer s H vs Q E hr h => ?_)
  · obtain ⟨a, ns, rfl, _⟩ := h; rfl
  · obtain ⟨a, ns, rfl, hS, hlen, hB, k⟩ := h
    have hu : _ + 64 < cLine := hr.units
    refine ⟨_, (pss_cons (ps_set (i := 1) sc_law.nd rfl (Or.inl rfl) (pe_callC c_law_begun (hr.mono (by decide)) rfl (pa_cons (pv 0) pa_nil)))
      (pss_cons (ps_set (i := 2) sc_law.nd rfl (Or.inl rfl) (pe_ix (ix_seqK (K := K) rfl) (pv 1) pe_int (fun _ _ => rfl)))
      (pss_cons (ps_set (i := 3) sc_law.nd rfl (Or.inl rfl) (pe_ix (ix_seqK (K := K) rfl) (pv 1) pe_int (fun _ _ => rfl)))
      (pss_cons (ps_if (pt_not (pt_val (pe_callC c_law_stands (hr.mono (by decide)) rfl (pa_cons (pv 2) (pa_cons (pv 3) pa_nil))))) (pss_one (ps_ret pe_bl)) pss_nil)
      (pss_cons (ps_for (PassesOwn.never) rfl (pi_range2 rfl T.b_range (pa_cons pe_int (pa_cons (pe_callB (call_minA rfl) (by rfl) T.b_min (by decide +kernel) (pa_cons pe_int (pa_cons (pe_callB (call_lenK (K := K) rfl) (by rfl) T.b_len (by decide +kernel) (pa_cons (pv 0) pa_nil)) pa_nil))) pa_nil))) (pg_name (i := 4) sc_law.nd rfl (Or.inl rfl)) (pss_cons (ps_set (i := 5) sc_law.nd rfl (Or.inl rfl) (pe_ix (ix_seqK (K := K) rfl) (pv 0) (pv 4) (fun _ _ => rfl)))
      (pss_cons (ps_set (i := 6) sc_law.nd rfl (Or.inl rfl) (pe_op op_mod (pe_op op_addA (pe_op op_mulA (pv 5) pe_int) (pe_op op_mulA pe_int (pv 4))) pe_int))
      (Evl.pss_cut (ps_if (PW.pt (pw_and (pt_cmpR (op_inK (K := K) rfl) (pe_op op_mod (pv 5) pe_int) (pe_tup (pa_cons pe_int (pa_cons pe_int (pa_cons pe_int pa_nil)))) (by rfl)) (pw_and1 (pt_not (pt_val (pe_callC c_law_made (hr.mono (by decide)) rfl (pa_cons (pv 2) (pa_cons (pv 3) (pa_cons (pv 5) (pa_cons (pv 6) pa_nil)))))))))) (pss_one (ps_ret pe_bl)) pss_nil)
      (Evl.pss_cut (ps_if (PW.pt (pw_and (pt_cmpR (op_inK (K := K) rfl) (pe_op op_mod (pv 5) pe_int) (pe_tup (pa_cons pe_int (pa_cons pe_int (pa_cons pe_int (pa_cons pe_int pa_nil))))) (by rfl)) (pw_and1 (pt_not (pt_val (pe_callC c_law_put (hr.mono (by decide)) rfl (pa_cons (pv 2) (pa_cons (pv 3) (pa_cons (pv 6) pa_nil))))))))) (pss_one (ps_ret pe_bl)) pss_nil)
      (pss_one (ps_if (PW.pt (pw_and (pt_cmpR (op_eqK (K := K) rfl hu) (pe_op op_mod (pv 4) pe_int) pe_int (nomark _)) (pw_and1 (pt_not (pt_val (pe_callC c_law_stands (hr.mono (by decide)) rfl (pa_cons (pv 2) (pa_cons (pv 3) pa_nil)))))))) (pss_one (ps_ret pe_bl)) pss_nil)))))))
      (pss_one (ps_ret (pe_callC c_law_stands (hr.mono (by decide)) rfl (pa_cons (pv 2) (pa_cons (pv 3) pa_nil)))))))))), ?_⟩
    repeat walk_at "t_w"
    refine w_begun hS (by omega) hB fun x r o d c m st q bs0 sp0 kvs0 H1 e1 hq1 hst1 S0 hk0 hnone => ?_
    have hzz : ∃ z, cells bs0 + sp0 = z := ⟨_, rfl⟩
    obtain ⟨z, hz⟩ := hzz
    rw [hz] at hst1
    have I0 : LI K C H H1 x o d c m st z 1 := ⟨r, bs0, sp0, [0], kvs0, 1, [], e1, hnone, hst1, hz, S0, hk0, Nat.zero_le _⟩
    have hS1 : SqL K H1 a (ns.map V.int) := ex_l e1 hS
    clear S0 hst1 hnone e1
    repeat walk_at "t_w"
    refine li_stands I0 (by omega) fun H2 I1 => ?_
    have hS2 : SqL K H2 a (ns.map V.int) := ex_l (by obtain ⟨_, _, _, _, _, _, _, e, _⟩ := id I1; exact e) hS
    clear hq1 hS1 I0
    repeat walk_at "t_w"
    refine loopR (fun t σ' H' => ∃ (y4 y5 y6 : Option V), σ' = [some (.ref a), some (.ref q), some (.ref x), some (.ref st), y4, y5, y6] ∧ LI K C H H' x o d c m st z (2 + 3 * t)) ?_ ?_ ?_
    · exact ⟨none, none, none, rfl, I1.ex (by walk_at "t_ex")⟩
    · rintro t σ' H' ht ⟨y4, y5, y6, rfl, I⟩
      have hE : Ex H H' := by obtain ⟨_, _, _, _, _, _, _, e, _⟩ := id I; exact e
      have hS' : SqL K H' a (ns.map V.int) := ex_l hE hS
      have ht2 : t < 30 ∧ 1 + t < ns.length := by
        have h1 : t < ((if ((ns.map V.int).length : Int) < 31 then ((ns.map V.int).length : Int) else 31) - 1).toNat := ht
        rw [List.length_map] at h1
        split at h1 <;> omega
      have hat : atI (ns.map V.int) (1 + (t : Int)) = some (.int (ns.getD (1 + t) 0)) := by
        rw [show (1 + (t : Int)) = ((1 + t : Nat) : Int) by omega]
        exact at_mapD ht2.2
      have hbt := at_bits hB (1 + t)
      generalize ns.getD (1 + t) 0 = v at hat hbt
      have hb0 : 0 ≤ (v * 48271 + 7919 * (1 + (t : Int))) % 999983 ∧ (v * 48271 + 7919 * (1 + (t : Int))) % 999983 < 1000000 := by omega
      repeat walk_at "t_w"
      refine Evl.q_cut (M := fun σ2 H2 => σ2 = [some (.ref a), some (.ref q), some (.ref x), some (.ref st), some (.int (1 + (t : Int))), some (.int v), some (.int ((v * 48271 + 7919 * (1 + (t : Int))) % 999983))] ∧ LI K C H H2 x o d c m st z (2 + 3 * t + 1)) ?_ ?_
      · repeat walk_at "t_w"
        rename_i tq htq
        refine w_inTup (SqT.of upd_same) rfl rfl ?_
        rw [if_neg (by decide)]
        generalize inV (V.int (v % 8)) [V.int 0, V.int 1, V.int 7] = b
        cases b
        · repeat walk_at "t_w"
          exact ⟨rfl, (I.mono (by omega)).ex (by walk_at "t_ex")⟩
        · repeat walk_at "t_w"
          refine li_made (I.ex (Evl.Ex.new htq)) (by omega) hb0.1 hb0.2 fun H2 I2 => ?_
          repeat walk_at "t_w"
          exact ⟨rfl, I2⟩
      · rintro σ2 H2 ⟨rfl, I2⟩
        refine Evl.q_cut (M := fun σ2 H2 => σ2 = [some (.ref a), some (.ref q), some (.ref x), some (.ref st), some (.int (1 + (t : Int))), some (.int v), some (.int ((v * 48271 + 7919 * (1 + (t : Int))) % 999983))] ∧ LI K C H H2 x o d c m st z (2 + 3 * t + 1 + 1)) ?_ ?_
        · repeat walk_at "t_w"
          rename_i tq htq
          refine w_inTup (SqT.of upd_same) rfl rfl ?_
          rw [if_neg (by decide)]
          generalize inV (V.int (v % 8)) [V.int 2, V.int 3, V.int 4, V.int 5] = b
          cases b
          · repeat walk_at "t_w"
            exact ⟨rfl, (I2.mono (by omega)).ex (by walk_at "t_ex")⟩
          · repeat walk_at "t_w"
            refine li_put (I2.ex (Evl.Ex.new htq)) (by omega) hb0.1 hb0.2 fun H3 I3 => ?_
            repeat walk_at "t_w"
            exact ⟨rfl, I3⟩
        · rintro σ3 H3 ⟨rfl, I3⟩
          repeat walk_at "t_w"
          refine w_ite (fun h => ?_) (fun h => ?_)
          · repeat walk_at "t_w"
            refine li_stands I3 (by omega) fun H4 I4 => ?_
            repeat walk_at "t_w"
            exact ⟨_, _, _, rfl, I4.mono (by omega)⟩
          · repeat walk_at "t_w"
            exact ⟨_, _, _, rfl, (I3.mono (by omega)).ex (by walk_at "t_ex")⟩
    · rintro σ' H' ⟨y4, y5, y6, rfl, I⟩
      have ht2 : ((if ((ns.map V.int).length : Int) < 31 then ((ns.map V.int).length : Int) else 31) - 1).toNat ≤ 30 := by
        split <;> omega
      have I' := I.mono (j := 100) (by omega)
      clear I
      repeat walk_at "t_w"
      refine li_stands I' (by omega) fun H2 I2 => ?_
      exact k _
end
theorem all_mk {l : PySem.W.OpenLaw} {w : World} {K : PySem.W.Frag} {h : Heap} {mg : Str → Option Value} {fa f0 f1 f2 f3 f4 f5 f6 f7 f8 f9 f10 f11 f12 f13 f14 f15 f16 f17 f18 f19 f20 f21 f22 f23 f24 f25 f26 f27 f28 f29 f30 f31 f32 f33 f34 f35 f36 f37 C cB cR : Addr} (X : K.In h) (G : h.Ns mainGlobals mg) (hfa : mg "law" = some (.ref fa))
    {od0 an0 od1 an1 od2 an2 od3 an3 od4 an4 od5 an5 od6 an6 od7 an7 od8 an8 od9 an9 od10 an10 od11 an11 od12 an12 od13 an13 od14 an14 od15 an15 od16 an16 od17 an17 od18 an18 od19 an19 od20 an20 od21 an21 od22 an22 od23 an23 od24 an24 od25 an25 od26 an26 od27 an27 od28 an28 od29 an29 od30 an30 od31 an31 od32 an32 od33 an33 od34 an34 od35 an35 od36 an36 od37 an37 : Option Addr} {sl0 sl1 sl2 sl3 sl4 sl5 sl6 sl7 sl8 sl9 sl10 sl11 sl12 sl13 sl14 sl15 sl16 sl17 sl18 sl19 sl20 sl21 sl22 sl23 sl24 sl25 sl26 sl27 sl28 sl29 sl30 sl31 sl32 sl33 sl34 sl35 sl36 sl37 : Array (Option Value)} {oc0 kV0 dc0 pm0 cd0 ct0 oc1 kV1 dc1 pm1 cd1 ct1 oc2 kV2 dc2 pm2 cd2 ct2 oc3 kV3 dc3 pm3 cd3 ct3 oc4 kV4 dc4 pm4 cd4 ct4 oc5 kV5 dc5 pm5 cd5 ct5 oc6 kV6 dc6 pm6 cd6 ct6 oc7 kV7 dc7 pm7 cd7 ct7 oc8 kV8 dc8 pm8 cd8 ct8 oc9 kV9 dc9 pm9 cd9 ct9 oc10 kV10 dc10 pm10 cd10 ct10 oc11 kV11 dc11 pm11 cd11 ct11 oc12 kV12 dc12 pm12 cd12 ct12 oc13 kV13 dc13 pm13 cd13 ct13 oc14 kV14 dc14 pm14 cd14 ct14 oc15 kV15 dc15 pm15 cd15 ct15 oc16 kV16 dc16 pm16 cd16 ct16 oc17 kV17 dc17 pm17 cd17 ct17 oc18 kV18 dc18 pm18 cd18 ct18 oc19 kV19 dc19 pm19 cd19 ct19 oc20 kV20 dc20 pm20 cd20 ct20 oc21 kV21 dc21 pm21 cd21 ct21 oc22 kV22 dc22 pm22 cd22 ct22 oc23 kV23 dc23 pm23 cd23 ct23 oc24 kV24 dc24 pm24 cd24 ct24 oc25 kV25 dc25 pm25 cd25 ct25 oc26 kV26 dc26 pm26 cd26 ct26 oc27 kV27 dc27 pm27 cd27 ct27 oc28 kV28 dc28 pm28 cd28 ct28 oc29 kV29 dc29 pm29 cd29 ct29 oc30 kV30 dc30 pm30 cd30 ct30 oc31 kV31 dc31 pm31 cd31 ct31 oc32 kV32 dc32 pm32 cd32 ct32 oc33 kV33 dc33 pm33 cd33 ct33 oc34 kV34 dc34 pm34 cd34 ct34 oc35 kV35 dc35 pm35 cd35 ct35 oc36 kV36 dc36 pm36 cd36 ct36 oc37 kV37 dc37 pm37 cd37 ct37 : Value}
    {tk_MOST_CELLS tk_MOST_DOORS tk_TOO_LONG : Tok}
    (aC : PySem.W.nsIn K mainGlobals "Room" = some (some (.ref C)))
    (a0 : PySem.W.nsIn K mainGlobals "number_word" = some (some (.ref f0))) (l0 : K.lookup f0 = some ⟨oc0, od0, .func (PySem.W.fnOf "number_word" "number_word" (defArgs s_number_word) (defBody s_number_word) (defScope s_number_word) .none kV0 dc0 pm0 an0 cd0 ct0), sl0⟩) (c0 : PySem.W.codeIn K cd0 "number_word" = true) (k0 : PySem.W.keepIn K (.ref f0) = true)
    (a1 : PySem.W.nsIn K mainGlobals "link_word" = some (some (.ref f1))) (l1 : K.lookup f1 = some ⟨oc1, od1, .func (PySem.W.fnOf "link_word" "link_word" (defArgs s_link_word) (defBody s_link_word) (defScope s_link_word) .none kV1 dc1 pm1 an1 cd1 ct1), sl1⟩) (c1 : PySem.W.codeIn K cd1 "link_word" = true) (k1 : PySem.W.keepIn K (.ref f1) = true)
    (a2 : PySem.W.nsIn K mainGlobals "head_word" = some (some (.ref f2))) (l2 : K.lookup f2 = some ⟨oc2, od2, .func (PySem.W.fnOf "head_word" "head_word" (defArgs s_head_word) (defBody s_head_word) (defScope s_head_word) .none kV2 dc2 pm2 an2 cd2 ct2), sl2⟩) (c2 : PySem.W.codeIn K cd2 "head_word" = true) (k2 : PySem.W.keepIn K (.ref f2) = true)
    (a3 : PySem.W.nsIn K mainGlobals "is_link" = some (some (.ref f3))) (l3 : K.lookup f3 = some ⟨oc3, od3, .func (PySem.W.fnOf "is_link" "is_link" (defArgs s_is_link) (defBody s_is_link) (defScope s_is_link) .none kV3 dc3 pm3 an3 cd3 ct3), sl3⟩) (c3 : PySem.W.codeIn K cd3 "is_link" = true) (k3 : PySem.W.keepIn K (.ref f3) = true)
    (a4 : PySem.W.nsIn K mainGlobals "told_by" = some (some (.ref f4))) (l4 : K.lookup f4 = some ⟨oc4, od4, .func (PySem.W.fnOf "told_by" "told_by" (defArgs s_told_by) (defBody s_told_by) (defScope s_told_by) .none kV4 dc4 pm4 an4 cd4 ct4), sl4⟩) (c4 : PySem.W.codeIn K cd4 "told_by" = true) (k4 : PySem.W.keepIn K (.ref f4) = true)
    (a5 : PySem.W.nsIn K mainGlobals "fields_of" = some (some (.ref f5))) (l5 : K.lookup f5 = some ⟨oc5, od5, .func (PySem.W.fnOf "fields_of" "fields_of" (defArgs s_fields_of) (defBody s_fields_of) (defScope s_fields_of) .none kV5 dc5 pm5 an5 cd5 ct5), sl5⟩) (c5 : PySem.W.codeIn K cd5 "fields_of" = true) (k5 : PySem.W.keepIn K (.ref f5) = true)
    (a6 : PySem.W.nsIn K mainGlobals "heads" = some (some (.ref f6))) (l6 : K.lookup f6 = some ⟨oc6, od6, .func (PySem.W.fnOf "heads" "heads" (defArgs s_heads) (defBody s_heads) (defScope s_heads) .none kV6 dc6 pm6 an6 cd6 ct6), sl6⟩) (c6 : PySem.W.codeIn K cd6 "heads" = true) (k6 : PySem.W.keepIn K (.ref f6) = true)
    (a7 : PySem.W.nsIn K mainGlobals "field_words" = some (some (.ref f7))) (l7 : K.lookup f7 = some ⟨oc7, od7, .func (PySem.W.fnOf "field_words" "field_words" (defArgs s_field_words) (defBody s_field_words) (defScope s_field_words) .none kV7 dc7 pm7 an7 cd7 ct7), sl7⟩) (c7 : PySem.W.codeIn K cd7 "field_words" = true) (k7 : PySem.W.keepIn K (.ref f7) = true)
    (a8 : PySem.W.nsIn K mainGlobals "reached" = some (some (.ref f8))) (l8 : K.lookup f8 = some ⟨oc8, od8, .func (PySem.W.fnOf "reached" "reached" (defArgs s_reached) (defBody s_reached) (defScope s_reached) .none kV8 dc8 pm8 an8 cd8 ct8), sl8⟩) (c8 : PySem.W.codeIn K cd8 "reached" = true) (k8 : PySem.W.keepIn K (.ref f8) = true)
    (a9 : PySem.W.nsIn K mainGlobals "is_whole" = some (some (.ref f9))) (l9 : K.lookup f9 = some ⟨oc9, od9, .func (PySem.W.fnOf "is_whole" "is_whole" (defArgs s_is_whole) (defBody s_is_whole) (defScope s_is_whole) .none kV9 dc9 pm9 an9 cd9 ct9), sl9⟩) (c9 : PySem.W.codeIn K cd9 "is_whole" = true) (k9 : PySem.W.keepIn K (.ref f9) = true)
    (a10 : PySem.W.nsIn K mainGlobals "is_thing" = some (some (.ref f10))) (l10 : K.lookup f10 = some ⟨oc10, od10, .func (PySem.W.fnOf "is_thing" "is_thing" (defArgs s_is_thing) (defBody s_is_thing) (defScope s_is_thing) .none kV10 dc10 pm10 an10 cd10 ct10), sl10⟩) (c10 : PySem.W.codeIn K cd10 "is_thing" = true) (k10 : PySem.W.keepIn K (.ref f10) = true)
    (a11 : PySem.W.nsIn K mainGlobals "words_of" = some (some (.ref f11))) (l11 : K.lookup f11 = some ⟨oc11, od11, .func (PySem.W.fnOf "words_of" "words_of" (defArgs s_words_of) (defBody s_words_of) (defScope s_words_of) .none kV11 dc11 pm11 an11 cd11 ct11), sl11⟩) (c11 : PySem.W.codeIn K cd11 "words_of" = true) (k11 : PySem.W.keepIn K (.ref f11) = true)
    (a12 : PySem.W.nsIn K mainGlobals "thing_of" = some (some (.ref f12))) (l12 : K.lookup f12 = some ⟨oc12, od12, .func (PySem.W.fnOf "thing_of" "thing_of" (defArgs s_thing_of) (defBody s_thing_of) (defScope s_thing_of) .none kV12 dc12 pm12 an12 cd12 ct12), sl12⟩) (c12 : PySem.W.codeIn K cd12 "thing_of" = true) (k12 : PySem.W.keepIn K (.ref f12) = true)
    (a13 : PySem.W.findIn K (.ref C) "__init__" = some (some (.ref f13))) (i13 : PySem.W.isFn K (.ref f13) = true) (l13 : K.lookup f13 = some ⟨oc13, od13, .func (PySem.W.fnOf "__init__" "Room.__init__" (defArgs s_Room___init) (defBody s_Room___init) (defScope s_Room___init) .none kV13 dc13 pm13 an13 cd13 ct13), sl13⟩) (c13 : PySem.W.codeIn K cd13 "Room.__init__" = true) (k13 : PySem.W.keepIn K (.ref f13) = true)
    (a14 : PySem.W.findIn K (.ref C) "made" = some (some (.ref f14))) (i14 : PySem.W.isFn K (.ref f14) = true) (l14 : K.lookup f14 = some ⟨oc14, od14, .func (PySem.W.fnOf "made" "Room.made" (defArgs s_Room_made) (defBody s_Room_made) (defScope s_Room_made) .none kV14 dc14 pm14 an14 cd14 ct14), sl14⟩) (c14 : PySem.W.codeIn K cd14 "Room.made" = true) (k14 : PySem.W.keepIn K (.ref f14) = true)
    (a15 : PySem.W.findIn K (.ref C) "put" = some (some (.ref f15))) (i15 : PySem.W.isFn K (.ref f15) = true) (l15 : K.lookup f15 = some ⟨oc15, od15, .func (PySem.W.fnOf "put" "Room.put" (defArgs s_Room_put) (defBody s_Room_put) (defScope s_Room_put) .none kV15 dc15 pm15 an15 cd15 ct15), sl15⟩) (c15 : PySem.W.codeIn K cd15 "Room.put" = true) (k15 : PySem.W.keepIn K (.ref f15) = true)
    (a16 : PySem.W.findIn K (.ref C) "told" = some (some (.ref f16))) (i16 : PySem.W.isFn K (.ref f16) = true) (l16 : K.lookup f16 = some ⟨oc16, od16, .func (PySem.W.fnOf "told" "Room.told" (defArgs s_Room_told) (defBody s_Room_told) (defScope s_Room_told) .none kV16 dc16 pm16 an16 cd16 ct16), sl16⟩) (c16 : PySem.W.codeIn K cd16 "Room.told" = true) (k16 : PySem.W.keepIn K (.ref f16) = true)
    (a17 : PySem.W.findIn K (.ref C) "places" = some (some (.ref f17))) (i17 : PySem.W.isFn K (.ref f17) = true) (l17 : K.lookup f17 = some ⟨oc17, od17, .func (PySem.W.fnOf "places" "Room.places" (defArgs s_Room_places) (defBody s_Room_places) (defScope s_Room_places) .none kV17 dc17 pm17 an17 cd17 ct17), sl17⟩) (c17 : PySem.W.codeIn K cd17 "Room.places" = true) (k17 : PySem.W.keepIn K (.ref f17) = true)
    (a18 : PySem.W.findIn K (.ref C) "come_to" = some (some (.ref f18))) (i18 : PySem.W.isFn K (.ref f18) = true) (l18 : K.lookup f18 = some ⟨oc18, od18, .func (PySem.W.fnOf "come_to" "Room.come_to" (defArgs s_Room_come_to) (defBody s_Room_come_to) (defScope s_Room_come_to) .none kV18 dc18 pm18 an18 cd18 ct18), sl18⟩) (c18 : PySem.W.codeIn K cd18 "Room.come_to" = true) (k18 : PySem.W.keepIn K (.ref f18) = true)
    (a19 : PySem.W.findIn K (.ref C) "used" = some (some (.ref f19))) (i19 : PySem.W.isFn K (.ref f19) = true) (l19 : K.lookup f19 = some ⟨oc19, od19, .func (PySem.W.fnOf "used" "Room.used" (defArgs s_Room_used) (defBody s_Room_used) (defScope s_Room_used) .none kV19 dc19 pm19 an19 cd19 ct19), sl19⟩) (c19 : PySem.W.codeIn K cd19 "Room.used" = true) (k19 : PySem.W.keepIn K (.ref f19) = true)
    (a20 : PySem.W.findIn K (.ref C) "cells" = some (some (.ref f20))) (i20 : PySem.W.isFn K (.ref f20) = true) (l20 : K.lookup f20 = some ⟨oc20, od20, .func (PySem.W.fnOf "cells" "Room.cells" (defArgs s_Room_cells) (defBody s_Room_cells) (defScope s_Room_cells) .none kV20 dc20 pm20 an20 cd20 ct20), sl20⟩) (c20 : PySem.W.codeIn K cd20 "Room.cells" = true) (k20 : PySem.W.keepIn K (.ref f20) = true)
    (a21 : PySem.W.findIn K (.ref C) "_require_box" = some (some (.ref f21))) (i21 : PySem.W.isFn K (.ref f21) = true) (l21 : K.lookup f21 = some ⟨oc21, od21, .func (PySem.W.fnOf "_require_box" "Room._require_box" (defArgs s_Room__require_box) (defBody s_Room__require_box) (defScope s_Room__require_box) .none kV21 dc21 pm21 an21 cd21 ct21), sl21⟩) (c21 : PySem.W.codeIn K cd21 "Room._require_box" = true) (k21 : PySem.W.keepIn K (.ref f21) = true)
    (a22 : PySem.W.nsIn K mainGlobals "_law_at" = some (some (.ref f22))) (l22 : K.lookup f22 = some ⟨oc22, od22, .func (PySem.W.fnOf "_law_at" "_law_at" (defArgs s_law_at) (defBody s_law_at) (defScope s_law_at) .none kV22 dc22 pm22 an22 cd22 ct22), sl22⟩) (c22 : PySem.W.codeIn K cd22 "_law_at" = true) (k22 : PySem.W.keepIn K (.ref f22) = true)
    (a23 : PySem.W.nsIn K mainGlobals "_law_is_int" = some (some (.ref f23))) (l23 : K.lookup f23 = some ⟨oc23, od23, .func (PySem.W.fnOf "_law_is_int" "_law_is_int" (defArgs s_law_is_int) (defBody s_law_is_int) (defScope s_law_is_int) .none kV23 dc23 pm23 an23 cd23 ct23), sl23⟩) (c23 : PySem.W.codeIn K cd23 "_law_is_int" = true) (k23 : PySem.W.keepIn K (.ref f23) = true)
    (a24 : PySem.W.nsIn K mainGlobals "_law_words_are" = some (some (.ref f24))) (l24 : K.lookup f24 = some ⟨oc24, od24, .func (PySem.W.fnOf "_law_words_are" "_law_words_are" (defArgs s_law_words_are) (defBody s_law_words_are) (defScope s_law_words_are) .none kV24 dc24 pm24 an24 cd24 ct24), sl24⟩) (c24 : PySem.W.codeIn K cd24 "_law_words_are" = true) (k24 : PySem.W.keepIn K (.ref f24) = true)
    (a25 : PySem.W.nsIn K mainGlobals "_law_number" = some (some (.ref f25))) (l25 : K.lookup f25 = some ⟨oc25, od25, .func (PySem.W.fnOf "_law_number" "_law_number" (defArgs s_law_number) (defBody s_law_number) (defScope s_law_number) .none kV25 dc25 pm25 an25 cd25 ct25), sl25⟩) (c25 : PySem.W.codeIn K cd25 "_law_number" = true) (k25 : PySem.W.keepIn K (.ref f25) = true)
    (a26 : PySem.W.nsIn K mainGlobals "_law_places_of" = some (some (.ref f26))) (l26 : K.lookup f26 = some ⟨oc26, od26, .func (PySem.W.fnOf "_law_places_of" "_law_places_of" (defArgs s_law_places_of) (defBody s_law_places_of) (defScope s_law_places_of) .none kV26 dc26 pm26 an26 cd26 ct26), sl26⟩) (c26 : PySem.W.codeIn K cd26 "_law_places_of" = true) (k26 : PySem.W.keepIn K (.ref f26) = true)
    (a27 : PySem.W.nsIn K mainGlobals "_law_cells_of" = some (some (.ref f27))) (l27 : K.lookup f27 = some ⟨oc27, od27, .func (PySem.W.fnOf "_law_cells_of" "_law_cells_of" (defArgs s_law_cells_of) (defBody s_law_cells_of) (defScope s_law_cells_of) .none kV27 dc27 pm27 an27 cd27 ct27), sl27⟩) (c27 : PySem.W.codeIn K cd27 "_law_cells_of" = true) (k27 : PySem.W.keepIn K (.ref f27) = true)
    (a28 : PySem.W.nsIn K mainGlobals "_law_thing" = some (some (.ref f28))) (l28 : K.lookup f28 = some ⟨oc28, od28, .func (PySem.W.fnOf "_law_thing" "_law_thing" (defArgs s_law_thing) (defBody s_law_thing) (defScope s_law_thing) .none kV28 dc28 pm28 an28 cd28 ct28), sl28⟩) (c28 : PySem.W.codeIn K cd28 "_law_thing" = true) (k28 : PySem.W.keepIn K (.ref f28) = true)
    (a29 : PySem.W.nsIn K mainGlobals "_law_handed" = some (some (.ref f29))) (l29 : K.lookup f29 = some ⟨oc29, od29, .func (PySem.W.fnOf "_law_handed" "_law_handed" (defArgs s_law_handed) (defBody s_law_handed) (defScope s_law_handed) .none kV29 dc29 pm29 an29 cd29 ct29), sl29⟩) (c29 : PySem.W.codeIn K cd29 "_law_handed" = true) (k29 : PySem.W.keepIn K (.ref f29) = true)
    (a30 : PySem.W.nsIn K mainGlobals "_law_come_to" = some (some (.ref f30))) (l30 : K.lookup f30 = some ⟨oc30, od30, .func (PySem.W.fnOf "_law_come_to" "_law_come_to" (defArgs s_law_come_to) (defBody s_law_come_to) (defScope s_law_come_to) .none kV30 dc30 pm30 an30 cd30 ct30), sl30⟩) (c30 : PySem.W.codeIn K cd30 "_law_come_to" = true) (k30 : PySem.W.keepIn K (.ref f30) = true)
    (a31 : PySem.W.nsIn K mainGlobals "_law_many" = some (some (.ref f31))) (l31 : K.lookup f31 = some ⟨oc31, od31, .func (PySem.W.fnOf "_law_many" "_law_many" (defArgs s_law_many) (defBody s_law_many) (defScope s_law_many) .none kV31 dc31 pm31 an31 cd31 ct31), sl31⟩) (c31 : PySem.W.codeIn K cd31 "_law_many" = true) (k31 : PySem.W.keepIn K (.ref f31) = true)
    (a32 : PySem.W.nsIn K mainGlobals "_law_made" = some (some (.ref f32))) (l32 : K.lookup f32 = some ⟨oc32, od32, .func (PySem.W.fnOf "_law_made" "_law_made" (defArgs s_law_made) (defBody s_law_made) (defScope s_law_made) .none kV32 dc32 pm32 an32 cd32 ct32), sl32⟩) (c32 : PySem.W.codeIn K cd32 "_law_made" = true) (k32 : PySem.W.keepIn K (.ref f32) = true)
    (a33 : PySem.W.nsIn K mainGlobals "_law_put" = some (some (.ref f33))) (l33 : K.lookup f33 = some ⟨oc33, od33, .func (PySem.W.fnOf "_law_put" "_law_put" (defArgs s_law_put) (defBody s_law_put) (defScope s_law_put) .none kV33 dc33 pm33 an33 cd33 ct33), sl33⟩) (c33 : PySem.W.codeIn K cd33 "_law_put" = true) (k33 : PySem.W.keepIn K (.ref f33) = true)
    (a34 : PySem.W.nsIn K mainGlobals "_law_told" = some (some (.ref f34))) (l34 : K.lookup f34 = some ⟨oc34, od34, .func (PySem.W.fnOf "_law_told" "_law_told" (defArgs s_law_told) (defBody s_law_told) (defScope s_law_told) .none kV34 dc34 pm34 an34 cd34 ct34), sl34⟩) (c34 : PySem.W.codeIn K cd34 "_law_told" = true) (k34 : PySem.W.keepIn K (.ref f34) = true)
    (a35 : PySem.W.nsIn K mainGlobals "_law_stands" = some (some (.ref f35))) (l35 : K.lookup f35 = some ⟨oc35, od35, .func (PySem.W.fnOf "_law_stands" "_law_stands" (defArgs s_law_stands) (defBody s_law_stands) (defScope s_law_stands) .none kV35 dc35 pm35 an35 cd35 ct35), sl35⟩) (c35 : PySem.W.codeIn K cd35 "_law_stands" = true) (k35 : PySem.W.keepIn K (.ref f35) = true)
    (a36 : PySem.W.nsIn K mainGlobals "_law_begun" = some (some (.ref f36))) (l36 : K.lookup f36 = some ⟨oc36, od36, .func (PySem.W.fnOf "_law_begun" "_law_begun" (defArgs s_law_begun) (defBody s_law_begun) (defScope s_law_begun) .none kV36 dc36 pm36 an36 cd36 ct36), sl36⟩) (c36 : PySem.W.codeIn K cd36 "_law_begun" = true) (k36 : PySem.W.keepIn K (.ref f36) = true)
    (a37 : PySem.W.nsIn K mainGlobals "law" = some (some (.ref f37))) (l37 : K.lookup f37 = some ⟨oc37, od37, .func (PySem.W.fnOf "law" "law" (defArgs s_law) (defBody s_law) (defScope s_law) .none kV37 dc37 pm37 an37 cd37 ct37), sl37⟩) (c37 : PySem.W.codeIn K cd37 "law" = true) (k37 : PySem.W.keepIn K (.ref f37) = true)
    (pg : PySem.W.plainGet K C Str.empty = true) (hd : PySem.W.hasDictIn K C = true) (po : PySem.W.plainOver K C = true) (sa : PySem.W.findIn K (.ref C) "__setattr__" = some (some (.builtin "object.__setattr__"))) (mk : PySem.W.makesIn K C = true) (kc : PySem.W.keepIn K (.ref C) = true)
    (nR : PySem.W.findIn K (.ref C) "_row" = some none) (nU : PySem.W.findIn K (.ref C) "_used" = some none)
    (gcB : PySem.W.nsIn K mainGlobals "NoBox" = some (some (.ref cB))) (xcB : PySem.W.excIn K cB [.type "ValueError", .type "Exception", .type "BaseException", .type "object"] "ValueError.__new__" = true) (kcB : PySem.W.keepIn K (.ref cB) = true)
    (bcB : PySem.W.subIn K (.ref cB) (.type "BaseException") = some true) (tcB : PySem.W.typeIn K (.ref cB) = some (.type "type")) (icB : PySem.W.isClsIn K cB = true) (scB : PySem.W.subIn K (.ref cB) (.ref cB) = some true)
    (gcR : PySem.W.nsIn K mainGlobals "NoRoom" = some (some (.ref cR))) (xcR : PySem.W.excIn K cR [.type "ValueError", .type "Exception", .type "BaseException", .type "object"] "ValueError.__new__" = true) (kcR : PySem.W.keepIn K (.ref cR) = true)
    (bcR : PySem.W.subIn K (.ref cR) (.type "BaseException") = some true) (tcR : PySem.W.typeIn K (.ref cR) = some (.type "type")) (icR : PySem.W.isClsIn K cR = true) (scR : PySem.W.subIn K (.ref cR) (.ref cR) = some true)
    (q_MOST_CELLS : PySem.W.nsIn K mainGlobals "MOST_CELLS" = some (some (.int 400 tk_MOST_CELLS)))
    (q_MOST_DOORS : PySem.W.nsIn K mainGlobals "MOST_DOORS" = some (some (.int 20 tk_MOST_DOORS)))
    (q_TOO_LONG : PySem.W.nsIn K mainGlobals "TOO_LONG" = some (some (.int 1000000000000000000000000000000000000000000000000000000000000 tk_TOO_LONG)))
    (z_bool : PySem.W.nsIn K mainGlobals "bool" = some none) (z_int : PySem.W.nsIn K mainGlobals "int" = some none) (z_isinstance : PySem.W.nsIn K mainGlobals "isinstance" = some none) (z_len : PySem.W.nsIn K mainGlobals "len" = some none) (z_list : PySem.W.nsIn K mainGlobals "list" = some none) (z_min : PySem.W.nsIn K mainGlobals "min" = some none) (z_range : PySem.W.nsIn K mainGlobals "range" = some none) (z_str : PySem.W.nsIn K mainGlobals "str" = some none) (z_sum : PySem.W.nsIn K mainGlobals "sum" = some none) (z_tuple : PySem.W.nsIn K mainGlobals "tuple" = some none) :
    ∃ fd : FuncData, (∀ (s : Shared) (v : Value), BindsTo s fd ⟨[v], []⟩ [("_law_script", v)]) ∧ ∀ base : Heap, K.In base → base.Ns mainGlobals mg → FnOk l.prog w K mg base CX0 12 fa fd ["_law_script"] (spLaw K) := by
  have e := hfa.symm.trans (PySem.W.mg_of X G a37)
  cases e
  have T : Txt K mg := ⟨PySem.W.mg_none_of X G z_bool, PySem.W.mg_none_of X G z_int, PySem.W.mg_none_of X G z_isinstance, PySem.W.mg_none_of X G z_len, PySem.W.mg_none_of X G z_list, PySem.W.mg_none_of X G z_min, PySem.W.mg_none_of X G z_range, PySem.W.mg_none_of X G z_str, PySem.W.mg_none_of X G z_sum, PySem.W.mg_none_of X G z_tuple, ⟨_, PySem.W.mg_of X G q_MOST_CELLS⟩, ⟨_, PySem.W.mg_of X G q_MOST_DOORS⟩, ⟨_, PySem.W.mg_of X G q_TOO_LONG⟩⟩
  have d_number_word : DefAt K mg "number_word" "number_word" s_number_word := ⟨_, _, fun_mk (st := s_number_word) l0 c0 k0, PySem.W.mg_of X G a0⟩
  have d_link_word : DefAt K mg "link_word" "link_word" s_link_word := ⟨_, _, fun_mk (st := s_link_word) l1 c1 k1, PySem.W.mg_of X G a1⟩
  have d_head_word : DefAt K mg "head_word" "head_word" s_head_word := ⟨_, _, fun_mk (st := s_head_word) l2 c2 k2, PySem.W.mg_of X G a2⟩
  have d_is_link : DefAt K mg "is_link" "is_link" s_is_link := ⟨_, _, fun_mk (st := s_is_link) l3 c3 k3, PySem.W.mg_of X G a3⟩
  have d_told_by : DefAt K mg "told_by" "told_by" s_told_by := ⟨_, _, fun_mk (st := s_told_by) l4 c4 k4, PySem.W.mg_of X G a4⟩
  have d_fields_of : DefAt K mg "fields_of" "fields_of" s_fields_of := ⟨_, _, fun_mk (st := s_fields_of) l5 c5 k5, PySem.W.mg_of X G a5⟩
  have d_heads : DefAt K mg "heads" "heads" s_heads := ⟨_, _, fun_mk (st := s_heads) l6 c6 k6, PySem.W.mg_of X G a6⟩
  have d_field_words : DefAt K mg "field_words" "field_words" s_field_words := ⟨_, _, fun_mk (st := s_field_words) l7 c7 k7, PySem.W.mg_of X G a7⟩
  have d_reached : DefAt K mg "reached" "reached" s_reached := ⟨_, _, fun_mk (st := s_reached) l8 c8 k8, PySem.W.mg_of X G a8⟩
  have d_is_whole : DefAt K mg "is_whole" "is_whole" s_is_whole := ⟨_, _, fun_mk (st := s_is_whole) l9 c9 k9, PySem.W.mg_of X G a9⟩
  have d_is_thing : DefAt K mg "is_thing" "is_thing" s_is_thing := ⟨_, _, fun_mk (st := s_is_thing) l10 c10 k10, PySem.W.mg_of X G a10⟩
  have d_words_of : DefAt K mg "words_of" "words_of" s_words_of := ⟨_, _, fun_mk (st := s_words_of) l11 c11 k11, PySem.W.mg_of X G a11⟩
  have d_thing_of : DefAt K mg "thing_of" "thing_of" s_thing_of := ⟨_, _, fun_mk (st := s_thing_of) l12 c12 k12, PySem.W.mg_of X G a12⟩
  have d_Room___init : DefK K C "Room.__init__" s_Room___init := ⟨_, _, fun_mk (st := s_Room___init) l13 c13 k13, ⟨mk, a13, i13, kc⟩⟩
  have d_Room_made : DefM K C "made" "Room.made" s_Room_made := ⟨_, _, fun_mk (st := s_Room_made) l14 c14 k14, ⟨a14, i14, k14⟩⟩
  have d_Room_put : DefM K C "put" "Room.put" s_Room_put := ⟨_, _, fun_mk (st := s_Room_put) l15 c15 k15, ⟨a15, i15, k15⟩⟩
  have d_Room_told : DefM K C "told" "Room.told" s_Room_told := ⟨_, _, fun_mk (st := s_Room_told) l16 c16 k16, ⟨a16, i16, k16⟩⟩
  have d_Room_places : DefM K C "places" "Room.places" s_Room_places := ⟨_, _, fun_mk (st := s_Room_places) l17 c17 k17, ⟨a17, i17, k17⟩⟩
  have d_Room_come_to : DefM K C "come_to" "Room.come_to" s_Room_come_to := ⟨_, _, fun_mk (st := s_Room_come_to) l18 c18 k18, ⟨a18, i18, k18⟩⟩
  have d_Room_used : DefM K C "used" "Room.used" s_Room_used := ⟨_, _, fun_mk (st := s_Room_used) l19 c19 k19, ⟨a19, i19, k19⟩⟩
  have d_Room_cells : DefM K C "cells" "Room.cells" s_Room_cells := ⟨_, _, fun_mk (st := s_Room_cells) l20 c20 k20, ⟨a20, i20, k20⟩⟩
  have d_Room__require_box : DefM K C "_require_box" "Room._require_box" s_Room__require_box := ⟨_, _, fun_mk (st := s_Room__require_box) l21 c21 k21, ⟨a21, i21, k21⟩⟩
  have d_law_at : DefAt K mg "_law_at" "_law_at" s_law_at := ⟨_, _, fun_mk (st := s_law_at) l22 c22 k22, PySem.W.mg_of X G a22⟩
  have d_law_is_int : DefAt K mg "_law_is_int" "_law_is_int" s_law_is_int := ⟨_, _, fun_mk (st := s_law_is_int) l23 c23 k23, PySem.W.mg_of X G a23⟩
  have d_law_words_are : DefAt K mg "_law_words_are" "_law_words_are" s_law_words_are := ⟨_, _, fun_mk (st := s_law_words_are) l24 c24 k24, PySem.W.mg_of X G a24⟩
  have d_law_number : DefAt K mg "_law_number" "_law_number" s_law_number := ⟨_, _, fun_mk (st := s_law_number) l25 c25 k25, PySem.W.mg_of X G a25⟩
  have d_law_places_of : DefAt K mg "_law_places_of" "_law_places_of" s_law_places_of := ⟨_, _, fun_mk (st := s_law_places_of) l26 c26 k26, PySem.W.mg_of X G a26⟩
  have d_law_cells_of : DefAt K mg "_law_cells_of" "_law_cells_of" s_law_cells_of := ⟨_, _, fun_mk (st := s_law_cells_of) l27 c27 k27, PySem.W.mg_of X G a27⟩
  have d_law_thing : DefAt K mg "_law_thing" "_law_thing" s_law_thing := ⟨_, _, fun_mk (st := s_law_thing) l28 c28 k28, PySem.W.mg_of X G a28⟩
  have d_law_handed : DefAt K mg "_law_handed" "_law_handed" s_law_handed := ⟨_, _, fun_mk (st := s_law_handed) l29 c29 k29, PySem.W.mg_of X G a29⟩
  have d_law_come_to : DefAt K mg "_law_come_to" "_law_come_to" s_law_come_to := ⟨_, _, fun_mk (st := s_law_come_to) l30 c30 k30, PySem.W.mg_of X G a30⟩
  have d_law_many : DefAt K mg "_law_many" "_law_many" s_law_many := ⟨_, _, fun_mk (st := s_law_many) l31 c31 k31, PySem.W.mg_of X G a31⟩
  have d_law_made : DefAt K mg "_law_made" "_law_made" s_law_made := ⟨_, _, fun_mk (st := s_law_made) l32 c32 k32, PySem.W.mg_of X G a32⟩
  have d_law_put : DefAt K mg "_law_put" "_law_put" s_law_put := ⟨_, _, fun_mk (st := s_law_put) l33 c33 k33, PySem.W.mg_of X G a33⟩
  have d_law_told : DefAt K mg "_law_told" "_law_told" s_law_told := ⟨_, _, fun_mk (st := s_law_told) l34 c34 k34, PySem.W.mg_of X G a34⟩
  have d_law_stands : DefAt K mg "_law_stands" "_law_stands" s_law_stands := ⟨_, _, fun_mk (st := s_law_stands) l35 c35 k35, PySem.W.mg_of X G a35⟩
  have d_law_begun : DefAt K mg "_law_begun" "_law_begun" s_law_begun := ⟨_, _, fun_mk (st := s_law_begun) l36 c36 k36, PySem.W.mg_of X G a36⟩
  have d_law : DefAt K mg "law" "law" s_law := ⟨_, _, fun_mk (st := s_law) l37 c37 k37, PySem.W.mg_of X G a37⟩
  have R : RmT K mg C cB cR := ⟨⟨pg, hd, po, sa⟩, nR, nU, PySem.W.mg_of X G aC, ⟨PySem.W.mg_of X G gcB, xcB, kcB, bcB, tcB, exm_me bcB icB tcB scB⟩, ⟨PySem.W.mg_of X G gcR, xcR, kcR, bcR, tcR, exm_me bcR icR tcR scR⟩⟩
  refine ⟨PySem.W.fnOf "law" "law" (defArgs s_law) (defBody s_law) (defScope s_law) .none kV37 dc37 pm37 an37 cd37 ct37, fun s v => .of_eq rfl, fun base _ _ => ?_⟩
  exact ok_law (fun_mk (st := s_law) l37 c37 k37) T R ⟨d_number_word, d_link_word, d_head_word, d_is_link, d_told_by, d_fields_of, d_heads, d_field_words, d_reached, d_is_whole, d_is_thing, d_words_of, d_thing_of, d_Room___init, d_Room_made, d_Room_put, d_Room_told, d_Room_places, d_Room_come_to, d_Room_used, d_Room_cells, d_Room__require_box, d_law_at, d_law_is_int, d_law_words_are, d_law_number, d_law_places_of, d_law_cells_of, d_law_thing, d_law_handed, d_law_come_to, d_law_many, d_law_made, d_law_put, d_law_told, d_law_stands, d_law_begun⟩
theorem walk {l : PySem.W.OpenLaw} {q : Program} {loose : List Str} {XP : (Str → Option Value) → Heap → Prop} {YP : World → Heap → Prop} {d : DefRec} {K : Params → PySem.W.Frag} (hn : l.most = some 63) (hdf : d.params.defaults = [])
    (hY : ∀ (w : World) (h : Heap), YP w h → (K w.params).In h)
    (F : ∀ (w : World) (mg : Str → Option Value) (fa : Addr) (h : Heap), (K w.params).In h → h.Ns mainGlobals mg → mg d.name = some (.ref fa) →
      ∃ fd : FuncData, (∀ (s : Shared) (u : Value), BindsTo s fd ⟨[u], []⟩ [("_law_script", u)]) ∧ ∀ base : Heap, (K w.params).In base → base.Ns mainGlobals mg → FnOk l.prog w (K w.params) mg base CX0 12 fa fd ["_law_script"] (spLaw (K w.params))) :
    PySem.W.WalkO q loose XP YP l.row.toRowW d [] (fun f vs => PySem.call f vs) :=
  L2.walk_ofB (n := 63) (k := 12) (x := "_law_script") (CX := fun _ => CX0) (sp := fun w => spLaw (K w.params)) hn (by decide) hdf ⟨rfl, by decide, by decide⟩ hY F (fun _ _ a ns hl hb _ hS => ⟨a, ns, rfl, hS, hl, hb, fun _ => rfl⟩) fun _ _ _ _ _ z => z
end Tw
open PySem PySem.W PyProof.Rows in
set_option maxRecDepth 100000 in
set_option maxHeartbeats 0 in
theorem PySem.Challenge.cw_threadslide_k07_boxes_made_and_told_holds : PySem.Challenge.rw_threadslide_k07_boxes_made_and_told.Holds := by
  w_on; o_law; k_head; (case hw => w_witness2)
  k_fill
  refine Tw.walk (l := PySem.Challenge.rw_threadslide_k07_boxes_made_and_told) rfl rfl (fun w h Y => PySem.W.kIn_of Y) ?F
  case F =>
    intro w mg fa h KX G hmg
    refine' Tw.all_mk KX G hmg ?aC ?a0 ?l0 ?c0 ?k0 ?a1 ?l1 ?c1 ?k1 ?a2 ?l2 ?c2 ?k2 ?a3 ?l3 ?c3 ?k3 ?a4 ?l4 ?c4 ?k4 ?a5 ?l5 ?c5 ?k5 ?a6 ?l6 ?c6 ?k6 ?a7 ?l7 ?c7 ?k7 ?a8 ?l8 ?c8 ?k8 ?a9 ?l9 ?c9 ?k9 ?a10 ?l10 ?c10 ?k10 ?a11 ?l11 ?c11 ?k11 ?a12 ?l12 ?c12 ?k12 ?a13 ?i13 ?l13 ?c13 ?k13 ?a14 ?i14 ?l14 ?c14 ?k14 ?a15 ?i15 ?l15 ?c15 ?k15 ?a16 ?i16 ?l16 ?c16 ?k16 ?a17 ?i17 ?l17 ?c17 ?k17 ?a18 ?i18 ?l18 ?c18 ?k18 ?a19 ?i19 ?l19 ?c19 ?k19 ?a20 ?i20 ?l20 ?c20 ?k20 ?a21 ?i21 ?l21 ?c21 ?k21 ?a22 ?l22 ?c22 ?k22 ?a23 ?l23 ?c23 ?k23 ?a24 ?l24 ?c24 ?k24 ?a25 ?l25 ?c25 ?k25 ?a26 ?l26 ?c26 ?k26 ?a27 ?l27 ?c27 ?k27 ?a28 ?l28 ?c28 ?k28 ?a29 ?l29 ?c29 ?k29 ?a30 ?l30 ?c30 ?k30 ?a31 ?l31 ?c31 ?k31 ?a32 ?l32 ?c32 ?k32 ?a33 ?l33 ?c33 ?k33 ?a34 ?l34 ?c34 ?k34 ?a35 ?l35 ?c35 ?k35 ?a36 ?l36 ?c36 ?k36 ?a37 ?l37 ?c37 ?k37 ?pg ?hd ?po ?sa ?mk ?kc ?nR ?nU ?gcB ?xcB ?kcB ?bcB ?tcB ?icB ?scB ?gcR ?xcR ?kcR ?bcR ?tcR ?icR ?scR ?q_MOST_CELLS ?q_MOST_DOORS ?q_TOO_LONG ?z_bool ?z_int ?z_isinstance ?z_len ?z_list ?z_min ?z_range ?z_str ?z_sum ?z_tuple
    (case aC => k_is)
    (case a0 => k_is)
    (case l0 => k_is)
    (case c0 => k_is)
    (case k0 => k_is)
    (case a1 => k_is)
    (case l1 => k_is)
    (case c1 => k_is)
    (case k1 => k_is)
    (case a2 => k_is)
    (case l2 => k_is)
    (case c2 => k_is)
    (case k2 => k_is)
    (case a3 => k_is)
    (case l3 => k_is)
    (case c3 => k_is)
    (case k3 => k_is)
    (case a4 => k_is)
    (case l4 => k_is)
    (case c4 => k_is)
    (case k4 => k_is)
    (case a5 => k_is)
    (case l5 => k_is)
    (case c5 => k_is)
    (case k5 => k_is)
    (case a6 => k_is)
    (case l6 => k_is)
    (case c6 => k_is)
    (case k6 => k_is)
    (case a7 => k_is)
    (case l7 => k_is)
    (case c7 => k_is)
    (case k7 => k_is)
    (case a8 => k_is)
    (case l8 => k_is)
    (case c8 => k_is)
    (case k8 => k_is)
    (case a9 => k_is)
    (case l9 => k_is)
    (case c9 => k_is)
    (case k9 => k_is)
    (case a10 => k_is)
    (case l10 => k_is)
    (case c10 => k_is)
    (case k10 => k_is)
    (case a11 => k_is)
    (case l11 => k_is)
    (case c11 => k_is)
    (case k11 => k_is)
    (case a12 => k_is)
    (case l12 => k_is)
    (case c12 => k_is)
    (case k12 => k_is)
    (case a13 => k_is)
    (case i13 => k_is)
    (case l13 => k_is)
    (case c13 => k_is)
    (case k13 => k_is)
    (case a14 => k_is)
    (case i14 => k_is)
    (case l14 => k_is)
    (case c14 => k_is)
    (case k14 => k_is)
    (case a15 => k_is)
    (case i15 => k_is)
    (case l15 => k_is)
    (case c15 => k_is)
    (case k15 => k_is)
    (case a16 => k_is)
    (case i16 => k_is)
    (case l16 => k_is)
    (case c16 => k_is)
    (case k16 => k_is)
    (case a17 => k_is)
    (case i17 => k_is)
    (case l17 => k_is)
    (case c17 => k_is)
    (case k17 => k_is)
    (case a18 => k_is)
    (case i18 => k_is)
    (case l18 => k_is)
    (case c18 => k_is)
    (case k18 => k_is)
    (case a19 => k_is)
    (case i19 => k_is)
    (case l19 => k_is)
    (case c19 => k_is)
    (case k19 => k_is)
    (case a20 => k_is)
    (case i20 => k_is)
    (case l20 => k_is)
    (case c20 => k_is)
    (case k20 => k_is)
    (case a21 => k_is)
    (case i21 => k_is)
    (case l21 => k_is)
    (case c21 => k_is)
    (case k21 => k_is)
    (case a22 => k_is)
    (case l22 => k_is)
    (case c22 => k_is)
    (case k22 => k_is)
    (case a23 => k_is)
    (case l23 => k_is)
    (case c23 => k_is)
    (case k23 => k_is)
    (case a24 => k_is)
    (case l24 => k_is)
    (case c24 => k_is)
    (case k24 => k_is)
    (case a25 => k_is)
    (case l25 => k_is)
    (case c25 => k_is)
    (case k25 => k_is)
    (case a26 => k_is)
    (case l26 => k_is)
    (case c26 => k_is)
    (case k26 => k_is)
    (case a27 => k_is)
    (case l27 => k_is)
    (case c27 => k_is)
    (case k27 => k_is)
    (case a28 => k_is)
    (case l28 => k_is)
    (case c28 => k_is)
    (case k28 => k_is)
    (case a29 => k_is)
    (case l29 => k_is)
    (case c29 => k_is)
    (case k29 => k_is)
    (case a30 => k_is)
    (case l30 => k_is)
    (case c30 => k_is)
    (case k30 => k_is)
    (case a31 => k_is)
    (case l31 => k_is)
    (case c31 => k_is)
    (case k31 => k_is)
    (case a32 => k_is)
    (case l32 => k_is)
    (case c32 => k_is)
    (case k32 => k_is)
    (case a33 => k_is)
    (case l33 => k_is)
    (case c33 => k_is)
    (case k33 => k_is)
    (case a34 => k_is)
    (case l34 => k_is)
    (case c34 => k_is)
    (case k34 => k_is)
    (case a35 => k_is)
    (case l35 => k_is)
    (case c35 => k_is)
    (case k35 => k_is)
    (case a36 => k_is)
    (case l36 => k_is)
    (case c36 => k_is)
    (case k36 => k_is)
    (case a37 => k_is)
    (case l37 => k_is)
    (case c37 => k_is)
    (case k37 => k_is)
    (case pg => k_is)
    (case hd => k_is)
    (case po => k_is)
    (case sa => k_is)
    (case mk => k_is)
    (case kc => k_is)
    (case nR => k_is)
    (case nU => k_is)
    (case gcB => k_is)
    (case xcB => k_exc)
    (case kcB => k_is)
    (case bcB => k_is)
    (case tcB => k_is)
    (case icB => k_is)
    (case scB => first | rfl | k_is)
    (case gcR => k_is)
    (case xcR => k_exc)
    (case kcR => k_is)
    (case bcR => k_is)
    (case tcR => k_is)
    (case icR => k_is)
    (case scR => first | rfl | k_is)
    (case q_MOST_CELLS => k_is)
    (case q_MOST_DOORS => k_is)
    (case q_TOO_LONG => k_is)
    (case z_bool => k_is)
    (case z_int => k_is)
    (case z_isinstance => k_is)
    (case z_len => k_is)
    (case z_list => k_is)
    (case z_min => k_is)
    (case z_range => k_is)
    (case z_str => k_is)
    (case z_sum => k_is)
    (case z_tuple => k_is)
