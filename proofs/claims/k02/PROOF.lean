import PyProof.Rows.All
import Wide.All
import OpenK.AllK
import Wide.FinOn
import HandS.ForMost
import HandS.Evl
import HandS.IsInst
import HandS.Style
import HandS.Wide
import HandS.EndBits
import HandS.SortInts
import PySem.Challenge.RW_threadslide_k02_hung_up_once
set_option Elab.async false
set_option linter.all false
set_option maxRecDepth 100000
set_option maxHeartbeats 4000000
/-! Steps over the hand layer: a def by its name, readings taken step by step, facts of the heap found by themselves. -/
namespace Tw
open PySem PySem.Spec PyProof.Rows L2
open Evl (Ex ex_l ex_t fresh_back sz_of sz_lt)

/-! ### a def by its name -/
structure DefAt (K : PySem.W.Frag) (mg : Str → Option Value) (x qual : Str) (st : Stmt) : Prop where
  ex : ∃ f fd, Fun K x qual st f fd ∧ mg x = some (.ref f)
structure Cal (P : Program) (w : World) (K : PySem.W.Frag) (mg : Str → Option Value) (base : Heap) (x : Str) (k : Nat) (ps : List Str) (sp : Sp) : Prop where
  ex : ∃ f fd, FnOk P w K mg base CX0 k f fd ps sp ∧ mg x = some (.ref f) ∧ PySem.W.keepIn K (.ref f) = true ∧ Binds K fd ps []
section
variable {P : Program} {w : World} {K : PySem.W.Frag} {mg : Str → Option Value} {base : Heap}
theorem Cal.of {x qual : Str} {st : Stmt} {k : Nat} {N ps : List Str} {sp : Sp} (D : DefAt K mg x qual st) (S : FnScope N ps (defScope st)) (len : ∀ vs H Q E, sp vs H Q E → vs.length = ps.length)
    (hb : ∀ (kV doc pm : Value) (an : Option Addr) (cdv ct : Value) (us : List Value), us.length = ps.length → bindArgs (PySem.W.fnOf x qual (defArgs st) (defBody st) (defScope st) .none kV doc pm an cdv ct) ⟨us, []⟩ = pure (ps.zip us))
    (hbody : ∀ (f : Addr) (cdv : Value) (A : Around) (outer : List Env) (s : Shared) (H : Hp) (vs : List V) (Q : VK) (E : XK), Room k (A.deeper (envOfC qual (defScope st) s.heap.objs.size f cdv)) → sp vs H Q E →
      ∃ t, PSs (cxOf CX0 P w K mg base N qual (defScope st) f cdv A outer s H E).nox (defBody st) t ∧ t { nx := fun _ H' => Q .non H', rt := Q } (start N vs) H) : Cal P w K mg base x (k + 1) ps sp := by
  obtain ⟨f, fd, F, hm⟩ := D.ex
  exact ⟨f, fd, F.ok S len (hbody f), hm, F.kp, F.binds hb⟩
theorem pe_callC {X : Cx} {x : Str} {k : Nat} {ps : List Str} {sp : Sp} {p pos : Pos} {e : Expr} {es : List Expr} {t : TA} (c : Cal X.prog X.w X.K X.mg X.base x k ps sp) (hr : Room k X.A) (hg : Gl X x)
    (ha : PA X (e :: es) t) (hdb : (x == ("__debug__" : Str)) = false := by decide) (he : starEach (e :: es) X.env = (false, eval e X.env) :: starEach es X.env := by rfl) (hpl : (backTo pos (starEach es X.env)).any (·.1) = false := by rfl) :
    PE X (.Call (.Name x p) (e :: es) [] pos) (tCall sp [] E0 t) := by
  obtain ⟨f, fd, F, hm, hk, hb⟩ := c.ex
  exact pe_call F hr hg hm hk hb .nil pass0 ha hdb he hpl
end

/-! ### wider operators -/
section
variable {X : Cx}
/-- * of two ints, each of less than 2^20 and 187 bits -/
def CMulB (i j : Int) : Prop := Builtin.Int.intBits i + Builtin.Int.intBits j ≤ 10000000
theorem CMulB.ok {i j : Int} (h : CMulB i j) : IntMulOk i j := by
  have h3 : Builtin.Int.intBits i + Builtin.Int.intBits j ≤ 10000000 := h
  have e : bitsLine = 134217728 := by decide
  unfold IntMulOk
  intro z
  rw [Bool.and_eq_true] at z
  have z2 := z.2
  unfold Builtin.Int.intTooBig at z2
  have z3 := of_decide_eq_true z2
  rw [e] at z3
  omega
theorem op_mulB : OpR X (binaryOp .Mult) (rI CMulB fun i j => .int (i * j)) := opI fun _ _ _ _ _ _ _ hc q => mul_int q hc.ok
/-- an int is no bool -/
theorem op_notIB : OpR X (compareOp .IsNot) (fun x y H Q => ∃ i b, x = .int i ∧ y = .bl b ∧ Q (.bl true) H) := by
  intro pins s σ H x y v u Q I rx ry h
  obtain ⟨i, b, rfl, rfl, q⟩ := h
  obtain ⟨t, rfl⟩ := rx
  cases (show u = Value.bool b from ry)
  exact wpAny_isNot_other rfl (fun z => by cases z) ⟨.bl true, H, I, rfl, q⟩
end
end Tw

set_option Elab.async false
set_option linter.all false
set_option maxRecDepth 100000
set_option maxHeartbeats 4000000
namespace Tw
open PySem PySem.Spec PyProof.Rows L2
open Evl (Ex ex_l ex_t fresh_back sz_of sz_lt)

/-! ### operators whose reading is chosen by the values -/
section
variable {X : Cx}
def rAddA : R2 := fun x y H Q => rI0 (fun i j => .int (i + j)) x y H Q ∨ rCat x y H Q
theorem op_addA : OpR X (binaryOp .Add) rAddA := op_add.or op_cat
def CMulA (i j : Int) : Prop := CMul i j ∨ CMulB i j
theorem CMulA.ok {i j : Int} (h : CMulA i j) : IntMulOk i j := h.elim CMul.ok CMulB.ok
theorem op_mulI : OpR X (binaryOp .Mult) (rI CMulA fun i j => .int (i * j)) := opI fun _ _ _ _ _ _ _ hc q => mul_int q hc.ok
def rMulA : R2 := fun x y H Q => rI CMulA (fun i j => .int (i * j)) x y H Q ∨ rRep x y H Q
theorem op_mulA : OpR X (binaryOp .Mult) rMulA := op_mulI.or op_rep
def rSlA (K : PySem.W.Frag) : V → Option Int → Option Int → Hp → VK → Prop := fun x lo hi H Q => rSlL K x lo hi H Q ∨ rSlT K x lo hi H Q
theorem sl_A : SlR X (rSlA X.K) := sl_list.or sl_tup
def rNotA : R2 := fun x y H Q => (∃ i b, x = .int i ∧ y = .bl b ∧ Q (.bl true) H) ∨ rNotB x y H Q ∨ (y = .non ∧ Q (.bl (!decide (x = .non))) H)
theorem op_notA : OpR X (compareOp .IsNot) rNotA := op_notIB.or (op_notBl.or op_notN)
def rIsA : R2 := fun x y H Q => rIsB x y H Q ∨ (y = .non ∧ Q (.bl (decide (x = .non))) H)
theorem op_isA : OpR X (compareOp .Is) rIsA := op_isBl.or op_isN
def rEqA (K : PySem.W.Frag) : R2 := fun x y H Q => rEq x y H Q ∨ rEqD K x y H Q
theorem op_eqA (hu : X.A.units + 64 < cLine) : OpR X (compareOp .Eq) (rEqA X.K) := op_eq.or (op_eqD hu)
def rNeA (K : PySem.W.Frag) : R2 := fun x y H Q => rNe x y H Q ∨ rNeD K x y H Q
theorem op_neA (hu : X.A.units + 64 < cLine) : OpR X (compareOp .NotEq) (rNeA X.K) := op_ne.or (op_neD hu)
def rLenA (K : PySem.W.Frag) : List V → Hp → VK → Prop := fun xs H Q => ∃ p ys, xs = [.ref p] ∧ (SqL K H p ys ∨ SqT K H p ys) ∧ Q (.int ys.length) H
theorem call_lenA : CallR X (.builtin "len") (rLenA X.K) := call_len_seq
def rIntA : List V → Hp → VK → Prop := fun xs H Q => (∃ i, xs = [.int i] ∧ Q (.int i) H) ∨ ∃ k, xs = [.bl k] ∧ Q (.int (if k then 1 else 0)) H
theorem call_intA : CallR X (.type "int") rIntA := call_int1
def rListA (K : PySem.W.Frag) : List V → Hp → VK → Prop := fun xs H Q => ∃ p ys, xs = [.ref p] ∧ (SqL K H p ys ∨ SqT K H p ys) ∧ ∀ l, H l = none → Q (.ref l) (upd H l (.lst ys))
theorem call_listA : CallR X (.type "list") (rListA X.K) := call_list_of
def rMaxA : List V → Hp → VK → Prop := fun xs H Q => ∃ i j, xs = [.int i, .int j] ∧ Q (.int (if j > i then j else i)) H
theorem call_maxA (hc : X.calm = true) : CallR X (.builtin "max") rMaxA := call_max2 hc
def rMinA : List V → Hp → VK → Prop := fun xs H Q => ∃ i j, xs = [.int i, .int j] ∧ Q (.int (if j < i then j else i)) H
theorem call_minA (hc : X.calm = true) : CallR X (.builtin "min") rMinA := call_min2 hc
def rAbsA : List V → Hp → VK → Prop := fun xs H Q => ∃ i, xs = [.int i] ∧ Q (.int (if i < 0 then -i else i)) H
theorem call_absA : CallR X (.builtin "abs") rAbsA := call_abs
end

/-! the same, the written part named -/
section
variable {X : Cx} {K : PySem.W.Frag}
theorem ix_seqK (h : X.K = K) : IxR X (rIx K) := h ▸ ix_seq
theorem sl_AK (h : X.K = K) : SlR X (rSlA K) := h ▸ sl_A
theorem op_eqK (h : X.K = K) (hu : X.A.units + 64 < cLine) : OpR X (compareOp .Eq) (rEqA K) := h ▸ op_eqA hu
theorem op_neK (h : X.K = K) (hu : X.A.units + 64 < cLine) : OpR X (compareOp .NotEq) (rNeA K) := h ▸ op_neA hu
theorem op_inK (h : X.K = K) : OpR X (compareOp .In) (rIn K false) := h ▸ op_in_seq
theorem op_notInK (h : X.K = K) : OpR X (compareOp .NotIn) (rIn K true) := h ▸ op_notIn_seq
theorem call_lenK (h : X.K = K) : CallR X (.builtin "len") (rLenA K) := h ▸ call_lenA
theorem call_isiK' (h : X.K = K) : CallR X (.builtin "isinstance") (rIsi K) := h ▸ call_isi
theorem call_listK (h : X.K = K) : CallR X (.type "list") (rListA K) := h ▸ call_listA
theorem cr_sumK (h : X.K = K) (hc : X.calm = true) : CallR X (.builtin "sum") (rSum K) := h ▸ cr_sum hc
theorem cr_sortedK (h : X.K = K) : CallR X (.builtin "sorted") (rSortedI K) := h ▸ cr_sortedI
theorem pi_listK (h : X.K = K) {l tg : Expr} {tl : TE} (hl : PE X l tl) : PI X tg l (iList K tl) := h ▸ pi_list hl
theorem pi_tupK (h : X.K = K) {l tg : Expr} {tl : TE} (hl : PE X l tl) : PI X tg l (iTup K tl) := h ▸ pi_tup hl
theorem pe_bm0K (h : X.K = K) {T name id : String} {r : V → List V → Hp → VK → Prop} {o : Expr} {to : TE} {apos cpos : Pos} (pa : PlainAttrs T) (slot : Slot T name id) (hty : typeOf (.builtin id) = pure (.type "method_descriptor")) (hm : MtR X id r) (ho : PE X o to)
    (hbase : attributeBase o name X.env (eval o X.env) = eval o X.env := by rfl) (hline : (apos.endLine == cpos.line) = true := by rfl) : PE X (.Call (.Attribute o name apos) [] [] cpos) (tBM0 K T r to) := h ▸ pe_bm0 pa slot hty hm ho hbase hline
theorem pe_bmK (h : X.K = K) {T name id : String} {r : V → List V → Hp → VK → Prop} {o e : Expr} {es : List Expr} {to : TE} {t : TA} {apos cpos : Pos} (pa : PlainAttrs T) (slot : Slot T name id) (hty : typeOf (.builtin id) = pure (.type "method_descriptor")) (hm : MtR X id r) (ho : PE X o to) (ha : PA X (e :: es) t)
    (hbase : attributeBase o name X.env (eval o X.env) = eval o X.env := by rfl)
    (hfew : ((backTo cpos (starEach (e :: es) X.env)).all (fun x => !x.1) && (backToKw cpos (keywordEach [] X.env)).all (fun x => x.1.isSome)
      && decide ((e :: es).length + ([] : List Keyword).length + (if ([] : List Keyword).isEmpty then 0 else 1) < 30)) = true := by rfl)
    (hline : (apos.endLine == cpos.line) = true := by rfl) (hs : starEach (e :: es) X.env = (false, eval e X.env) :: starEach es X.env := by rfl) (hplain : (backTo cpos (starEach es X.env)).any (·.1) = false := by rfl) :
    PE X (.Call (.Attribute o name apos) (e :: es) [] cpos) (tBM K T r to t) := h ▸ pe_bm pa slot hty hm ho ha hbase hfew hline hs hplain
theorem pe_fldK (h : X.K = K) {e : Expr} {f : Str} {pos : Pos} {ta : TE} (he : PE X e ta) (hb : attributeBase e f X.env (eval e X.env) = eval e X.env) : PE X (.Attribute e f pos) (tFld K ta f) := h ▸ pe_fld he hb
end

/-! ### one step -/
section
variable {K : PySem.W.Frag} {σ : L2.St} {H H1 H2 : Hp} {D : Ends} {t u : TS} {te ta tb : TE} {tt tu : TT} {Q : VK} {B : Bool → Hp → Prop}
theorem w_seq (h : t { D with nx := u D } σ H) : tSeq t u D σ H := h
theorem w_asg {g : TG} (h : te σ H fun x H1 => g x σ H1 D.nx) : tAsg te g D σ H := h
theorem w_gName {i : Nat} {v : V} {R : L2.St → Hp → Prop} (h : R (σ.set i (some v)) H) : gName i v σ H R := h
theorem w_ret (h : te σ H D.rt) : tRet te D σ H := h
theorem w_retN (h : D.rt .non H) : tRetN D σ H := h
theorem w_drop (h : te σ H fun _ H1 => D.nx σ H1) : tDrop te D σ H := h
theorem w_ifS (h : tt σ H fun b H1 => if b = true then t D σ H1 else u D σ H1) : tIfS tt t u D σ H := h
theorem w_next (h : D.nx σ H) : tNext D σ H := h
theorem w_break (h : D.bk σ H) : tBreak D σ H := h
theorem w_cont (h : D.ct σ H) : tCont D σ H := h
theorem w_nx {f b c : L2.St → Hp → Prop} {r : VK} (h : f σ H) : Ends.nx ⟨f, r, b, c⟩ σ H := h
theorem w_ct {f b c : L2.St → Hp → Prop} {r : VK} (h : c σ H) : Ends.ct ⟨f, r, b, c⟩ σ H := h
theorem w_bk {f b c : L2.St → Hp → Prop} {r : VK} (h : b σ H) : Ends.bk ⟨f, r, b, c⟩ σ H := h
theorem w_rt {f b c : L2.St → Hp → Prop} {r : VK} {v : V} (h : r v H) : Ends.rt ⟨f, r, b, c⟩ v H := h
theorem w_var {i : Nat} {v : V} (e : σ[i]? = some (some v)) (h : Q v H) : tVar i σ H Q := ⟨v, e, h⟩
theorem w_c {v : V} (h : Q v H) : tC v σ H Q := h
theorem w_op {r : R2} (h : ta σ H fun x H1 => tb σ H1 fun y H2 => r x y H2 Q) : tOp r ta tb σ H Q := h
theorem w_un {r : V → Hp → VK → Prop} (h : ta σ H fun x H1 => r x H1 Q) : tUn r ta σ H Q := h
theorem w_I0 {g : Int → Int → V} {i j : Int} (h : Q (g i j) H) : rI0 g (.int i) (.int j) H Q := ⟨i, j, rfl, rfl, h⟩
theorem w_I {C : Int → Int → Prop} {g : Int → Int → V} {i j : Int} (c : C i j) (h : Q (g i j) H) : rI C g (.int i) (.int j) H Q := ⟨i, j, rfl, rfl, c, h⟩
theorem w_U {g : Int → V} {i : Int} (h : Q (g i) H) : rU g (.int i) H Q := ⟨i, rfl, h⟩
theorem w_addI {i j : Int} (h : Q (.int (i + j)) H) : rAddA (.int i) (.int j) H Q := Or.inl ⟨i, j, rfl, rfl, h⟩
theorem w_addL {l b : Addr} {xs zs : List V} (h1 : H l = some (.lst xs)) (h2 : H b = some (.lst zs)) (hz : xs.length + zs.length ≤ 1000000) (h : ∀ p, H p = none → Q (.ref p) (upd H p (.lst (xs ++ zs)))) : rAddA (.ref l) (.ref b) H Q :=
  Or.inr ⟨l, b, xs, zs, rfl, rfl, h1, h2, Nat.le_trans hz (by decide), h⟩
theorem w_mulI {i j : Int} (c : CMulA i j) (h : Q (.int (i * j)) H) : rMulA (.int i) (.int j) H Q := Or.inl ⟨i, j, rfl, rfl, c, h⟩
theorem w_mulL {l : Addr} {k : Int} {xs : List V} (h1 : H l = some (.lst xs)) (b1 : -1000000 ≤ k) (b2 : k ≤ 1000000) (hz : xs.length * k.toNat ≤ 1000000) (h : ∀ p, H p = none → Q (.ref p) (upd H p (.lst (List.replicate k.toNat xs).flatten))) : rMulA (.ref l) (.int k) H Q :=
  Or.inr ⟨l, k, xs, rfl, rfl, h1, by omega, by omega, Nat.le_trans hz (by decide), h⟩
theorem w_mulL1 {l : Addr} {k : Int} {v : V} (h1 : H l = some (.lst [v])) (b1 : -1000000 ≤ k) (b2 : k ≤ 1000000) (h : ∀ p, H p = none → Q (.ref p) (upd H p (.lst (List.replicate k.toNat v)))) : rMulA (.ref l) (.int k) H Q :=
  w_mulL h1 b1 b2 (by show 1 * _ ≤ _; omega) fun p hp => by
    have e : (List.replicate k.toNat [v]).flatten = List.replicate k.toNat v := List.flatten_replicate_singleton
    rw [e]; exact h p hp
theorem w_notIB {i : Int} {b : Bool} (h : Q (.bl true) H) : rNotA (.int i) (.bl b) H Q := Or.inl ⟨i, b, rfl, rfl, h⟩
theorem w_notBB {a b : Bool} (h : Q (.bl (!decide (a = b))) H) : rNotA (.bl a) (.bl b) H Q := Or.inr (Or.inl ⟨a, b, rfl, rfl, h⟩)
theorem w_notN {x : V} (h : Q (.bl (!decide (x = .non))) H) : rNotA x .non H Q := Or.inr (Or.inr ⟨rfl, h⟩)
theorem w_isBB {a b : Bool} (h : Q (.bl (decide (a = b))) H) : rIsA (.bl a) (.bl b) H Q := Or.inl ⟨a, b, rfl, rfl, h⟩
theorem w_isN {x : V} (h : Q (.bl (decide (x = .non))) H) : rIsA x .non H Q := Or.inr ⟨rfl, h⟩
theorem dec_i {i j : Int} : decide (V.int i = V.int j) = decide (i = j) := by simp
theorem dec_b {i j : Bool} : decide (V.bl i = V.bl j) = decide (i = j) := by simp
theorem dec_s {i j : Str} : decide (V.str i = V.str j) = decide (i = j) := by simp
theorem w_eqI {i j : Int} (h : Q (.bl (decide (i = j))) H) : rEqA K (.int i) (.int j) H Q := Or.inl ⟨rfl, by rw [dec_i]; exact h⟩
theorem w_neI {i j : Int} (h : Q (.bl (!decide (i = j))) H) : rNeA K (.int i) (.int j) H Q := Or.inl ⟨rfl, by rw [dec_i]; exact h⟩
theorem w_eqB {i j : Bool} (h : Q (.bl (decide (i = j))) H) : rEqA K (.bl i) (.bl j) H Q := Or.inl ⟨rfl, by rw [dec_b]; exact h⟩
theorem w_neB {i j : Bool} (h : Q (.bl (!decide (i = j))) H) : rNeA K (.bl i) (.bl j) H Q := Or.inl ⟨rfl, by rw [dec_b]; exact h⟩
theorem w_eqS {i j : Str} (h : Q (.bl (decide (i = j))) H) : rEqA K (.str i) (.str j) H Q := Or.inl ⟨rfl, by rw [dec_s]; exact h⟩
theorem w_neS {i j : Str} (h : Q (.bl (!decide (i = j))) H) : rNeA K (.str i) (.str j) H Q := Or.inl ⟨rfl, by rw [dec_s]; exact h⟩
theorem w_eqD {x y : V} {d e : PyData} (h1 : Dp K H x d) (h2 : Dp K H y e) (s1 : SeqAt.shaped d = true) (s2 : SeqAt.shaped e = true) (h : Q (.bl (PyData.eqv d e)) H) : rEqA K x y H Q := Or.inr ⟨d, e, h1, h2, s1, s2, h⟩
theorem w_neD {x y : V} {d e : PyData} (h1 : Dp K H x d) (h2 : Dp K H y e) (s1 : SeqAt.shaped d = true) (s2 : SeqAt.shaped e = true) (h : Q (.bl (!PyData.eqv d e)) H) : rNeA K x y H Q := Or.inr ⟨d, e, h1, h2, s1, s2, h⟩
theorem w_test (h : te σ H fun x H1 => ∃ k, x = .bl k ∧ B k H1) : tTest te σ H B := h
theorem w_B (h : te σ H fun x H1 => ∃ k, x = .bl k ∧ B k H1) : tB te σ H B := h
theorem w_exB {b : Bool} (h : B b H) : ∃ k, V.bl b = .bl k ∧ B k H := ⟨b, rfl, h⟩
theorem w_and (h : tt σ H fun c H1 => if c = true then tu σ H1 B else B false H1) : tAnd tt tu σ H B := h
theorem w_or (h : tt σ H fun c H1 => if c = true then B true H1 else tu σ H1 B) : tOr tt tu σ H B := h
theorem w_not (h : tt σ H fun c H1 => B (!c) H1) : tNot tt σ H B := h
theorem w_andV (h : ta σ H fun x H1 => ∃ c, x = .bl c ∧ if c = true then tb σ H1 Q else Q (.bl false) H1) : tAndV ta tb σ H Q := h
theorem w_orV (h : ta σ H fun x H1 => ∃ c, x = .bl c ∧ if c = true then Q (.bl true) H1 else tb σ H1 Q) : tOrV ta tb σ H Q := h
theorem w_notV (h : ta σ H fun x H1 => ∃ c, x = .bl c ∧ Q (.bl (!c)) H1) : tNotV ta σ H Q := h
theorem w_bl {b : Bool} {F : Bool → Prop} (h : F b) : ∃ c, V.bl b = .bl c ∧ F c := ⟨b, rfl, h⟩
theorem w_if (h : tt σ H fun c H1 => if c = true then ta σ H1 Q else tb σ H1 Q) : tIf tt ta tb σ H Q := h
theorem w_nil {F : List V → Hp → Prop} (h : F [] H) : tNil σ H F := h
theorem w_cons {tr : TA} {F : List V → Hp → Prop} (h : ta σ H fun x H1 => tr σ H1 fun xs H2 => F (x :: xs) H2) : tCons ta tr σ H F := h
theorem w_cb {r : List V → Hp → VK → Prop} {a : TA} (h : a σ H fun vs H1 => r vs H1 Q) : tCB r a σ H Q := h
theorem w_call {sp : Sp} {dvs : List V} {E : XK} {a : TA} (h : a σ H fun vs H1 => sp (vs ++ dvs) H1 Q E) : tCall sp dvs E a σ H Q := h
theorem w_tup {a : TA} (h : a σ H fun xs H1 => xs.length ≤ sizeLine ∧ ∀ p, H1 p = none → Q (.ref p) (upd H1 p (.tup xs))) : tTup a σ H Q := h
theorem w_lst {a : TA} (h : a σ H fun xs H1 => xs.length ≤ sizeLine ∧ ∀ p, H1 p = none → Q (.ref p) (upd H1 p (.lst xs))) : tLst a σ H Q := h
theorem w_fin {n : Nat} {F : Prop} (hz : n ≤ 1000) (h : F) : n ≤ sizeLine ∧ F := ⟨Nat.le_trans hz (by decide), h⟩
theorem w_len {p : Addr} {ys : List V} (s : SqL K H p ys) (h : Q (.int ys.length) H) : rLenA K [.ref p] H Q := ⟨p, ys, rfl, .inl s, h⟩
theorem w_lenT {p : Addr} {ys : List V} (s : SqT K H p ys) (h : Q (.int ys.length) H) : rLenA K [.ref p] H Q := ⟨p, ys, rfl, .inr s, h⟩
theorem w_intI {i : Int} (h : Q (.int i) H) : rIntA [.int i] H Q := .inl ⟨i, rfl, h⟩
theorem w_intB {b : Bool} (h : Q (.int (if b then 1 else 0)) H) : rIntA [.bl b] H Q := .inr ⟨b, rfl, h⟩
theorem w_list {p : Addr} {ys : List V} (s : SqL K H p ys) (h : ∀ l, H l = none → Q (.ref l) (upd H l (.lst ys))) : rListA K [.ref p] H Q := ⟨p, ys, rfl, .inl s, h⟩
theorem w_max {i j : Int} (h : Q (.int (if j > i then j else i)) H) : rMaxA [.int i, .int j] H Q := ⟨i, j, rfl, h⟩
theorem w_min {i j : Int} (h : Q (.int (if j < i then j else i)) H) : rMinA [.int i, .int j] H Q := ⟨i, j, rfl, h⟩
theorem w_abs {i : Int} (h : Q (.int (if i < 0 then -i else i)) H) : rAbsA [.int i] H Q := ⟨i, rfl, h⟩
theorem w_sl {r : V → Option Int → Option Int → Hp → VK → Prop} {tl th : TO} (h : te σ H fun x H1 => tl σ H1 fun l H2 => th σ H2 fun u H3 => r x l u H3 Q) : tSl r te tl th σ H Q := h
theorem w_noPart {F : Option Int → Hp → Prop} (h : F none H) : tNoPart σ H F := h
theorem w_part {F : Option Int → Hp → Prop} (h : te σ H fun x H1 => ∃ i, x = .int i ∧ F (some i) H1) : tPart te σ H F := h
theorem w_exI {i : Int} {F : Int → Prop} (h : F i) : ∃ j, V.int i = .int j ∧ F j := ⟨i, rfl, h⟩
theorem w_slL {a : Addr} {xs : List V} {lo hi : Option Int} (s : SqL K H a xs) (h : ∀ p, H p = none → Q (.ref p) (upd H p (.lst (cutV xs lo hi)))) : rSlA K (.ref a) lo hi H Q := Or.inl ⟨a, xs, rfl, s, h⟩
theorem w_ixL {p : Addr} {xs : List V} {i : Int} {v : V} (s : SqL K H p xs) (e : atI xs i = some v) (h : Q v H) : rIx K (.ref p) (.int i) H Q := .inl ⟨p, xs, i, v, rfl, rfl, s, e, h⟩
theorem w_ixT {p : Addr} {xs : List V} {i : Int} {v : V} (s : SqT K H p xs) (e : atI xs i = some v) (h : Q v H) : rIx K (.ref p) (.int i) H Q := .inr (.inl ⟨p, xs, i, v, rfl, rfl, s, e, h⟩)
theorem w_gSub {to ti : TE} {s : TSet} {v : V} {R : L2.St → Hp → Prop} (h : to σ H fun o H1 => ti σ H1 fun i H2 => s o i v H2 fun H3 => R σ H3) : gSub to ti s v σ H R := h
theorem w_setL {l : Addr} {xs : List V} {k : Int} {j : Nat} {v : V} {F : Hp → Prop} (e : H l = some (.lst xs)) (b : ixN xs.length k = some j) (h : F (upd H l (.lst (xs.set j v)))) : rSetL (.ref l) (.int k) v H F := ⟨l, xs, k, j, rfl, rfl, e, b, h⟩
theorem w_bm {T : String} {r : V → List V → Hp → VK → Prop} {to : TE} {a : TA} (h : to σ H fun x H1 => tyV K T x H1 ∧ a σ H1 fun xs H2 => r x xs H2 Q) : tBM K T r to a σ H Q := h
theorem w_bm0 {T : String} {r : V → List V → Hp → VK → Prop} {to : TE} (h : to σ H fun x H1 => tyV K T x H1 ∧ r x [] H1 Q) : tBM0 K T r to σ H Q := h
theorem w_tyL {l : Addr} {xs : List V} {F : Prop} (e : SqL K H l xs) (h : F) : tyV K "list" (.ref l) H ∧ F := ⟨.inl ⟨rfl, xs, e⟩, h⟩
theorem w_app {l : Addr} {xs : List V} {v : V} (e : H l = some (.lst xs)) (hz : xs.length < 1000000) (h : Q .non (upd H l (.lst (xs ++ [v])))) : rAppend (.ref l) [v] H Q := ⟨l, xs, v, rfl, rfl, e, Nat.lt_of_lt_of_le hz (by decide), h⟩
theorem w_ite {p A C : Prop} [Decidable p] (h1 : p → A) (h2 : ¬ p → C) : if decide p = true then A else C := by
  by_cases h : p
  · rw [if_pos (decide_eq_true h)]; exact h1 h
  · rw [if_neg (by rw [decide_eq_false h]; decide)]; exact h2 h
theorem w_iteN {p A C : Prop} [Decidable p] (h1 : ¬ p → A) (h2 : p → C) : if (!decide p) = true then A else C := by
  by_cases h : p
  · rw [if_neg (by rw [decide_eq_true h]; decide)]; exact h2 h
  · rw [if_pos (by rw [decide_eq_false h]; rfl)]; exact h1 h
theorem w_iteB {b : Bool} {A C : Prop} (h1 : b = true → A) (h2 : b = false → C) : if b = true then A else C := by
  cases b with
  | true => rw [if_pos rfl]; exact h1 rfl
  | false => rw [if_neg (by decide)]; exact h2 rfl
theorem w_iteT {A C : Prop} (h : A) : if true = true then A else C := by rw [if_pos rfl]; exact h
theorem w_iteF {A C : Prop} (h : C) : if false = true then A else C := by rw [if_neg (by decide)]; exact h
theorem w_iteNT {A C : Prop} (h : C) : if (!true) = true then A else C := by rw [if_neg (by decide)]; exact h
theorem w_iteNF {A C : Prop} (h : A) : if (!false) = true then A else C := by rw [if_pos (by decide)]; exact h
theorem w_pos {p A C : Prop} [Decidable p] (hp : p) (h : A) : if decide p = true then A else C := w_ite (fun _ => h) fun n => absurd hp n
theorem w_neg {p A C : Prop} [Decidable p] (hp : ¬ p) (h : C) : if decide p = true then A else C := w_ite (fun y => absurd y hp) fun _ => h
theorem w_posN {p A C : Prop} [Decidable p] (hp : ¬ p) (h : A) : if (!decide p) = true then A else C := w_iteN (fun _ => h) fun n => absurd n hp
theorem w_negN {p A C : Prop} [Decidable p] (hp : p) (h : C) : if (!decide p) = true then A else C := w_iteN (fun y => absurd hp y) fun _ => h
end

/-! ### facts of the heap -/
theorem hp_ne {H : Hp} {p l : Addr} {o u : HO} (h : p ≠ l) (e : H p = some o) : upd H l u p = some o := by rw [upd_ne h]; exact e
theorem hp_ex {H H' : Hp} {p : Addr} {o : HO} (x : Ex H H') (e : H p = some o) : H' p = some o := x p o e
theorem ex_new {H0 H : Hp} {p : Addr} {o : HO} (n : H p = none) (e : Ex H0 H) : Ex H0 (upd H p o) := e.trans (Ex.new n)
theorem none_ne {H : Hp} {p l : Addr} {u : HO} (h : p ≠ l) (e : H p = none) : upd H l u p = none := by rw [upd_ne h]; exact e
theorem none_of {H : Hp} {p l : Addr} {u : HO} (e : upd H l u p = none) : H p = none := by
  by_cases h : p = l
  · subst h; rw [upd_same] at e; cases e
  · rw [upd_ne h] at e; exact e
theorem ne_of_upd {H : Hp} {p l : Addr} {u : HO} (e : upd H l u p = none) : p ≠ l := by
  intro h; subst h; rw [upd_same] at e; cases e

/-! ### kinds; comprehensions of plain values -/
section
variable {K : PySem.W.Frag} {σ : L2.St} {H : Hp} {Q : VK} {t : TT} {te : TE}
theorem kit_int_int : kitB "int" "int" = some true := by decide +kernel
theorem kit_list_list : kitB "list" "list" = some true := by decide +kernel
theorem kit_tuple_tuple : kitB "tuple" "tuple" = some true := by decide +kernel
theorem w_isiI {i : Int} (h : Q (.bl true) H) : rIsi K [.int i, .ty "int"] H Q := ⟨_, _, _, _, _, rfl, .ty "int", .base (.int i), kit_ty kit_int_int, h⟩
theorem tyx_l {p : Addr} {xs : List V} (e : H p = some (.lst xs)) : TyX K H (.ref p) (.type "list") := .base (.lst e)
theorem tyx_t {p : Addr} {xs : List V} (e : H p = some (.tup xs)) : TyX K H (.ref p) (.type "tuple") := .base (.tup e)
theorem w_isiL {p : Addr} (e : TyX K H (.ref p) (.type "list")) (h : Q (.bl true) H) : rIsi K [.ref p, .ty "list"] H Q := ⟨_, _, _, _, _, rfl, .ty "list", e, kit_ty kit_list_list, h⟩
theorem w_isiT {p : Addr} (e : TyX K H (.ref p) (.type "tuple")) (h : Q (.bl true) H) : rIsi K [.ref p, .ty "tuple"] H Q := ⟨_, _, _, _, _, rfl, .ty "tuple", e, kit_ty kit_tuple_tuple, h⟩
theorem w_lcR1 {ta : TA} {j : Nat} {vs : List Nat} {n : Int} (f : Nat → Bool) (v : Nat → V) (h : Evl.EvA ta σ H [.int n]) (hn : 0 ≤ n ∧ n ≤ 40000) (hw : ∀ x, wipe ((wipe σ vs).set j (some x)) vs = wipe σ vs)
    (ht : ∀ (i : Nat) H1, Ex H H1 → (i : Int) < n → Evl.EvT t ((wipe σ vs).set j (some (.int (i : Int)))) H1 (f i)) (he : ∀ (i : Nat) H1, Ex H H1 → (i : Int) < n → f i = true → Evl.Ev te ((wipe σ vs).set j (some (.int (i : Int)))) H1 (v i))
    (k : ∀ p H2, H p = none → Ex H H2 → H2 p = some (.lst (Evl.given n.toNat f v)) → Q (.ref p) H2) : tLc (iRng1 ta) (gName j) t te vs σ H Q :=
  Evl.el_lcR1 f v h hn hw ht he H (Evl.Ex.refl H) Q k
theorem w_lcL {a : Addr} {xs : List V} {tl : TE} {j : Nat} {vs : List Nat} (f : Nat → Bool) (v : Nat → V) (h : Evl.Ev tl σ H (.ref a)) (hx : SqL K H a xs) (hz : xs.length ≤ 40000) (hw : ∀ x, wipe ((wipe σ vs).set j (some x)) vs = wipe σ vs)
    (ht : ∀ (i : Nat) (x : V) H1, Ex H H1 → xs[i]? = some x → Evl.EvT t ((wipe σ vs).set j (some x)) H1 (f i)) (he : ∀ (i : Nat) (x : V) H1, Ex H H1 → xs[i]? = some x → f i = true → Evl.Ev te ((wipe σ vs).set j (some x)) H1 (v i))
    (k : ∀ p H2, H p = none → Ex H H2 → H2 p = some (.lst (Evl.given xs.length f v)) → Q (.ref p) H2) : tLc (iList K tl) (gName j) t te vs σ H Q :=
  Evl.el_lcL f v h hx hz hw ht he H (Evl.Ex.refl H) Q k
theorem given_all (n : Nat) (v : Nat → V) : Evl.given n (fun _ => true) v = (List.range n).map v := by
  unfold Evl.given
  rw [List.filter_eq_self.mpr (by simp)]
theorem given_none (n : Nat) (v : Nat → V) : Evl.given n (fun _ => false) v = [] := by
  unfold Evl.given
  rw [List.filter_eq_nil_iff.mpr (by simp)]
  rfl
theorem at_map {xs : List Int} {i : Nat} (h : i < xs.length) : atI (xs.map V.int) (i : Int) = some (.int xs[i]) := atI_nat (by rw [List.getElem?_map, List.getElem?_eq_getElem h]; rfl)
end

/-! ### in a list of ints -/
section
variable {K : PySem.W.Frag} {H : Hp} {Q : VK}
theorem inV_ints (a : Int) (l : List Int) : inV (.int a) (l.map V.int) = decide (a ∈ l) := by
  unfold inV
  rw [List.any_map]
  induction l with
  | nil => rfl
  | cons b r ih =>
    rw [List.any_cons, ih]
    show ((b == a) || _) = _
    by_cases h : b = a
    · subst h; simp
    · have h' : ¬ a = b := fun e => h e.symm
      simp [h, h']
theorem flat_ints (l : List Int) : (l.map V.int).all flatV = true := by
  rw [List.all_map]
  exact List.all_eq_true.mpr fun _ _ => rfl
theorem w_notInL {p : Addr} {a : Int} {l : List Int} (s : SqL K H p (l.map V.int)) (h : Q (.bl (!decide (a ∈ l))) H) : rIn K true (.int a) (.ref p) H Q :=
  ⟨p, l.map V.int, rfl, .inl s, rfl, flat_ints l, by rw [inV_ints]; exact h⟩
theorem w_inL {p : Addr} {a : Int} {l : List Int} (s : SqL K H p (l.map V.int)) (h : Q (.bl (decide (a ∈ l))) H) : rIn K false (.int a) (.ref p) H Q :=
  ⟨p, l.map V.int, rfl, .inl s, rfl, flat_ints l, by rw [inV_ints]; exact h⟩
end

/-! ### lists of ints, by their cells -/
section
variable {K : PySem.W.Frag} {H : Hp} {Q : VK}
theorem at_mapD {xs : List Int} {i : Nat} (h : i < xs.length) : atI (xs.map V.int) (i : Int) = some (.int (xs.getD i 0)) := by
  rw [at_map h, List.getD_eq_getElem?_getD, List.getElem?_eq_getElem h]; rfl
theorem ixn_map {xs : List Int} {i : Nat} (h : i < xs.length) : ixN (xs.map V.int).length (i : Int) = some i := Evl.ixN_nat (by rw [List.length_map]; exact h)
theorem map_set (xs : List Int) (i : Nat) (v : Int) : (xs.map V.int).set i (.int v) = (xs.set i v).map V.int := by rw [List.map_set]
theorem w_setLI {l : Addr} {xs : List Int} {j : Nat} {v : Int} {F : Hp → Prop} (e : H l = some (.lst (xs.map V.int))) (b : j < xs.length) (h : F (upd H l (.lst ((xs.set j v).map V.int)))) : rSetL (.ref l) (.int (j : Int)) (.int v) H F :=
  w_setL e (ixn_map b) (by rw [map_set]; exact h)
theorem w_ixLI {p : Addr} {xs : List Int} {j : Nat} (s : SqL K H p (xs.map V.int)) (b : j < xs.length) (h : Q (.int (xs.getD j 0)) H) : rIx K (.ref p) (.int (j : Int)) H Q := w_ixL s (at_mapD b) h
theorem getD_set {xs : List Int} {i j : Nat} {v : Int} (hi : i < xs.length) : (xs.set i v).getD j 0 = if j = i then v else xs.getD j 0 := by
  rw [List.getD_eq_getElem?_getD, List.getElem?_set]
  by_cases h : i = j
  · subst h; simp [hi]
  · have h' : ¬ j = i := fun e => h e.symm
    simp [h, h', List.getD_eq_getElem?_getD]
end

/-- places as ints -/
def asI (js : List Nat) : List Int := js.map fun n : Nat => (n : Int)
theorem asI_len (js : List Nat) : (asI js).length = js.length := List.length_map ..
theorem asI_mem {js : List Nat} {j : Nat} : (j : Int) ∈ asI js ↔ j ∈ js := by
  unfold asI
  rw [List.mem_map]
  constructor
  · rintro ⟨n, hn, e⟩
    have : n = j := by omega
    exact this ▸ hn
  · exact fun h => ⟨j, h, rfl⟩
theorem asI_get {js : List Nat} {i : Nat} {x : V} (h : ((asI js).map V.int)[i]? = some x) : ∃ j, js[i]? = some j ∧ x = .int (j : Int) := by
  unfold asI at h
  rw [List.getElem?_map, List.getElem?_map] at h
  cases e : js[i]? with
  | none => rw [e] at h; cases h
  | some j => rw [e] at h; exact ⟨j, rfl, (Option.some.inj h).symm⟩
theorem asI_snoc (js : List Nat) (j : Nat) : (asI js).map V.int ++ [V.int (j : Int)] = (asI (js ++ [j])).map V.int := by
  unfold asI
  rw [List.map_append, List.map_append]; rfl

theorem asI_sum (js : List Nat) : (asI js).sum = ((js.sum : Nat) : Int) := by
  induction js with
  | nil => rfl
  | cons j r ih =>
    show ((j : Int) :: asI r).sum = _
    rw [List.sum_cons, ih, List.sum_cons]
    omega
section
variable {K : PySem.W.Frag} {σ : L2.St} {H : Hp} {Q : VK}
theorem w_sum {p : Addr} {ns : List Int} (s : SqL K H p (ns.map V.int)) (h : Q (.int ns.sum) H) : rSum K [.ref p] H Q := ⟨p, ns, rfl, s, h⟩
theorem w_pop {l : Addr} {xs : List V} {y : V} (e : H l = some (.lst xs)) (g : xs[xs.length - 1]? = some y) (h : Q y (upd H l (.lst xs.dropLast))) : rPop (.ref l) [] H Q := ⟨l, xs, y, rfl, rfl, e, g, h⟩
end

section
variable {H H' : Hp}
/-- the heap without one address -/
def del (H : Hp) (l : Addr) : Hp := fun b => if b = l then none else H b
theorem del_same {l : Addr} : del H l l = none := by unfold del; rw [if_pos rfl]
theorem del_ne {l b : Addr} (h : b ≠ l) : del H l b = H b := by unfold del; rw [if_neg h]
theorem del_ex {l : Addr} : Ex (del H l) H := fun a o e => by
  by_cases h : a = l
  · subst h; rw [del_same] at e; cases e
  · rw [del_ne h] at e; exact e
theorem del_mono {l : Addr} (x : Ex H H') : Ex (del H l) (del H' l) := fun a o e => by
  by_cases h : a = l
  · subst h; rw [del_same] at e; cases e
  · rw [del_ne h] at e ⊢; exact x a o e
theorem del_upd {l : Addr} {o : HO} : del (upd H l o) l = del H l := by
  funext b
  by_cases h : b = l
  · subst h; rw [del_same, del_same]
  · rw [del_ne h, del_ne h, upd_ne h]
theorem ex_del {l : Addr} (h : H l = none) : Ex H (del H l) := fun a o e => by
  rw [del_ne (ne_of_none e h)]; exact e
theorem del_put {l : Addr} {o : HO} : Ex (del H l) (upd H l o) := Evl.Ex.mut del_ex del_same
end

/-! ### loops -/
section
variable {K : PySem.W.Frag} {σ : L2.St} {H : Hp} {Q : VK} {D : Ends} {g : TG} {tb : TS} {tl : TE} {ta : TA} {wi : TI} {tt : TT} {te : TE} {vs : List Nat}
def LoopJ (J : It) (g : TG) (tb : TS) (D : Ends) (σ : L2.St) (H1 : Hp) : Prop := ∃ W : Nat → Nat → L2.St → Hp → Prop, (∃ m, W 0 m σ H1) ∧ ∀ i m σ H, W i m σ H →
  (J.stop i H ∧ D.nx σ H) ∨ (J.go i H ∧ ∃ N : L2.St → Hp → Prop, (∀ σ' H', N σ' H' → ∃ m', m' < m ∧ W (i + 1) m' σ' H') ∧ ∀ x H', J.yld i H x H' → g x σ H' fun σ2 H2 => tb { D with nx := N, ct := N, bk := D.nx } σ2 H2)
theorem w_for (h : wi σ H fun J H1 => LoopJ J g tb D σ H1) : tFor wi g tb D σ H := h
def LcJ (J : It) (g : TG) (tt : TT) (te : TE) (vs : List Nat) (σ : L2.St) (H1 : Hp) (Q : VK) : Prop := ∀ D, H1 D = none → ∃ W : Nat → Nat → Hp → Prop, (∃ m, W 0 m (upd H1 D (.lst []))) ∧ ∀ i m H, W i m H →
  (J.stop i H ∧ Q (.ref D) H) ∨ (J.go i H ∧ ∃ Nx : Hp → Prop, (∀ H', Nx H' → ∃ m', m' < m ∧ W (i + 1) m' H') ∧ ∀ x H', J.yld i H x H' → g x (wipe σ vs) H' fun σ2 H2 => wipe σ2 vs = wipe σ vs ∧ tt σ2 H2 fun b H3 =>
    if b = true then te σ2 H3 fun y H4 => ∃ acc, H4 D = some (.lst acc) ∧ acc.length < sizeLine ∧ Nx (upd H4 D (.lst (acc ++ [y]))) else Nx H3)
theorem w_lc (h : wi σ H fun J H1 => LcJ J g tt te vs σ H1 Q) : tLc wi g tt te vs σ H Q := h
theorem w_iList {R : It → Hp → Prop} (h : tl σ H fun x H1 => ∃ a, x = .ref a ∧ (∃ xs, SqL K H1 a xs) ∧ R (Itl K a) H1) : iList K tl σ H R := h
theorem w_exL {F : Addr → Prop} {a : Addr} {xs : List V} (s : SqL K H a xs) (h : F a) : ∃ b, V.ref a = .ref b ∧ (∃ xs, SqL K H b xs) ∧ F b := ⟨a, rfl, ⟨xs, s⟩, h⟩
theorem w_iTup {R : It → Hp → Prop} (h : tl σ H fun x H1 => ∃ a, x = .ref a ∧ (∃ xs, SqT K H1 a xs) ∧ R (Itt K a) H1) : iTup K tl σ H R := h
theorem w_exT {F : Addr → Prop} {a : Addr} {xs : List V} (s : SqT K H a xs) (h : F a) : ∃ b, V.ref a = .ref b ∧ (∃ xs, SqT K H b xs) ∧ F b := ⟨a, rfl, ⟨xs, s⟩, h⟩
theorem w_iRng1 {R : It → Hp → Prop} (h : ta σ H fun vs H1 => ∃ j : Int, vs = [.int j] ∧ -(2 ^ 62) ≤ j ∧ j < 2 ^ 62 ∧ R (Itr 0 j.toNat) H1) : iRng1 ta σ H R := h
theorem w_exR1 {F : Int → Prop} {j : Int} (b : -1000000000 ≤ j ∧ j ≤ 1000000000) (h : F j) : ∃ i : Int, [V.int j] = [.int i] ∧ -(2 ^ 62) ≤ i ∧ i < 2 ^ 62 ∧ F i := ⟨j, rfl, by omega, by omega, h⟩
theorem w_iRng2 {R : It → Hp → Prop} (h : ta σ H fun vs H1 => ∃ i j : Int, vs = [.int i, .int j] ∧ (-(2 ^ 62) ≤ i ∧ i < 2 ^ 62 ∧ -(2 ^ 62) ≤ j ∧ j < 2 ^ 62) ∧ R (Itr i (j - i).toNat) H1) : iRng2 ta σ H R := h
theorem w_exR2 {F : Int → Int → Prop} {i j : Int} (b : -1000000000 ≤ i ∧ i ≤ 1000000000 ∧ -1000000000 ≤ j ∧ j ≤ 1000000000) (h : F i j) : ∃ i' j' : Int, [V.int i, V.int j] = [.int i', .int j'] ∧ (-(2 ^ 62) ≤ i' ∧ i' < 2 ^ 62 ∧ -(2 ^ 62) ≤ j' ∧ j' < 2 ^ 62) ∧ F i' j' := ⟨i, j, rfl, ⟨by omega, by omega, by omega, by omega⟩, h⟩
theorem loopL {a : Addr} {xs : List V} (Pv : Nat → L2.St → Hp → Prop) (h0 : Pv 0 σ H) (hl : ∀ i σ H, i ≤ xs.length → Pv i σ H → SqL K H a xs)
    (hs : ∀ i x σ H, xs[i]? = some x → Pv i σ H → g x σ H fun σ2 H2 => tb { D with nx := Pv (i + 1), ct := Pv (i + 1), bk := D.nx } σ2 H2) (hd : ∀ σ H, Pv xs.length σ H → D.nx σ H) : LoopJ (Itl K a) g tb D σ H := for_list Pv h0 hl hs hd
theorem loopT {a : Addr} {xs : List V} (Pv : Nat → L2.St → Hp → Prop) (h0 : Pv 0 σ H) (hl : ∀ i σ H, i ≤ xs.length → Pv i σ H → SqT K H a xs)
    (hs : ∀ i x σ H, xs[i]? = some x → Pv i σ H → g x σ H fun σ2 H2 => tb { D with nx := Pv (i + 1), ct := Pv (i + 1), bk := D.nx } σ2 H2) (hd : ∀ σ H, Pv xs.length σ H → D.nx σ H) : LoopJ (Itt K a) g tb D σ H := for_tup Pv h0 hl hs hd
theorem loopR {lo : Int} {n : Nat} (Pv : Nat → L2.St → Hp → Prop) (h0 : Pv 0 σ H)
    (hs : ∀ i σ H, i < n → Pv i σ H → g (.int (lo + i)) σ H fun σ2 H2 => tb { D with nx := Pv (i + 1), ct := Pv (i + 1), bk := D.nx } σ2 H2) (hd : ∀ σ H, Pv n σ H → D.nx σ H) : LoopJ (Itr lo n) g tb D σ H := for_range Pv h0 hs hd
theorem lcjR {lo : Int} {n : Nat} (Pv : Addr → Nat → Hp → Prop) (h0 : ∀ D, H D = none → Pv D 0 (upd H D (.lst [])))
    (hs : ∀ D i H', H D = none → i < n → Pv D i H' → g (.int (lo + i)) (wipe σ vs) H' fun σ2 H2 => wipe σ2 vs = wipe σ vs ∧ tt σ2 H2 fun b H3 =>
      if b = true then te σ2 H3 fun y H4 => ∃ acc, H4 D = some (.lst acc) ∧ acc.length < sizeLine ∧ Pv D (i + 1) (upd H4 D (.lst (acc ++ [y]))) else Pv D (i + 1) H3) (hd : ∀ D H', H D = none → Pv D n H' → Q (.ref D) H') : LcJ (Itr lo n) g tt te vs σ H Q := fun D hD => lc_range (Pv D) (h0 D hD) (fun i H' hi p => hs D i H' hD hi p) fun H' p => hd D H' hD p
theorem lcjL {a : Addr} {xs : List V} (Pv : Addr → Nat → Hp → Prop) (h0 : ∀ D, H D = none → Pv D 0 (upd H D (.lst []))) (hl : ∀ D i H', i ≤ xs.length → Pv D i H' → SqL K H' a xs)
    (hs : ∀ D i x H', H D = none → xs[i]? = some x → Pv D i H' → g x (wipe σ vs) H' fun σ2 H2 => wipe σ2 vs = wipe σ vs ∧ tt σ2 H2 fun b H3 =>
      if b = true then te σ2 H3 fun y H4 => ∃ acc, H4 D = some (.lst acc) ∧ acc.length < sizeLine ∧ Pv D (i + 1) (upd H4 D (.lst (acc ++ [y]))) else Pv D (i + 1) H3) (hd : ∀ D H', H D = none → Pv D xs.length H' → Q (.ref D) H') : LcJ (Itl K a) g tt te vs σ H Q := fun D hD => lc_list (Pv D) (h0 D hD) (hl D) (fun i x H' hi p => hs D i x H' hD hi p) fun H' p => hd D H' hD p
theorem w_yes {B : Bool → Hp → Prop} (h : B true H) : tYes σ H B := h
/-- a comprehension whose items lie in the heap: R what is true of the i-th item -/
theorem lcjRM {lo : Int} {n j : Nat} (R : Nat → V → Hp → Prop) (mono : ∀ i v H H', Ex H H' → R i v H → R i v H')
    (hs : ∀ D i H' acc, H D = none → H' D = some (.lst acc) → Ex H H' → i < n → ∀ Q' : VK, (∀ v H4, Ex H' H4 → R i v (del H4 D) → Q' v H4) → te ((wipe σ vs).set j (some (.int (lo + (i : Int))))) H' Q')
    (hw : ∀ x, wipe ((wipe σ vs).set j (some x)) vs = wipe σ vs) (hn : n ≤ 100000)
    (hd : ∀ D H' ys, H D = none → Ex H H' → H' D = some (.lst ys) → ys.length = n → (∀ i v, ys[i]? = some v → R i v (del H' D)) → Q (.ref D) H') : LcJ (Itr lo n) (gName j) tYes te vs σ H Q := by
  refine lcjR (fun D i H' => Ex H H' ∧ ∃ ys, H' D = some (.lst ys) ∧ ys.length = i ∧ ∀ k v, ys[k]? = some v → R k v (del H' D)) (fun D hD => ⟨Evl.Ex.new hD, [], upd_same, rfl, fun k v e => by simp at e⟩) ?_ (fun D H' hD ⟨e, ys, h1, h2, h3⟩ => hd D H' ys hD e h1 h2 h3)
  rintro D i H' hD hi ⟨e, ys, h1, h2, h3⟩
  refine ⟨hw _, ?_⟩
  refine w_yes ?_
  refine w_iteT ?_
  refine hs D i H' ys hD h1 e hi _ fun v H4 e4 r => ⟨ys, e4 _ _ h1, Nat.lt_of_le_of_lt (by omega : ys.length ≤ 100000) (by decide), Evl.Ex.mut (e.trans e4) hD, ys ++ [v], upd_same, by rw [List.length_append, h2]; rfl, fun k u ek => ?_⟩
  rw [del_upd]
  by_cases hk : k < ys.length
  · rw [List.getElem?_append_left hk] at ek
    exact mono _ _ _ _ (del_mono e4) (h3 k u ek)
  · rw [List.getElem?_append_right (by omega)] at ek
    cases h9 : k - ys.length with
    | zero =>
      rw [h9] at ek
      cases ek
      have : k = i := by omega
      rw [this]; exact r
    | succ m => rw [h9] at ek; simp at ek
theorem lcjLM {a : Addr} {xs : List V} {j : Nat} (R : Nat → V → Hp → Prop) (mono : ∀ i v H H', Ex H H' → R i v H → R i v H') (hx : SqL K H a xs)
    (hs : ∀ D (i : Nat) (x : V) H' acc, H D = none → H' D = some (.lst acc) → Ex H H' → xs[i]? = some x → ∀ Q' : VK, (∀ v H4, Ex H' H4 → R i v (del H4 D) → Q' v H4) → te ((wipe σ vs).set j (some x)) H' Q')
    (hw : ∀ x, wipe ((wipe σ vs).set j (some x)) vs = wipe σ vs) (hn : xs.length ≤ 100000)
    (hd : ∀ D H' ys, H D = none → Ex H H' → H' D = some (.lst ys) → ys.length = xs.length → (∀ i v, ys[i]? = some v → R i v (del H' D)) → Q (.ref D) H') : LcJ (Itl K a) (gName j) tYes te vs σ H Q := by
  refine lcjL (xs := xs) (fun D i H' => Ex H H' ∧ ∃ ys, H' D = some (.lst ys) ∧ ys.length = i ∧ ∀ k v, ys[k]? = some v → R k v (del H' D)) (fun D hD => ⟨Evl.Ex.new hD, [], upd_same, rfl, fun k v e => by simp at e⟩) (fun D i H' _ ⟨e, _⟩ => ex_l e hx) ?_ (fun D H' hD ⟨e, ys, h1, h2, h3⟩ => hd D H' ys hD e h1 h2 h3)
  rintro D i x H' hD hi ⟨e, ys, h1, h2, h3⟩
  have hil := (List.getElem?_eq_some_iff.mp hi).1
  refine ⟨hw _, ?_⟩
  refine w_yes ?_
  refine w_iteT ?_
  refine hs D i x H' ys hD h1 e hi _ fun v H4 e4 r => ⟨ys, e4 _ _ h1, Nat.lt_of_le_of_lt (by omega : ys.length ≤ 100000) (by decide), Evl.Ex.mut (e.trans e4) hD, ys ++ [v], upd_same, by rw [List.length_append, h2]; rfl, fun k u ek => ?_⟩
  rw [del_upd]
  by_cases hk : k < ys.length
  · rw [List.getElem?_append_left hk] at ek
    exact mono _ _ _ _ (del_mono e4) (h3 k u ek)
  · rw [List.getElem?_append_right (by omega)] at ek
    cases h9 : k - ys.length with
    | zero =>
      rw [h9] at ek
      cases ek
      have : k = i := by omega
      rw [this]; exact r
    | succ m => rw [h9] at ek; simp at ek
theorem set_self {σ : L2.St} {j : Nat} (hj : j < σ.length) : ∃ y, σ = σ.set j y := ⟨σ[j], (List.set_getElem_self hj).symm⟩
/-- a loop over a list that stores its variable alone and changes nothing that stood -/
theorem loopL_pure {j : Nat} {a : Addr} {xs : List V} (s : SqL K H a xs) (hs : ∀ (i : Nat) (x : V) (H' : Hp), xs[i]? = some x → Ex H H' → tb { D with nx := fun σ2 H2 => (∃ y, σ2 = σ.set j y) ∧ Ex H H2, ct := fun σ2 H2 => (∃ y, σ2 = σ.set j y) ∧ Ex H H2, bk := D.nx } (σ.set j (some x)) H')
    (hd : ∀ y H', Ex H H' → D.nx (σ.set j y) H') (hj : (σ[j]?).isSome = true := by rfl) : LoopJ (Itl K a) (gName j) tb D σ H := by
  have hj : j < σ.length := by
    cases e : σ[j]? with
    | none => rw [e] at hj; cases hj
    | some y => exact (List.getElem?_eq_some_iff.mp e).1
  refine loopL (fun _ σ2 H2 => (∃ y, σ2 = σ.set j y) ∧ Ex H H2) ⟨set_self hj, Evl.Ex.refl H⟩ (fun i σ2 H2 _ ⟨_, e⟩ => ex_l e s) ?_ ?_
  · rintro i x σ2 H2 hi ⟨⟨y, rfl⟩, e⟩
    show tb _ ((σ.set j y).set j (some x)) H2
    rw [List.set_set]
    exact hs i x H2 hi e
  · rintro σ2 H2 ⟨⟨y, rfl⟩, e⟩
    exact hd y H2 e
theorem w_while {c : TT} (W : Nat → L2.St → Hp → Prop) (m0 : Nat) (h0 : W m0 σ H) (hs : ∀ m σ H, W m σ H → c σ H fun b H1 => if b = true then ∃ N : L2.St → Hp → Prop, (∀ σ' H', N σ' H' → ∃ m', m' < m ∧ W m' σ' H') ∧ tb { D with nx := N, ct := N, bk := D.nx } σ H1 else D.nx σ H1) : tWhile c tb D σ H := ⟨W, ⟨m0, h0⟩, hs⟩
theorem w_exN {W : Nat → L2.St → Hp → Prop} {m : Nat} (h : tb { D with nx := fun σ' H' => ∃ m', m' < m ∧ W m' σ' H', ct := fun σ' H' => ∃ m', m' < m ∧ W m' σ' H', bk := D.nx } σ H) : ∃ N : L2.St → Hp → Prop, (∀ σ' H', N σ' H' → ∃ m', m' < m ∧ W m' σ' H') ∧ tb { D with nx := N, ct := N, bk := D.nx } σ H := ⟨_, fun _ _ h => h, h⟩
end

/-! ### data -/
section
variable {K : PySem.W.Frag} {H H' : Hp} {Q : VK}
mutual
theorem Dp.mono (x : Ex H H') : ∀ {v : V} {d : PyData}, Dp K H v d → Dp K H' v d
  | _, _, .non => .non
  | _, _, .bl b => .bl b
  | _, _, .int i => .int i
  | _, _, .str s => .str s
  | _, _, .lst s h => .lst (ex_l x s) (DpAll.mono x h)
  | _, _, .tup s h => .tup (ex_t x s) (DpAll.mono x h)
theorem DpAll.mono (x : Ex H H') : ∀ {vs : List V} {ds : List PyData}, DpAll K H vs ds → DpAll K H' vs ds
  | _, _, .nil => .nil
  | _, _, .cons h t => .cons (Dp.mono x h) (DpAll.mono x t)
end
theorem w_neSame {x y : V} {d : PyData} (h1 : Dp K H x d) (h2 : Dp K H y d) (s : SeqAt.shaped d = true) (h : Q (.bl false) H) : rNeA K x y H Q :=
  w_neD h1 h2 s s (by rw [SeqAt.eqv_refl d (SeqAt.canLay_of_shaped s)]; exact h)
theorem w_eqSame {x y : V} {d : PyData} (h1 : Dp K H x d) (h2 : Dp K H y d) (s : SeqAt.shaped d = true) (h : Q (.bl true) H) : rEqA K x y H Q :=
  w_eqD h1 h2 s s (by rw [SeqAt.eqv_refl d (SeqAt.canLay_of_shaped s)]; exact h)
theorem dpAll_bl (bs : List Bool) : DpAll K H (bs.map V.bl) (bs.map PyData.bool) := by
  induction bs with
  | nil => exact .nil
  | cons b r ih => exact .cons (.bl b) ih
theorem dp_bools (bs : List Bool) {p : Addr} {ys : List V} (h : H p = some (.lst ys)) (e : ys = bs.map V.bl) : Dp K H (.ref p) (.list (bs.map PyData.bool)) := .lst (SqL.of (e ▸ h)) (dpAll_bl bs)
theorem dpAll_int (bs : List Int) : DpAll K H (bs.map V.int) (bs.map PyData.int) := by
  induction bs with
  | nil => exact .nil
  | cons b r ih => exact .cons (.int b) ih
theorem shaped_flat {ds : List PyData} (h : ∀ d ∈ ds, d.canLay0 = true ∧ d.depth = 0) : SeqAt.shaped (.list ds) = true := by
  have h1 : ∀ ds : List PyData, (∀ d ∈ ds, d.canLay0 = true ∧ d.depth = 0) → PyData.canLayAll0 ds = true ∧ PyData.depthAll ds = 0 := by
    intro ds h
    induction ds with
    | nil => exact ⟨rfl, rfl⟩
    | cons d r ih =>
      obtain ⟨a, b⟩ := h d (List.mem_cons_self ..)
      obtain ⟨c, e⟩ := ih fun x hx => h x (List.mem_cons_of_mem _ hx)
      exact ⟨by simp [PyData.canLayAll0, a, c], by simp [PyData.depthAll, b, e]⟩
  obtain ⟨a, b⟩ := h1 ds h
  unfold SeqAt.shaped
  rw [Bool.and_eq_true]
  exact ⟨by simp [PyData.canLay0, a], by simp [PyData.depth, b]⟩
end

/-! ### how many bits -/
theorem bits_lt {z : Int} {n : Nat} (h : Builtin.Int.intBits z ≤ n) : z.natAbs < 2 ^ n := by
  unfold Builtin.Int.intBits at h
  split at h
  · rename_i e
    have e2 : z = 0 := by simpa using e
    have : z.natAbs = 0 := by omega
    rw [this]; exact Nat.two_pow_pos n
  · rename_i e
    have h1 : z.natAbs < 2 ^ (z.natAbs.log2 + 1) := Nat.lt_log2_self
    exact Nat.lt_of_lt_of_le h1 (Nat.pow_le_pow_right (by decide) h)
theorem lt_bits {z : Int} {n : Nat} (h : z.natAbs < 2 ^ n) : Builtin.Int.intBits z ≤ n := by
  unfold Builtin.Int.intBits
  split
  · omega
  · rename_i e
    have e2 : z ≠ 0 := by simpa using e
    have h0 : z.natAbs ≠ 0 := by omega
    have := (Nat.log2_lt h0).mpr h
    omega
theorem bits_mul {a b : Int} {m n : Nat} (ha : Builtin.Int.intBits a ≤ m) (hb : Builtin.Int.intBits b ≤ n) : Builtin.Int.intBits (a * b) ≤ m + n := by
  apply lt_bits
  rw [Int.natAbs_mul, Nat.pow_add]
  exact Nat.mul_lt_mul'' (bits_lt ha) (bits_lt hb)
theorem bits_add {a b : Int} {m : Nat} (ha : Builtin.Int.intBits a ≤ m) (hb : Builtin.Int.intBits b ≤ m) : Builtin.Int.intBits (a + b) ≤ m + 1 := by
  apply lt_bits
  have h1 := bits_lt ha
  have h2 := bits_lt hb
  rw [Nat.pow_succ]
  omega
theorem bits_div {a : Int} {b : Int} {m : Nat} (ha : Builtin.Int.intBits a ≤ m) : Builtin.Int.intBits (a / b) ≤ m + 1 := by
  apply lt_bits
  have h1 := bits_lt ha
  have h2 := Int.natAbs_ediv_le_natAbs a b
  rw [Nat.pow_succ]
  omega
theorem bits_mono {a : Int} {m n : Nat} (h : Builtin.Int.intBits a ≤ m) (l : m ≤ n) : Builtin.Int.intBits a ≤ n := Nat.le_trans h l

end Tw

set_option Elab.async false
set_option linter.all false
set_option maxRecDepth 100000
set_option maxHeartbeats 4000000
namespace Tw
open PySem PySem.Spec PyProof.Rows L2
open Evl (Ex ex_l ex_t fresh_back sz_of sz_lt)

/-! ### dicts whose keys are ints; the truth of a list; what is dead -/
theorem hu1 {n : Nat} (h : n + 64 < cLine) : n + 1 < cLine := Nat.lt_of_le_of_lt (Nat.add_le_add_left (by decide : 1 ≤ 64) _) h
def rInD1 : R2 := fun y x H Q => ∃ a o, x = .ref a ∧ DGet H a y o ∧ Q (.bl o.isSome) H
def rNInD1 : R2 := fun y x H Q => ∃ a o, x = .ref a ∧ DGet H a y o ∧ Q (.bl (!o.isSome)) H
section
variable {X : Cx}
theorem op_in_d1 (hu : X.A.units + 1 < cLine) : OpR X (compareOp .In) rInD1 := by
  intro pins s σ H y x v u Q I ry rx h
  obtain ⟨a, o, rfl, g, q⟩ := h
  obtain rfl : u = Value.ref a := rx
  exact d_in hu I g ry fun s3 I3 => ⟨.bl o.isSome, H, I3, rfl, q⟩
theorem op_notin_d1 (hu : X.A.units + 1 < cLine) : OpR X (compareOp .NotIn) rNInD1 := by
  intro pins s σ H y x v u Q I ry rx h
  obtain ⟨a, o, rfl, g, q⟩ := h
  obtain rfl : u = Value.ref a := rx
  exact d_notIn hu I g ry fun s3 I3 => ⟨.bl (!o.isSome), H, I3, rfl, q⟩
def tTru (K : PySem.W.Frag) (te : TE) : TT := fun σ H Q => te σ H fun x H1 => ∃ k, TruV K x H1 k ∧ Q k H1
theorem pt_truthK {K : PySem.W.Frag} (h : X.K = K) {a : Expr} {ta : TE} (ha : PE X a ta) (he : ∀ whole, isTrue a X.env whole = (do let v ← whole; standAt a.pos; holding [v] (truthy v))) : PT X a (tTru K ta) := h ▸ pt_truth ha he
/-- a statement that is not come to -/
def tDead : TS := fun _ _ _ => False
theorem ps_dead {st : Stmt} : PS X st tDead := ⟨fun _ _ _ _ _ _ h => False.elim h⟩
theorem pss_dead {st : List Stmt} : PSs X st tDead := ⟨fun _ _ _ _ _ _ h => False.elim h⟩
end
section
variable {K : PySem.W.Frag} {σ : L2.St} {H : Hp} {Q : VK} {B : Bool → Hp → Prop} {D : Ends} {te td ty tv : TE} {kvs : List (Key × V)} {a : Addr} {i : Int} {v : V}
theorem w_inD (e : H a = some (.dK kvs)) (h : Q (.bl (valV kvs (.inl i)).isSome) H) : rInD1 (.int i) (.ref a) H Q := ⟨a, _, rfl, DGet.k (k := .inl i) e, h⟩
theorem w_notInD (e : H a = some (.dK kvs)) (h : Q (.bl (!(valV kvs (.inl i)).isSome)) H) : rNInD1 (.int i) (.ref a) H Q := ⟨a, _, rfl, DGet.k (k := .inl i) e, h⟩
theorem w_tru (h : te σ H fun x H1 => ∃ k, TruV K x H1 k ∧ B k H1) : tTru K te σ H B := h
theorem w_truL {R : Bool → Prop} {xs : List V} (s : SqL K H a xs) (h : R (!xs.isEmpty)) : ∃ k, TruV K (.ref a) H k ∧ R k := ⟨_, .inl ⟨xs, s, rfl⟩, h⟩
theorem w_dget (h : td σ H fun x H1 => ty σ H1 fun y H2 => ∃ a v, x = .ref a ∧ DGet H2 a y (some v) ∧ Q v H2) : tDGet td ty σ H Q := h
theorem w_dgetE {F : V → Hp → Prop} (e : H a = some (.dK kvs)) (hv : valV kvs (.inl i) = some v) (h : F v H) : ∃ a' v', V.ref a = .ref a' ∧ DGet H a' (.int i) (some v') ∧ F v' H := ⟨a, v, rfl, by rw [← hv]; exact DGet.k (k := .inl i) e, h⟩
theorem w_dput (h : tv σ H fun v H1 => td σ H1 fun x H2 => ty σ H2 fun y H3 => ∃ a H4, x = .ref a ∧ DPut H3 a y v H4 ∧ D.nx σ H4) : sDPut td ty tv D σ H := h
theorem w_dputE {F : Hp → Prop} (e : H a = some (.dK kvs)) (hl : kvs.length < 1000000) (h : F (upd H a (.dK (putK kvs (.inl i) v)))) : ∃ a' H4, V.ref a = .ref a' ∧ DPut H a' (.int i) v H4 ∧ F H4 := ⟨a, _, rfl, DPut.k (k := .inl i) e (Nat.lt_of_lt_of_le hl (by decide)), h⟩
theorem w_dnew (h : ∀ p, H p = none → Q (.ref p) (upd H p (.dK []))) : tDNewK σ H Q := h
theorem w_disp1 {j : Int} {w : V} (h : ∀ p, H p = none → Q (.ref p) (upd H p (.dK [(.inl j, w)]))) : tDisp [(tC (.int j), tC w)] σ H Q := fun p hp => ⟨upd_same, [(.inl j, w)], rfl, (show 1 ≤ 15 by decide), by
  rw [upd_upd]
  exact h p hp⟩
theorem w_aug {j : Nat} {x : V} {ti : TIp} (e : σ[j]? = some (some x)) (h : te σ H fun y H1 => ti x y H1 fun z H2 => D.nx (σ.set j (some z)) H2) : tAug j te ti D σ H := ⟨x, e, h⟩
theorem w_ipI {f : Int → Int → Int} {m n : Int} (h : Q (.int (f m n)) H) : ipI f (.int m) (.int n) H Q := ⟨m, n, rfl, rfl, h⟩
theorem w_extend {b : Addr} {xs zs : List V} (e1 : H a = some (.lst xs)) (e2 : H b = some (.lst zs)) (hz : xs.length + zs.length ≤ 1000000) (h : Q .non (upd H a (.lst (xs ++ zs)))) : rExtend (.ref a) [.ref b] H Q := ⟨a, b, xs, zs, rfl, rfl, e1, e2, Nat.le_trans hz (by decide), h⟩
theorem w_tt {b : Bool} {A C : Prop} (e : b = true) (h : A) : if b = true then A else C := by rw [if_pos e]; exact h
theorem w_ff {b : Bool} {A C : Prop} (e : b = false) (h : C) : if b = true then A else C := by rw [if_neg (by rw [e]; decide)]; exact h
end
theorem ex_del2 {H H' : Hp} {l : Addr} (x : Ex H H') (h : H l = none) : Ex H (del H' l) := fun a o e => by
  rw [del_ne (ne_of_none e h)]; exact x a o e
theorem keyI_ne {i j : Int} (h : i ≠ j) : (Sum.inl i : Key) ≠ Sum.inl j := fun e => h (Sum.inl.inj e)
theorem valV_putI (kvs : List (Key × V)) (i j : Int) (y : V) : valV (putK kvs (.inl i) y) (.inl j) = if j = i then some y else valV kvs (.inl j) := by
  rw [valV_put]
  by_cases h : j = i
  · rw [if_pos h, if_pos (by rw [h])]
  · rw [if_neg h, if_neg (keyI_ne h)]

section
variable {P : Program} {w : World} {K : PySem.W.Frag} {mg : Str → Option Value} {base : Heap}
theorem Cal.mono {x : Str} {j k : Nat} {ps : List Str} {sp : Sp} (c : Cal P w K mg base x j ps sp) (h : j ≤ k) : Cal P w K mg base x k ps sp := by
  obtain ⟨f, fd, F, r⟩ := c.ex
  exact ⟨f, fd, F.mono h, r⟩
end
end Tw

set_option Elab.async false
set_option linter.all false
set_option maxRecDepth 100000
set_option maxHeartbeats 4000000
namespace Tw
open PySem PySem.Spec PyProof.Rows L2
open Evl (Ex ex_l ex_t fresh_back sz_of sz_lt)
local macro_rules | `(tactic| walk_at "t_hp") => `(tactic| first
  | assumption
  | exact upd_same
  | (refine' hp_ne ?hne ?hrest; (case hne => walk_at "t_ne"); (case hrest => walk_at "t_hp"))
  | (refine' hp_ex ?hx ?hrest; (case hx => assumption); (case hrest => walk_at "t_hp")))
local macro_rules | `(tactic| walk_at "t_ne") => `(tactic| first
  | assumption
  | exact Ne.symm (by assumption)
  | (refine' ne_of_none ?h1 ?h2; (case h2 => assumption); (case h1 => walk_at "t_hp"))
  | (refine' Ne.symm (ne_of_none ?h1 ?h2); (case h2 => assumption); (case h1 => walk_at "t_hp")))
local macro_rules | `(tactic| walk_at "t_none") => `(tactic| first
  | assumption
  | (refine' fresh_back ?e ?n; (case n => assumption); (case e => walk_at "t_ex")))
local macro_rules | `(tactic| walk_at "t_ex") => `(tactic| first
  | assumption
  | exact Evl.Ex.refl _
  | (refine' ex_new ?n ?e; (case n => assumption); (case e => walk_at "t_ex"))
  | (refine' Evl.Ex.mut ?e ?n; (case n => walk_at "t_none"); (case e => walk_at "t_ex"))
  | (refine' Evl.Ex.trans ?a ?b; (case b => assumption); (case a => walk_at "t_ex")))
local macro_rules | `(tactic| walk_at "t_sq") => `(tactic| first
  | assumption
  | (refine' SqL.of ?h; (case h => walk_at "t_hp"))
  | (refine' ex_l ?e ?s; (case s => assumption); (case e => walk_at "t_ex")))
local macro_rules | `(tactic| walk_at "t_sqt") => `(tactic| first
  | assumption
  | (refine' SqT.of ?h; (case h => walk_at "t_hp"))
  | (refine' ex_t ?e ?s; (case s => assumption); (case e => walk_at "t_ex")))
local macro_rules | `(tactic| walk_at "t_mul") => `(tactic| first
  | assumption
  | exact Or.inl (Or.inl ⟨by decide, by decide⟩)
  | exact Or.inl (Or.inr ⟨by decide, by decide⟩)
  | exact Or.inl (Or.inl ⟨by omega, by omega⟩)
  | exact Or.inl (Or.inr ⟨by omega, by omega⟩))
local macro_rules | `(tactic| walk_at "t_c") => `(tactic| first
  | assumption
  | decide
  | (show (0 : Int) < _; decide)
  | (show (0 : Int) < _; omega)
  | exact ⟨by decide, by decide⟩
  | exact ⟨by decide, by decide, by decide⟩
  | exact ⟨by omega, by omega⟩
  | exact ⟨by omega, by omega, by omega, by omega⟩)
local macro_rules | `(tactic| walk_at "t_w") => `(tactic| first
  | (with_reducible refine w_seq ?_)
  | (with_reducible refine w_asg ?_)
  | (with_reducible refine w_gName ?_)
  | (with_reducible refine w_nx ?_)
  | (with_reducible refine w_rt ?_)
  | (with_reducible refine w_ct ?_)
  | (with_reducible refine w_bk ?_)
  | (with_reducible refine w_ret ?_)
  | (with_reducible refine w_retN ?_)
  | (with_reducible refine w_drop ?_)
  | (with_reducible refine w_ifS ?_)
  | (with_reducible refine w_next ?_)
  | (with_reducible refine w_break ?_)
  | (with_reducible refine w_cont ?_)
  | ((with_reducible refine' w_var ?h ?_); (case h => rfl))
  | (with_reducible refine w_c ?_)
  | (with_reducible refine w_op ?_)
  | (with_reducible refine w_un ?_)
  | (with_reducible refine w_I0 ?_)
  | ((with_reducible refine' w_I ?c ?_); (case c => walk_at "t_c"))
  | (with_reducible refine w_U ?_)
  | (with_reducible refine w_addI ?_)
  | ((with_reducible refine' w_addL ?h1 ?h2 ?hz ?_); (case h1 => walk_at "t_hp"); (case h2 => walk_at "t_hp"); (case hz => walk_at "t_z"))
  | ((with_reducible refine' w_mulI ?c ?_); (case c => walk_at "t_mul"))
  | ((with_reducible refine' w_mulL1 ?h1 ?b1 ?b2 ?_); (case h1 => walk_at "t_hp"); (case b1 => walk_at "t_z"); (case b2 => walk_at "t_z"))
  | ((with_reducible refine' w_mulL ?h1 ?b1 ?b2 ?hz ?_); (case h1 => walk_at "t_hp"); (case b1 => walk_at "t_z"); (case b2 => walk_at "t_z"); (case hz => walk_at "t_z"))
  | (with_reducible refine w_notIB ?_)
  | (with_reducible refine w_notBB ?_)
  | (with_reducible refine w_notN ?_)
  | (with_reducible refine w_isBB ?_)
  | (with_reducible refine w_isN ?_)
  | (with_reducible refine w_eqI ?_)
  | (with_reducible refine w_neI ?_)
  | (with_reducible refine w_eqB ?_)
  | (with_reducible refine w_neB ?_)
  | (with_reducible refine w_eqS ?_)
  | (with_reducible refine w_neS ?_)
  | (with_reducible refine w_test ?_)
  | (with_reducible refine w_B ?_)
  | (with_reducible refine w_exB ?_)
  | (with_reducible refine w_and ?_)
  | (with_reducible refine w_or ?_)
  | (with_reducible refine w_not ?_)
  | (with_reducible refine w_andV ?_)
  | (with_reducible refine w_orV ?_)
  | (with_reducible refine w_notV ?_)
  | (with_reducible refine w_bl ?_)
  | (with_reducible refine w_if ?_)
  | (with_reducible refine w_nil ?_)
  | (with_reducible refine w_cons ?_)
  | (with_reducible refine w_cb ?_)
  | (with_reducible refine w_call ?_)
  | (with_reducible refine w_tup ?_)
  | (with_reducible refine w_lst ?_)
  | ((with_reducible refine' w_fin ?hz ?_); (case hz => (simp only [List.length_cons, List.length_nil]; decide)))
  | ((with_reducible refine' w_len ?s ?_); (case s => walk_at "t_sq"))
  | ((with_reducible refine' w_lenT ?s ?_); (case s => walk_at "t_sqt"))
  | (with_reducible refine w_intI ?_)
  | (with_reducible refine w_intB ?_)
  | ((with_reducible refine' w_list ?s ?_); (case s => walk_at "t_sq"))
  | (with_reducible refine w_max ?_)
  | (with_reducible refine w_min ?_)
  | (with_reducible refine w_abs ?_)
  | (with_reducible refine w_sl ?_)
  | (with_reducible refine w_noPart ?_)
  | (with_reducible refine w_part ?_)
  | (with_reducible refine w_exI ?_)
  | ((with_reducible refine' w_slL ?s ?_); (case s => walk_at "t_sq"))
  | ((with_reducible refine' w_ixLI ?s ?b ?_); (case s => walk_at "t_sq"); (case b => walk_at "t_lt"))
  | ((with_reducible refine' w_ixL ?s ?e ?_); (case s => walk_at "t_sq"); (case e => walk_at "t_at"))
  | ((with_reducible refine' w_ixT ?s ?e ?_); (case s => walk_at "t_sqt"); (case e => walk_at "t_at"))
  | (with_reducible refine w_gSub ?_)
  | ((with_reducible refine' w_setLI ?e ?b ?_); (case e => walk_at "t_hp"); (case b => walk_at "t_lt"))
  | ((with_reducible refine' w_setL ?e ?b ?_); (case e => walk_at "t_hp"); (case b => walk_at "t_ixn"))
  | (with_reducible refine w_bm ?_)
  | (with_reducible refine w_bm0 ?_)
  | ((with_reducible refine' w_tyL ?e ?_); (case e => walk_at "t_sq"))
  | ((with_reducible refine' w_app ?e ?hz ?_); (case e => walk_at "t_hp"); (case hz => walk_at "t_z"))
  | (with_reducible refine w_iteT ?_)
  | (with_reducible refine w_iteF ?_)
  | (with_reducible refine w_iteNT ?_)
  | (with_reducible refine w_iteNF ?_)
  | (with_reducible refine w_for ?_)
  | (with_reducible refine w_iList ?_)
  | ((with_reducible refine' w_exL ?s ?_); (case s => walk_at "t_sq"))
  | (with_reducible refine w_iTup ?_)
  | ((with_reducible refine' w_exT ?s ?_); (case s => walk_at "t_sqt"))
  | (with_reducible refine w_iRng1 ?_)
  | ((with_reducible refine w_exR1 ?b ?_); (case b => walk_at "t_c"))
  | (with_reducible refine w_iRng2 ?_)
  | ((with_reducible refine w_exR2 ?b ?_); (case b => walk_at "t_c"))
  | (with_reducible refine w_yes ?_)
  | ((with_reducible refine w_pos ?p ?_); (case p => walk_at "t_p"))
  | ((with_reducible refine w_neg ?p ?_); (case p => walk_at "t_p"))
  | ((with_reducible refine w_posN ?p ?_); (case p => walk_at "t_p"))
  | ((with_reducible refine w_negN ?p ?_); (case p => walk_at "t_p"))
  | ((with_reducible refine' w_notInL ?s ?_); (case s => walk_at "t_sq"))
  | ((with_reducible refine' w_inL ?s ?_); (case s => walk_at "t_sq"))
  | ((with_reducible refine' w_sum ?s ?_); (case s => walk_at "t_sq"))
  | (with_reducible refine w_isiI ?_)
  | ((with_reducible refine' w_isiL ?e ?_); (case e => walk_at "t_ty"))
  | ((with_reducible refine' w_isiT ?e ?_); (case e => walk_at "t_ty"))
  | (with_reducible intro p hp_new))
local macro_rules | `(tactic| walk_at "t_ty") => `(tactic| first | assumption | (refine' tyx_l ?e; (case e => walk_at "t_hp")) | (refine' tyx_t ?e; (case e => walk_at "t_hp")))
local macro_rules | `(tactic| walk_at "t_z") => `(tactic| first | assumption | decide | omega | (simp only [List.length_cons, List.length_nil, List.length_map, List.length_append, List.length_replicate]; first | done | decide | omega))
local macro_rules | `(tactic| walk_at "t_at") => `(tactic| first | assumption | rfl)
local macro_rules | `(tactic| walk_at "t_ixn") => `(tactic| first | assumption | rfl)
local macro_rules | `(tactic| walk_at "t_ev") => `(tactic| (intro H1 e Q q; (repeat walk_at "t_w"); exact q _ (by walk_at "t_ex")))
local macro_rules | `(tactic| walk_at "t_p") => `(tactic| first | assumption | decide | decide +kernel)
local macro_rules | `(tactic| walk_at "t_lt") => `(tactic| first | assumption | omega | (simp only [List.length_set, List.length_map, List.length_append]; first | assumption | omega))
def topS (i : Nat) : Stmt := PySem.Challenge.pw_threadslide_k02_hung_up_once.main.body.getD i (.Pass ⟨0, 0, 0, 0⟩)
structure Txt (K : PySem.W.Frag) (mg : Str → Option Value) : Prop where
  b_int : mg "int" = none
  b_isinstance : mg "isinstance" = none
  b_len : mg "len" = none
  b_list : mg "list" = none
  b_range : mg "range" = none

abbrev s_law_at : Stmt := topS 6
theorem sc_law_at : FnScope ["_law_script", "_law_place"] ["_law_script", "_law_place"] (defScope s_law_at) := ⟨rfl, rfl, rfl, by decide +kernel, rfl, by decide +kernel, by decide +kernel⟩

abbrev s_law_is_int : Stmt := topS 7
theorem sc_law_is_int : FnScope ["_law_value"] ["_law_value"] (defScope s_law_is_int) := ⟨rfl, rfl, rfl, by decide +kernel, rfl, by decide +kernel, by decide +kernel⟩

abbrev s_law_words_are : Stmt := topS 8
theorem sc_law_words_are : FnScope ["_law_found", "_law_due", "_law_k"] ["_law_found", "_law_due"] (defScope s_law_words_are) := ⟨rfl, rfl, rfl, by decide +kernel, rfl, by decide +kernel, by decide +kernel⟩

abbrev s_law_number : Stmt := topS 9
theorem sc_law_number : FnScope ["_law_seed"] ["_law_seed"] (defScope s_law_number) := ⟨rfl, rfl, rfl, by decide +kernel, rfl, by decide +kernel, by decide +kernel⟩

/-! ### the law's own helpers -/
def spAt (K : PySem.W.Frag) : Sp := fun vs H Q _ => ∃ (a : Addr) (i : Int) (ns : List Int), vs = [.ref a, .int i] ∧ SqL K H a (ns.map V.int) ∧ ns.length ≤ 1000 ∧ 0 ≤ i ∧ Evl.RetV (.int (ns.getD i.toNat 0)) H Q
theorem w_at {K : PySem.W.Frag} {H : Hp} {Q : VK} {E : XK} {a : Addr} {i : Int} {ns : List Int} (s : SqL K H a (ns.map V.int)) (hl : ns.length ≤ 1000) (h0 : 0 ≤ i) (h : ∀ H2, Ex H H2 → Q (.int (ns.getD i.toNat 0)) H2) : spAt K ([.ref a, .int i] ++ []) H Q E := ⟨a, i, ns, rfl, s, hl, h0, h⟩
theorem cut_at (ns : List Int) (i : Int) (h0 : 0 ≤ i) : atI (cutV (ns.map V.int) (some i) (some (i + 1)) ++ [V.int 0]) 0 = some (V.int (ns.getD i.toNat 0)) := by
  obtain ⟨n, rfl⟩ : ∃ n : Nat, i = (n : Int) := ⟨i.toNat, by omega⟩
  have e1 : ((n : Int) + 1) = ((n + 1 : Nat) : Int) := by omega
  unfold cutV
  rw [e1, HT.sIx_nat, HT.sIx_nat, Int.toNat_natCast]
  have g : ∀ (l : List V) (x : V), l[0]? = some x → atI l 0 = some x := fun l x h => atI_nat (j := 0) h
  apply g
  by_cases h : n < ns.length
  · have e2 : min n (ns.map V.int).length = n := by rw [List.length_map]; omega
    have e3 : min (n + 1) (ns.map V.int).length = n + 1 := by rw [List.length_map]; omega
    rw [e2, e3, show n + 1 - n = 1 by omega]
    rw [List.getElem?_append_left (by rw [List.length_take, List.length_drop, List.length_map]; omega), List.getElem?_take_of_lt (by omega), List.getElem?_drop, List.getElem?_map]
    simp [h]
  · have e2 : min n (ns.map V.int).length = ns.length := by rw [List.length_map]; omega
    have e3 : min (n + 1) (ns.map V.int).length = ns.length := by rw [List.length_map]; omega
    rw [e2, e3, Nat.sub_self, List.take_zero]
    simp [List.getD, List.getElem?_eq_none (by omega : ns.length ≤ n)]
local macro_rules | `(tactic| walk_at "t_at") => `(tactic| exact cut_at _ _ (by assumption))
section
variable {P : Program} {w : World} {K : PySem.W.Frag} {mg : Str → Option Value} {base : Heap}
theorem c_law_at (T : Txt K mg) (D : DefAt K mg "_law_at" "_law_at" s_law_at) : Cal P w K mg base "_law_at" 1 ["_law_script", "_law_place"] (spAt K) := by
  refine Cal.of D sc_law_at (fun vs H Q E h => ?_) (fun _ _ _ _ _ _ us hl => match us, hl with | [_, _], _ => rfl) (fun f cdv A outer s H vs Q E hr h => ?_)
  · obtain ⟨a, i, ns, rfl, _⟩ := h; rfl
  · obtain ⟨a, i, ns, rfl, hS, hl, h0, k⟩ := h
    have hc := L2.cutV_length (ns.map V.int) (some i) (some (i + 1))
    rw [List.length_map] at hc
    refine ⟨_, (pss_one (ps_ret (pe_ix (ix_seqK (K := K) rfl) (pe_op op_addA (pe_slice (sl_AK (K := K) rfl) (pv 0) (po_some (pv 1)) (po_some (pe_op op_addA (pv 1) pe_int))) (pe_lst (pa_cons pe_int pa_nil))) pe_int (fun _ _ => rfl)))), ?_⟩
    repeat walk_at "t_w"
    refine k _ ?_
    walk_at "t_ex"
end
section
variable {P : Program} {w : World} {K : PySem.W.Frag} {mg : Str → Option Value} {base : Heap}
def spIsInt : Sp := fun vs H Q _ => ∃ i : Int, vs = [.int i] ∧ Evl.RetV (.bl true) H Q
theorem w_isInt {H : Hp} {Q : VK} {E : XK} {i : Int} (h : ∀ H2, Ex H H2 → Q (.bl true) H2) : spIsInt ([.int i] ++ []) H Q E := ⟨i, rfl, h⟩
theorem c_law_is_int (T : Txt K mg) (D : DefAt K mg "_law_is_int" "_law_is_int" s_law_is_int) : Cal P w K mg base "_law_is_int" 1 ["_law_value"] spIsInt := by
  refine Cal.of D sc_law_is_int (fun vs H Q E h => ?_) (fun _ _ _ _ _ _ us hl => match us, hl with | [_], _ => rfl) (fun f cdv A outer s H vs Q E hr h => ?_)
  · obtain ⟨i, rfl, _⟩ := h; rfl
  · obtain ⟨i, rfl, k⟩ := h
    refine ⟨_, (pss_one (ps_ret (pe_and (pe_callB (call_isiK' (K := K) rfl) (by rfl) T.b_isinstance (by decide +kernel) (pa_cons (pv 0) (pa_cons (pe_bltn (v := .ty "int") (by rfl) T.b_int (by decide +kernel) rfl) pa_nil))) (pe_and (pe_cmpR op_notA (pv 0) pe_bl (nomark _)) (pe_one (pe_cmpR op_notA (pv 0) pe_bl (nomark _))))))), ?_⟩
    repeat walk_at "t_w"
    exact k _ (by walk_at "t_ex")
end
local macro_rules | `(tactic| walk_at "t_w") => `(tactic| first
  | ((with_reducible refine' w_at ?s ?hl ?h0 ?_); (case s => walk_at "t_sq"); (case hl => walk_at "t_z"); (case h0 => walk_at "t_z"))
  | (with_reducible refine w_isInt ?_))
section
variable {P : Program} {w : World} {K : PySem.W.Frag} {mg : Str → Option Value} {base : Heap}
def spWordsAre (K : PySem.W.Frag) : Sp := fun vs H Q _ => ∃ (a b : Addr) (xs : List Int), vs = [.ref a, .ref b] ∧ TyX K H (.ref a) (.type "list") ∧ SqL K H a (xs.map V.int) ∧ SqL K H b (xs.map V.int) ∧ xs.length ≤ 1000 ∧ Evl.RetV (.bl true) H Q
theorem c_law_words_are (T : Txt K mg) (D : DefAt K mg "_law_words_are" "_law_words_are" s_law_words_are) (c_law_is_int : Cal P w K mg base "_law_is_int" 1 ["_law_value"] spIsInt) : Cal P w K mg base "_law_words_are" 2 ["_law_found", "_law_due"] (spWordsAre K) := by
  refine Cal.of D sc_law_words_are (fun vs H Q E h => ?_) (fun _ _ _ _ _ _ us hl => match us, hl with | [_, _], _ => rfl) (fun f cdv A outer s H vs Q E hr h => ?_)
  · obtain ⟨a, b, xs, rfl, _⟩ := h; rfl
  · obtain ⟨a, b, xs, rfl, hT, hA, hB, hl, k⟩ := h
    have hu : _ + 64 < cLine := hr.units
    refine ⟨_, (pss_cons (ps_if (PW.pt (pw_or (pt_not (pt_val (pe_callB (call_isiK' (K := K) rfl) (by rfl) T.b_isinstance (by decide +kernel) (pa_cons (pv 0) (pa_cons (pe_bltn (v := .ty "list") (by rfl) T.b_list (by decide +kernel) rfl) pa_nil))))) (pw_or1 (pt_cmpR (op_neK (K := K) rfl hu) (pe_callB (call_lenK (K := K) rfl) (by rfl) T.b_len (by decide +kernel) (pa_cons (pv 0) pa_nil)) (pe_callB (call_lenK (K := K) rfl) (by rfl) T.b_len (by decide +kernel) (pa_cons (pv 1) pa_nil)) (nomark _))))) (pss_one (ps_ret pe_bl)) pss_nil)
      (pss_one (ps_ret (pe_cmpR (op_eqK (K := K) rfl hu) (pe_callB (call_lenK (K := K) rfl) (by rfl) T.b_len (by decide +kernel) (pa_cons (pe_lc (own := [("_law_k", 2)]) (g := gName 2) rfl sc_law_words_are.nd (pi_range1 rfl T.b_range (pa_cons (pe_callB (call_lenK (K := K) rfl) (by rfl) T.b_len (by decide +kernel) (pa_cons (pv 1) pa_nil)) pa_nil)) (blkOk_by (own := [("_law_k", 2)]) (N := ["_law_found", "_law_due", "_law_k"]) (sc := defScope s_law_words_are) (by decide +kernel)) (fun _ _ _ _ _ => pg_name (i := 2) sc_law_words_are.nd rfl (Or.inl rfl)) (fun _ _ _ _ _ => (pts_one (PW.pt (pw_or (pt_not (pt_val (pe_callC c_law_is_int (hr.mono (by decide)) rfl (pa_cons (pe_ix (ix_seqK (K := K) rfl) (pv 0) (pv 2) (fun _ _ => rfl)) pa_nil)))) (pw_or1 (pt_cmpR (op_neK (K := K) rfl hu) (pe_ix (ix_seqK (K := K) rfl) (pv 0) (pv 2) (fun _ _ => rfl)) (pe_ix (ix_seqK (K := K) rfl) (pv 1) (pv 2) (fun _ _ => rfl)) (nomark _))))))) (fun _ _ _ _ _ => (pv 2))) pa_nil)) pe_int (nomark _))))), ?_⟩
    repeat walk_at "t_w"
    refine w_negN rfl ?_
    repeat walk_at "t_w"
    refine w_lcR1 (n := ((xs.map V.int).length : Int)) (fun _ => false) (fun _ => .non) ?ha ?hn ?hw ?ht ?he ?hk
    case ha => walk_at "t_ev"
    case hn => rw [List.length_map]; omega
    case hw => intro x; rfl
    case ht =>
      intro i H1 e hi
      rw [List.length_map] at hi
      have hat := at_map (xs := xs) (i := i) (by omega)
      intro H2 e2 Q q
      repeat walk_at "t_w"
      rw [decide_eq_true rfl]
      exact q _ (by walk_at "t_ex")
    case he => intro i H1 e hi hf; cases hf
    case hk =>
      intro p H2 hp e h2
      rw [given_none] at h2
      repeat walk_at "t_w"
      exact k _ e
end
theorem w_wordsAre {K : PySem.W.Frag} {H : Hp} {Q : VK} {E : XK} {a b : Addr} {xs : List Int} (t : TyX K H (.ref a) (.type "list")) (s1 : SqL K H a (xs.map V.int)) (s2 : SqL K H b (xs.map V.int)) (hl : xs.length ≤ 1000) (h : ∀ H2, Ex H H2 → Q (.bl true) H2) : spWordsAre K ([.ref a, .ref b] ++ []) H Q E := ⟨a, b, xs, rfl, t, s1, s2, hl, h⟩
theorem w_words2 {K : PySem.W.Frag} {H : Hp} {Q : VK} {E : XK} {a b : Addr} {ys zs : List V} (xs : List Int) (e1 : H a = some (.lst ys)) (e2 : SqL K H b zs) (hy : ys = xs.map V.int) (hz : zs = xs.map V.int) (hl : xs.length ≤ 1000) (h : ∀ H2, Ex H H2 → Q (.bl true) H2) : spWordsAre K ([.ref a, .ref b] ++ []) H Q E :=
  ⟨a, b, xs, rfl, tyx_l e1, by rw [← hy]; exact SqL.of e1, by rw [← hz]; exact e2, hl, h⟩
/-- the number drawn from a seed -/
def lawNum (s : Int) : Int :=
  if s % 5 < 3 then s / 5 % 41 - 20
  else if s % 5 = 3 then (if s / 5 % 4 = 0 then 10 ^ 60 - 1 else if s / 5 % 4 = 1 then 1 - 10 ^ 60 else if s / 5 % 4 = 2 then 10 ^ 30 else 0)
  else s / 5 * 48271 ^ 12 % (2 * 10 ^ 60 - 1) - (10 ^ 60 - 1)
theorem p60 : (10 : Int) ^ 60 = 1000000000000000000000000000000000000000000000000000000000000 := by decide +kernel
theorem p30 : (10 : Int) ^ 30 = 1000000000000000000000000000000 := by decide +kernel
theorem lawNum_lt (s : Int) : -(10 ^ 60) < lawNum s ∧ lawNum s < 10 ^ 60 := by
  unfold lawNum
  rw [p60, p30]
  split
  · omega
  · split
    · split
      · omega
      · split
        · omega
        · split <;> omega
    · have h1 := Int.emod_nonneg (s / 5 * 48271 ^ 12) (show (2 * 1000000000000000000000000000000000000000000000000000000000000 - 1 : Int) ≠ 0 by omega)
      have h2 := Int.emod_lt_of_pos (s / 5 * 48271 ^ 12) (show (0 : Int) < 2 * 1000000000000000000000000000000000000000000000000000000000000 - 1 by omega)
      generalize s / 5 * 48271 ^ 12 % (2 * 1000000000000000000000000000000000000000000000000000000000000 - 1) = z at h1 h2 ⊢
      omega
theorem bits_lit {a : Int} {n : Nat} (h : (decide (Builtin.Int.intBits a ≤ n)) = true) : Builtin.Int.intBits a ≤ n := of_decide_eq_true h
theorem pick4 (e : Int) (h0 : 0 ≤ e) (h4 : e < 4) (a b c d : V) : atI [a, b, c, d] e = some (if e = 0 then a else if e = 1 then b else if e = 2 then c else d) := by
  obtain rfl | rfl | rfl | rfl : e = 0 ∨ e = 1 ∨ e = 2 ∨ e = 3 := by omega
  all_goals rfl
def spNumber : Sp := fun vs H Q _ => ∃ s : Int, vs = [.int s] ∧ Builtin.Int.intBits s ≤ 3000000 ∧ Evl.RetV (.int (lawNum s)) H Q
section
variable {P : Program} {w : World} {K : PySem.W.Frag} {mg : Str → Option Value} {base : Heap}
theorem w_number {H : Hp} {Q : VK} {E : XK} {i : Int} (hb : Builtin.Int.intBits i ≤ 3000000) (h : ∀ H2, Ex H H2 → Q (.int (lawNum i)) H2) : spNumber ([.int i] ++ []) H Q E := ⟨i, rfl, hb, h⟩
theorem c_law_number (T : Txt K mg) (D : DefAt K mg "_law_number" "_law_number" s_law_number) : Cal P w K mg base "_law_number" 1 ["_law_seed"] spNumber := by
  refine Cal.of D sc_law_number (fun vs H Q E h => ?_) (fun _ _ _ _ _ _ us hl => match us, hl with | [_], _ => rfl) (fun f cdv A outer s H vs Q E hr h => ?_)
  · obtain ⟨i, rfl, _⟩ := h; rfl
  · obtain ⟨i, rfl, hb, k⟩ := h
    have hu : _ + 64 < cLine := hr.units
    have hm : CMulA (i / 5) (48271 ^ Int.toNat 12) := Or.inr (Nat.le_trans (Nat.add_le_add (bits_div hb) (bits_lit (n := 200) (by decide +kernel))) (by decide))
    have hp := pick4 (i / 5 % 4) (by omega) (by omega) (V.int (10 ^ Int.toNat 60 - 1)) (V.int (1 - 10 ^ Int.toNat 60)) (V.int (10 ^ Int.toNat 30)) (V.int 0)
    refine ⟨_, (pss_cons (ps_if (pt_cmpR op_lt (pe_op op_mod (pv 0) pe_int) pe_int (nomark _)) (pss_one (ps_ret (pe_op op_sub (pe_op op_mod (pe_op op_fdiv (pv 0) pe_int) pe_int) pe_int))) pss_nil)
      (pss_cons (ps_if (pt_cmpR (op_eqK (K := K) rfl hu) (pe_op op_mod (pv 0) pe_int) pe_int (nomark _)) (pss_one (ps_ret (pe_ix (ix_seqK (K := K) rfl) (pe_lst (pa_cons (pe_op op_sub (pe_op op_pow pe_int pe_int) pe_int) (pa_cons (pe_op op_sub pe_int (pe_op op_pow pe_int pe_int)) (pa_cons (pe_op op_pow pe_int pe_int) (pa_cons pe_int pa_nil))))) (pe_op op_mod (pe_op op_fdiv (pv 0) pe_int) pe_int) (fun _ _ => rfl)))) pss_nil)
      (pss_one (ps_ret (pe_op op_sub (pe_op op_mod (pe_op op_mulA (pe_op op_fdiv (pv 0) pe_int) (pe_op op_pow pe_int pe_int)) (pe_op op_sub (pe_op op_mulA pe_int (pe_op op_pow pe_int pe_int)) pe_int)) (pe_op op_sub (pe_op op_pow pe_int pe_int) pe_int)))))), ?_⟩
    repeat walk_at "t_w"
    refine w_ite (fun h1 => ?_) (fun h1 => ?_)
    · repeat walk_at "t_w"
      have e : lawNum i = i / 5 % 41 - 20 := by unfold lawNum; rw [if_pos h1]
      rw [← e]
      exact k _ (by walk_at "t_ex")
    · repeat walk_at "t_w"
      refine w_ite (fun h2 => ?_) (fun h2 => ?_)
      · repeat walk_at "t_w"
        have e : V.int (lawNum i) = (if i / 5 % 4 = 0 then V.int (10 ^ Int.toNat 60 - 1) else if i / 5 % 4 = 1 then V.int (1 - 10 ^ Int.toNat 60) else if i / 5 % 4 = 2 then V.int (10 ^ Int.toNat 30) else V.int 0) := by
          unfold lawNum
          rw [if_neg h1, if_pos h2]
          split
          · rfl
          · split
            · rfl
            · split <;> rfl
        rw [← e]
        exact k _ (by walk_at "t_ex")
      · repeat walk_at "t_w"
        have e : lawNum i = i / 5 * 48271 ^ Int.toNat 12 % (2 * 10 ^ Int.toNat 60 - 1) - (10 ^ Int.toNat 60 - 1) := by
          unfold lawNum
          rw [if_neg h1, if_neg h2]
          rfl
        rw [← e]
        exact k _ (by walk_at "t_ex")
end
def spLaw (K : PySem.W.Frag) : Sp := fun vs H Q _ => ∃ (a : Addr) (ns : List Int), vs = [.ref a] ∧ SqL K H a (ns.map V.int) ∧ ns.length ≤ 63 ∧ (∀ z ∈ ns, Builtin.Int.intBits z ≤ 1048576) ∧ ∀ H', Q (.bl true) H'
theorem at_bits {ns : List Int} (h : ∀ z ∈ ns, Builtin.Int.intBits z ≤ 1048576) (i : Nat) : Builtin.Int.intBits (ns.getD i 0) ≤ 1048576 := by
  rw [List.getD_eq_getElem?_getD]
  cases e : ns[i]? with
  | none => decide
  | some z => exact h z (List.mem_of_getElem? e)
theorem seed_bits {x c : Int} (hx : Builtin.Int.intBits x ≤ 1048576) (hc : c.natAbs < 2 ^ 40) : Builtin.Int.intBits (x * 48271 + c) ≤ 3000000 :=
  Nat.le_trans (bits_add (m := 1048616) (Nat.le_trans (bits_mul hx (bits_lit (n := 20) (by decide +kernel))) (by decide)) (Nat.le_trans (lt_bits hc) (by decide))) (by decide)
end Tw

set_option Elab.async false
set_option linter.all false
set_option maxRecDepth 100000
set_option maxHeartbeats 4000000
namespace Tw
open PySem PySem.Spec PyProof.Rows L2
open Evl (Ex ex_l ex_t fresh_back sz_of sz_lt)
local macro_rules | `(tactic| walk_at "t_hp") => `(tactic| first
  | assumption
  | exact upd_same
  | (refine' hp_ne ?hne ?hrest; (case hne => walk_at "t_ne"); (case hrest => walk_at "t_hp"))
  | (refine' hp_ex ?hx ?hrest; (case hx => assumption); (case hrest => walk_at "t_hp")))
local macro_rules | `(tactic| walk_at "t_ne") => `(tactic| first
  | assumption
  | exact Ne.symm (by assumption)
  | (refine' ne_of_none ?h1 ?h2; (case h2 => assumption); (case h1 => walk_at "t_hp"))
  | (refine' Ne.symm (ne_of_none ?h1 ?h2); (case h2 => assumption); (case h1 => walk_at "t_hp")))
local macro_rules | `(tactic| walk_at "t_none") => `(tactic| first
  | assumption
  | (refine' fresh_back ?e ?n; (case n => assumption); (case e => walk_at "t_ex")))
local macro_rules | `(tactic| walk_at "t_ex") => `(tactic| first
  | assumption
  | exact Evl.Ex.refl _
  | (refine' ex_new ?n ?e; (case n => assumption); (case e => walk_at "t_ex"))
  | (refine' Evl.Ex.mut ?e ?n; (case n => walk_at "t_none"); (case e => walk_at "t_ex"))
  | (refine' Evl.Ex.trans ?a ?b; (case b => assumption); (case a => walk_at "t_ex")))
local macro_rules | `(tactic| walk_at "t_sq") => `(tactic| first
  | assumption
  | (refine' SqL.of ?h; (case h => walk_at "t_hp"))
  | (refine' ex_l ?e ?s; (case s => assumption); (case e => walk_at "t_ex")))
local macro_rules | `(tactic| walk_at "t_sqt") => `(tactic| first
  | assumption
  | (refine' SqT.of ?h; (case h => walk_at "t_hp"))
  | (refine' ex_t ?e ?s; (case s => assumption); (case e => walk_at "t_ex")))
local macro_rules | `(tactic| walk_at "t_mul") => `(tactic| first
  | assumption
  | exact Or.inl (Or.inl ⟨by decide, by decide⟩)
  | exact Or.inl (Or.inr ⟨by decide, by decide⟩)
  | exact Or.inl (Or.inl ⟨by omega, by omega⟩)
  | exact Or.inl (Or.inr ⟨by omega, by omega⟩))
local macro_rules | `(tactic| walk_at "t_c") => `(tactic| first
  | assumption
  | decide
  | (show (0 : Int) < _; decide)
  | (show (0 : Int) < _; omega)
  | exact ⟨by decide, by decide⟩
  | exact ⟨by decide, by decide, by decide⟩
  | exact ⟨by omega, by omega⟩
  | exact ⟨by omega, by omega, by omega, by omega⟩)
local macro_rules | `(tactic| walk_at "t_w") => `(tactic| first
  | (with_reducible refine w_seq ?_)
  | (with_reducible refine w_asg ?_)
  | (with_reducible refine w_gName ?_)
  | (with_reducible refine w_nx ?_)
  | (with_reducible refine w_rt ?_)
  | (with_reducible refine w_ct ?_)
  | (with_reducible refine w_bk ?_)
  | (with_reducible refine w_ret ?_)
  | (with_reducible refine w_retN ?_)
  | (with_reducible refine w_drop ?_)
  | (with_reducible refine w_ifS ?_)
  | (with_reducible refine w_next ?_)
  | (with_reducible refine w_break ?_)
  | (with_reducible refine w_cont ?_)
  | ((with_reducible refine' w_var ?h ?_); (case h => rfl))
  | (with_reducible refine w_c ?_)
  | (with_reducible refine w_op ?_)
  | (with_reducible refine w_un ?_)
  | (with_reducible refine w_I0 ?_)
  | ((with_reducible refine' w_I ?c ?_); (case c => walk_at "t_c"))
  | (with_reducible refine w_U ?_)
  | (with_reducible refine w_addI ?_)
  | ((with_reducible refine' w_addL ?h1 ?h2 ?hz ?_); (case h1 => walk_at "t_hp"); (case h2 => walk_at "t_hp"); (case hz => walk_at "t_z"))
  | ((with_reducible refine' w_mulI ?c ?_); (case c => walk_at "t_mul"))
  | ((with_reducible refine' w_mulL1 ?h1 ?b1 ?b2 ?_); (case h1 => walk_at "t_hp"); (case b1 => walk_at "t_z"); (case b2 => walk_at "t_z"))
  | ((with_reducible refine' w_mulL ?h1 ?b1 ?b2 ?hz ?_); (case h1 => walk_at "t_hp"); (case b1 => walk_at "t_z"); (case b2 => walk_at "t_z"); (case hz => walk_at "t_z"))
  | (with_reducible refine w_notIB ?_)
  | (with_reducible refine w_notBB ?_)
  | (with_reducible refine w_notN ?_)
  | (with_reducible refine w_isBB ?_)
  | (with_reducible refine w_isN ?_)
  | (with_reducible refine w_eqI ?_)
  | (with_reducible refine w_neI ?_)
  | (with_reducible refine w_eqB ?_)
  | (with_reducible refine w_neB ?_)
  | (with_reducible refine w_eqS ?_)
  | (with_reducible refine w_neS ?_)
  | (with_reducible refine w_test ?_)
  | (with_reducible refine w_B ?_)
  | (with_reducible refine w_exB ?_)
  | (with_reducible refine w_and ?_)
  | (with_reducible refine w_or ?_)
  | (with_reducible refine w_not ?_)
  | (with_reducible refine w_andV ?_)
  | (with_reducible refine w_orV ?_)
  | (with_reducible refine w_notV ?_)
  | (with_reducible refine w_bl ?_)
  | (with_reducible refine w_if ?_)
  | (with_reducible refine w_nil ?_)
  | (with_reducible refine w_cons ?_)
  | (with_reducible refine w_cb ?_)
  | (with_reducible refine w_call ?_)
  | (with_reducible refine w_tup ?_)
  | (with_reducible refine w_lst ?_)
  | ((with_reducible refine' w_fin ?hz ?_); (case hz => (simp only [List.length_cons, List.length_nil]; decide)))
  | ((with_reducible refine' w_len ?s ?_); (case s => walk_at "t_sq"))
  | ((with_reducible refine' w_lenT ?s ?_); (case s => walk_at "t_sqt"))
  | (with_reducible refine w_intI ?_)
  | (with_reducible refine w_intB ?_)
  | ((with_reducible refine' w_list ?s ?_); (case s => walk_at "t_sq"))
  | (with_reducible refine w_max ?_)
  | (with_reducible refine w_min ?_)
  | (with_reducible refine w_abs ?_)
  | (with_reducible refine w_sl ?_)
  | (with_reducible refine w_noPart ?_)
  | (with_reducible refine w_part ?_)
  | (with_reducible refine w_exI ?_)
  | ((with_reducible refine' w_slL ?s ?_); (case s => walk_at "t_sq"))
  | ((with_reducible refine' w_ixLI ?s ?b ?_); (case s => walk_at "t_sq"); (case b => walk_at "t_lt"))
  | ((with_reducible refine' w_ixL ?s ?e ?_); (case s => walk_at "t_sq"); (case e => walk_at "t_at"))
  | ((with_reducible refine' w_ixT ?s ?e ?_); (case s => walk_at "t_sqt"); (case e => walk_at "t_at"))
  | (with_reducible refine w_gSub ?_)
  | ((with_reducible refine' w_setLI ?e ?b ?_); (case e => walk_at "t_hp"); (case b => walk_at "t_lt"))
  | ((with_reducible refine' w_setL ?e ?b ?_); (case e => walk_at "t_hp"); (case b => walk_at "t_ixn"))
  | (with_reducible refine w_bm ?_)
  | (with_reducible refine w_bm0 ?_)
  | ((with_reducible refine' w_tyL ?e ?_); (case e => walk_at "t_sq"))
  | ((with_reducible refine' w_app ?e ?hz ?_); (case e => walk_at "t_hp"); (case hz => walk_at "t_z"))
  | (with_reducible refine w_iteT ?_)
  | (with_reducible refine w_iteF ?_)
  | (with_reducible refine w_iteNT ?_)
  | (with_reducible refine w_iteNF ?_)
  | (with_reducible refine w_for ?_)
  | (with_reducible refine w_iList ?_)
  | ((with_reducible refine' w_exL ?s ?_); (case s => walk_at "t_sq"))
  | (with_reducible refine w_iTup ?_)
  | ((with_reducible refine' w_exT ?s ?_); (case s => walk_at "t_sqt"))
  | (with_reducible refine w_iRng1 ?_)
  | ((with_reducible refine w_exR1 ?b ?_); (case b => walk_at "t_c"))
  | (with_reducible refine w_iRng2 ?_)
  | ((with_reducible refine w_exR2 ?b ?_); (case b => walk_at "t_c"))
  | (with_reducible refine w_yes ?_)
  | ((with_reducible refine w_pos ?p ?_); (case p => walk_at "t_p"))
  | ((with_reducible refine w_neg ?p ?_); (case p => walk_at "t_p"))
  | ((with_reducible refine w_posN ?p ?_); (case p => walk_at "t_p"))
  | ((with_reducible refine w_negN ?p ?_); (case p => walk_at "t_p"))
  | ((with_reducible refine' w_notInL ?s ?_); (case s => walk_at "t_sq"))
  | ((with_reducible refine' w_inL ?s ?_); (case s => walk_at "t_sq"))
  | ((with_reducible refine' w_sum ?s ?_); (case s => walk_at "t_sq"))
  | (with_reducible refine w_isiI ?_)
  | ((with_reducible refine' w_isiL ?e ?_); (case e => walk_at "t_ty"))
  | ((with_reducible refine' w_isiT ?e ?_); (case e => walk_at "t_ty"))
  | (with_reducible intro p hp_new))
local macro_rules | `(tactic| walk_at "t_ty") => `(tactic| first | assumption | (refine' tyx_l ?e; (case e => walk_at "t_hp")) | (refine' tyx_t ?e; (case e => walk_at "t_hp")))
local macro_rules | `(tactic| walk_at "t_z") => `(tactic| first | assumption | decide | omega | (simp only [List.length_cons, List.length_nil, List.length_map, List.length_append, List.length_replicate]; first | done | decide | omega))
local macro_rules | `(tactic| walk_at "t_at") => `(tactic| first | assumption | rfl)
local macro_rules | `(tactic| walk_at "t_ixn") => `(tactic| first | assumption | rfl)
local macro_rules | `(tactic| walk_at "t_ev") => `(tactic| (intro H1 e Q q; (repeat walk_at "t_w"); exact q _ (by walk_at "t_ex")))
local macro_rules | `(tactic| walk_at "t_p") => `(tactic| first | assumption | decide | decide +kernel)
local macro_rules | `(tactic| walk_at "t_lt") => `(tactic| first | assumption | omega | (simp only [List.length_set, List.length_map, List.length_append]; first | assumption | omega))
abbrev s_link_word : Stmt := topS 1
theorem sc_link_word : FnScope ["place"] ["place"] (defScope s_link_word) := ⟨rfl, rfl, rfl, by decide +kernel, rfl, by decide +kernel, by decide +kernel⟩

abbrev s_told_by : Stmt := topS 2
theorem sc_told_by : FnScope ["word"] ["word"] (defScope s_told_by) := ⟨rfl, rfl, rfl, by decide +kernel, rfl, by decide +kernel, by decide +kernel⟩

/-! ### the program's words -/
def spI1 (g : Int → V) : Sp := fun vs H Q _ => ∃ n : Int, vs = [.int n] ∧ Evl.RetV (g n) H Q
theorem w_I1 {g : Int → V} {H : Hp} {Q : VK} {E : XK} {n : Int} (h : ∀ H2, Ex H H2 → Q (g n) H2) : spI1 g ([.int n] ++ []) H Q E := ⟨n, rfl, h⟩
def spHead : Sp := fun vs H Q _ => ∃ (n : Int) (b : Bool), vs = [.int n, .bl b] ∧ Evl.RetV (.int (if b then 4 * n + 2 else 4 * n)) H Q
theorem w_Head {H : Hp} {Q : VK} {E : XK} {n : Int} {b : Bool} (h : ∀ H2, Ex H H2 → Q (.int (if b then 4 * n + 2 else 4 * n)) H2) : spHead ([.int n, .bl b] ++ []) H Q E := ⟨n, b, rfl, h⟩
abbrev gNumber : Int → V := fun n => .int (2 * n)
abbrev gLink : Int → V := fun n => .int (2 * n + 1)
abbrev gIsLink : Int → V := fun n => .bl (decide (n % 2 = 1))
abbrev gTold : Int → V := fun n => .int (n / 2)
abbrev gFields : Int → V := fun n => .int (n / 4)
abbrev gIsMarked : Int → V := fun n => .bl (decide (n % 4 = 2))
section
variable {P : Program} {w : World} {K : PySem.W.Frag} {mg : Str → Option Value} {base : Heap}
theorem c_link_word (T : Txt K mg) (D : DefAt K mg "link_word" "link_word" s_link_word) : Cal P w K mg base "link_word" 1 ["place"] (spI1 gLink) := by
  refine Cal.of D sc_link_word (fun vs H Q E h => ?_) (fun _ _ _ _ _ _ us hl => match us, hl with | [_], _ => rfl) (fun f cdv A outer s H vs Q E hr h => ?_)
  · obtain ⟨i, rfl, _⟩ := h; rfl
  · obtain ⟨i, rfl, k⟩ := h
    have hu : _ + 64 < cLine := hr.units
    refine ⟨_, (pss_one (ps_ret (pe_op op_addA (pe_op op_mulA pe_int (pv 0)) pe_int))), ?_⟩
    repeat walk_at "t_w"
    exact k _ (by walk_at "t_ex")
theorem c_told_by (T : Txt K mg) (D : DefAt K mg "told_by" "told_by" s_told_by) : Cal P w K mg base "told_by" 1 ["word"] (spI1 gTold) := by
  refine Cal.of D sc_told_by (fun vs H Q E h => ?_) (fun _ _ _ _ _ _ us hl => match us, hl with | [_], _ => rfl) (fun f cdv A outer s H vs Q E hr h => ?_)
  · obtain ⟨i, rfl, _⟩ := h; rfl
  · obtain ⟨i, rfl, k⟩ := h
    have hu : _ + 64 < cLine := hr.units
    refine ⟨_, (pss_one (ps_ret (pe_op op_fdiv (pv 0) pe_int))), ?_⟩
    repeat walk_at "t_w"
    exact k _ (by walk_at "t_ex")
end
end Tw

set_option Elab.async false
set_option linter.all false
set_option maxRecDepth 100000
set_option maxHeartbeats 4000000
namespace Tw
open PySem PySem.Spec PyProof.Rows L2
open Evl (Ex ex_l ex_t fresh_back sz_of sz_lt)
local macro_rules | `(tactic| walk_at "t_hp") => `(tactic| first
  | assumption
  | exact upd_same
  | (refine' hp_ne ?hne ?hrest; (case hne => walk_at "t_ne"); (case hrest => walk_at "t_hp"))
  | (refine' hp_ex ?hx ?hrest; (case hx => assumption); (case hrest => walk_at "t_hp")))
local macro_rules | `(tactic| walk_at "t_ne") => `(tactic| first
  | assumption
  | exact Ne.symm (by assumption)
  | (refine' ne_of_none ?h1 ?h2; (case h2 => assumption); (case h1 => walk_at "t_hp"))
  | (refine' Ne.symm (ne_of_none ?h1 ?h2); (case h2 => assumption); (case h1 => walk_at "t_hp")))
local macro_rules | `(tactic| walk_at "t_none") => `(tactic| first
  | assumption
  | (refine' fresh_back ?e ?n; (case n => assumption); (case e => walk_at "t_ex")))
local macro_rules | `(tactic| walk_at "t_ex") => `(tactic| first
  | assumption
  | exact Evl.Ex.refl _
  | (refine' ex_new ?n ?e; (case n => assumption); (case e => walk_at "t_ex"))
  | (refine' Evl.Ex.mut ?e ?n; (case n => walk_at "t_none"); (case e => walk_at "t_ex"))
  | (refine' Evl.Ex.trans ?a ?b; (case b => assumption); (case a => walk_at "t_ex")))
local macro_rules | `(tactic| walk_at "t_sq") => `(tactic| first
  | assumption
  | (refine' SqL.of ?h; (case h => walk_at "t_hp"))
  | (refine' ex_l ?e ?s; (case s => assumption); (case e => walk_at "t_ex")))
local macro_rules | `(tactic| walk_at "t_sqt") => `(tactic| first
  | assumption
  | (refine' SqT.of ?h; (case h => walk_at "t_hp"))
  | (refine' ex_t ?e ?s; (case s => assumption); (case e => walk_at "t_ex")))
local macro_rules | `(tactic| walk_at "t_mul") => `(tactic| first
  | assumption
  | exact Or.inl (Or.inl ⟨by decide, by decide⟩)
  | exact Or.inl (Or.inr ⟨by decide, by decide⟩)
  | exact Or.inl (Or.inl ⟨by omega, by omega⟩)
  | exact Or.inl (Or.inr ⟨by omega, by omega⟩))
local macro_rules | `(tactic| walk_at "t_c") => `(tactic| first
  | assumption
  | decide
  | (show (0 : Int) < _; decide)
  | (show (0 : Int) < _; omega)
  | exact ⟨by decide, by decide⟩
  | exact ⟨by decide, by decide, by decide⟩
  | exact ⟨by omega, by omega⟩
  | exact ⟨by omega, by omega, by omega, by omega⟩)
local macro_rules | `(tactic| walk_at "t_w") => `(tactic| first
  | (with_reducible refine w_seq ?_)
  | (with_reducible refine w_asg ?_)
  | (with_reducible refine w_gName ?_)
  | (with_reducible refine w_nx ?_)
  | (with_reducible refine w_rt ?_)
  | (with_reducible refine w_ct ?_)
  | (with_reducible refine w_bk ?_)
  | (with_reducible refine w_ret ?_)
  | (with_reducible refine w_retN ?_)
  | (with_reducible refine w_drop ?_)
  | (with_reducible refine w_ifS ?_)
  | (with_reducible refine w_next ?_)
  | (with_reducible refine w_break ?_)
  | (with_reducible refine w_cont ?_)
  | ((with_reducible refine' w_var ?h ?_); (case h => rfl))
  | (with_reducible refine w_c ?_)
  | (with_reducible refine w_op ?_)
  | (with_reducible refine w_un ?_)
  | (with_reducible refine w_I0 ?_)
  | ((with_reducible refine' w_I ?c ?_); (case c => walk_at "t_c"))
  | (with_reducible refine w_U ?_)
  | (with_reducible refine w_addI ?_)
  | ((with_reducible refine' w_addL ?h1 ?h2 ?hz ?_); (case h1 => walk_at "t_hp"); (case h2 => walk_at "t_hp"); (case hz => walk_at "t_z"))
  | ((with_reducible refine' w_mulI ?c ?_); (case c => walk_at "t_mul"))
  | ((with_reducible refine' w_mulL1 ?h1 ?b1 ?b2 ?_); (case h1 => walk_at "t_hp"); (case b1 => walk_at "t_z"); (case b2 => walk_at "t_z"))
  | ((with_reducible refine' w_mulL ?h1 ?b1 ?b2 ?hz ?_); (case h1 => walk_at "t_hp"); (case b1 => walk_at "t_z"); (case b2 => walk_at "t_z"); (case hz => walk_at "t_z"))
  | (with_reducible refine w_notIB ?_)
  | (with_reducible refine w_notBB ?_)
  | (with_reducible refine w_notN ?_)
  | (with_reducible refine w_isBB ?_)
  | (with_reducible refine w_isN ?_)
  | (with_reducible refine w_eqI ?_)
  | (with_reducible refine w_neI ?_)
  | (with_reducible refine w_eqB ?_)
  | (with_reducible refine w_neB ?_)
  | (with_reducible refine w_eqS ?_)
  | (with_reducible refine w_neS ?_)
  | (with_reducible refine w_test ?_)
  | (with_reducible refine w_B ?_)
  | (with_reducible refine w_exB ?_)
  | (with_reducible refine w_and ?_)
  | (with_reducible refine w_or ?_)
  | (with_reducible refine w_not ?_)
  | (with_reducible refine w_andV ?_)
  | (with_reducible refine w_orV ?_)
  | (with_reducible refine w_notV ?_)
  | (with_reducible refine w_bl ?_)
  | (with_reducible refine w_if ?_)
  | (with_reducible refine w_nil ?_)
  | (with_reducible refine w_cons ?_)
  | (with_reducible refine w_cb ?_)
  | (with_reducible refine w_call ?_)
  | (with_reducible refine w_tup ?_)
  | (with_reducible refine w_lst ?_)
  | ((with_reducible refine' w_fin ?hz ?_); (case hz => (simp only [List.length_cons, List.length_nil]; decide)))
  | ((with_reducible refine' w_len ?s ?_); (case s => walk_at "t_sq"))
  | ((with_reducible refine' w_lenT ?s ?_); (case s => walk_at "t_sqt"))
  | (with_reducible refine w_intI ?_)
  | (with_reducible refine w_intB ?_)
  | ((with_reducible refine' w_list ?s ?_); (case s => walk_at "t_sq"))
  | (with_reducible refine w_max ?_)
  | (with_reducible refine w_min ?_)
  | (with_reducible refine w_abs ?_)
  | (with_reducible refine w_sl ?_)
  | (with_reducible refine w_noPart ?_)
  | (with_reducible refine w_part ?_)
  | (with_reducible refine w_exI ?_)
  | ((with_reducible refine' w_slL ?s ?_); (case s => walk_at "t_sq"))
  | ((with_reducible refine' w_ixLI ?s ?b ?_); (case s => walk_at "t_sq"); (case b => walk_at "t_lt"))
  | ((with_reducible refine' w_ixL ?s ?e ?_); (case s => walk_at "t_sq"); (case e => walk_at "t_at"))
  | ((with_reducible refine' w_ixT ?s ?e ?_); (case s => walk_at "t_sqt"); (case e => walk_at "t_at"))
  | (with_reducible refine w_gSub ?_)
  | ((with_reducible refine' w_setLI ?e ?b ?_); (case e => walk_at "t_hp"); (case b => walk_at "t_lt"))
  | ((with_reducible refine' w_setL ?e ?b ?_); (case e => walk_at "t_hp"); (case b => walk_at "t_ixn"))
  | (with_reducible refine w_bm ?_)
  | (with_reducible refine w_bm0 ?_)
  | ((with_reducible refine' w_tyL ?e ?_); (case e => walk_at "t_sq"))
  | ((with_reducible refine' w_app ?e ?hz ?_); (case e => walk_at "t_hp"); (case hz => walk_at "t_z"))
  | (with_reducible refine w_iteT ?_)
  | (with_reducible refine w_iteF ?_)
  | (with_reducible refine w_iteNT ?_)
  | (with_reducible refine w_iteNF ?_)
  | (with_reducible refine w_for ?_)
  | (with_reducible refine w_iList ?_)
  | ((with_reducible refine' w_exL ?s ?_); (case s => walk_at "t_sq"))
  | (with_reducible refine w_iTup ?_)
  | ((with_reducible refine' w_exT ?s ?_); (case s => walk_at "t_sqt"))
  | (with_reducible refine w_iRng1 ?_)
  | ((with_reducible refine w_exR1 ?b ?_); (case b => walk_at "t_c"))
  | (with_reducible refine w_iRng2 ?_)
  | ((with_reducible refine w_exR2 ?b ?_); (case b => walk_at "t_c"))
  | (with_reducible refine w_yes ?_)
  | ((with_reducible refine w_pos ?p ?_); (case p => walk_at "t_p"))
  | ((with_reducible refine w_neg ?p ?_); (case p => walk_at "t_p"))
  | ((with_reducible refine w_posN ?p ?_); (case p => walk_at "t_p"))
  | ((with_reducible refine w_negN ?p ?_); (case p => walk_at "t_p"))
  | ((with_reducible refine' w_notInL ?s ?_); (case s => walk_at "t_sq"))
  | ((with_reducible refine' w_inL ?s ?_); (case s => walk_at "t_sq"))
  | ((with_reducible refine' w_sum ?s ?_); (case s => walk_at "t_sq"))
  | (with_reducible refine w_isiI ?_)
  | ((with_reducible refine' w_isiL ?e ?_); (case e => walk_at "t_ty"))
  | ((with_reducible refine' w_isiT ?e ?_); (case e => walk_at "t_ty"))
  | (with_reducible intro p hp_new))
local macro_rules | `(tactic| walk_at "t_ty") => `(tactic| first | assumption | (refine' tyx_l ?e; (case e => walk_at "t_hp")) | (refine' tyx_t ?e; (case e => walk_at "t_hp")))
local macro_rules | `(tactic| walk_at "t_z") => `(tactic| first | assumption | decide | omega | (simp only [List.length_cons, List.length_nil, List.length_map, List.length_append, List.length_replicate]; first | done | decide | omega))
local macro_rules | `(tactic| walk_at "t_at") => `(tactic| first | assumption | rfl)
local macro_rules | `(tactic| walk_at "t_ixn") => `(tactic| first | assumption | rfl)
local macro_rules | `(tactic| walk_at "t_ev") => `(tactic| (intro H1 e Q q; (repeat walk_at "t_w"); exact q _ (by walk_at "t_ex")))
local macro_rules | `(tactic| walk_at "t_p") => `(tactic| first | assumption | decide | decide +kernel)
local macro_rules | `(tactic| walk_at "t_lt") => `(tactic| first | assumption | omega | (simp only [List.length_set, List.length_map, List.length_append]; first | assumption | omega))
local macro_rules | `(tactic| walk_at "t_w") => `(tactic| first
  | ((with_reducible refine' w_at ?s ?hl ?h0 ?_); (case s => walk_at "t_sq"); (case hl => walk_at "t_z"); (case h0 => walk_at "t_z"))
  | (with_reducible refine w_isInt ?_)
  | (with_reducible refine w_I1 ?_)
  | (with_reducible refine w_Head ?_)
  | ((with_reducible refine' w_number ?hb ?_); (case hb => walk_at "t_bits")))
local macro_rules | `(tactic| walk_at "t_bits") => `(tactic| assumption)
abbrev s_hung : Stmt := topS 4
theorem sc_hung : FnScope ["row", "at", "head", "cells"] ["row", "at"] (defScope s_hung) := ⟨rfl, rfl, rfl, by decide +kernel, rfl, by decide +kernel, by decide +kernel⟩

/-! ### cells of a row -/
theorem nat_mod {x : Int} {z : Nat} (h : 0 < z) : ∃ n : Nat, x % (z : Int) = (n : Int) ∧ n < z := by
  have h1 := Int.emod_nonneg x (show (z : Int) ≠ 0 by omega)
  have h2 := Int.emod_lt_of_pos x (show (0 : Int) < (z : Int) by omega)
  exact ⟨(x % (z : Int)).toNat, by omega, by omega⟩
theorem two_cells {h z : Nat} {t : Int} (hh : h < z) (h2 : 2 ≤ z) (t0 : 0 ≤ t) (t1 : t < (z : Int) - 1) : ∃ j : Nat, ((h : Int) + 1 + t) % (z : Int) = (j : Int) ∧ j < z ∧ j ≠ h := by
  by_cases c : (h : Int) + 1 + t < (z : Int)
  · exact ⟨((h : Int) + 1 + t).toNat, by rw [Int.emod_eq_of_lt (by omega) c]; omega, by omega, by omega⟩
  · refine ⟨((h : Int) + 1 + t - z).toNat, ?_, by omega, by omega⟩
    rw [← Int.sub_emod_right, Int.emod_eq_of_lt (by omega) (by omega)]
    omega
/-! ### a field hung up -/
/-- the row behind: the field at j, its head at h -/
def hungRow (xs : List Int) (j h : Nat) : List Int := (xs.set j (xs.getD h 0)).set h (2 * (j : Int) + 1)
def spHung (K : PySem.W.Frag) : Sp := fun vs H Q _ => ∃ (a : Addr) (xs : List Int) (j h : Nat), vs = [.ref a, .int (j : Int)] ∧ SqL K H a (xs.map V.int) ∧ xs.length ≤ 1000 ∧ j < xs.length ∧ h < xs.length ∧ xs.getD j 0 = 2 * (h : Int) + 1 ∧ Evl.RetL ((hungRow xs j h).map V.int) H Q
theorem w_hung {K : PySem.W.Frag} {H : Hp} {Q : VK} {E : XK} {a : Addr} {xs : List Int} {j : Nat} (h : Nat) (s : SqL K H a (xs.map V.int)) (hl : xs.length ≤ 1000) (hj : j < xs.length) (hh : h < xs.length) (e : xs.getD j 0 = 2 * (h : Int) + 1)
    (k : ∀ p H2, H p = none → Ex H H2 → H2 p = some (.lst ((hungRow xs j h).map V.int)) → Q (.ref p) H2) : spHung K ([.ref a, .int (j : Int)] ++ []) H Q E := ⟨a, xs, j, h, rfl, s, hl, hj, hh, e, k⟩
section
variable {P : Program} {w : World} {K : PySem.W.Frag} {mg : Str → Option Value} {base : Heap}
theorem c_hung (T : Txt K mg) (D : DefAt K mg "hung" "hung" s_hung) (c_told_by : Cal P w K mg base "told_by" 1 ["word"] (spI1 gTold)) (c_link_word : Cal P w K mg base "link_word" 1 ["place"] (spI1 gLink)) : Cal P w K mg base "hung" 2 ["row", "at"] (spHung K) := by
  refine Cal.of D sc_hung (fun vs H Q E h => ?_) (fun _ _ _ _ _ _ us hl => match us, hl with | [_, _], _ => rfl) (fun f cdv A outer s H vs Q E hr h => ?_)
  · obtain ⟨a, xs, j, h, rfl, _⟩ := h; rfl
  · obtain ⟨a, xs, j, h, rfl, hS, hl, hj, hh, he, k⟩ := h
    have hu : _ + 64 < cLine := hr.units
    have e0 : gTold (2 * (h : Int) + 1) = .int (h : Int) := congrArg V.int (by omega)
    refine ⟨_, (pss_cons (ps_set (i := 2) sc_hung.nd rfl (Or.inl rfl) (pe_callC c_told_by (hr.mono (by decide)) rfl (pa_cons (pe_ix (ix_seqK (K := K) rfl) (pv 0) (pv 1) (fun _ _ => rfl)) pa_nil)))
      (pss_cons (ps_set (i := 3) sc_hung.nd rfl (Or.inl rfl) (pe_callTy (call_listK (K := K) rfl) (by rfl) T.b_list (by decide +kernel) (pa_cons (pv 0) pa_nil)))
      (pss_cons (ps_asg (pe_ix (ix_seqK (K := K) rfl) (pv 0) (pv 2) (fun _ _ => rfl)) (pg_sub (pv 3) (pv 1) set_list))
      (pss_cons (ps_asg (pe_callC c_link_word (hr.mono (by decide)) rfl (pa_cons (pv 1) pa_nil)) (pg_sub (pv 3) (pv 2) set_list))
      (pss_one (ps_ret (pv 3))))))), ?_⟩
    repeat walk_at "t_w"
    rw [he, e0]
    repeat walk_at "t_w"
    refine k _ _ (by walk_at "t_none") (by walk_at "t_ex") ?_
    unfold hungRow
    walk_at "t_hp"
end
end Tw

set_option Elab.async false
set_option linter.all false
set_option maxRecDepth 100000
set_option maxHeartbeats 4000000
namespace Tw
open PySem PySem.Spec PyProof.Rows L2
open Evl (Ex ex_l ex_t fresh_back sz_of sz_lt)
local macro_rules | `(tactic| walk_at "t_hp") => `(tactic| first
  | assumption
  | exact upd_same
  | (refine' hp_ne ?hne ?hrest; (case hne => walk_at "t_ne"); (case hrest => walk_at "t_hp"))
  | (refine' hp_ex ?hx ?hrest; (case hx => assumption); (case hrest => walk_at "t_hp")))
local macro_rules | `(tactic| walk_at "t_ne") => `(tactic| first
  | assumption
  | exact Ne.symm (by assumption)
  | (refine' ne_of_none ?h1 ?h2; (case h2 => assumption); (case h1 => walk_at "t_hp"))
  | (refine' Ne.symm (ne_of_none ?h1 ?h2); (case h2 => assumption); (case h1 => walk_at "t_hp")))
local macro_rules | `(tactic| walk_at "t_none") => `(tactic| first
  | assumption
  | (refine' fresh_back ?e ?n; (case n => assumption); (case e => walk_at "t_ex")))
local macro_rules | `(tactic| walk_at "t_ex") => `(tactic| first
  | assumption
  | exact Evl.Ex.refl _
  | (refine' ex_new ?n ?e; (case n => assumption); (case e => walk_at "t_ex"))
  | (refine' Evl.Ex.mut ?e ?n; (case n => walk_at "t_none"); (case e => walk_at "t_ex"))
  | (refine' Evl.Ex.trans ?a ?b; (case b => assumption); (case a => walk_at "t_ex")))
local macro_rules | `(tactic| walk_at "t_sq") => `(tactic| first
  | assumption
  | (refine' SqL.of ?h; (case h => walk_at "t_hp"))
  | (refine' ex_l ?e ?s; (case s => assumption); (case e => walk_at "t_ex")))
local macro_rules | `(tactic| walk_at "t_sqt") => `(tactic| first
  | assumption
  | (refine' SqT.of ?h; (case h => walk_at "t_hp"))
  | (refine' ex_t ?e ?s; (case s => assumption); (case e => walk_at "t_ex")))
local macro_rules | `(tactic| walk_at "t_mul") => `(tactic| first
  | assumption
  | exact Or.inl (Or.inl ⟨by decide, by decide⟩)
  | exact Or.inl (Or.inr ⟨by decide, by decide⟩)
  | exact Or.inl (Or.inl ⟨by omega, by omega⟩)
  | exact Or.inl (Or.inr ⟨by omega, by omega⟩))
local macro_rules | `(tactic| walk_at "t_c") => `(tactic| first
  | assumption
  | decide
  | (show (0 : Int) < _; decide)
  | (show (0 : Int) < _; omega)
  | exact ⟨by decide, by decide⟩
  | exact ⟨by decide, by decide, by decide⟩
  | exact ⟨by omega, by omega⟩
  | exact ⟨by omega, by omega, by omega, by omega⟩)
local macro_rules | `(tactic| walk_at "t_w") => `(tactic| first
  | (with_reducible refine w_seq ?_)
  | (with_reducible refine w_asg ?_)
  | (with_reducible refine w_gName ?_)
  | (with_reducible refine w_nx ?_)
  | (with_reducible refine w_rt ?_)
  | (with_reducible refine w_ct ?_)
  | (with_reducible refine w_bk ?_)
  | (with_reducible refine w_ret ?_)
  | (with_reducible refine w_retN ?_)
  | (with_reducible refine w_drop ?_)
  | (with_reducible refine w_ifS ?_)
  | (with_reducible refine w_next ?_)
  | (with_reducible refine w_break ?_)
  | (with_reducible refine w_cont ?_)
  | ((with_reducible refine' w_var ?h ?_); (case h => rfl))
  | (with_reducible refine w_c ?_)
  | (with_reducible refine w_op ?_)
  | (with_reducible refine w_un ?_)
  | (with_reducible refine w_I0 ?_)
  | ((with_reducible refine' w_I ?c ?_); (case c => walk_at "t_c"))
  | (with_reducible refine w_U ?_)
  | (with_reducible refine w_addI ?_)
  | ((with_reducible refine' w_addL ?h1 ?h2 ?hz ?_); (case h1 => walk_at "t_hp"); (case h2 => walk_at "t_hp"); (case hz => walk_at "t_z"))
  | ((with_reducible refine' w_mulI ?c ?_); (case c => walk_at "t_mul"))
  | ((with_reducible refine' w_mulL1 ?h1 ?b1 ?b2 ?_); (case h1 => walk_at "t_hp"); (case b1 => walk_at "t_z"); (case b2 => walk_at "t_z"))
  | ((with_reducible refine' w_mulL ?h1 ?b1 ?b2 ?hz ?_); (case h1 => walk_at "t_hp"); (case b1 => walk_at "t_z"); (case b2 => walk_at "t_z"); (case hz => walk_at "t_z"))
  | (with_reducible refine w_notIB ?_)
  | (with_reducible refine w_notBB ?_)
  | (with_reducible refine w_notN ?_)
  | (with_reducible refine w_isBB ?_)
  | (with_reducible refine w_isN ?_)
  | (with_reducible refine w_eqI ?_)
  | (with_reducible refine w_neI ?_)
  | (with_reducible refine w_eqB ?_)
  | (with_reducible refine w_neB ?_)
  | (with_reducible refine w_eqS ?_)
  | (with_reducible refine w_neS ?_)
  | (with_reducible refine w_test ?_)
  | (with_reducible refine w_B ?_)
  | (with_reducible refine w_exB ?_)
  | (with_reducible refine w_and ?_)
  | (with_reducible refine w_or ?_)
  | (with_reducible refine w_not ?_)
  | (with_reducible refine w_andV ?_)
  | (with_reducible refine w_orV ?_)
  | (with_reducible refine w_notV ?_)
  | (with_reducible refine w_bl ?_)
  | (with_reducible refine w_if ?_)
  | (with_reducible refine w_nil ?_)
  | (with_reducible refine w_cons ?_)
  | (with_reducible refine w_cb ?_)
  | (with_reducible refine w_call ?_)
  | (with_reducible refine w_tup ?_)
  | (with_reducible refine w_lst ?_)
  | ((with_reducible refine' w_fin ?hz ?_); (case hz => (simp only [List.length_cons, List.length_nil]; decide)))
  | ((with_reducible refine' w_len ?s ?_); (case s => walk_at "t_sq"))
  | ((with_reducible refine' w_lenT ?s ?_); (case s => walk_at "t_sqt"))
  | (with_reducible refine w_intI ?_)
  | (with_reducible refine w_intB ?_)
  | ((with_reducible refine' w_list ?s ?_); (case s => walk_at "t_sq"))
  | (with_reducible refine w_max ?_)
  | (with_reducible refine w_min ?_)
  | (with_reducible refine w_abs ?_)
  | (with_reducible refine w_sl ?_)
  | (with_reducible refine w_noPart ?_)
  | (with_reducible refine w_part ?_)
  | (with_reducible refine w_exI ?_)
  | ((with_reducible refine' w_slL ?s ?_); (case s => walk_at "t_sq"))
  | ((with_reducible refine' w_ixLI ?s ?b ?_); (case s => walk_at "t_sq"); (case b => walk_at "t_lt"))
  | ((with_reducible refine' w_ixL ?s ?e ?_); (case s => walk_at "t_sq"); (case e => walk_at "t_at"))
  | ((with_reducible refine' w_ixT ?s ?e ?_); (case s => walk_at "t_sqt"); (case e => walk_at "t_at"))
  | (with_reducible refine w_gSub ?_)
  | ((with_reducible refine' w_setLI ?e ?b ?_); (case e => walk_at "t_hp"); (case b => walk_at "t_lt"))
  | ((with_reducible refine' w_setL ?e ?b ?_); (case e => walk_at "t_hp"); (case b => walk_at "t_ixn"))
  | (with_reducible refine w_bm ?_)
  | (with_reducible refine w_bm0 ?_)
  | ((with_reducible refine' w_tyL ?e ?_); (case e => walk_at "t_sq"))
  | ((with_reducible refine' w_app ?e ?hz ?_); (case e => walk_at "t_hp"); (case hz => walk_at "t_z"))
  | (with_reducible refine w_iteT ?_)
  | (with_reducible refine w_iteF ?_)
  | (with_reducible refine w_iteNT ?_)
  | (with_reducible refine w_iteNF ?_)
  | (with_reducible refine w_for ?_)
  | (with_reducible refine w_iList ?_)
  | ((with_reducible refine' w_exL ?s ?_); (case s => walk_at "t_sq"))
  | (with_reducible refine w_iTup ?_)
  | ((with_reducible refine' w_exT ?s ?_); (case s => walk_at "t_sqt"))
  | (with_reducible refine w_iRng1 ?_)
  | ((with_reducible refine w_exR1 ?b ?_); (case b => walk_at "t_c"))
  | (with_reducible refine w_iRng2 ?_)
  | ((with_reducible refine w_exR2 ?b ?_); (case b => walk_at "t_c"))
  | (with_reducible refine w_yes ?_)
  | ((with_reducible refine w_pos ?p ?_); (case p => walk_at "t_p"))
  | ((with_reducible refine w_neg ?p ?_); (case p => walk_at "t_p"))
  | ((with_reducible refine w_posN ?p ?_); (case p => walk_at "t_p"))
  | ((with_reducible refine w_negN ?p ?_); (case p => walk_at "t_p"))
  | ((with_reducible refine' w_notInL ?s ?_); (case s => walk_at "t_sq"))
  | ((with_reducible refine' w_inL ?s ?_); (case s => walk_at "t_sq"))
  | ((with_reducible refine' w_sum ?s ?_); (case s => walk_at "t_sq"))
  | (with_reducible refine w_isiI ?_)
  | ((with_reducible refine' w_isiL ?e ?_); (case e => walk_at "t_ty"))
  | ((with_reducible refine' w_isiT ?e ?_); (case e => walk_at "t_ty"))
  | (with_reducible intro p hp_new))
local macro_rules | `(tactic| walk_at "t_ty") => `(tactic| first | assumption | (refine' tyx_l ?e; (case e => walk_at "t_hp")) | (refine' tyx_t ?e; (case e => walk_at "t_hp")))
local macro_rules | `(tactic| walk_at "t_z") => `(tactic| first | assumption | decide | omega | (simp only [List.length_cons, List.length_nil, List.length_map, List.length_append, List.length_replicate]; first | done | decide | omega))
local macro_rules | `(tactic| walk_at "t_at") => `(tactic| first | assumption | rfl)
local macro_rules | `(tactic| walk_at "t_ixn") => `(tactic| first | assumption | rfl)
local macro_rules | `(tactic| walk_at "t_ev") => `(tactic| (intro H1 e Q q; (repeat walk_at "t_w"); exact q _ (by walk_at "t_ex")))
local macro_rules | `(tactic| walk_at "t_p") => `(tactic| first | assumption | decide | decide +kernel)
local macro_rules | `(tactic| walk_at "t_lt") => `(tactic| first | assumption | omega | (simp only [List.length_set, List.length_map, List.length_append]; first | assumption | omega))
local macro_rules | `(tactic| walk_at "t_w") => `(tactic| first
  | ((with_reducible refine' w_at ?s ?hl ?h0 ?_); (case s => walk_at "t_sq"); (case hl => walk_at "t_z"); (case h0 => walk_at "t_z"))
  | (with_reducible refine w_isInt ?_)
  | (with_reducible refine w_I1 ?_)
  | (with_reducible refine w_Head ?_)
  | ((with_reducible refine' w_number ?hb ?_); (case hb => walk_at "t_bits")))
local macro_rules | `(tactic| walk_at "t_bits") => `(tactic| assumption)
abbrev s_law : Stmt := topS 10
theorem sc_law : FnScope ["_law_script", "_law_size", "_law_row", "_law_k", "_law_head", "_law_at_here", "_law_due", "_law_handed", "_law_found"] ["_law_script"] (defScope s_law) := ⟨rfl, rfl, rfl, by decide +kernel, rfl, by decide +kernel, by decide +kernel⟩

structure Ds (K : PySem.W.Frag) (mg : Str → Option Value) : Prop where
  link_word : DefAt K mg "link_word" "link_word" s_link_word
  told_by : DefAt K mg "told_by" "told_by" s_told_by
  hung : DefAt K mg "hung" "hung" s_hung
  law_at : DefAt K mg "_law_at" "_law_at" s_law_at
  law_is_int : DefAt K mg "_law_is_int" "_law_is_int" s_law_is_int
  law_words_are : DefAt K mg "_law_words_are" "_law_words_are" s_law_words_are
  law_number : DefAt K mg "_law_number" "_law_number" s_law_number

/-- the row that is drawn -/
def drawn2 (ns : List Int) (i : Nat) : Int := lawNum (ns.getD ((3 : Int) + (i : Int) % 50).toNat 0 * 48271 + 11 * (i : Int))
section
variable {P : Program} {w : World} {K : PySem.W.Frag} {mg : Str → Option Value} {base : Heap}
theorem ok_law {f : Addr} {fd : FuncData} (F : Fun K "law" "law" s_law f fd) (T : Txt K mg) (X : Ds K mg) : FnOk P w K mg base CX0 4 f fd ["_law_script"] (spLaw K) := by
  have c_link_word := c_link_word (P := P) (w := w) (base := base) T X.link_word
  have c_told_by := c_told_by (P := P) (w := w) (base := base) T X.told_by
  have c_law_at := c_law_at (P := P) (w := w) (base := base) T X.law_at
  have c_law_is_int := c_law_is_int (P := P) (w := w) (base := base) T X.law_is_int
  have c_law_words_are := c_law_words_are (P := P) (w := w) (base := base) T X.law_words_are c_law_is_int
  have c_law_number := c_law_number (P := P) (w := w) (base := base) T X.law_number
  have c_hung := c_hung (P := P) (w := w) (base := base) T X.hung c_told_by c_link_word
  refine F.ok sc_law (fun vs H Q E h => ?_) (fun cdv A outer s H vs Q E hr h => ?_)
  · obtain ⟨a, ns, rfl, _⟩ := h; rfl
  · obtain ⟨a, ns, rfl, hS, hlen, hB, k⟩ := h
    have hu : _ + 64 < cLine := hr.units
    refine ⟨_, (pss_cons (ps_set (i := 1) sc_law.nd rfl (Or.inl rfl) (pe_op op_addA pe_int (pe_op op_mod (pe_callC c_law_at (hr.mono (by decide)) rfl (pa_cons (pv 0) (pa_cons pe_int pa_nil))) pe_int)))
      (Evl.pss_cut (ps_if (pt_cmpR (op_eqK (K := K) rfl hu) (pe_op op_mod (pe_op op_fdiv (pe_callC c_law_at (hr.mono (by decide)) rfl (pa_cons (pv 0) (pa_cons pe_int pa_nil))) pe_int) pe_int) pe_int (nomark _)) (pss_one (ps_set (i := 1) sc_law.nd rfl (Or.inl rfl) (pe_op op_addA (pv 1) pe_int))) pss_nil)
      (pss_cons (ps_setLc (i := 2) (own := [("_law_k", 3)]) (g := gName 3) rfl sc_law.nd rfl rfl (sw_true rfl rfl rfl (by decide +kernel)) (pi_range1 rfl T.b_range (pa_cons (pv 1) pa_nil)) (blkOk_by (own := [("_law_k", 3)]) (N := ["_law_script", "_law_size", "_law_row", "_law_k", "_law_head", "_law_at_here", "_law_due", "_law_handed", "_law_found"]) (sc := defScope s_law) (by decide +kernel)) (fun _ _ _ _ _ => pg_name (i := 3) sc_law.nd rfl (Or.inl rfl)) (fun _ _ _ _ _ => pts_nil) (fun _ _ _ _ _ => (pe_callC c_law_number (hr.mono (by decide)) rfl (pa_cons (pe_op op_addA (pe_op op_mulA (pe_callC c_law_at (hr.mono (by decide)) rfl (pa_cons (pv 0) (pa_cons (pe_op op_addA pe_int (pe_op op_mod (pv 3) pe_int)) pa_nil))) pe_int) (pe_op op_mulA pe_int (pv 3))) pa_nil))))
      (pss_cons (ps_set (i := 4) sc_law.nd rfl (Or.inl rfl) (pe_op op_mod (pe_callC c_law_at (hr.mono (by decide)) rfl (pa_cons (pv 0) (pa_cons pe_int pa_nil))) (pv 1)))
      (pss_cons (ps_set (i := 5) sc_law.nd rfl (Or.inl rfl) (pe_op op_mod (pe_op op_addA (pe_op op_addA (pv 4) pe_int) (pe_op op_mod (pe_callC c_law_at (hr.mono (by decide)) rfl (pa_cons (pv 0) (pa_cons pe_int pa_nil))) (pe_op op_sub (pv 1) pe_int))) (pv 1)))
      (pss_cons (ps_asg (pe_op op_addA (pe_op op_mulA pe_int (pv 4)) pe_int) (pg_sub (pv 2) (pv 5) set_list))
      (pss_cons (ps_set (i := 6) sc_law.nd rfl (Or.inl rfl) (pe_callTy (call_listK (K := K) rfl) (by rfl) T.b_list (by decide +kernel) (pa_cons (pv 2) pa_nil)))
      (pss_cons (ps_asg (pe_ix (ix_seqK (K := K) rfl) (pv 2) (pv 4) (fun _ _ => rfl)) (pg_sub (pv 6) (pv 5) set_list))
      (pss_cons (ps_asg (pe_op op_addA (pe_op op_mulA pe_int (pv 5)) pe_int) (pg_sub (pv 6) (pv 4) set_list))
      (pss_cons (ps_set (i := 7) sc_law.nd rfl (Or.inl rfl) (pe_callTy (call_listK (K := K) rfl) (by rfl) T.b_list (by decide +kernel) (pa_cons (pv 2) pa_nil)))
      (pss_cons (ps_set (i := 8) sc_law.nd rfl (Or.inl rfl) (pe_callC c_hung (hr.mono (by decide)) rfl (pa_cons (pv 7) (pa_cons (pv 5) pa_nil))))
      (pss_cons (ps_if (pt_not (pt_val (pe_callC c_law_words_are (hr.mono (by decide)) rfl (pa_cons (pv 8) (pa_cons (pv 6) pa_nil))))) (pss_one (ps_ret pe_bl)) pss_nil)
      (pss_cons (ps_expr (pe_bmK (K := K) rfl PySem.F.plainAttrs_list PySem.F.slot_list_append PySem.F.type_list_append mt_append (pv 8) (pa_cons pe_int pa_nil)))
      (pss_one (ps_ret (pe_callC c_law_words_are (hr.mono (by decide)) rfl (pa_cons (pv 7) (pa_cons (pv 2) pa_nil)))))))))))))))))), ?_⟩
    repeat walk_at "t_w"
    refine Evl.q_cut (M := fun σ' H' => ∃ z : Nat, 2 ≤ z ∧ z ≤ 700 ∧ σ' = [some (.ref a), some (.int (z : Int)), none, none, none, none, none, none, none] ∧ Ex H H') ?_ ?_
    · repeat walk_at "t_w"
      generalize hz : 2 + ns.getD (Int.toNat 0) 0 % 39 = z
      have hz0 : 0 ≤ ns.getD (Int.toNat 0) 0 % 39 ∧ ns.getD (Int.toNat 0) 0 % 39 < 39 := ⟨Int.emod_nonneg _ (by decide), Int.emod_lt_of_pos _ (by decide)⟩
      refine w_ite (fun h1 => ?_) (fun h1 => ?_)
      · repeat walk_at "t_w"
        refine ⟨(z + 660).toNat, by omega, by omega, ?_, by walk_at "t_ex"⟩
        rw [show (((z + 660).toNat : Nat) : Int) = z + 660 by omega]
        rfl
      · repeat walk_at "t_w"
        refine ⟨z.toNat, by omega, by omega, ?_, by walk_at "t_ex"⟩
        rw [show ((z.toNat : Nat) : Int) = z by omega]
        rfl
    · rintro σ' H' ⟨z, hz2, hz7, rfl, hE⟩
      repeat walk_at "t_w"
      refine w_lcR1 (n := (z : Int)) (fun _ => true) (fun i => .int (drawn2 ns i)) ?ha ?hn ?hw ?ht ?he ?hk
      case ha => walk_at "t_ev"
      case hn => omega
      case hw => intro x; rfl
      case ht => intro i H1 e hi; walk_at "t_ev"
      case he =>
        intro i H1 e hi hf
        have hb : Builtin.Int.intBits (ns.getD ((3 : Int) + (i : Int) % 50).toNat 0 * 48271 + 11 * (i : Int)) ≤ 3000000 := seed_bits (at_bits hB _) (by omega)
        walk_at "t_ev"
      case hk =>
        intro r H1 hr1 e1 hr2
        rw [given_all, Int.toNat_natCast] at hr2
        have hmap : (List.range z).map (fun i => V.int (drawn2 ns i)) = ((List.range z).map (drawn2 ns)).map V.int := by rw [List.map_map]; rfl
        rw [hmap] at hr2
        have hlen2 : ((List.range z).map (drawn2 ns)).length = z := by rw [List.length_map, List.length_range]
        generalize (List.range z).map (drawn2 ns) = xs at hr2 hlen2
        have hz0 : (0 : Int) < (z : Int) := by omega
        have hz1 : (0 : Int) < (z : Int) - 1 := by omega
        repeat walk_at "t_w"
        obtain ⟨h, eh, hh⟩ := nat_mod (x := ns.getD (Int.toNat 1) 0) (z := z) (by omega)
        rw [eh]
        obtain ⟨j, ej, hj, hjh⟩ := two_cells (t := ns.getD (Int.toNat 2) 0 % ((z : Int) - 1)) hh hz2 (Int.emod_nonneg _ (by omega)) (Int.emod_lt_of_pos _ (by omega))
        rw [ej]
        clear eh ej
        refine w_setLI (by walk_at "t_hp") (by omega) ?_
        have hy : (xs.set j (2 * (h : Int) + 1)).length = z := by rw [List.length_set]; exact hlen2
        have hyj : (xs.set j (2 * (h : Int) + 1)).getD j 0 = 2 * (h : Int) + 1 := by
          rw [List.getD_eq_getElem?_getD, List.getElem?_set_self (by omega)]; rfl
        generalize xs.set j (2 * (h : Int) + 1) = ys at hy hyj
        repeat walk_at "t_w"
        rw [show (ys.set j (ys.getD h 0)).set h (2 * (j : Int) + 1) = hungRow ys j h from rfl]
        have hd : (hungRow ys j h).length ≤ 1000 := by unfold hungRow; rw [List.length_set, List.length_set]; omega
        refine w_hung h (by walk_at "t_sq") (by omega) (by omega) (by omega) hyj fun q H3 hq e3 hq2 => ?_
        repeat walk_at "t_w"
        refine w_words2 (hungRow ys j h) (by walk_at "t_hp") (by walk_at "t_sq") rfl rfl hd fun H4 e4 => ?_
        have hd2 : ((hungRow ys j h).map V.int).length < 1000000 := by rw [List.length_map]; omega
        repeat walk_at "t_w"
        refine w_words2 ys (by walk_at "t_hp") (by walk_at "t_sq") rfl rfl (by omega) fun H5 e5 => ?_
        repeat walk_at "t_w"
        exact k _
end
theorem all_mk {l : PySem.W.OpenLaw} {w : World} {K : PySem.W.Frag} {h : Heap} {mg : Str → Option Value} {fa f0 f1 f2 f3 f4 f5 f6 f7 : Addr} (X : K.In h) (G : h.Ns mainGlobals mg) (hfa : mg "law" = some (.ref fa))
    {od0 an0 od1 an1 od2 an2 od3 an3 od4 an4 od5 an5 od6 an6 od7 an7 : Option Addr} {sl0 sl1 sl2 sl3 sl4 sl5 sl6 sl7 : Array (Option Value)} {oc0 kV0 dc0 pm0 cd0 ct0 oc1 kV1 dc1 pm1 cd1 ct1 oc2 kV2 dc2 pm2 cd2 ct2 oc3 kV3 dc3 pm3 cd3 ct3 oc4 kV4 dc4 pm4 cd4 ct4 oc5 kV5 dc5 pm5 cd5 ct5 oc6 kV6 dc6 pm6 cd6 ct6 oc7 kV7 dc7 pm7 cd7 ct7 : Value}
    (a0 : PySem.W.nsIn K mainGlobals "link_word" = some (some (.ref f0))) (l0 : K.lookup f0 = some ⟨oc0, od0, .func (PySem.W.fnOf "link_word" "link_word" (defArgs s_link_word) (defBody s_link_word) (defScope s_link_word) .none kV0 dc0 pm0 an0 cd0 ct0), sl0⟩) (c0 : PySem.W.codeIn K cd0 "link_word" = true) (k0 : PySem.W.keepIn K (.ref f0) = true)
    (a1 : PySem.W.nsIn K mainGlobals "told_by" = some (some (.ref f1))) (l1 : K.lookup f1 = some ⟨oc1, od1, .func (PySem.W.fnOf "told_by" "told_by" (defArgs s_told_by) (defBody s_told_by) (defScope s_told_by) .none kV1 dc1 pm1 an1 cd1 ct1), sl1⟩) (c1 : PySem.W.codeIn K cd1 "told_by" = true) (k1 : PySem.W.keepIn K (.ref f1) = true)
    (a2 : PySem.W.nsIn K mainGlobals "hung" = some (some (.ref f2))) (l2 : K.lookup f2 = some ⟨oc2, od2, .func (PySem.W.fnOf "hung" "hung" (defArgs s_hung) (defBody s_hung) (defScope s_hung) .none kV2 dc2 pm2 an2 cd2 ct2), sl2⟩) (c2 : PySem.W.codeIn K cd2 "hung" = true) (k2 : PySem.W.keepIn K (.ref f2) = true)
    (a3 : PySem.W.nsIn K mainGlobals "_law_at" = some (some (.ref f3))) (l3 : K.lookup f3 = some ⟨oc3, od3, .func (PySem.W.fnOf "_law_at" "_law_at" (defArgs s_law_at) (defBody s_law_at) (defScope s_law_at) .none kV3 dc3 pm3 an3 cd3 ct3), sl3⟩) (c3 : PySem.W.codeIn K cd3 "_law_at" = true) (k3 : PySem.W.keepIn K (.ref f3) = true)
    (a4 : PySem.W.nsIn K mainGlobals "_law_is_int" = some (some (.ref f4))) (l4 : K.lookup f4 = some ⟨oc4, od4, .func (PySem.W.fnOf "_law_is_int" "_law_is_int" (defArgs s_law_is_int) (defBody s_law_is_int) (defScope s_law_is_int) .none kV4 dc4 pm4 an4 cd4 ct4), sl4⟩) (c4 : PySem.W.codeIn K cd4 "_law_is_int" = true) (k4 : PySem.W.keepIn K (.ref f4) = true)
    (a5 : PySem.W.nsIn K mainGlobals "_law_words_are" = some (some (.ref f5))) (l5 : K.lookup f5 = some ⟨oc5, od5, .func (PySem.W.fnOf "_law_words_are" "_law_words_are" (defArgs s_law_words_are) (defBody s_law_words_are) (defScope s_law_words_are) .none kV5 dc5 pm5 an5 cd5 ct5), sl5⟩) (c5 : PySem.W.codeIn K cd5 "_law_words_are" = true) (k5 : PySem.W.keepIn K (.ref f5) = true)
    (a6 : PySem.W.nsIn K mainGlobals "_law_number" = some (some (.ref f6))) (l6 : K.lookup f6 = some ⟨oc6, od6, .func (PySem.W.fnOf "_law_number" "_law_number" (defArgs s_law_number) (defBody s_law_number) (defScope s_law_number) .none kV6 dc6 pm6 an6 cd6 ct6), sl6⟩) (c6 : PySem.W.codeIn K cd6 "_law_number" = true) (k6 : PySem.W.keepIn K (.ref f6) = true)
    (a7 : PySem.W.nsIn K mainGlobals "law" = some (some (.ref f7))) (l7 : K.lookup f7 = some ⟨oc7, od7, .func (PySem.W.fnOf "law" "law" (defArgs s_law) (defBody s_law) (defScope s_law) .none kV7 dc7 pm7 an7 cd7 ct7), sl7⟩) (c7 : PySem.W.codeIn K cd7 "law" = true) (k7 : PySem.W.keepIn K (.ref f7) = true)
    (z_int : PySem.W.nsIn K mainGlobals "int" = some none) (z_isinstance : PySem.W.nsIn K mainGlobals "isinstance" = some none) (z_len : PySem.W.nsIn K mainGlobals "len" = some none) (z_list : PySem.W.nsIn K mainGlobals "list" = some none) (z_range : PySem.W.nsIn K mainGlobals "range" = some none) :
    ∃ fd : FuncData, (∀ (s : Shared) (v : Value), BindsTo s fd ⟨[v], []⟩ [("_law_script", v)]) ∧ ∀ base : Heap, K.In base → base.Ns mainGlobals mg → FnOk l.prog w K mg base CX0 4 fa fd ["_law_script"] (spLaw K) := by
  have e := hfa.symm.trans (PySem.W.mg_of X G a7)
  cases e
  have T : Txt K mg := ⟨PySem.W.mg_none_of X G z_int, PySem.W.mg_none_of X G z_isinstance, PySem.W.mg_none_of X G z_len, PySem.W.mg_none_of X G z_list, PySem.W.mg_none_of X G z_range⟩
  have d_link_word : DefAt K mg "link_word" "link_word" s_link_word := ⟨_, _, fun_mk (st := s_link_word) l0 c0 k0, PySem.W.mg_of X G a0⟩
  have d_told_by : DefAt K mg "told_by" "told_by" s_told_by := ⟨_, _, fun_mk (st := s_told_by) l1 c1 k1, PySem.W.mg_of X G a1⟩
  have d_hung : DefAt K mg "hung" "hung" s_hung := ⟨_, _, fun_mk (st := s_hung) l2 c2 k2, PySem.W.mg_of X G a2⟩
  have d_law_at : DefAt K mg "_law_at" "_law_at" s_law_at := ⟨_, _, fun_mk (st := s_law_at) l3 c3 k3, PySem.W.mg_of X G a3⟩
  have d_law_is_int : DefAt K mg "_law_is_int" "_law_is_int" s_law_is_int := ⟨_, _, fun_mk (st := s_law_is_int) l4 c4 k4, PySem.W.mg_of X G a4⟩
  have d_law_words_are : DefAt K mg "_law_words_are" "_law_words_are" s_law_words_are := ⟨_, _, fun_mk (st := s_law_words_are) l5 c5 k5, PySem.W.mg_of X G a5⟩
  have d_law_number : DefAt K mg "_law_number" "_law_number" s_law_number := ⟨_, _, fun_mk (st := s_law_number) l6 c6 k6, PySem.W.mg_of X G a6⟩
  have d_law : DefAt K mg "law" "law" s_law := ⟨_, _, fun_mk (st := s_law) l7 c7 k7, PySem.W.mg_of X G a7⟩
  refine ⟨PySem.W.fnOf "law" "law" (defArgs s_law) (defBody s_law) (defScope s_law) .none kV7 dc7 pm7 an7 cd7 ct7, fun s v => .of_eq rfl, fun base _ _ => ?_⟩
  exact ok_law (fun_mk (st := s_law) l7 c7 k7) T ⟨d_link_word, d_told_by, d_hung, d_law_at, d_law_is_int, d_law_words_are, d_law_number⟩
theorem walk {l : PySem.W.OpenLaw} {q : Program} {loose : List Str} {XP : (Str → Option Value) → Heap → Prop} {YP : World → Heap → Prop} {d : DefRec} {K : Params → PySem.W.Frag} (hn : l.most = some 63) (hdf : d.params.defaults = [])
    (hY : ∀ (w : World) (h : Heap), YP w h → (K w.params).In h)
    (F : ∀ (w : World) (mg : Str → Option Value) (fa : Addr) (h : Heap), (K w.params).In h → h.Ns mainGlobals mg → mg d.name = some (.ref fa) →
      ∃ fd : FuncData, (∀ (s : Shared) (u : Value), BindsTo s fd ⟨[u], []⟩ [("_law_script", u)]) ∧ ∀ base : Heap, (K w.params).In base → base.Ns mainGlobals mg → FnOk l.prog w (K w.params) mg base CX0 4 fa fd ["_law_script"] (spLaw (K w.params))) :
    PySem.W.WalkO q loose XP YP l.row.toRowW d [] (fun f vs => PySem.call f vs) :=
  L2.walk_ofB (n := 63) (k := 4) (x := "_law_script") (CX := fun _ => CX0) (sp := fun w => spLaw (K w.params)) hn (by decide) hdf ⟨rfl, by decide, by decide⟩ hY F (fun _ _ a ns hl hb _ hS => ⟨a, ns, rfl, hS, hl, hb, fun _ => rfl⟩) fun _ _ _ _ _ z => z
end Tw
open PySem PySem.W PyProof.Rows in
set_option maxRecDepth 100000 in
set_option maxHeartbeats 0 in
theorem PySem.Challenge.cw_threadslide_k02_hung_up_once_holds : PySem.Challenge.rw_threadslide_k02_hung_up_once.Holds := by
  w_on; o_law; k_head; (case hw => w_witness2)
  k_fill
  refine Tw.walk (l := PySem.Challenge.rw_threadslide_k02_hung_up_once) rfl rfl (fun w h Y => PySem.W.kIn_of Y) ?F
  case F =>
    intro w mg fa h KX G hmg
    refine' Tw.all_mk KX G hmg ?a0 ?l0 ?c0 ?k0 ?a1 ?l1 ?c1 ?k1 ?a2 ?l2 ?c2 ?k2 ?a3 ?l3 ?c3 ?k3 ?a4 ?l4 ?c4 ?k4 ?a5 ?l5 ?c5 ?k5 ?a6 ?l6 ?c6 ?k6 ?a7 ?l7 ?c7 ?k7 ?z_int ?z_isinstance ?z_len ?z_list ?z_range
    (case a0 => k_is)
    (case l0 => k_is)
    (case c0 => k_is)
    (case k0 => k_is)
    (case a1 => k_is)
    (case l1 => k_is)
    (case c1 => k_is)
    (case k1 => k_is)
    (case a2 => k_is)
    (case l2 => k_is)
    (case c2 => k_is)
    (case k2 => k_is)
    (case a3 => k_is)
    (case l3 => k_is)
    (case c3 => k_is)
    (case k3 => k_is)
    (case a4 => k_is)
    (case l4 => k_is)
    (case c4 => k_is)
    (case k4 => k_is)
    (case a5 => k_is)
    (case l5 => k_is)
    (case c5 => k_is)
    (case k5 => k_is)
    (case a6 => k_is)
    (case l6 => k_is)
    (case c6 => k_is)
    (case k6 => k_is)
    (case a7 => k_is)
    (case l7 => k_is)
    (case c7 => k_is)
    (case k7 => k_is)
    (case z_int => k_is)
    (case z_isinstance => k_is)
    (case z_len => k_is)
    (case z_list => k_is)
    (case z_range => k_is)
