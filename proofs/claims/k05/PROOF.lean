import PyProof.Rows.All
import Wide.All
import OpenK.AllK
import Wide.FinOn
import HandS.ForMost
import HandS.Evl
import HandS.IsInst
import HandS.Style
import HandS.Wide
import HandS.EndBits
import HandS.SortInts
import PySem.Challenge.RW_threadslide_k05_whole_pushed
set_option Elab.async false
set_option linter.all false
set_option maxRecDepth 100000
set_option maxHeartbeats 4000000
/-! Steps over the hand layer: a def by its name, readings taken step by step, facts of the heap found by themselves. -/
namespace Tw
open PySem PySem.Spec PyProof.Rows L2
open Evl (Ex ex_l ex_t fresh_back sz_of sz_lt)

/-! ### a def by its name -/
structure DefAt (K : PySem.W.Frag) (mg : Str → Option Value) (x qual : Str) (st : Stmt) : Prop where
  ex : ∃ f fd, Fun K x qual st f fd ∧ mg x = some (.ref f)
structure Cal (P : Program) (w : World) (K : PySem.W.Frag) (mg : Str → Option Value) (base : Heap) (x : Str) (k : Nat) (ps : List Str) (sp : Sp) : Prop where
  ex : ∃ f fd, FnOk P w K mg base CX0 k f fd ps sp ∧ mg x = some (.ref f) ∧ PySem.W.keepIn K (.ref f) = true ∧ Binds K fd ps []
section
variable {P : Program} {w : World} {K : PySem.W.Frag} {mg : Str → Option Value} {base : Heap}
theorem Cal.of {x qual : Str} {st : Stmt} {k : Nat} {N ps : List Str} {sp : Sp} (D : DefAt K mg x qual st) (S : FnScope N ps (defScope st)) (len : ∀ vs H Q E, sp vs H Q E → vs.length = ps.length)
    (hb : ∀ (kV doc pm : Value) (an : Option Addr) (cdv ct : Value) (us : List Value), us.length = ps.length → bindArgs (PySem.W.fnOf x qual (defArgs st) (defBody st) (defScope st) .none kV doc pm an cdv ct) ⟨us, []⟩ = pure (ps.zip us))
    (hbody : ∀ (f : Addr) (cdv : Value) (A : Around) (outer : List Env) (s : Shared) (H : Hp) (vs : List V) (Q : VK) (E : XK), Room k (A.deeper (envOfC qual (defScope st) s.heap.objs.size f cdv)) → sp vs H Q E →
      ∃ t, PSs (cxOf CX0 P w K mg base N qual (defScope st) f cdv A outer s H E).nox (defBody st) t ∧ t { nx := fun _ H' => Q .non H', rt := Q } (start N vs) H) : Cal P w K mg base x (k + 1) ps sp := by
  obtain ⟨f, fd, F, hm⟩ := D.ex
  exact ⟨f, fd, F.ok S len (hbody f), hm, F.kp, F.binds hb⟩
theorem pe_callC {X : Cx} {x : Str} {k : Nat} {ps : List Str} {sp : Sp} {p pos : Pos} {e : Expr} {es : List Expr} {t : TA} (c : Cal X.prog X.w X.K X.mg X.base x k ps sp) (hr : Room k X.A) (hg : Gl X x)
    (ha : PA X (e :: es) t) (hdb : (x == ("__debug__" : Str)) = false := by decide) (he : starEach (e :: es) X.env = (false, eval e X.env) :: starEach es X.env := by rfl) (hpl : (backTo pos (starEach es X.env)).any (·.1) = false := by rfl) :
    PE X (.Call (.Name x p) (e :: es) [] pos) (tCall sp [] E0 t) := by
  obtain ⟨f, fd, F, hm, hk, hb⟩ := c.ex
  exact pe_call F hr hg hm hk hb .nil pass0 ha hdb he hpl
end

/-! ### wider operators -/
section
variable {X : Cx}
/-- * of two ints, each of less than 2^20 and 187 bits -/
def CMulB (i j : Int) : Prop := Builtin.Int.intBits i + Builtin.Int.intBits j ≤ 10000000
theorem CMulB.ok {i j : Int} (h : CMulB i j) : IntMulOk i j := by
  have h3 : Builtin.Int.intBits i + Builtin.Int.intBits j ≤ 10000000 := h
  have e : bitsLine = 134217728 := by decide
  unfold IntMulOk
  intro z
  rw [Bool.and_eq_true] at z
  have z2 := z.2
  unfold Builtin.Int.intTooBig at z2
  have z3 := of_decide_eq_true z2
  rw [e] at z3
  omega
theorem op_mulB : OpR X (binaryOp .Mult) (rI CMulB fun i j => .int (i * j)) := opI fun _ _ _ _ _ _ _ hc q => mul_int q hc.ok
/-- an int is no bool -/
theorem op_notIB : OpR X (compareOp .IsNot) (fun x y H Q => ∃ i b, x = .int i ∧ y = .bl b ∧ Q (.bl true) H) := by
  intro pins s σ H x y v u Q I rx ry h
  obtain ⟨i, b, rfl, rfl, q⟩ := h
  obtain ⟨t, rfl⟩ := rx
  cases (show u = Value.bool b from ry)
  exact wpAny_isNot_other rfl (fun z => by cases z) ⟨.bl true, H, I, rfl, q⟩
end
end Tw

set_option Elab.async false
set_option linter.all false
set_option maxRecDepth 100000
set_option maxHeartbeats 4000000
namespace Tw
open PySem PySem.Spec PyProof.Rows L2
open Evl (Ex ex_l ex_t fresh_back sz_of sz_lt)

/-! ### operators whose reading is chosen by the values -/
section
variable {X : Cx}
def rAddA : R2 := fun x y H Q => rI0 (fun i j => .int (i + j)) x y H Q ∨ rCat x y H Q
theorem op_addA : OpR X (binaryOp .Add) rAddA := op_add.or op_cat
def CMulA (i j : Int) : Prop := CMul i j ∨ CMulB i j
theorem CMulA.ok {i j : Int} (h : CMulA i j) : IntMulOk i j := h.elim CMul.ok CMulB.ok
theorem op_mulI : OpR X (binaryOp .Mult) (rI CMulA fun i j => .int (i * j)) := opI fun _ _ _ _ _ _ _ hc q => mul_int q hc.ok
def rMulA : R2 := fun x y H Q => rI CMulA (fun i j => .int (i * j)) x y H Q ∨ rRep x y H Q
theorem op_mulA : OpR X (binaryOp .Mult) rMulA := op_mulI.or op_rep
def rSlA (K : PySem.W.Frag) : V → Option Int → Option Int → Hp → VK → Prop := fun x lo hi H Q => rSlL K x lo hi H Q ∨ rSlT K x lo hi H Q
theorem sl_A : SlR X (rSlA X.K) := sl_list.or sl_tup
def rNotA : R2 := fun x y H Q => (∃ i b, x = .int i ∧ y = .bl b ∧ Q (.bl true) H) ∨ rNotB x y H Q ∨ (y = .non ∧ Q (.bl (!decide (x = .non))) H)
theorem op_notA : OpR X (compareOp .IsNot) rNotA := op_notIB.or (op_notBl.or op_notN)
def rIsA : R2 := fun x y H Q => rIsB x y H Q ∨ (y = .non ∧ Q (.bl (decide (x = .non))) H)
theorem op_isA : OpR X (compareOp .Is) rIsA := op_isBl.or op_isN
def rEqA (K : PySem.W.Frag) : R2 := fun x y H Q => rEq x y H Q ∨ rEqD K x y H Q
theorem op_eqA (hu : X.A.units + 64 < cLine) : OpR X (compareOp .Eq) (rEqA X.K) := op_eq.or (op_eqD hu)
def rNeA (K : PySem.W.Frag) : R2 := fun x y H Q => rNe x y H Q ∨ rNeD K x y H Q
theorem op_neA (hu : X.A.units + 64 < cLine) : OpR X (compareOp .NotEq) (rNeA X.K) := op_ne.or (op_neD hu)
def rLenA (K : PySem.W.Frag) : List V → Hp → VK → Prop := fun xs H Q => ∃ p ys, xs = [.ref p] ∧ (SqL K H p ys ∨ SqT K H p ys) ∧ Q (.int ys.length) H
theorem call_lenA : CallR X (.builtin "len") (rLenA X.K) := call_len_seq
def rIntA : List V → Hp → VK → Prop := fun xs H Q => (∃ i, xs = [.int i] ∧ Q (.int i) H) ∨ ∃ k, xs = [.bl k] ∧ Q (.int (if k then 1 else 0)) H
theorem call_intA : CallR X (.type "int") rIntA := call_int1
def rListA (K : PySem.W.Frag) : List V → Hp → VK → Prop := fun xs H Q => ∃ p ys, xs = [.ref p] ∧ (SqL K H p ys ∨ SqT K H p ys) ∧ ∀ l, H l = none → Q (.ref l) (upd H l (.lst ys))
theorem call_listA : CallR X (.type "list") (rListA X.K) := call_list_of
def rMaxA : List V → Hp → VK → Prop := fun xs H Q => ∃ i j, xs = [.int i, .int j] ∧ Q (.int (if j > i then j else i)) H
theorem call_maxA (hc : X.calm = true) : CallR X (.builtin "max") rMaxA := call_max2 hc
def rMinA : List V → Hp → VK → Prop := fun xs H Q => ∃ i j, xs = [.int i, .int j] ∧ Q (.int (if j < i then j else i)) H
theorem call_minA (hc : X.calm = true) : CallR X (.builtin "min") rMinA := call_min2 hc
def rAbsA : List V → Hp → VK → Prop := fun xs H Q => ∃ i, xs = [.int i] ∧ Q (.int (if i < 0 then -i else i)) H
theorem call_absA : CallR X (.builtin "abs") rAbsA := call_abs
end

/-! the same, the written part named -/
section
variable {X : Cx} {K : PySem.W.Frag}
theorem ix_seqK (h : X.K = K) : IxR X (rIx K) := h ▸ ix_seq
theorem sl_AK (h : X.K = K) : SlR X (rSlA K) := h ▸ sl_A
theorem op_eqK (h : X.K = K) (hu : X.A.units + 64 < cLine) : OpR X (compareOp .Eq) (rEqA K) := h ▸ op_eqA hu
theorem op_neK (h : X.K = K) (hu : X.A.units + 64 < cLine) : OpR X (compareOp .NotEq) (rNeA K) := h ▸ op_neA hu
theorem op_inK (h : X.K = K) : OpR X (compareOp .In) (rIn K false) := h ▸ op_in_seq
theorem op_notInK (h : X.K = K) : OpR X (compareOp .NotIn) (rIn K true) := h ▸ op_notIn_seq
theorem call_lenK (h : X.K = K) : CallR X (.builtin "len") (rLenA K) := h ▸ call_lenA
theorem call_isiK' (h : X.K = K) : CallR X (.builtin "isinstance") (rIsi K) := h ▸ call_isi
theorem call_listK (h : X.K = K) : CallR X (.type "list") (rListA K) := h ▸ call_listA
theorem cr_sumK (h : X.K = K) (hc : X.calm = true) : CallR X (.builtin "sum") (rSum K) := h ▸ cr_sum hc
theorem cr_sortedK (h : X.K = K) : CallR X (.builtin "sorted") (rSortedI K) := h ▸ cr_sortedI
theorem pi_listK (h : X.K = K) {l tg : Expr} {tl : TE} (hl : PE X l tl) : PI X tg l (iList K tl) := h ▸ pi_list hl
theorem pi_tupK (h : X.K = K) {l tg : Expr} {tl : TE} (hl : PE X l tl) : PI X tg l (iTup K tl) := h ▸ pi_tup hl
theorem pe_bm0K (h : X.K = K) {T name id : String} {r : V → List V → Hp → VK → Prop} {o : Expr} {to : TE} {apos cpos : Pos} (pa : PlainAttrs T) (slot : Slot T name id) (hty : typeOf (.builtin id) = pure (.type "method_descriptor")) (hm : MtR X id r) (ho : PE X o to)
    (hbase : attributeBase o name X.env (eval o X.env) = eval o X.env := by rfl) (hline : (apos.endLine == cpos.line) = true := by rfl) : PE X (.Call (.Attribute o name apos) [] [] cpos) (tBM0 K T r to) := h ▸ pe_bm0 pa slot hty hm ho hbase hline
theorem pe_bmK (h : X.K = K) {T name id : String} {r : V → List V → Hp → VK → Prop} {o e : Expr} {es : List Expr} {to : TE} {t : TA} {apos cpos : Pos} (pa : PlainAttrs T) (slot : Slot T name id) (hty : typeOf (.builtin id) = pure (.type "method_descriptor")) (hm : MtR X id r) (ho : PE X o to) (ha : PA X (e :: es) t)
    (hbase : attributeBase o name X.env (eval o X.env) = eval o X.env := by rfl)
    (hfew : ((backTo cpos (starEach (e :: es) X.env)).all (fun x => !x.1) && (backToKw cpos (keywordEach [] X.env)).all (fun x => x.1.isSome)
      && decide ((e :: es).length + ([] : List Keyword).length + (if ([] : List Keyword).isEmpty then 0 else 1) < 30)) = true := by rfl)
    (hline : (apos.endLine == cpos.line) = true := by rfl) (hs : starEach (e :: es) X.env = (false, eval e X.env) :: starEach es X.env := by rfl) (hplain : (backTo cpos (starEach es X.env)).any (·.1) = false := by rfl) :
    PE X (.Call (.Attribute o name apos) (e :: es) [] cpos) (tBM K T r to t) := h ▸ pe_bm pa slot hty hm ho ha hbase hfew hline hs hplain
theorem pe_fldK (h : X.K = K) {e : Expr} {f : Str} {pos : Pos} {ta : TE} (he : PE X e ta) (hb : attributeBase e f X.env (eval e X.env) = eval e X.env) : PE X (.Attribute e f pos) (tFld K ta f) := h ▸ pe_fld he hb
end

/-! ### one step -/
section
variable {K : PySem.W.Frag} {σ : L2.St} {H H1 H2 : Hp} {D : Ends} {t u : TS} {te ta tb : TE} {tt tu : TT} {Q : VK} {B : Bool → Hp → Prop}
theorem w_seq (h : t { D with nx := u D } σ H) : tSeq t u D σ H := h
theorem w_asg {g : TG} (h : te σ H fun x H1 => g x σ H1 D.nx) : tAsg te g D σ H := h
theorem w_gName {i : Nat} {v : V} {R : L2.St → Hp → Prop} (h : R (σ.set i (some v)) H) : gName i v σ H R := h
theorem w_ret (h : te σ H D.rt) : tRet te D σ H := h
theorem w_retN (h : D.rt .non H) : tRetN D σ H := h
theorem w_drop (h : te σ H fun _ H1 => D.nx σ H1) : tDrop te D σ H := h
theorem w_ifS (h : tt σ H fun b H1 => if b = true then t D σ H1 else u D σ H1) : tIfS tt t u D σ H := h
theorem w_next (h : D.nx σ H) : tNext D σ H := h
theorem w_break (h : D.bk σ H) : tBreak D σ H := h
theorem w_cont (h : D.ct σ H) : tCont D σ H := h
theorem w_nx {f b c : L2.St → Hp → Prop} {r : VK} (h : f σ H) : Ends.nx ⟨f, r, b, c⟩ σ H := h
theorem w_ct {f b c : L2.St → Hp → Prop} {r : VK} (h : c σ H) : Ends.ct ⟨f, r, b, c⟩ σ H := h
theorem w_bk {f b c : L2.St → Hp → Prop} {r : VK} (h : b σ H) : Ends.bk ⟨f, r, b, c⟩ σ H := h
theorem w_rt {f b c : L2.St → Hp → Prop} {r : VK} {v : V} (h : r v H) : Ends.rt ⟨f, r, b, c⟩ v H := h
theorem w_var {i : Nat} {v : V} (e : σ[i]? = some (some v)) (h : Q v H) : tVar i σ H Q := ⟨v, e, h⟩
theorem w_c {v : V} (h : Q v H) : tC v σ H Q := h
theorem w_op {r : R2} (h : ta σ H fun x H1 => tb σ H1 fun y H2 => r x y H2 Q) : tOp r ta tb σ H Q := h
theorem w_un {r : V → Hp → VK → Prop} (h : ta σ H fun x H1 => r x H1 Q) : tUn r ta σ H Q := h
theorem w_I0 {g : Int → Int → V} {i j : Int} (h : Q (g i j) H) : rI0 g (.int i) (.int j) H Q := ⟨i, j, rfl, rfl, h⟩
theorem w_I {C : Int → Int → Prop} {g : Int → Int → V} {i j : Int} (c : C i j) (h : Q (g i j) H) : rI C g (.int i) (.int j) H Q := ⟨i, j, rfl, rfl, c, h⟩
theorem w_U {g : Int → V} {i : Int} (h : Q (g i) H) : rU g (.int i) H Q := ⟨i, rfl, h⟩
theorem w_addI {i j : Int} (h : Q (.int (i + j)) H) : rAddA (.int i) (.int j) H Q := Or.inl ⟨i, j, rfl, rfl, h⟩
theorem w_addL {l b : Addr} {xs zs : List V} (h1 : H l = some (.lst xs)) (h2 : H b = some (.lst zs)) (hz : xs.length + zs.length ≤ 1000000) (h : ∀ p, H p = none → Q (.ref p) (upd H p (.lst (xs ++ zs)))) : rAddA (.ref l) (.ref b) H Q :=
  Or.inr ⟨l, b, xs, zs, rfl, rfl, h1, h2, Nat.le_trans hz (by decide), h⟩
theorem w_mulI {i j : Int} (c : CMulA i j) (h : Q (.int (i * j)) H) : rMulA (.int i) (.int j) H Q := Or.inl ⟨i, j, rfl, rfl, c, h⟩
theorem w_mulL {l : Addr} {k : Int} {xs : List V} (h1 : H l = some (.lst xs)) (b1 : -1000000 ≤ k) (b2 : k ≤ 1000000) (hz : xs.length * k.toNat ≤ 1000000) (h : ∀ p, H p = none → Q (.ref p) (upd H p (.lst (List.replicate k.toNat xs).flatten))) : rMulA (.ref l) (.int k) H Q :=
  Or.inr ⟨l, k, xs, rfl, rfl, h1, by omega, by omega, Nat.le_trans hz (by decide), h⟩
theorem w_mulL1 {l : Addr} {k : Int} {v : V} (h1 : H l = some (.lst [v])) (b1 : -1000000 ≤ k) (b2 : k ≤ 1000000) (h : ∀ p, H p = none → Q (.ref p) (upd H p (.lst (List.replicate k.toNat v)))) : rMulA (.ref l) (.int k) H Q :=
  w_mulL h1 b1 b2 (by show 1 * _ ≤ _; omega) fun p hp => by
    have e : (List.replicate k.toNat [v]).flatten = List.replicate k.toNat v := List.flatten_replicate_singleton
    rw [e]; exact h p hp
theorem w_notIB {i : Int} {b : Bool} (h : Q (.bl true) H) : rNotA (.int i) (.bl b) H Q := Or.inl ⟨i, b, rfl, rfl, h⟩
theorem w_notBB {a b : Bool} (h : Q (.bl (!decide (a = b))) H) : rNotA (.bl a) (.bl b) H Q := Or.inr (Or.inl ⟨a, b, rfl, rfl, h⟩)
theorem w_notN {x : V} (h : Q (.bl (!decide (x = .non))) H) : rNotA x .non H Q := Or.inr (Or.inr ⟨rfl, h⟩)
theorem w_isBB {a b : Bool} (h : Q (.bl (decide (a = b))) H) : rIsA (.bl a) (.bl b) H Q := Or.inl ⟨a, b, rfl, rfl, h⟩
theorem w_isN {x : V} (h : Q (.bl (decide (x = .non))) H) : rIsA x .non H Q := Or.inr ⟨rfl, h⟩
theorem dec_i {i j : Int} : decide (V.int i = V.int j) = decide (i = j) := by simp
theorem dec_b {i j : Bool} : decide (V.bl i = V.bl j) = decide (i = j) := by simp
theorem dec_s {i j : Str} : decide (V.str i = V.str j) = decide (i = j) := by simp
theorem w_eqI {i j : Int} (h : Q (.bl (decide (i = j))) H) : rEqA K (.int i) (.int j) H Q := Or.inl ⟨rfl, by rw [dec_i]; exact h⟩
theorem w_neI {i j : Int} (h : Q (.bl (!decide (i = j))) H) : rNeA K (.int i) (.int j) H Q := Or.inl ⟨rfl, by rw [dec_i]; exact h⟩
theorem w_eqB {i j : Bool} (h : Q (.bl (decide (i = j))) H) : rEqA K (.bl i) (.bl j) H Q := Or.inl ⟨rfl, by rw [dec_b]; exact h⟩
theorem w_neB {i j : Bool} (h : Q (.bl (!decide (i = j))) H) : rNeA K (.bl i) (.bl j) H Q := Or.inl ⟨rfl, by rw [dec_b]; exact h⟩
theorem w_eqS {i j : Str} (h : Q (.bl (decide (i = j))) H) : rEqA K (.str i) (.str j) H Q := Or.inl ⟨rfl, by rw [dec_s]; exact h⟩
theorem w_neS {i j : Str} (h : Q (.bl (!decide (i = j))) H) : rNeA K (.str i) (.str j) H Q := Or.inl ⟨rfl, by rw [dec_s]; exact h⟩
theorem w_eqD {x y : V} {d e : PyData} (h1 : Dp K H x d) (h2 : Dp K H y e) (s1 : SeqAt.shaped d = true) (s2 : SeqAt.shaped e = true) (h : Q (.bl (PyData.eqv d e)) H) : rEqA K x y H Q := Or.inr ⟨d, e, h1, h2, s1, s2, h⟩
theorem w_neD {x y : V} {d e : PyData} (h1 : Dp K H x d) (h2 : Dp K H y e) (s1 : SeqAt.shaped d = true) (s2 : SeqAt.shaped e = true) (h : Q (.bl (!PyData.eqv d e)) H) : rNeA K x y H Q := Or.inr ⟨d, e, h1, h2, s1, s2, h⟩
theorem w_test (h : te σ H fun x H1 => ∃ k, x = .bl k ∧ B k H1) : tTest te σ H B := h
theorem w_B (h : te σ H fun x H1 => ∃ k, x = .bl k ∧ B k H1) : tB te σ H B := h
theorem w_exB {b : Bool} (h : B b H) : ∃ k, V.bl b = .bl k ∧ B k H := ⟨b, rfl, h⟩
theorem w_and (h : tt σ H fun c H1 => if c = true then tu σ H1 B else B false H1) : tAnd tt tu σ H B := h
theorem w_or (h : tt σ H fun c H1 => if c = true then B true H1 else tu σ H1 B) : tOr tt tu σ H B := h
theorem w_not (h : tt σ H fun c H1 => B (!c) H1) : tNot tt σ H B := h
theorem w_andV (h : ta σ H fun x H1 => ∃ c, x = .bl c ∧ if c = true then tb σ H1 Q else Q (.bl false) H1) : tAndV ta tb σ H Q := h
theorem w_orV (h : ta σ H fun x H1 => ∃ c, x = .bl c ∧ if c = true then Q (.bl true) H1 else tb σ H1 Q) : tOrV ta tb σ H Q := h
theorem w_notV (h : ta σ H fun x H1 => ∃ c, x = .bl c ∧ Q (.bl (!c)) H1) : tNotV ta σ H Q := h
theorem w_bl {b : Bool} {F : Bool → Prop} (h : F b) : ∃ c, V.bl b = .bl c ∧ F c := ⟨b, rfl, h⟩
theorem w_if (h : tt σ H fun c H1 => if c = true then ta σ H1 Q else tb σ H1 Q) : tIf tt ta tb σ H Q := h
theorem w_nil {F : List V → Hp → Prop} (h : F [] H) : tNil σ H F := h
theorem w_cons {tr : TA} {F : List V → Hp → Prop} (h : ta σ H fun x H1 => tr σ H1 fun xs H2 => F (x :: xs) H2) : tCons ta tr σ H F := h
theorem w_cb {r : List V → Hp → VK → Prop} {a : TA} (h : a σ H fun vs H1 => r vs H1 Q) : tCB r a σ H Q := h
theorem w_call {sp : Sp} {dvs : List V} {E : XK} {a : TA} (h : a σ H fun vs H1 => sp (vs ++ dvs) H1 Q E) : tCall sp dvs E a σ H Q := h
theorem w_tup {a : TA} (h : a σ H fun xs H1 => xs.length ≤ sizeLine ∧ ∀ p, H1 p = none → Q (.ref p) (upd H1 p (.tup xs))) : tTup a σ H Q := h
theorem w_lst {a : TA} (h : a σ H fun xs H1 => xs.length ≤ sizeLine ∧ ∀ p, H1 p = none → Q (.ref p) (upd H1 p (.lst xs))) : tLst a σ H Q := h
theorem w_fin {n : Nat} {F : Prop} (hz : n ≤ 1000) (h : F) : n ≤ sizeLine ∧ F := ⟨Nat.le_trans hz (by decide), h⟩
theorem w_len {p : Addr} {ys : List V} (s : SqL K H p ys) (h : Q (.int ys.length) H) : rLenA K [.ref p] H Q := ⟨p, ys, rfl, .inl s, h⟩
theorem w_lenT {p : Addr} {ys : List V} (s : SqT K H p ys) (h : Q (.int ys.length) H) : rLenA K [.ref p] H Q := ⟨p, ys, rfl, .inr s, h⟩
theorem w_intI {i : Int} (h : Q (.int i) H) : rIntA [.int i] H Q := .inl ⟨i, rfl, h⟩
theorem w_intB {b : Bool} (h : Q (.int (if b then 1 else 0)) H) : rIntA [.bl b] H Q := .inr ⟨b, rfl, h⟩
theorem w_list {p : Addr} {ys : List V} (s : SqL K H p ys) (h : ∀ l, H l = none → Q (.ref l) (upd H l (.lst ys))) : rListA K [.ref p] H Q := ⟨p, ys, rfl, .inl s, h⟩
theorem w_max {i j : Int} (h : Q (.int (if j > i then j else i)) H) : rMaxA [.int i, .int j] H Q := ⟨i, j, rfl, h⟩
theorem w_min {i j : Int} (h : Q (.int (if j < i then j else i)) H) : rMinA [.int i, .int j] H Q := ⟨i, j, rfl, h⟩
theorem w_abs {i : Int} (h : Q (.int (if i < 0 then -i else i)) H) : rAbsA [.int i] H Q := ⟨i, rfl, h⟩
theorem w_sl {r : V → Option Int → Option Int → Hp → VK → Prop} {tl th : TO} (h : te σ H fun x H1 => tl σ H1 fun l H2 => th σ H2 fun u H3 => r x l u H3 Q) : tSl r te tl th σ H Q := h
theorem w_noPart {F : Option Int → Hp → Prop} (h : F none H) : tNoPart σ H F := h
theorem w_part {F : Option Int → Hp → Prop} (h : te σ H fun x H1 => ∃ i, x = .int i ∧ F (some i) H1) : tPart te σ H F := h
theorem w_exI {i : Int} {F : Int → Prop} (h : F i) : ∃ j, V.int i = .int j ∧ F j := ⟨i, rfl, h⟩
theorem w_slL {a : Addr} {xs : List V} {lo hi : Option Int} (s : SqL K H a xs) (h : ∀ p, H p = none → Q (.ref p) (upd H p (.lst (cutV xs lo hi)))) : rSlA K (.ref a) lo hi H Q := Or.inl ⟨a, xs, rfl, s, h⟩
theorem w_ixL {p : Addr} {xs : List V} {i : Int} {v : V} (s : SqL K H p xs) (e : atI xs i = some v) (h : Q v H) : rIx K (.ref p) (.int i) H Q := .inl ⟨p, xs, i, v, rfl, rfl, s, e, h⟩
theorem w_ixT {p : Addr} {xs : List V} {i : Int} {v : V} (s : SqT K H p xs) (e : atI xs i = some v) (h : Q v H) : rIx K (.ref p) (.int i) H Q := .inr (.inl ⟨p, xs, i, v, rfl, rfl, s, e, h⟩)
theorem w_gSub {to ti : TE} {s : TSet} {v : V} {R : L2.St → Hp → Prop} (h : to σ H fun o H1 => ti σ H1 fun i H2 => s o i v H2 fun H3 => R σ H3) : gSub to ti s v σ H R := h
theorem w_setL {l : Addr} {xs : List V} {k : Int} {j : Nat} {v : V} {F : Hp → Prop} (e : H l = some (.lst xs)) (b : ixN xs.length k = some j) (h : F (upd H l (.lst (xs.set j v)))) : rSetL (.ref l) (.int k) v H F := ⟨l, xs, k, j, rfl, rfl, e, b, h⟩
theorem w_bm {T : String} {r : V → List V → Hp → VK → Prop} {to : TE} {a : TA} (h : to σ H fun x H1 => tyV K T x H1 ∧ a σ H1 fun xs H2 => r x xs H2 Q) : tBM K T r to a σ H Q := h
theorem w_bm0 {T : String} {r : V → List V → Hp → VK → Prop} {to : TE} (h : to σ H fun x H1 => tyV K T x H1 ∧ r x [] H1 Q) : tBM0 K T r to σ H Q := h
theorem w_tyL {l : Addr} {xs : List V} {F : Prop} (e : SqL K H l xs) (h : F) : tyV K "list" (.ref l) H ∧ F := ⟨.inl ⟨rfl, xs, e⟩, h⟩
theorem w_app {l : Addr} {xs : List V} {v : V} (e : H l = some (.lst xs)) (hz : xs.length < 1000000) (h : Q .non (upd H l (.lst (xs ++ [v])))) : rAppend (.ref l) [v] H Q := ⟨l, xs, v, rfl, rfl, e, Nat.lt_of_lt_of_le hz (by decide), h⟩
theorem w_ite {p A C : Prop} [Decidable p] (h1 : p → A) (h2 : ¬ p → C) : if decide p = true then A else C := by
  by_cases h : p
  · rw [if_pos (decide_eq_true h)]; exact h1 h
  · rw [if_neg (by rw [decide_eq_false h]; decide)]; exact h2 h
theorem w_iteN {p A C : Prop} [Decidable p] (h1 : ¬ p → A) (h2 : p → C) : if (!decide p) = true then A else C := by
  by_cases h : p
  · rw [if_neg (by rw [decide_eq_true h]; decide)]; exact h2 h
  · rw [if_pos (by rw [decide_eq_false h]; rfl)]; exact h1 h
theorem w_iteB {b : Bool} {A C : Prop} (h1 : b = true → A) (h2 : b = false → C) : if b = true then A else C := by
  cases b with
  | true => rw [if_pos rfl]; exact h1 rfl
  | false => rw [if_neg (by decide)]; exact h2 rfl
theorem w_iteT {A C : Prop} (h : A) : if true = true then A else C := by rw [if_pos rfl]; exact h
theorem w_iteF {A C : Prop} (h : C) : if false = true then A else C := by rw [if_neg (by decide)]; exact h
theorem w_iteNT {A C : Prop} (h : C) : if (!true) = true then A else C := by rw [if_neg (by decide)]; exact h
theorem w_iteNF {A C : Prop} (h : A) : if (!false) = true then A else C := by rw [if_pos (by decide)]; exact h
theorem w_pos {p A C : Prop} [Decidable p] (hp : p) (h : A) : if decide p = true then A else C := w_ite (fun _ => h) fun n => absurd hp n
theorem w_neg {p A C : Prop} [Decidable p] (hp : ¬ p) (h : C) : if decide p = true then A else C := w_ite (fun y => absurd y hp) fun _ => h
theorem w_posN {p A C : Prop} [Decidable p] (hp : ¬ p) (h : A) : if (!decide p) = true then A else C := w_iteN (fun _ => h) fun n => absurd n hp
theorem w_negN {p A C : Prop} [Decidable p] (hp : p) (h : C) : if (!decide p) = true then A else C := w_iteN (fun y => absurd hp y) fun _ => h
end

/-! ### facts of the heap -/
theorem hp_ne {H : Hp} {p l : Addr} {o u : HO} (h : p ≠ l) (e : H p = some o) : upd H l u p = some o := by rw [upd_ne h]; exact e
theorem hp_ex {H H' : Hp} {p : Addr} {o : HO} (x : Ex H H') (e : H p = some o) : H' p = some o := x p o e
theorem ex_new {H0 H : Hp} {p : Addr} {o : HO} (n : H p = none) (e : Ex H0 H) : Ex H0 (upd H p o) := e.trans (Ex.new n)
theorem none_ne {H : Hp} {p l : Addr} {u : HO} (h : p ≠ l) (e : H p = none) : upd H l u p = none := by rw [upd_ne h]; exact e
theorem none_of {H : Hp} {p l : Addr} {u : HO} (e : upd H l u p = none) : H p = none := by
  by_cases h : p = l
  · subst h; rw [upd_same] at e; cases e
  · rw [upd_ne h] at e; exact e
theorem ne_of_upd {H : Hp} {p l : Addr} {u : HO} (e : upd H l u p = none) : p ≠ l := by
  intro h; subst h; rw [upd_same] at e; cases e

/-! ### kinds; comprehensions of plain values -/
section
variable {K : PySem.W.Frag} {σ : L2.St} {H : Hp} {Q : VK} {t : TT} {te : TE}
theorem kit_int_int : kitB "int" "int" = some true := by decide +kernel
theorem kit_list_list : kitB "list" "list" = some true := by decide +kernel
theorem kit_tuple_tuple : kitB "tuple" "tuple" = some true := by decide +kernel
theorem w_isiI {i : Int} (h : Q (.bl true) H) : rIsi K [.int i, .ty "int"] H Q := ⟨_, _, _, _, _, rfl, .ty "int", .base (.int i), kit_ty kit_int_int, h⟩
theorem tyx_l {p : Addr} {xs : List V} (e : H p = some (.lst xs)) : TyX K H (.ref p) (.type "list") := .base (.lst e)
theorem tyx_t {p : Addr} {xs : List V} (e : H p = some (.tup xs)) : TyX K H (.ref p) (.type "tuple") := .base (.tup e)
theorem w_isiL {p : Addr} (e : TyX K H (.ref p) (.type "list")) (h : Q (.bl true) H) : rIsi K [.ref p, .ty "list"] H Q := ⟨_, _, _, _, _, rfl, .ty "list", e, kit_ty kit_list_list, h⟩
theorem w_isiT {p : Addr} (e : TyX K H (.ref p) (.type "tuple")) (h : Q (.bl true) H) : rIsi K [.ref p, .ty "tuple"] H Q := ⟨_, _, _, _, _, rfl, .ty "tuple", e, kit_ty kit_tuple_tuple, h⟩
theorem w_lcR1 {ta : TA} {j : Nat} {vs : List Nat} {n : Int} (f : Nat → Bool) (v : Nat → V) (h : Evl.EvA ta σ H [.int n]) (hn : 0 ≤ n ∧ n ≤ 40000) (hw : ∀ x, wipe ((wipe σ vs).set j (some x)) vs = wipe σ vs)
    (ht : ∀ (i : Nat) H1, Ex H H1 → (i : Int) < n → Evl.EvT t ((wipe σ vs).set j (some (.int (i : Int)))) H1 (f i)) (he : ∀ (i : Nat) H1, Ex H H1 → (i : Int) < n → f i = true → Evl.Ev te ((wipe σ vs).set j (some (.int (i : Int)))) H1 (v i))
    (k : ∀ p H2, H p = none → Ex H H2 → H2 p = some (.lst (Evl.given n.toNat f v)) → Q (.ref p) H2) : tLc (iRng1 ta) (gName j) t te vs σ H Q :=
  Evl.el_lcR1 f v h hn hw ht he H (Evl.Ex.refl H) Q k
theorem w_lcL {a : Addr} {xs : List V} {tl : TE} {j : Nat} {vs : List Nat} (f : Nat → Bool) (v : Nat → V) (h : Evl.Ev tl σ H (.ref a)) (hx : SqL K H a xs) (hz : xs.length ≤ 40000) (hw : ∀ x, wipe ((wipe σ vs).set j (some x)) vs = wipe σ vs)
    (ht : ∀ (i : Nat) (x : V) H1, Ex H H1 → xs[i]? = some x → Evl.EvT t ((wipe σ vs).set j (some x)) H1 (f i)) (he : ∀ (i : Nat) (x : V) H1, Ex H H1 → xs[i]? = some x → f i = true → Evl.Ev te ((wipe σ vs).set j (some x)) H1 (v i))
    (k : ∀ p H2, H p = none → Ex H H2 → H2 p = some (.lst (Evl.given xs.length f v)) → Q (.ref p) H2) : tLc (iList K tl) (gName j) t te vs σ H Q :=
  Evl.el_lcL f v h hx hz hw ht he H (Evl.Ex.refl H) Q k
theorem given_all (n : Nat) (v : Nat → V) : Evl.given n (fun _ => true) v = (List.range n).map v := by
  unfold Evl.given
  rw [List.filter_eq_self.mpr (by simp)]
theorem given_none (n : Nat) (v : Nat → V) : Evl.given n (fun _ => false) v = [] := by
  unfold Evl.given
  rw [List.filter_eq_nil_iff.mpr (by simp)]
  rfl
theorem at_map {xs : List Int} {i : Nat} (h : i < xs.length) : atI (xs.map V.int) (i : Int) = some (.int xs[i]) := atI_nat (by rw [List.getElem?_map, List.getElem?_eq_getElem h]; rfl)
end

/-! ### in a list of ints -/
section
variable {K : PySem.W.Frag} {H : Hp} {Q : VK}
theorem inV_ints (a : Int) (l : List Int) : inV (.int a) (l.map V.int) = decide (a ∈ l) := by
  unfold inV
  rw [List.any_map]
  induction l with
  | nil => rfl
  | cons b r ih =>
    rw [List.any_cons, ih]
    show ((b == a) || _) = _
    by_cases h : b = a
    · subst h; simp
    · have h' : ¬ a = b := fun e => h e.symm
      simp [h, h']
theorem flat_ints (l : List Int) : (l.map V.int).all flatV = true := by
  rw [List.all_map]
  exact List.all_eq_true.mpr fun _ _ => rfl
theorem w_notInL {p : Addr} {a : Int} {l : List Int} (s : SqL K H p (l.map V.int)) (h : Q (.bl (!decide (a ∈ l))) H) : rIn K true (.int a) (.ref p) H Q :=
  ⟨p, l.map V.int, rfl, .inl s, rfl, flat_ints l, by rw [inV_ints]; exact h⟩
theorem w_inL {p : Addr} {a : Int} {l : List Int} (s : SqL K H p (l.map V.int)) (h : Q (.bl (decide (a ∈ l))) H) : rIn K false (.int a) (.ref p) H Q :=
  ⟨p, l.map V.int, rfl, .inl s, rfl, flat_ints l, by rw [inV_ints]; exact h⟩
end

/-! ### lists of ints, by their cells -/
section
variable {K : PySem.W.Frag} {H : Hp} {Q : VK}
theorem at_mapD {xs : List Int} {i : Nat} (h : i < xs.length) : atI (xs.map V.int) (i : Int) = some (.int (xs.getD i 0)) := by
  rw [at_map h, List.getD_eq_getElem?_getD, List.getElem?_eq_getElem h]; rfl
theorem ixn_map {xs : List Int} {i : Nat} (h : i < xs.length) : ixN (xs.map V.int).length (i : Int) = some i := Evl.ixN_nat (by rw [List.length_map]; exact h)
theorem map_set (xs : List Int) (i : Nat) (v : Int) : (xs.map V.int).set i (.int v) = (xs.set i v).map V.int := by rw [List.map_set]
theorem w_setLI {l : Addr} {xs : List Int} {j : Nat} {v : Int} {F : Hp → Prop} (e : H l = some (.lst (xs.map V.int))) (b : j < xs.length) (h : F (upd H l (.lst ((xs.set j v).map V.int)))) : rSetL (.ref l) (.int (j : Int)) (.int v) H F :=
  w_setL e (ixn_map b) (by rw [map_set]; exact h)
theorem w_ixLI {p : Addr} {xs : List Int} {j : Nat} (s : SqL K H p (xs.map V.int)) (b : j < xs.length) (h : Q (.int (xs.getD j 0)) H) : rIx K (.ref p) (.int (j : Int)) H Q := w_ixL s (at_mapD b) h
theorem getD_set {xs : List Int} {i j : Nat} {v : Int} (hi : i < xs.length) : (xs.set i v).getD j 0 = if j = i then v else xs.getD j 0 := by
  rw [List.getD_eq_getElem?_getD, List.getElem?_set]
  by_cases h : i = j
  · subst h; simp [hi]
  · have h' : ¬ j = i := fun e => h e.symm
    simp [h, h', List.getD_eq_getElem?_getD]
end

/-- places as ints -/
def asI (js : List Nat) : List Int := js.map fun n : Nat => (n : Int)
theorem asI_len (js : List Nat) : (asI js).length = js.length := List.length_map ..
theorem asI_mem {js : List Nat} {j : Nat} : (j : Int) ∈ asI js ↔ j ∈ js := by
  unfold asI
  rw [List.mem_map]
  constructor
  · rintro ⟨n, hn, e⟩
    have : n = j := by omega
    exact this ▸ hn
  · exact fun h => ⟨j, h, rfl⟩
theorem asI_get {js : List Nat} {i : Nat} {x : V} (h : ((asI js).map V.int)[i]? = some x) : ∃ j, js[i]? = some j ∧ x = .int (j : Int) := by
  unfold asI at h
  rw [List.getElem?_map, List.getElem?_map] at h
  cases e : js[i]? with
  | none => rw [e] at h; cases h
  | some j => rw [e] at h; exact ⟨j, rfl, (Option.some.inj h).symm⟩
theorem asI_snoc (js : List Nat) (j : Nat) : (asI js).map V.int ++ [V.int (j : Int)] = (asI (js ++ [j])).map V.int := by
  unfold asI
  rw [List.map_append, List.map_append]; rfl

theorem asI_sum (js : List Nat) : (asI js).sum = ((js.sum : Nat) : Int) := by
  induction js with
  | nil => rfl
  | cons j r ih =>
    show ((j : Int) :: asI r).sum = _
    rw [List.sum_cons, ih, List.sum_cons]
    omega
section
variable {K : PySem.W.Frag} {σ : L2.St} {H : Hp} {Q : VK}
theorem w_sum {p : Addr} {ns : List Int} (s : SqL K H p (ns.map V.int)) (h : Q (.int ns.sum) H) : rSum K [.ref p] H Q := ⟨p, ns, rfl, s, h⟩
theorem w_pop {l : Addr} {xs : List V} {y : V} (e : H l = some (.lst xs)) (g : xs[xs.length - 1]? = some y) (h : Q y (upd H l (.lst xs.dropLast))) : rPop (.ref l) [] H Q := ⟨l, xs, y, rfl, rfl, e, g, h⟩
end

section
variable {H H' : Hp}
/-- the heap without one address -/
def del (H : Hp) (l : Addr) : Hp := fun b => if b = l then none else H b
theorem del_same {l : Addr} : del H l l = none := by unfold del; rw [if_pos rfl]
theorem del_ne {l b : Addr} (h : b ≠ l) : del H l b = H b := by unfold del; rw [if_neg h]
theorem del_ex {l : Addr} : Ex (del H l) H := fun a o e => by
  by_cases h : a = l
  · subst h; rw [del_same] at e; cases e
  · rw [del_ne h] at e; exact e
theorem del_mono {l : Addr} (x : Ex H H') : Ex (del H l) (del H' l) := fun a o e => by
  by_cases h : a = l
  · subst h; rw [del_same] at e; cases e
  · rw [del_ne h] at e ⊢; exact x a o e
theorem del_upd {l : Addr} {o : HO} : del (upd H l o) l = del H l := by
  funext b
  by_cases h : b = l
  · subst h; rw [del_same, del_same]
  · rw [del_ne h, del_ne h, upd_ne h]
theorem ex_del {l : Addr} (h : H l = none) : Ex H (del H l) := fun a o e => by
  rw [del_ne (ne_of_none e h)]; exact e
theorem del_put {l : Addr} {o : HO} : Ex (del H l) (upd H l o) := Evl.Ex.mut del_ex del_same
end

/-! ### loops -/
section
variable {K : PySem.W.Frag} {σ : L2.St} {H : Hp} {Q : VK} {D : Ends} {g : TG} {tb : TS} {tl : TE} {ta : TA} {wi : TI} {tt : TT} {te : TE} {vs : List Nat}
def LoopJ (J : It) (g : TG) (tb : TS) (D : Ends) (σ : L2.St) (H1 : Hp) : Prop := ∃ W : Nat → Nat → L2.St → Hp → Prop, (∃ m, W 0 m σ H1) ∧ ∀ i m σ H, W i m σ H →
  (J.stop i H ∧ D.nx σ H) ∨ (J.go i H ∧ ∃ N : L2.St → Hp → Prop, (∀ σ' H', N σ' H' → ∃ m', m' < m ∧ W (i + 1) m' σ' H') ∧ ∀ x H', J.yld i H x H' → g x σ H' fun σ2 H2 => tb { D with nx := N, ct := N, bk := D.nx } σ2 H2)
theorem w_for (h : wi σ H fun J H1 => LoopJ J g tb D σ H1) : tFor wi g tb D σ H := h
def LcJ (J : It) (g : TG) (tt : TT) (te : TE) (vs : List Nat) (σ : L2.St) (H1 : Hp) (Q : VK) : Prop := ∀ D, H1 D = none → ∃ W : Nat → Nat → Hp → Prop, (∃ m, W 0 m (upd H1 D (.lst []))) ∧ ∀ i m H, W i m H →
  (J.stop i H ∧ Q (.ref D) H) ∨ (J.go i H ∧ ∃ Nx : Hp → Prop, (∀ H', Nx H' → ∃ m', m' < m ∧ W (i + 1) m' H') ∧ ∀ x H', J.yld i H x H' → g x (wipe σ vs) H' fun σ2 H2 => wipe σ2 vs = wipe σ vs ∧ tt σ2 H2 fun b H3 =>
    if b = true then te σ2 H3 fun y H4 => ∃ acc, H4 D = some (.lst acc) ∧ acc.length < sizeLine ∧ Nx (upd H4 D (.lst (acc ++ [y]))) else Nx H3)
theorem w_lc (h : wi σ H fun J H1 => LcJ J g tt te vs σ H1 Q) : tLc wi g tt te vs σ H Q := h
theorem w_iList {R : It → Hp → Prop} (h : tl σ H fun x H1 => ∃ a, x = .ref a ∧ (∃ xs, SqL K H1 a xs) ∧ R (Itl K a) H1) : iList K tl σ H R := h
theorem w_exL {F : Addr → Prop} {a : Addr} {xs : List V} (s : SqL K H a xs) (h : F a) : ∃ b, V.ref a = .ref b ∧ (∃ xs, SqL K H b xs) ∧ F b := ⟨a, rfl, ⟨xs, s⟩, h⟩
theorem w_iTup {R : It → Hp → Prop} (h : tl σ H fun x H1 => ∃ a, x = .ref a ∧ (∃ xs, SqT K H1 a xs) ∧ R (Itt K a) H1) : iTup K tl σ H R := h
theorem w_exT {F : Addr → Prop} {a : Addr} {xs : List V} (s : SqT K H a xs) (h : F a) : ∃ b, V.ref a = .ref b ∧ (∃ xs, SqT K H b xs) ∧ F b := ⟨a, rfl, ⟨xs, s⟩, h⟩
theorem w_iRng1 {R : It → Hp → Prop} (h : ta σ H fun vs H1 => ∃ j : Int, vs = [.int j] ∧ -(2 ^ 62) ≤ j ∧ j < 2 ^ 62 ∧ R (Itr 0 j.toNat) H1) : iRng1 ta σ H R := h
theorem w_exR1 {F : Int → Prop} {j : Int} (b : -1000000000 ≤ j ∧ j ≤ 1000000000) (h : F j) : ∃ i : Int, [V.int j] = [.int i] ∧ -(2 ^ 62) ≤ i ∧ i < 2 ^ 62 ∧ F i := ⟨j, rfl, by omega, by omega, h⟩
theorem w_iRng2 {R : It → Hp → Prop} (h : ta σ H fun vs H1 => ∃ i j : Int, vs = [.int i, .int j] ∧ (-(2 ^ 62) ≤ i ∧ i < 2 ^ 62 ∧ -(2 ^ 62) ≤ j ∧ j < 2 ^ 62) ∧ R (Itr i (j - i).toNat) H1) : iRng2 ta σ H R := h
theorem w_exR2 {F : Int → Int → Prop} {i j : Int} (b : -1000000000 ≤ i ∧ i ≤ 1000000000 ∧ -1000000000 ≤ j ∧ j ≤ 1000000000) (h : F i j) : ∃ i' j' : Int, [V.int i, V.int j] = [.int i', .int j'] ∧ (-(2 ^ 62) ≤ i' ∧ i' < 2 ^ 62 ∧ -(2 ^ 62) ≤ j' ∧ j' < 2 ^ 62) ∧ F i' j' := ⟨i, j, rfl, ⟨by omega, by omega, by omega, by omega⟩, h⟩
theorem loopL {a : Addr} {xs : List V} (Pv : Nat → L2.St → Hp → Prop) (h0 : Pv 0 σ H) (hl : ∀ i σ H, i ≤ xs.length → Pv i σ H → SqL K H a xs)
    (hs : ∀ i x σ H, xs[i]? = some x → Pv i σ H → g x σ H fun σ2 H2 => tb { D with nx := Pv (i + 1), ct := Pv (i + 1), bk := D.nx } σ2 H2) (hd : ∀ σ H, Pv xs.length σ H → D.nx σ H) : LoopJ (Itl K a) g tb D σ H := for_list Pv h0 hl hs hd
theorem loopT {a : Addr} {xs : List V} (Pv : Nat → L2.St → Hp → Prop) (h0 : Pv 0 σ H) (hl : ∀ i σ H, i ≤ xs.length → Pv i σ H → SqT K H a xs)
    (hs : ∀ i x σ H, xs[i]? = some x → Pv i σ H → g x σ H fun σ2 H2 => tb { D with nx := Pv (i + 1), ct := Pv (i + 1), bk := D.nx } σ2 H2) (hd : ∀ σ H, Pv xs.length σ H → D.nx σ H) : LoopJ (Itt K a) g tb D σ H := for_tup Pv h0 hl hs hd
theorem loopR {lo : Int} {n : Nat} (Pv : Nat → L2.St → Hp → Prop) (h0 : Pv 0 σ H)
    (hs : ∀ i σ H, i < n → Pv i σ H → g (.int (lo + i)) σ H fun σ2 H2 => tb { D with nx := Pv (i + 1), ct := Pv (i + 1), bk := D.nx } σ2 H2) (hd : ∀ σ H, Pv n σ H → D.nx σ H) : LoopJ (Itr lo n) g tb D σ H := for_range Pv h0 hs hd
theorem lcjR {lo : Int} {n : Nat} (Pv : Addr → Nat → Hp → Prop) (h0 : ∀ D, H D = none → Pv D 0 (upd H D (.lst [])))
    (hs : ∀ D i H', H D = none → i < n → Pv D i H' → g (.int (lo + i)) (wipe σ vs) H' fun σ2 H2 => wipe σ2 vs = wipe σ vs ∧ tt σ2 H2 fun b H3 =>
      if b = true then te σ2 H3 fun y H4 => ∃ acc, H4 D = some (.lst acc) ∧ acc.length < sizeLine ∧ Pv D (i + 1) (upd H4 D (.lst (acc ++ [y]))) else Pv D (i + 1) H3) (hd : ∀ D H', H D = none → Pv D n H' → Q (.ref D) H') : LcJ (Itr lo n) g tt te vs σ H Q := fun D hD => lc_range (Pv D) (h0 D hD) (fun i H' hi p => hs D i H' hD hi p) fun H' p => hd D H' hD p
theorem lcjL {a : Addr} {xs : List V} (Pv : Addr → Nat → Hp → Prop) (h0 : ∀ D, H D = none → Pv D 0 (upd H D (.lst []))) (hl : ∀ D i H', i ≤ xs.length → Pv D i H' → SqL K H' a xs)
    (hs : ∀ D i x H', H D = none → xs[i]? = some x → Pv D i H' → g x (wipe σ vs) H' fun σ2 H2 => wipe σ2 vs = wipe σ vs ∧ tt σ2 H2 fun b H3 =>
      if b = true then te σ2 H3 fun y H4 => ∃ acc, H4 D = some (.lst acc) ∧ acc.length < sizeLine ∧ Pv D (i + 1) (upd H4 D (.lst (acc ++ [y]))) else Pv D (i + 1) H3) (hd : ∀ D H', H D = none → Pv D xs.length H' → Q (.ref D) H') : LcJ (Itl K a) g tt te vs σ H Q := fun D hD => lc_list (Pv D) (h0 D hD) (hl D) (fun i x H' hi p => hs D i x H' hD hi p) fun H' p => hd D H' hD p
theorem w_yes {B : Bool → Hp → Prop} (h : B true H) : tYes σ H B := h
/-- a comprehension whose items lie in the heap: R what is true of the i-th item -/
theorem lcjRM {lo : Int} {n j : Nat} (R : Nat → V → Hp → Prop) (mono : ∀ i v H H', Ex H H' → R i v H → R i v H')
    (hs : ∀ D i H' acc, H D = none → H' D = some (.lst acc) → Ex H H' → i < n → ∀ Q' : VK, (∀ v H4, Ex H' H4 → R i v (del H4 D) → Q' v H4) → te ((wipe σ vs).set j (some (.int (lo + (i : Int))))) H' Q')
    (hw : ∀ x, wipe ((wipe σ vs).set j (some x)) vs = wipe σ vs) (hn : n ≤ 100000)
    (hd : ∀ D H' ys, H D = none → Ex H H' → H' D = some (.lst ys) → ys.length = n → (∀ i v, ys[i]? = some v → R i v (del H' D)) → Q (.ref D) H') : LcJ (Itr lo n) (gName j) tYes te vs σ H Q := by
  refine lcjR (fun D i H' => Ex H H' ∧ ∃ ys, H' D = some (.lst ys) ∧ ys.length = i ∧ ∀ k v, ys[k]? = some v → R k v (del H' D)) (fun D hD => ⟨Evl.Ex.new hD, [], upd_same, rfl, fun k v e => by simp at e⟩) ?_ (fun D H' hD ⟨e, ys, h1, h2, h3⟩ => hd D H' ys hD e h1 h2 h3)
  rintro D i H' hD hi ⟨e, ys, h1, h2, h3⟩
  refine ⟨hw _, ?_⟩
  refine w_yes ?_
  refine w_iteT ?_
  refine hs D i H' ys hD h1 e hi _ fun v H4 e4 r => ⟨ys, e4 _ _ h1, Nat.lt_of_le_of_lt (by omega : ys.length ≤ 100000) (by decide), Evl.Ex.mut (e.trans e4) hD, ys ++ [v], upd_same, by rw [List.length_append, h2]; rfl, fun k u ek => ?_⟩
  rw [del_upd]
  by_cases hk : k < ys.length
  · rw [List.getElem?_append_left hk] at ek
    exact mono _ _ _ _ (del_mono e4) (h3 k u ek)
  · rw [List.getElem?_append_right (by omega)] at ek
    cases h9 : k - ys.length with
    | zero =>
      rw [h9] at ek
      cases ek
      have : k = i := by omega
      rw [this]; exact r
    | succ m => rw [h9] at ek; simp at ek
theorem lcjLM {a : Addr} {xs : List V} {j : Nat} (R : Nat → V → Hp → Prop) (mono : ∀ i v H H', Ex H H' → R i v H → R i v H') (hx : SqL K H a xs)
    (hs : ∀ D (i : Nat) (x : V) H' acc, H D = none → H' D = some (.lst acc) → Ex H H' → xs[i]? = some x → ∀ Q' : VK, (∀ v H4, Ex H' H4 → R i v (del H4 D) → Q' v H4) → te ((wipe σ vs).set j (some x)) H' Q')
    (hw : ∀ x, wipe ((wipe σ vs).set j (some x)) vs = wipe σ vs) (hn : xs.length ≤ 100000)
    (hd : ∀ D H' ys, H D = none → Ex H H' → H' D = some (.lst ys) → ys.length = xs.length → (∀ i v, ys[i]? = some v → R i v (del H' D)) → Q (.ref D) H') : LcJ (Itl K a) (gName j) tYes te vs σ H Q := by
  refine lcjL (xs := xs) (fun D i H' => Ex H H' ∧ ∃ ys, H' D = some (.lst ys) ∧ ys.length = i ∧ ∀ k v, ys[k]? = some v → R k v (del H' D)) (fun D hD => ⟨Evl.Ex.new hD, [], upd_same, rfl, fun k v e => by simp at e⟩) (fun D i H' _ ⟨e, _⟩ => ex_l e hx) ?_ (fun D H' hD ⟨e, ys, h1, h2, h3⟩ => hd D H' ys hD e h1 h2 h3)
  rintro D i x H' hD hi ⟨e, ys, h1, h2, h3⟩
  have hil := (List.getElem?_eq_some_iff.mp hi).1
  refine ⟨hw _, ?_⟩
  refine w_yes ?_
  refine w_iteT ?_
  refine hs D i x H' ys hD h1 e hi _ fun v H4 e4 r => ⟨ys, e4 _ _ h1, Nat.lt_of_le_of_lt (by omega : ys.length ≤ 100000) (by decide), Evl.Ex.mut (e.trans e4) hD, ys ++ [v], upd_same, by rw [List.length_append, h2]; rfl, fun k u ek => ?_⟩
  rw [del_upd]
  by_cases hk : k < ys.length
  · rw [List.getElem?_append_left hk] at ek
    exact mono _ _ _ _ (del_mono e4) (h3 k u ek)
  · rw [List.getElem?_append_right (by omega)] at ek
    cases h9 : k - ys.length with
    | zero =>
      rw [h9] at ek
      cases ek
      have : k = i := by omega
      rw [this]; exact r
    | succ m => rw [h9] at ek; simp at ek
theorem set_self {σ : L2.St} {j : Nat} (hj : j < σ.length) : ∃ y, σ = σ.set j y := ⟨σ[j], (List.set_getElem_self hj).symm⟩
/-- a loop over a list that stores its variable alone and changes nothing that stood -/
theorem loopL_pure {j : Nat} {a : Addr} {xs : List V} (s : SqL K H a xs) (hs : ∀ (i : Nat) (x : V) (H' : Hp), xs[i]? = some x → Ex H H' → tb { D with nx := fun σ2 H2 => (∃ y, σ2 = σ.set j y) ∧ Ex H H2, ct := fun σ2 H2 => (∃ y, σ2 = σ.set j y) ∧ Ex H H2, bk := D.nx } (σ.set j (some x)) H')
    (hd : ∀ y H', Ex H H' → D.nx (σ.set j y) H') (hj : (σ[j]?).isSome = true := by rfl) : LoopJ (Itl K a) (gName j) tb D σ H := by
  have hj : j < σ.length := by
    cases e : σ[j]? with
    | none => rw [e] at hj; cases hj
    | some y => exact (List.getElem?_eq_some_iff.mp e).1
  refine loopL (fun _ σ2 H2 => (∃ y, σ2 = σ.set j y) ∧ Ex H H2) ⟨set_self hj, Evl.Ex.refl H⟩ (fun i σ2 H2 _ ⟨_, e⟩ => ex_l e s) ?_ ?_
  · rintro i x σ2 H2 hi ⟨⟨y, rfl⟩, e⟩
    show tb _ ((σ.set j y).set j (some x)) H2
    rw [List.set_set]
    exact hs i x H2 hi e
  · rintro σ2 H2 ⟨⟨y, rfl⟩, e⟩
    exact hd y H2 e
theorem w_while {c : TT} (W : Nat → L2.St → Hp → Prop) (m0 : Nat) (h0 : W m0 σ H) (hs : ∀ m σ H, W m σ H → c σ H fun b H1 => if b = true then ∃ N : L2.St → Hp → Prop, (∀ σ' H', N σ' H' → ∃ m', m' < m ∧ W m' σ' H') ∧ tb { D with nx := N, ct := N, bk := D.nx } σ H1 else D.nx σ H1) : tWhile c tb D σ H := ⟨W, ⟨m0, h0⟩, hs⟩
theorem w_exN {W : Nat → L2.St → Hp → Prop} {m : Nat} (h : tb { D with nx := fun σ' H' => ∃ m', m' < m ∧ W m' σ' H', ct := fun σ' H' => ∃ m', m' < m ∧ W m' σ' H', bk := D.nx } σ H) : ∃ N : L2.St → Hp → Prop, (∀ σ' H', N σ' H' → ∃ m', m' < m ∧ W m' σ' H') ∧ tb { D with nx := N, ct := N, bk := D.nx } σ H := ⟨_, fun _ _ h => h, h⟩
end

/-! ### data -/
section
variable {K : PySem.W.Frag} {H H' : Hp} {Q : VK}
mutual
theorem Dp.mono (x : Ex H H') : ∀ {v : V} {d : PyData}, Dp K H v d → Dp K H' v d
  | _, _, .non => .non
  | _, _, .bl b => .bl b
  | _, _, .int i => .int i
  | _, _, .str s => .str s
  | _, _, .lst s h => .lst (ex_l x s) (DpAll.mono x h)
  | _, _, .tup s h => .tup (ex_t x s) (DpAll.mono x h)
theorem DpAll.mono (x : Ex H H') : ∀ {vs : List V} {ds : List PyData}, DpAll K H vs ds → DpAll K H' vs ds
  | _, _, .nil => .nil
  | _, _, .cons h t => .cons (Dp.mono x h) (DpAll.mono x t)
end
theorem w_neSame {x y : V} {d : PyData} (h1 : Dp K H x d) (h2 : Dp K H y d) (s : SeqAt.shaped d = true) (h : Q (.bl false) H) : rNeA K x y H Q :=
  w_neD h1 h2 s s (by rw [SeqAt.eqv_refl d (SeqAt.canLay_of_shaped s)]; exact h)
theorem w_eqSame {x y : V} {d : PyData} (h1 : Dp K H x d) (h2 : Dp K H y d) (s : SeqAt.shaped d = true) (h : Q (.bl true) H) : rEqA K x y H Q :=
  w_eqD h1 h2 s s (by rw [SeqAt.eqv_refl d (SeqAt.canLay_of_shaped s)]; exact h)
theorem dpAll_bl (bs : List Bool) : DpAll K H (bs.map V.bl) (bs.map PyData.bool) := by
  induction bs with
  | nil => exact .nil
  | cons b r ih => exact .cons (.bl b) ih
theorem dp_bools (bs : List Bool) {p : Addr} {ys : List V} (h : H p = some (.lst ys)) (e : ys = bs.map V.bl) : Dp K H (.ref p) (.list (bs.map PyData.bool)) := .lst (SqL.of (e ▸ h)) (dpAll_bl bs)
theorem dpAll_int (bs : List Int) : DpAll K H (bs.map V.int) (bs.map PyData.int) := by
  induction bs with
  | nil => exact .nil
  | cons b r ih => exact .cons (.int b) ih
theorem shaped_flat {ds : List PyData} (h : ∀ d ∈ ds, d.canLay0 = true ∧ d.depth = 0) : SeqAt.shaped (.list ds) = true := by
  have h1 : ∀ ds : List PyData, (∀ d ∈ ds, d.canLay0 = true ∧ d.depth = 0) → PyData.canLayAll0 ds = true ∧ PyData.depthAll ds = 0 := by
    intro ds h
    induction ds with
    | nil => exact ⟨rfl, rfl⟩
    | cons d r ih =>
      obtain ⟨a, b⟩ := h d (List.mem_cons_self ..)
      obtain ⟨c, e⟩ := ih fun x hx => h x (List.mem_cons_of_mem _ hx)
      exact ⟨by simp [PyData.canLayAll0, a, c], by simp [PyData.depthAll, b, e]⟩
  obtain ⟨a, b⟩ := h1 ds h
  unfold SeqAt.shaped
  rw [Bool.and_eq_true]
  exact ⟨by simp [PyData.canLay0, a], by simp [PyData.depth, b]⟩
end

/-! ### how many bits -/
theorem bits_lt {z : Int} {n : Nat} (h : Builtin.Int.intBits z ≤ n) : z.natAbs < 2 ^ n := by
  unfold Builtin.Int.intBits at h
  split at h
  · rename_i e
    have e2 : z = 0 := by simpa using e
    have : z.natAbs = 0 := by omega
    rw [this]; exact Nat.two_pow_pos n
  · rename_i e
    have h1 : z.natAbs < 2 ^ (z.natAbs.log2 + 1) := Nat.lt_log2_self
    exact Nat.lt_of_lt_of_le h1 (Nat.pow_le_pow_right (by decide) h)
theorem lt_bits {z : Int} {n : Nat} (h : z.natAbs < 2 ^ n) : Builtin.Int.intBits z ≤ n := by
  unfold Builtin.Int.intBits
  split
  · omega
  · rename_i e
    have e2 : z ≠ 0 := by simpa using e
    have h0 : z.natAbs ≠ 0 := by omega
    have := (Nat.log2_lt h0).mpr h
    omega
theorem bits_mul {a b : Int} {m n : Nat} (ha : Builtin.Int.intBits a ≤ m) (hb : Builtin.Int.intBits b ≤ n) : Builtin.Int.intBits (a * b) ≤ m + n := by
  apply lt_bits
  rw [Int.natAbs_mul, Nat.pow_add]
  exact Nat.mul_lt_mul'' (bits_lt ha) (bits_lt hb)
theorem bits_add {a b : Int} {m : Nat} (ha : Builtin.Int.intBits a ≤ m) (hb : Builtin.Int.intBits b ≤ m) : Builtin.Int.intBits (a + b) ≤ m + 1 := by
  apply lt_bits
  have h1 := bits_lt ha
  have h2 := bits_lt hb
  rw [Nat.pow_succ]
  omega
theorem bits_div {a : Int} {b : Int} {m : Nat} (ha : Builtin.Int.intBits a ≤ m) : Builtin.Int.intBits (a / b) ≤ m + 1 := by
  apply lt_bits
  have h1 := bits_lt ha
  have h2 := Int.natAbs_ediv_le_natAbs a b
  rw [Nat.pow_succ]
  omega
theorem bits_mono {a : Int} {m n : Nat} (h : Builtin.Int.intBits a ≤ m) (l : m ≤ n) : Builtin.Int.intBits a ≤ n := Nat.le_trans h l

end Tw

set_option Elab.async false
set_option linter.all false
set_option maxRecDepth 100000
set_option maxHeartbeats 4000000
namespace Tw
open PySem PySem.Spec PyProof.Rows L2
open Evl (Ex ex_l ex_t fresh_back sz_of sz_lt)

/-! ### dicts whose keys are ints; the truth of a list; what is dead -/
theorem hu1 {n : Nat} (h : n + 64 < cLine) : n + 1 < cLine := Nat.lt_of_le_of_lt (Nat.add_le_add_left (by decide : 1 ≤ 64) _) h
def rInD1 : R2 := fun y x H Q => ∃ a o, x = .ref a ∧ DGet H a y o ∧ Q (.bl o.isSome) H
def rNInD1 : R2 := fun y x H Q => ∃ a o, x = .ref a ∧ DGet H a y o ∧ Q (.bl (!o.isSome)) H
section
variable {X : Cx}
theorem op_in_d1 (hu : X.A.units + 1 < cLine) : OpR X (compareOp .In) rInD1 := by
  intro pins s σ H y x v u Q I ry rx h
  obtain ⟨a, o, rfl, g, q⟩ := h
  obtain rfl : u = Value.ref a := rx
  exact d_in hu I g ry fun s3 I3 => ⟨.bl o.isSome, H, I3, rfl, q⟩
theorem op_notin_d1 (hu : X.A.units + 1 < cLine) : OpR X (compareOp .NotIn) rNInD1 := by
  intro pins s σ H y x v u Q I ry rx h
  obtain ⟨a, o, rfl, g, q⟩ := h
  obtain rfl : u = Value.ref a := rx
  exact d_notIn hu I g ry fun s3 I3 => ⟨.bl (!o.isSome), H, I3, rfl, q⟩
def tTru (K : PySem.W.Frag) (te : TE) : TT := fun σ H Q => te σ H fun x H1 => ∃ k, TruV K x H1 k ∧ Q k H1
theorem pt_truthK {K : PySem.W.Frag} (h : X.K = K) {a : Expr} {ta : TE} (ha : PE X a ta) (he : ∀ whole, isTrue a X.env whole = (do let v ← whole; standAt a.pos; holding [v] (truthy v))) : PT X a (tTru K ta) := h ▸ pt_truth ha he
/-- a statement that is not come to -/
def tDead : TS := fun _ _ _ => False
theorem ps_dead {st : Stmt} : PS X st tDead := ⟨fun _ _ _ _ _ _ h => False.elim h⟩
theorem pss_dead {st : List Stmt} : PSs X st tDead := ⟨fun _ _ _ _ _ _ h => False.elim h⟩
end
section
variable {K : PySem.W.Frag} {σ : L2.St} {H : Hp} {Q : VK} {B : Bool → Hp → Prop} {D : Ends} {te td ty tv : TE} {kvs : List (Key × V)} {a : Addr} {i : Int} {v : V}
theorem w_inD (e : H a = some (.dK kvs)) (h : Q (.bl (valV kvs (.inl i)).isSome) H) : rInD1 (.int i) (.ref a) H Q := ⟨a, _, rfl, DGet.k (k := .inl i) e, h⟩
theorem w_notInD (e : H a = some (.dK kvs)) (h : Q (.bl (!(valV kvs (.inl i)).isSome)) H) : rNInD1 (.int i) (.ref a) H Q := ⟨a, _, rfl, DGet.k (k := .inl i) e, h⟩
theorem w_tru (h : te σ H fun x H1 => ∃ k, TruV K x H1 k ∧ B k H1) : tTru K te σ H B := h
theorem w_truL {R : Bool → Prop} {xs : List V} (s : SqL K H a xs) (h : R (!xs.isEmpty)) : ∃ k, TruV K (.ref a) H k ∧ R k := ⟨_, .inl ⟨xs, s, rfl⟩, h⟩
theorem w_dget (h : td σ H fun x H1 => ty σ H1 fun y H2 => ∃ a v, x = .ref a ∧ DGet H2 a y (some v) ∧ Q v H2) : tDGet td ty σ H Q := h
theorem w_dgetE {F : V → Prop} (e : H a = some (.dK kvs)) (hv : valV kvs (.inl i) = some v) (h : F v) : ∃ a' v', V.ref a = .ref a' ∧ DGet H a' (.int i) (some v') ∧ F v' := ⟨a, v, rfl, by rw [← hv]; exact DGet.k (k := .inl i) e, h⟩
theorem w_dput (h : tv σ H fun v H1 => td σ H1 fun x H2 => ty σ H2 fun y H3 => ∃ a H4, x = .ref a ∧ DPut H3 a y v H4 ∧ D.nx σ H4) : sDPut td ty tv D σ H := h
theorem w_dputE {F : Hp → Prop} (e : H a = some (.dK kvs)) (hl : kvs.length < 1000000) (h : F (upd H a (.dK (putK kvs (.inl i) v)))) : ∃ a' H4, V.ref a = .ref a' ∧ DPut H a' (.int i) v H4 ∧ F H4 := ⟨a, _, rfl, DPut.k (k := .inl i) e (Nat.lt_of_lt_of_le hl (by decide)), h⟩
theorem w_dnew (h : ∀ p, H p = none → Q (.ref p) (upd H p (.dK []))) : tDNewK σ H Q := h
theorem w_disp1 {j : Int} {w : V} (h : ∀ p, H p = none → Q (.ref p) (upd H p (.dK [(.inl j, w)]))) : tDisp [(tC (.int j), tC w)] σ H Q := fun p hp => ⟨upd_same, [(.inl j, w)], rfl, (show 1 ≤ 15 by decide), by
  rw [upd_upd]
  exact h p hp⟩
theorem w_aug {j : Nat} {x : V} {ti : TIp} (e : σ[j]? = some (some x)) (h : te σ H fun y H1 => ti x y H1 fun z H2 => D.nx (σ.set j (some z)) H2) : tAug j te ti D σ H := ⟨x, e, h⟩
theorem w_ipI {f : Int → Int → Int} {m n : Int} (h : Q (.int (f m n)) H) : ipI f (.int m) (.int n) H Q := ⟨m, n, rfl, rfl, h⟩
theorem w_extend {b : Addr} {xs zs : List V} (e1 : H a = some (.lst xs)) (e2 : H b = some (.lst zs)) (hz : xs.length + zs.length ≤ 1000000) (h : Q .non (upd H a (.lst (xs ++ zs)))) : rExtend (.ref a) [.ref b] H Q := ⟨a, b, xs, zs, rfl, rfl, e1, e2, Nat.le_trans hz (by decide), h⟩
theorem w_tt {b : Bool} {A C : Prop} (e : b = true) (h : A) : if b = true then A else C := by rw [if_pos e]; exact h
theorem w_ff {b : Bool} {A C : Prop} (e : b = false) (h : C) : if b = true then A else C := by rw [if_neg (by rw [e]; decide)]; exact h
end
theorem ex_del2 {H H' : Hp} {l : Addr} (x : Ex H H') (h : H l = none) : Ex H (del H' l) := fun a o e => by
  rw [del_ne (ne_of_none e h)]; exact x a o e
theorem keyI_ne {i j : Int} (h : i ≠ j) : (Sum.inl i : Key) ≠ Sum.inl j := fun e => h (Sum.inl.inj e)
theorem valV_putI (kvs : List (Key × V)) (i j : Int) (y : V) : valV (putK kvs (.inl i) y) (.inl j) = if j = i then some y else valV kvs (.inl j) := by
  rw [valV_put]
  by_cases h : j = i
  · rw [if_pos h, if_pos (by rw [h])]
  · rw [if_neg h, if_neg (keyI_ne h)]

section
variable {P : Program} {w : World} {K : PySem.W.Frag} {mg : Str → Option Value} {base : Heap}
theorem Cal.mono {x : Str} {j k : Nat} {ps : List Str} {sp : Sp} (c : Cal P w K mg base x j ps sp) (h : j ≤ k) : Cal P w K mg base x k ps sp := by
  obtain ⟨f, fd, F, r⟩ := c.ex
  exact ⟨f, fd, F.mono h, r⟩
end
end Tw

set_option Elab.async false
set_option linter.all false
set_option maxRecDepth 100000
set_option maxHeartbeats 4000000
namespace Tw
open PySem PySem.Spec PyProof.Rows L2
open Evl (Ex ex_l ex_t fresh_back sz_of sz_lt)
local macro_rules | `(tactic| walk_at "t_hp") => `(tactic| first
  | assumption
  | exact upd_same
  | (refine' hp_ne ?hne ?hrest; (case hne => walk_at "t_ne"); (case hrest => walk_at "t_hp"))
  | (refine' hp_ex ?hx ?hrest; (case hx => assumption); (case hrest => walk_at "t_hp")))
local macro_rules | `(tactic| walk_at "t_ne") => `(tactic| first
  | assumption
  | exact Ne.symm (by assumption)
  | (refine' ne_of_none ?h1 ?h2; (case h2 => assumption); (case h1 => walk_at "t_hp"))
  | (refine' Ne.symm (ne_of_none ?h1 ?h2); (case h2 => assumption); (case h1 => walk_at "t_hp")))
local macro_rules | `(tactic| walk_at "t_none") => `(tactic| first
  | assumption
  | (refine' fresh_back ?e ?n; (case n => assumption); (case e => walk_at "t_ex")))
local macro_rules | `(tactic| walk_at "t_ex") => `(tactic| first
  | assumption
  | exact Evl.Ex.refl _
  | (refine' ex_new ?n ?e; (case n => assumption); (case e => walk_at "t_ex"))
  | (refine' Evl.Ex.mut ?e ?n; (case n => walk_at "t_none"); (case e => walk_at "t_ex"))
  | (refine' Evl.Ex.trans ?a ?b; (case b => assumption); (case a => walk_at "t_ex")))
local macro_rules | `(tactic| walk_at "t_sq") => `(tactic| first
  | assumption
  | (refine' SqL.of ?h; (case h => walk_at "t_hp"))
  | (refine' ex_l ?e ?s; (case s => assumption); (case e => walk_at "t_ex")))
local macro_rules | `(tactic| walk_at "t_sqt") => `(tactic| first
  | assumption
  | (refine' SqT.of ?h; (case h => walk_at "t_hp"))
  | (refine' ex_t ?e ?s; (case s => assumption); (case e => walk_at "t_ex")))
local macro_rules | `(tactic| walk_at "t_mul") => `(tactic| first
  | assumption
  | exact Or.inl (Or.inl ⟨by decide, by decide⟩)
  | exact Or.inl (Or.inr ⟨by decide, by decide⟩)
  | exact Or.inl (Or.inl ⟨by omega, by omega⟩)
  | exact Or.inl (Or.inr ⟨by omega, by omega⟩))
local macro_rules | `(tactic| walk_at "t_c") => `(tactic| first
  | assumption
  | decide
  | (show (0 : Int) < _; decide)
  | (show (0 : Int) < _; omega)
  | exact ⟨by decide, by decide⟩
  | exact ⟨by decide, by decide, by decide⟩
  | exact ⟨by omega, by omega⟩
  | exact ⟨by omega, by omega, by omega, by omega⟩)
local macro_rules | `(tactic| walk_at "t_w") => `(tactic| first
  | (with_reducible refine w_seq ?_)
  | (with_reducible refine w_asg ?_)
  | (with_reducible refine w_gName ?_)
  | (with_reducible refine w_nx ?_)
  | (with_reducible refine w_rt ?_)
  | (with_reducible refine w_ct ?_)
  | (with_reducible refine w_bk ?_)
  | (with_reducible refine w_ret ?_)
  | (with_reducible refine w_retN ?_)
  | (with_reducible refine w_drop ?_)
  | (with_reducible refine w_ifS ?_)
  | (with_reducible refine w_next ?_)
  | (with_reducible refine w_break ?_)
  | (with_reducible refine w_cont ?_)
  | ((with_reducible refine' w_var ?h ?_); (case h => rfl))
  | (with_reducible refine w_c ?_)
  | (with_reducible refine w_op ?_)
  | (with_reducible refine w_un ?_)
  | (with_reducible refine w_I0 ?_)
  | ((with_reducible refine' w_I ?c ?_); (case c => walk_at "t_c"))
  | (with_reducible refine w_U ?_)
  | (with_reducible refine w_addI ?_)
  | ((with_reducible refine' w_addL ?h1 ?h2 ?hz ?_); (case h1 => walk_at "t_hp"); (case h2 => walk_at "t_hp"); (case hz => walk_at "t_z"))
  | ((with_reducible refine' w_mulI ?c ?_); (case c => walk_at "t_mul"))
  | ((with_reducible refine' w_mulL1 ?h1 ?b1 ?b2 ?_); (case h1 => walk_at "t_hp"); (case b1 => walk_at "t_z"); (case b2 => walk_at "t_z"))
  | ((with_reducible refine' w_mulL ?h1 ?b1 ?b2 ?hz ?_); (case h1 => walk_at "t_hp"); (case b1 => walk_at "t_z"); (case b2 => walk_at "t_z"); (case hz => walk_at "t_z"))
  | (with_reducible refine w_notIB ?_)
  | (with_reducible refine w_notBB ?_)
  | (with_reducible refine w_notN ?_)
  | (with_reducible refine w_isBB ?_)
  | (with_reducible refine w_isN ?_)
  | (with_reducible refine w_eqI ?_)
  | (with_reducible refine w_neI ?_)
  | (with_reducible refine w_eqB ?_)
  | (with_reducible refine w_neB ?_)
  | (with_reducible refine w_eqS ?_)
  | (with_reducible refine w_neS ?_)
  | (with_reducible refine w_test ?_)
  | (with_reducible refine w_B ?_)
  | (with_reducible refine w_exB ?_)
  | (with_reducible refine w_and ?_)
  | (with_reducible refine w_or ?_)
  | (with_reducible refine w_not ?_)
  | (with_reducible refine w_andV ?_)
  | (with_reducible refine w_orV ?_)
  | (with_reducible refine w_notV ?_)
  | (with_reducible refine w_bl ?_)
  | (with_reducible refine w_if ?_)
  | (with_reducible refine w_nil ?_)
  | (with_reducible refine w_cons ?_)
  | (with_reducible refine w_cb ?_)
  | (with_reducible refine w_call ?_)
  | (with_reducible refine w_tup ?_)
  | (with_reducible refine w_lst ?_)
  | ((with_reducible refine' w_fin ?hz ?_); (case hz => (simp only [List.length_cons, List.length_nil]; decide)))
  | ((with_reducible refine' w_len ?s ?_); (case s => walk_at "t_sq"))
  | ((with_reducible refine' w_lenT ?s ?_); (case s => walk_at "t_sqt"))
  | (with_reducible refine w_intI ?_)
  | (with_reducible refine w_intB ?_)
  | ((with_reducible refine' w_list ?s ?_); (case s => walk_at "t_sq"))
  | (with_reducible refine w_max ?_)
  | (with_reducible refine w_min ?_)
  | (with_reducible refine w_abs ?_)
  | (with_reducible refine w_sl ?_)
  | (with_reducible refine w_noPart ?_)
  | (with_reducible refine w_part ?_)
  | (with_reducible refine w_exI ?_)
  | ((with_reducible refine' w_slL ?s ?_); (case s => walk_at "t_sq"))
  | ((with_reducible refine' w_ixLI ?s ?b ?_); (case s => walk_at "t_sq"); (case b => walk_at "t_lt"))
  | ((with_reducible refine' w_ixL ?s ?e ?_); (case s => walk_at "t_sq"); (case e => walk_at "t_at"))
  | ((with_reducible refine' w_ixT ?s ?e ?_); (case s => walk_at "t_sqt"); (case e => walk_at "t_at"))
  | (with_reducible refine w_gSub ?_)
  | ((with_reducible refine' w_setLI ?e ?b ?_); (case e => walk_at "t_hp"); (case b => walk_at "t_lt"))
  | ((with_reducible refine' w_setL ?e ?b ?_); (case e => walk_at "t_hp"); (case b => walk_at "t_ixn"))
  | (with_reducible refine w_bm ?_)
  | (with_reducible refine w_bm0 ?_)
  | ((with_reducible refine' w_tyL ?e ?_); (case e => walk_at "t_sq"))
  | ((with_reducible refine' w_app ?e ?hz ?_); (case e => walk_at "t_hp"); (case hz => walk_at "t_z"))
  | (with_reducible refine w_iteT ?_)
  | (with_reducible refine w_iteF ?_)
  | (with_reducible refine w_iteNT ?_)
  | (with_reducible refine w_iteNF ?_)
  | (with_reducible refine w_for ?_)
  | (with_reducible refine w_iList ?_)
  | ((with_reducible refine' w_exL ?s ?_); (case s => walk_at "t_sq"))
  | (with_reducible refine w_iTup ?_)
  | ((with_reducible refine' w_exT ?s ?_); (case s => walk_at "t_sqt"))
  | (with_reducible refine w_iRng1 ?_)
  | ((with_reducible refine w_exR1 ?b ?_); (case b => walk_at "t_c"))
  | (with_reducible refine w_iRng2 ?_)
  | ((with_reducible refine w_exR2 ?b ?_); (case b => walk_at "t_c"))
  | (with_reducible refine w_yes ?_)
  | ((with_reducible refine w_pos ?p ?_); (case p => walk_at "t_p"))
  | ((with_reducible refine w_neg ?p ?_); (case p => walk_at "t_p"))
  | ((with_reducible refine w_posN ?p ?_); (case p => walk_at "t_p"))
  | ((with_reducible refine w_negN ?p ?_); (case p => walk_at "t_p"))
  | ((with_reducible refine' w_notInL ?s ?_); (case s => walk_at "t_sq"))
  | ((with_reducible refine' w_inL ?s ?_); (case s => walk_at "t_sq"))
  | ((with_reducible refine' w_sum ?s ?_); (case s => walk_at "t_sq"))
  | (with_reducible refine w_isiI ?_)
  | ((with_reducible refine' w_isiL ?e ?_); (case e => walk_at "t_ty"))
  | ((with_reducible refine' w_isiT ?e ?_); (case e => walk_at "t_ty"))
  | (with_reducible intro p hp_new))
local macro_rules | `(tactic| walk_at "t_ty") => `(tactic| first | assumption | (refine' tyx_l ?e; (case e => walk_at "t_hp")) | (refine' tyx_t ?e; (case e => walk_at "t_hp")))
local macro_rules | `(tactic| walk_at "t_z") => `(tactic| first | assumption | decide | omega | (simp only [List.length_cons, List.length_nil, List.length_map, List.length_append, List.length_replicate]; first | done | decide | omega))
local macro_rules | `(tactic| walk_at "t_at") => `(tactic| first | assumption | rfl)
local macro_rules | `(tactic| walk_at "t_ixn") => `(tactic| first | assumption | rfl)
local macro_rules | `(tactic| walk_at "t_ev") => `(tactic| (intro H1 e Q q; (repeat walk_at "t_w"); exact q _ (by walk_at "t_ex")))
local macro_rules | `(tactic| walk_at "t_p") => `(tactic| first | assumption | decide | decide +kernel)
local macro_rules | `(tactic| walk_at "t_lt") => `(tactic| first | assumption | omega | (simp only [List.length_set, List.length_map, List.length_append]; first | assumption | omega))
def topS (i : Nat) : Stmt := PySem.Challenge.pw_threadslide_k05_whole_pushed.main.body.getD i (.Pass ⟨0, 0, 0, 0⟩)
structure Txt (K : PySem.W.Frag) (mg : Str → Option Value) : Prop where
  b_int : mg "int" = none
  b_isinstance : mg "isinstance" = none
  b_len : mg "len" = none
  b_list : mg "list" = none
  b_max : mg "max" = none
  b_range : mg "range" = none
  b_sorted : mg "sorted" = none
  b_sum : mg "sum" = none
  b_tuple : mg "tuple" = none

abbrev s_law_at : Stmt := topS 14
theorem sc_law_at : FnScope ["_law_script", "_law_place"] ["_law_script", "_law_place"] (defScope s_law_at) := ⟨rfl, rfl, rfl, by decide +kernel, rfl, by decide +kernel, by decide +kernel⟩

abbrev s_law_is_int : Stmt := topS 15
theorem sc_law_is_int : FnScope ["_law_value"] ["_law_value"] (defScope s_law_is_int) := ⟨rfl, rfl, rfl, by decide +kernel, rfl, by decide +kernel, by decide +kernel⟩

abbrev s_law_words_are : Stmt := topS 16
theorem sc_law_words_are : FnScope ["_law_found", "_law_due", "_law_k"] ["_law_found", "_law_due"] (defScope s_law_words_are) := ⟨rfl, rfl, rfl, by decide +kernel, rfl, by decide +kernel, by decide +kernel⟩

abbrev s_law_number : Stmt := topS 17
theorem sc_law_number : FnScope ["_law_seed"] ["_law_seed"] (defScope s_law_number) := ⟨rfl, rfl, rfl, by decide +kernel, rfl, by decide +kernel, by decide +kernel⟩

/-! ### the law's own helpers -/
def spAt (K : PySem.W.Frag) : Sp := fun vs H Q _ => ∃ (a : Addr) (i : Int) (ns : List Int), vs = [.ref a, .int i] ∧ SqL K H a (ns.map V.int) ∧ ns.length ≤ 1000 ∧ 0 ≤ i ∧ Evl.RetV (.int (ns.getD i.toNat 0)) H Q
theorem w_at {K : PySem.W.Frag} {H : Hp} {Q : VK} {E : XK} {a : Addr} {i : Int} {ns : List Int} (s : SqL K H a (ns.map V.int)) (hl : ns.length ≤ 1000) (h0 : 0 ≤ i) (h : ∀ H2, Ex H H2 → Q (.int (ns.getD i.toNat 0)) H2) : spAt K ([.ref a, .int i] ++ []) H Q E := ⟨a, i, ns, rfl, s, hl, h0, h⟩
theorem cut_at (ns : List Int) (i : Int) (h0 : 0 ≤ i) : atI (cutV (ns.map V.int) (some i) (some (i + 1)) ++ [V.int 0]) 0 = some (V.int (ns.getD i.toNat 0)) := by
  obtain ⟨n, rfl⟩ : ∃ n : Nat, i = (n : Int) := ⟨i.toNat, by omega⟩
  have e1 : ((n : Int) + 1) = ((n + 1 : Nat) : Int) := by omega
  unfold cutV
  rw [e1, HT.sIx_nat, HT.sIx_nat, Int.toNat_natCast]
  have g : ∀ (l : List V) (x : V), l[0]? = some x → atI l 0 = some x := fun l x h => atI_nat (j := 0) h
  apply g
  by_cases h : n < ns.length
  · have e2 : min n (ns.map V.int).length = n := by rw [List.length_map]; omega
    have e3 : min (n + 1) (ns.map V.int).length = n + 1 := by rw [List.length_map]; omega
    rw [e2, e3, show n + 1 - n = 1 by omega]
    rw [List.getElem?_append_left (by rw [List.length_take, List.length_drop, List.length_map]; omega), List.getElem?_take_of_lt (by omega), List.getElem?_drop, List.getElem?_map]
    simp [h]
  · have e2 : min n (ns.map V.int).length = ns.length := by rw [List.length_map]; omega
    have e3 : min (n + 1) (ns.map V.int).length = ns.length := by rw [List.length_map]; omega
    rw [e2, e3, Nat.sub_self, List.take_zero]
    simp [List.getD, List.getElem?_eq_none (by omega : ns.length ≤ n)]
local macro_rules | `(tactic| walk_at "t_at") => `(tactic| exact cut_at _ _ (by assumption))
section
variable {P : Program} {w : World} {K : PySem.W.Frag} {mg : Str → Option Value} {base : Heap}
theorem c_law_at (T : Txt K mg) (D : DefAt K mg "_law_at" "_law_at" s_law_at) : Cal P w K mg base "_law_at" 1 ["_law_script", "_law_place"] (spAt K) := by
  refine Cal.of D sc_law_at (fun vs H Q E h => ?_) (fun _ _ _ _ _ _ us hl => match us, hl with | [_, _], _ => rfl) (fun f cdv A outer s H vs Q E hr h => ?_)
  · obtain ⟨a, i, ns, rfl, _⟩ := h; rfl
  · obtain ⟨a, i, ns, rfl, hS, hl, h0, k⟩ := h
    have hc := L2.cutV_length (ns.map V.int) (some i) (some (i + 1))
    rw [List.length_map] at hc
    refine ⟨_, (pss_one (ps_ret (pe_ix (ix_seqK (K := K) rfl) (pe_op op_addA (pe_slice (sl_AK (K := K) rfl) (pv 0) (po_some (pv 1)) (po_some (pe_op op_addA (pv 1) pe_int))) (pe_lst (pa_cons pe_int pa_nil))) pe_int (fun _ _ => rfl)))), ?_⟩
    repeat walk_at "t_w"
    refine k _ ?_
    walk_at "t_ex"
end
section
variable {P : Program} {w : World} {K : PySem.W.Frag} {mg : Str → Option Value} {base : Heap}
def spIsInt : Sp := fun vs H Q _ => ∃ i : Int, vs = [.int i] ∧ Evl.RetV (.bl true) H Q
theorem w_isInt {H : Hp} {Q : VK} {E : XK} {i : Int} (h : ∀ H2, Ex H H2 → Q (.bl true) H2) : spIsInt ([.int i] ++ []) H Q E := ⟨i, rfl, h⟩
theorem c_law_is_int (T : Txt K mg) (D : DefAt K mg "_law_is_int" "_law_is_int" s_law_is_int) : Cal P w K mg base "_law_is_int" 1 ["_law_value"] spIsInt := by
  refine Cal.of D sc_law_is_int (fun vs H Q E h => ?_) (fun _ _ _ _ _ _ us hl => match us, hl with | [_], _ => rfl) (fun f cdv A outer s H vs Q E hr h => ?_)
  · obtain ⟨i, rfl, _⟩ := h; rfl
  · obtain ⟨i, rfl, k⟩ := h
    refine ⟨_, (pss_one (ps_ret (pe_and (pe_callB (call_isiK' (K := K) rfl) (by rfl) T.b_isinstance (by decide +kernel) (pa_cons (pv 0) (pa_cons (pe_bltn (v := .ty "int") (by rfl) T.b_int (by decide +kernel) rfl) pa_nil))) (pe_and (pe_cmpR op_notA (pv 0) pe_bl (nomark _)) (pe_one (pe_cmpR op_notA (pv 0) pe_bl (nomark _))))))), ?_⟩
    repeat walk_at "t_w"
    exact k _ (by walk_at "t_ex")
end
local macro_rules | `(tactic| walk_at "t_w") => `(tactic| first
  | ((with_reducible refine' w_at ?s ?hl ?h0 ?_); (case s => walk_at "t_sq"); (case hl => walk_at "t_z"); (case h0 => walk_at "t_z"))
  | (with_reducible refine w_isInt ?_))
section
variable {P : Program} {w : World} {K : PySem.W.Frag} {mg : Str → Option Value} {base : Heap}
def spWordsAre (K : PySem.W.Frag) : Sp := fun vs H Q _ => ∃ (a b : Addr) (xs : List Int), vs = [.ref a, .ref b] ∧ TyX K H (.ref a) (.type "list") ∧ SqL K H a (xs.map V.int) ∧ SqL K H b (xs.map V.int) ∧ xs.length ≤ 1000 ∧ Evl.RetV (.bl true) H Q
theorem c_law_words_are (T : Txt K mg) (D : DefAt K mg "_law_words_are" "_law_words_are" s_law_words_are) (c_law_is_int : Cal P w K mg base "_law_is_int" 1 ["_law_value"] spIsInt) : Cal P w K mg base "_law_words_are" 2 ["_law_found", "_law_due"] (spWordsAre K) := by
  refine Cal.of D sc_law_words_are (fun vs H Q E h => ?_) (fun _ _ _ _ _ _ us hl => match us, hl with | [_, _], _ => rfl) (fun f cdv A outer s H vs Q E hr h => ?_)
  · obtain ⟨a, b, xs, rfl, _⟩ := h; rfl
  · obtain ⟨a, b, xs, rfl, hT, hA, hB, hl, k⟩ := h
    have hu : _ + 64 < cLine := hr.units
    refine ⟨_, (pss_cons (ps_if (PW.pt (pw_or (pt_not (pt_val (pe_callB (call_isiK' (K := K) rfl) (by rfl) T.b_isinstance (by decide +kernel) (pa_cons (pv 0) (pa_cons (pe_bltn (v := .ty "list") (by rfl) T.b_list (by decide +kernel) rfl) pa_nil))))) (pw_or1 (pt_cmpR (op_neK (K := K) rfl hu) (pe_callB (call_lenK (K := K) rfl) (by rfl) T.b_len (by decide +kernel) (pa_cons (pv 0) pa_nil)) (pe_callB (call_lenK (K := K) rfl) (by rfl) T.b_len (by decide +kernel) (pa_cons (pv 1) pa_nil)) (nomark _))))) (pss_one (ps_ret pe_bl)) pss_nil)
      (pss_one (ps_ret (pe_cmpR (op_eqK (K := K) rfl hu) (pe_callB (call_lenK (K := K) rfl) (by rfl) T.b_len (by decide +kernel) (pa_cons (pe_lc (own := [("_law_k", 2)]) (g := gName 2) rfl sc_law_words_are.nd (pi_range1 rfl T.b_range (pa_cons (pe_callB (call_lenK (K := K) rfl) (by rfl) T.b_len (by decide +kernel) (pa_cons (pv 1) pa_nil)) pa_nil)) (blkOk_by (own := [("_law_k", 2)]) (N := ["_law_found", "_law_due", "_law_k"]) (sc := defScope s_law_words_are) (by decide +kernel)) (fun _ _ _ _ _ => pg_name (i := 2) sc_law_words_are.nd rfl (Or.inl rfl)) (fun _ _ _ _ _ => (pts_one (PW.pt (pw_or (pt_not (pt_val (pe_callC c_law_is_int (hr.mono (by decide)) rfl (pa_cons (pe_ix (ix_seqK (K := K) rfl) (pv 0) (pv 2) (fun _ _ => rfl)) pa_nil)))) (pw_or1 (pt_cmpR (op_neK (K := K) rfl hu) (pe_ix (ix_seqK (K := K) rfl) (pv 0) (pv 2) (fun _ _ => rfl)) (pe_ix (ix_seqK (K := K) rfl) (pv 1) (pv 2) (fun _ _ => rfl)) (nomark _))))))) (fun _ _ _ _ _ => (pv 2))) pa_nil)) pe_int (nomark _))))), ?_⟩
    repeat walk_at "t_w"
    refine w_negN rfl ?_
    repeat walk_at "t_w"
    refine w_lcR1 (n := ((xs.map V.int).length : Int)) (fun _ => false) (fun _ => .non) ?ha ?hn ?hw ?ht ?he ?hk
    case ha => walk_at "t_ev"
    case hn => rw [List.length_map]; omega
    case hw => intro x; rfl
    case ht =>
      intro i H1 e hi
      rw [List.length_map] at hi
      have hat := at_map (xs := xs) (i := i) (by omega)
      intro H2 e2 Q q
      repeat walk_at "t_w"
      rw [decide_eq_true rfl]
      exact q _ (by walk_at "t_ex")
    case he => intro i H1 e hi hf; cases hf
    case hk =>
      intro p H2 hp e h2
      rw [given_none] at h2
      repeat walk_at "t_w"
      exact k _ e
end
theorem w_wordsAre {K : PySem.W.Frag} {H : Hp} {Q : VK} {E : XK} {a b : Addr} {xs : List Int} (t : TyX K H (.ref a) (.type "list")) (s1 : SqL K H a (xs.map V.int)) (s2 : SqL K H b (xs.map V.int)) (hl : xs.length ≤ 1000) (h : ∀ H2, Ex H H2 → Q (.bl true) H2) : spWordsAre K ([.ref a, .ref b] ++ []) H Q E := ⟨a, b, xs, rfl, t, s1, s2, hl, h⟩
theorem w_words2 {K : PySem.W.Frag} {H : Hp} {Q : VK} {E : XK} {a b : Addr} {ys zs : List V} (xs : List Int) (e1 : H a = some (.lst ys)) (e2 : SqL K H b zs) (hy : ys = xs.map V.int) (hz : zs = xs.map V.int) (hl : xs.length ≤ 1000) (h : ∀ H2, Ex H H2 → Q (.bl true) H2) : spWordsAre K ([.ref a, .ref b] ++ []) H Q E :=
  ⟨a, b, xs, rfl, tyx_l e1, by rw [← hy]; exact SqL.of e1, by rw [← hz]; exact e2, hl, h⟩
/-- the number drawn from a seed -/
def lawNum (s : Int) : Int :=
  if s % 5 < 3 then s / 5 % 41 - 20
  else if s % 5 = 3 then (if s / 5 % 4 = 0 then 10 ^ 60 - 1 else if s / 5 % 4 = 1 then 1 - 10 ^ 60 else if s / 5 % 4 = 2 then 10 ^ 30 else 0)
  else s / 5 * 48271 ^ 12 % (2 * 10 ^ 60 - 1) - (10 ^ 60 - 1)
theorem p60 : (10 : Int) ^ 60 = 1000000000000000000000000000000000000000000000000000000000000 := by decide +kernel
theorem p30 : (10 : Int) ^ 30 = 1000000000000000000000000000000 := by decide +kernel
theorem lawNum_lt (s : Int) : -(10 ^ 60) < lawNum s ∧ lawNum s < 10 ^ 60 := by
  unfold lawNum
  rw [p60, p30]
  split
  · omega
  · split
    · split
      · omega
      · split
        · omega
        · split <;> omega
    · have h1 := Int.emod_nonneg (s / 5 * 48271 ^ 12) (show (2 * 1000000000000000000000000000000000000000000000000000000000000 - 1 : Int) ≠ 0 by omega)
      have h2 := Int.emod_lt_of_pos (s / 5 * 48271 ^ 12) (show (0 : Int) < 2 * 1000000000000000000000000000000000000000000000000000000000000 - 1 by omega)
      generalize s / 5 * 48271 ^ 12 % (2 * 1000000000000000000000000000000000000000000000000000000000000 - 1) = z at h1 h2 ⊢
      omega
theorem bits_lit {a : Int} {n : Nat} (h : (decide (Builtin.Int.intBits a ≤ n)) = true) : Builtin.Int.intBits a ≤ n := of_decide_eq_true h
theorem pick4 (e : Int) (h0 : 0 ≤ e) (h4 : e < 4) (a b c d : V) : atI [a, b, c, d] e = some (if e = 0 then a else if e = 1 then b else if e = 2 then c else d) := by
  obtain rfl | rfl | rfl | rfl : e = 0 ∨ e = 1 ∨ e = 2 ∨ e = 3 := by omega
  all_goals rfl
def spNumber : Sp := fun vs H Q _ => ∃ s : Int, vs = [.int s] ∧ Builtin.Int.intBits s ≤ 3000000 ∧ Evl.RetV (.int (lawNum s)) H Q
section
variable {P : Program} {w : World} {K : PySem.W.Frag} {mg : Str → Option Value} {base : Heap}
theorem w_number {H : Hp} {Q : VK} {E : XK} {i : Int} (hb : Builtin.Int.intBits i ≤ 3000000) (h : ∀ H2, Ex H H2 → Q (.int (lawNum i)) H2) : spNumber ([.int i] ++ []) H Q E := ⟨i, rfl, hb, h⟩
theorem c_law_number (T : Txt K mg) (D : DefAt K mg "_law_number" "_law_number" s_law_number) : Cal P w K mg base "_law_number" 1 ["_law_seed"] spNumber := by
  refine Cal.of D sc_law_number (fun vs H Q E h => ?_) (fun _ _ _ _ _ _ us hl => match us, hl with | [_], _ => rfl) (fun f cdv A outer s H vs Q E hr h => ?_)
  · obtain ⟨i, rfl, _⟩ := h; rfl
  · obtain ⟨i, rfl, hb, k⟩ := h
    have hu : _ + 64 < cLine := hr.units
    have hm : CMulA (i / 5) (48271 ^ Int.toNat 12) := Or.inr (Nat.le_trans (Nat.add_le_add (bits_div hb) (bits_lit (n := 200) (by decide +kernel))) (by decide))
    have hp := pick4 (i / 5 % 4) (by omega) (by omega) (V.int (10 ^ Int.toNat 60 - 1)) (V.int (1 - 10 ^ Int.toNat 60)) (V.int (10 ^ Int.toNat 30)) (V.int 0)
    refine ⟨_, (pss_cons (ps_if (pt_cmpR op_lt (pe_op op_mod (pv 0) pe_int) pe_int (nomark _)) (pss_one (ps_ret (pe_op op_sub (pe_op op_mod (pe_op op_fdiv (pv 0) pe_int) pe_int) pe_int))) pss_nil)
      (pss_cons (ps_if (pt_cmpR (op_eqK (K := K) rfl hu) (pe_op op_mod (pv 0) pe_int) pe_int (nomark _)) (pss_one (ps_ret (pe_ix (ix_seqK (K := K) rfl) (pe_lst (pa_cons (pe_op op_sub (pe_op op_pow pe_int pe_int) pe_int) (pa_cons (pe_op op_sub pe_int (pe_op op_pow pe_int pe_int)) (pa_cons (pe_op op_pow pe_int pe_int) (pa_cons pe_int pa_nil))))) (pe_op op_mod (pe_op op_fdiv (pv 0) pe_int) pe_int) (fun _ _ => rfl)))) pss_nil)
      (pss_one (ps_ret (pe_op op_sub (pe_op op_mod (pe_op op_mulA (pe_op op_fdiv (pv 0) pe_int) (pe_op op_pow pe_int pe_int)) (pe_op op_sub (pe_op op_mulA pe_int (pe_op op_pow pe_int pe_int)) pe_int)) (pe_op op_sub (pe_op op_pow pe_int pe_int) pe_int)))))), ?_⟩
    repeat walk_at "t_w"
    refine w_ite (fun h1 => ?_) (fun h1 => ?_)
    · repeat walk_at "t_w"
      have e : lawNum i = i / 5 % 41 - 20 := by unfold lawNum; rw [if_pos h1]
      rw [← e]
      exact k _ (by walk_at "t_ex")
    · repeat walk_at "t_w"
      refine w_ite (fun h2 => ?_) (fun h2 => ?_)
      · repeat walk_at "t_w"
        have e : V.int (lawNum i) = (if i / 5 % 4 = 0 then V.int (10 ^ Int.toNat 60 - 1) else if i / 5 % 4 = 1 then V.int (1 - 10 ^ Int.toNat 60) else if i / 5 % 4 = 2 then V.int (10 ^ Int.toNat 30) else V.int 0) := by
          unfold lawNum
          rw [if_neg h1, if_pos h2]
          split
          · rfl
          · split
            · rfl
            · split <;> rfl
        rw [← e]
        exact k _ (by walk_at "t_ex")
      · repeat walk_at "t_w"
        have e : lawNum i = i / 5 * 48271 ^ Int.toNat 12 % (2 * 10 ^ Int.toNat 60 - 1) - (10 ^ Int.toNat 60 - 1) := by
          unfold lawNum
          rw [if_neg h1, if_neg h2]
          rfl
        rw [← e]
        exact k _ (by walk_at "t_ex")
end
def spLaw (K : PySem.W.Frag) : Sp := fun vs H Q _ => ∃ (a : Addr) (ns : List Int), vs = [.ref a] ∧ SqL K H a (ns.map V.int) ∧ ns.length ≤ 63 ∧ (∀ z ∈ ns, Builtin.Int.intBits z ≤ 1048576) ∧ ∀ H', Q (.bl true) H'
theorem at_bits {ns : List Int} (h : ∀ z ∈ ns, Builtin.Int.intBits z ≤ 1048576) (i : Nat) : Builtin.Int.intBits (ns.getD i 0) ≤ 1048576 := by
  rw [List.getD_eq_getElem?_getD]
  cases e : ns[i]? with
  | none => decide
  | some z => exact h z (List.mem_of_getElem? e)
theorem seed_bits {x c : Int} (hx : Builtin.Int.intBits x ≤ 1048576) (hc : c.natAbs < 2 ^ 40) : Builtin.Int.intBits (x * 48271 + c) ≤ 3000000 :=
  Nat.le_trans (bits_add (m := 1048616) (Nat.le_trans (bits_mul hx (bits_lit (n := 20) (by decide +kernel))) (by decide)) (Nat.le_trans (lt_bits hc) (by decide))) (by decide)
end Tw

set_option Elab.async false
set_option linter.all false
set_option maxRecDepth 100000
set_option maxHeartbeats 4000000
namespace Tw
open PySem PySem.Spec PyProof.Rows L2
open Evl (Ex ex_l ex_t fresh_back sz_of sz_lt)
local macro_rules | `(tactic| walk_at "t_hp") => `(tactic| first
  | assumption
  | exact upd_same
  | (refine' hp_ne ?hne ?hrest; (case hne => walk_at "t_ne"); (case hrest => walk_at "t_hp"))
  | (refine' hp_ex ?hx ?hrest; (case hx => assumption); (case hrest => walk_at "t_hp")))
local macro_rules | `(tactic| walk_at "t_ne") => `(tactic| first
  | assumption
  | exact Ne.symm (by assumption)
  | (refine' ne_of_none ?h1 ?h2; (case h2 => assumption); (case h1 => walk_at "t_hp"))
  | (refine' Ne.symm (ne_of_none ?h1 ?h2); (case h2 => assumption); (case h1 => walk_at "t_hp")))
local macro_rules | `(tactic| walk_at "t_none") => `(tactic| first
  | assumption
  | (refine' fresh_back ?e ?n; (case n => assumption); (case e => walk_at "t_ex")))
local macro_rules | `(tactic| walk_at "t_ex") => `(tactic| first
  | assumption
  | exact Evl.Ex.refl _
  | (refine' ex_new ?n ?e; (case n => assumption); (case e => walk_at "t_ex"))
  | (refine' Evl.Ex.mut ?e ?n; (case n => walk_at "t_none"); (case e => walk_at "t_ex"))
  | (refine' Evl.Ex.trans ?a ?b; (case b => assumption); (case a => walk_at "t_ex")))
local macro_rules | `(tactic| walk_at "t_sq") => `(tactic| first
  | assumption
  | (refine' SqL.of ?h; (case h => walk_at "t_hp"))
  | (refine' ex_l ?e ?s; (case s => assumption); (case e => walk_at "t_ex")))
local macro_rules | `(tactic| walk_at "t_sqt") => `(tactic| first
  | assumption
  | (refine' SqT.of ?h; (case h => walk_at "t_hp"))
  | (refine' ex_t ?e ?s; (case s => assumption); (case e => walk_at "t_ex")))
local macro_rules | `(tactic| walk_at "t_mul") => `(tactic| first
  | assumption
  | exact Or.inl (Or.inl ⟨by decide, by decide⟩)
  | exact Or.inl (Or.inr ⟨by decide, by decide⟩)
  | exact Or.inl (Or.inl ⟨by omega, by omega⟩)
  | exact Or.inl (Or.inr ⟨by omega, by omega⟩))
local macro_rules | `(tactic| walk_at "t_c") => `(tactic| first
  | assumption
  | decide
  | (show (0 : Int) < _; decide)
  | (show (0 : Int) < _; omega)
  | exact ⟨by decide, by decide⟩
  | exact ⟨by decide, by decide, by decide⟩
  | exact ⟨by omega, by omega⟩
  | exact ⟨by omega, by omega, by omega, by omega⟩)
local macro_rules | `(tactic| walk_at "t_w") => `(tactic| first
  | (with_reducible refine w_seq ?_)
  | (with_reducible refine w_asg ?_)
  | (with_reducible refine w_gName ?_)
  | (with_reducible refine w_nx ?_)
  | (with_reducible refine w_rt ?_)
  | (with_reducible refine w_ct ?_)
  | (with_reducible refine w_bk ?_)
  | (with_reducible refine w_ret ?_)
  | (with_reducible refine w_retN ?_)
  | (with_reducible refine w_drop ?_)
  | (with_reducible refine w_ifS ?_)
  | (with_reducible refine w_next ?_)
  | (with_reducible refine w_break ?_)
  | (with_reducible refine w_cont ?_)
  | ((with_reducible refine' w_var ?h ?_); (case h => rfl))
  | (with_reducible refine w_c ?_)
  | (with_reducible refine w_op ?_)
  | (with_reducible refine w_un ?_)
  | (with_reducible refine w_I0 ?_)
  | ((with_reducible refine' w_I ?c ?_); (case c => walk_at "t_c"))
  | (with_reducible refine w_U ?_)
  | (with_reducible refine w_addI ?_)
  | ((with_reducible refine' w_addL ?h1 ?h2 ?hz ?_); (case h1 => walk_at "t_hp"); (case h2 => walk_at "t_hp"); (case hz => walk_at "t_z"))
  | ((with_reducible refine' w_mulI ?c ?_); (case c => walk_at "t_mul"))
  | ((with_reducible refine' w_mulL1 ?h1 ?b1 ?b2 ?_); (case h1 => walk_at "t_hp"); (case b1 => walk_at "t_z"); (case b2 => walk_at "t_z"))
  | ((with_reducible refine' w_mulL ?h1 ?b1 ?b2 ?hz ?_); (case h1 => walk_at "t_hp"); (case b1 => walk_at "t_z"); (case b2 => walk_at "t_z"); (case hz => walk_at "t_z"))
  | (with_reducible refine w_notIB ?_)
  | (with_reducible refine w_notBB ?_)
  | (with_reducible refine w_notN ?_)
  | (with_reducible refine w_isBB ?_)
  | (with_reducible refine w_isN ?_)
  | (with_reducible refine w_eqI ?_)
  | (with_reducible refine w_neI ?_)
  | (with_reducible refine w_eqB ?_)
  | (with_reducible refine w_neB ?_)
  | (with_reducible refine w_eqS ?_)
  | (with_reducible refine w_neS ?_)
  | (with_reducible refine w_test ?_)
  | (with_reducible refine w_B ?_)
  | (with_reducible refine w_exB ?_)
  | (with_reducible refine w_and ?_)
  | (with_reducible refine w_or ?_)
  | (with_reducible refine w_not ?_)
  | (with_reducible refine w_andV ?_)
  | (with_reducible refine w_orV ?_)
  | (with_reducible refine w_notV ?_)
  | (with_reducible refine w_bl ?_)
  | (with_reducible refine w_if ?_)
  | (with_reducible refine w_nil ?_)
  | (with_reducible refine w_cons ?_)
  | (with_reducible refine w_cb ?_)
  | (with_reducible refine w_call ?_)
  | (with_reducible refine w_tup ?_)
  | (with_reducible refine w_lst ?_)
  | ((with_reducible refine' w_fin ?hz ?_); (case hz => (simp only [List.length_cons, List.length_nil]; decide)))
  | ((with_reducible refine' w_len ?s ?_); (case s => walk_at "t_sq"))
  | ((with_reducible refine' w_lenT ?s ?_); (case s => walk_at "t_sqt"))
  | (with_reducible refine w_intI ?_)
  | (with_reducible refine w_intB ?_)
  | ((with_reducible refine' w_list ?s ?_); (case s => walk_at "t_sq"))
  | (with_reducible refine w_max ?_)
  | (with_reducible refine w_min ?_)
  | (with_reducible refine w_abs ?_)
  | (with_reducible refine w_sl ?_)
  | (with_reducible refine w_noPart ?_)
  | (with_reducible refine w_part ?_)
  | (with_reducible refine w_exI ?_)
  | ((with_reducible refine' w_slL ?s ?_); (case s => walk_at "t_sq"))
  | ((with_reducible refine' w_ixLI ?s ?b ?_); (case s => walk_at "t_sq"); (case b => walk_at "t_lt"))
  | ((with_reducible refine' w_ixL ?s ?e ?_); (case s => walk_at "t_sq"); (case e => walk_at "t_at"))
  | ((with_reducible refine' w_ixT ?s ?e ?_); (case s => walk_at "t_sqt"); (case e => walk_at "t_at"))
  | (with_reducible refine w_gSub ?_)
  | ((with_reducible refine' w_setLI ?e ?b ?_); (case e => walk_at "t_hp"); (case b => walk_at "t_lt"))
  | ((with_reducible refine' w_setL ?e ?b ?_); (case e => walk_at "t_hp"); (case b => walk_at "t_ixn"))
  | (with_reducible refine w_bm ?_)
  | (with_reducible refine w_bm0 ?_)
  | ((with_reducible refine' w_tyL ?e ?_); (case e => walk_at "t_sq"))
  | ((with_reducible refine' w_app ?e ?hz ?_); (case e => walk_at "t_hp"); (case hz => walk_at "t_z"))
  | (with_reducible refine w_iteT ?_)
  | (with_reducible refine w_iteF ?_)
  | (with_reducible refine w_iteNT ?_)
  | (with_reducible refine w_iteNF ?_)
  | (with_reducible refine w_for ?_)
  | (with_reducible refine w_iList ?_)
  | ((with_reducible refine' w_exL ?s ?_); (case s => walk_at "t_sq"))
  | (with_reducible refine w_iTup ?_)
  | ((with_reducible refine' w_exT ?s ?_); (case s => walk_at "t_sqt"))
  | (with_reducible refine w_iRng1 ?_)
  | ((with_reducible refine w_exR1 ?b ?_); (case b => walk_at "t_c"))
  | (with_reducible refine w_iRng2 ?_)
  | ((with_reducible refine w_exR2 ?b ?_); (case b => walk_at "t_c"))
  | (with_reducible refine w_yes ?_)
  | ((with_reducible refine w_pos ?p ?_); (case p => walk_at "t_p"))
  | ((with_reducible refine w_neg ?p ?_); (case p => walk_at "t_p"))
  | ((with_reducible refine w_posN ?p ?_); (case p => walk_at "t_p"))
  | ((with_reducible refine w_negN ?p ?_); (case p => walk_at "t_p"))
  | ((with_reducible refine' w_notInL ?s ?_); (case s => walk_at "t_sq"))
  | ((with_reducible refine' w_inL ?s ?_); (case s => walk_at "t_sq"))
  | ((with_reducible refine' w_sum ?s ?_); (case s => walk_at "t_sq"))
  | (with_reducible refine w_isiI ?_)
  | ((with_reducible refine' w_isiL ?e ?_); (case e => walk_at "t_ty"))
  | ((with_reducible refine' w_isiT ?e ?_); (case e => walk_at "t_ty"))
  | (with_reducible intro p hp_new))
local macro_rules | `(tactic| walk_at "t_ty") => `(tactic| first | assumption | (refine' tyx_l ?e; (case e => walk_at "t_hp")) | (refine' tyx_t ?e; (case e => walk_at "t_hp")))
local macro_rules | `(tactic| walk_at "t_z") => `(tactic| first | assumption | decide | omega | (simp only [List.length_cons, List.length_nil, List.length_map, List.length_append, List.length_replicate]; first | done | decide | omega))
local macro_rules | `(tactic| walk_at "t_at") => `(tactic| first | assumption | rfl)
local macro_rules | `(tactic| walk_at "t_ixn") => `(tactic| first | assumption | rfl)
local macro_rules | `(tactic| walk_at "t_ev") => `(tactic| (intro H1 e Q q; (repeat walk_at "t_w"); exact q _ (by walk_at "t_ex")))
local macro_rules | `(tactic| walk_at "t_p") => `(tactic| first | assumption | decide | decide +kernel)
local macro_rules | `(tactic| walk_at "t_lt") => `(tactic| first | assumption | omega | (simp only [List.length_set, List.length_map, List.length_append]; first | assumption | omega))
abbrev s_link_word : Stmt := topS 1
theorem sc_link_word : FnScope ["place"] ["place"] (defScope s_link_word) := ⟨rfl, rfl, rfl, by decide +kernel, rfl, by decide +kernel, by decide +kernel⟩

abbrev s_head_word : Stmt := topS 2
theorem sc_head_word : FnScope ["many", "marked"] ["many", "marked"] (defScope s_head_word) := ⟨rfl, rfl, rfl, by decide +kernel, rfl, by decide +kernel, by decide +kernel⟩

abbrev s_is_link : Stmt := topS 3
theorem sc_is_link : FnScope ["word"] ["word"] (defScope s_is_link) := ⟨rfl, rfl, rfl, by decide +kernel, rfl, by decide +kernel, by decide +kernel⟩

abbrev s_told_by : Stmt := topS 4
theorem sc_told_by : FnScope ["word"] ["word"] (defScope s_told_by) := ⟨rfl, rfl, rfl, by decide +kernel, rfl, by decide +kernel, by decide +kernel⟩

abbrev s_fields_of : Stmt := topS 5
theorem sc_fields_of : FnScope ["head"] ["head"] (defScope s_fields_of) := ⟨rfl, rfl, rfl, by decide +kernel, rfl, by decide +kernel, by decide +kernel⟩

/-! ### the program's words -/
def spI1 (g : Int → V) : Sp := fun vs H Q _ => ∃ n : Int, vs = [.int n] ∧ Evl.RetV (g n) H Q
theorem w_I1 {g : Int → V} {H : Hp} {Q : VK} {E : XK} {n : Int} (h : ∀ H2, Ex H H2 → Q (g n) H2) : spI1 g ([.int n] ++ []) H Q E := ⟨n, rfl, h⟩
def spHead : Sp := fun vs H Q _ => ∃ (n : Int) (b : Bool), vs = [.int n, .bl b] ∧ Evl.RetV (.int (if b then 4 * n + 2 else 4 * n)) H Q
theorem w_Head {H : Hp} {Q : VK} {E : XK} {n : Int} {b : Bool} (h : ∀ H2, Ex H H2 → Q (.int (if b then 4 * n + 2 else 4 * n)) H2) : spHead ([.int n, .bl b] ++ []) H Q E := ⟨n, b, rfl, h⟩
abbrev gNumber : Int → V := fun n => .int (2 * n)
abbrev gLink : Int → V := fun n => .int (2 * n + 1)
abbrev gIsLink : Int → V := fun n => .bl (decide (n % 2 = 1))
abbrev gTold : Int → V := fun n => .int (n / 2)
abbrev gFields : Int → V := fun n => .int (n / 4)
abbrev gIsMarked : Int → V := fun n => .bl (decide (n % 4 = 2))
section
variable {P : Program} {w : World} {K : PySem.W.Frag} {mg : Str → Option Value} {base : Heap}
theorem c_link_word (T : Txt K mg) (D : DefAt K mg "link_word" "link_word" s_link_word) : Cal P w K mg base "link_word" 1 ["place"] (spI1 gLink) := by
  refine Cal.of D sc_link_word (fun vs H Q E h => ?_) (fun _ _ _ _ _ _ us hl => match us, hl with | [_], _ => rfl) (fun f cdv A outer s H vs Q E hr h => ?_)
  · obtain ⟨i, rfl, _⟩ := h; rfl
  · obtain ⟨i, rfl, k⟩ := h
    have hu : _ + 64 < cLine := hr.units
    refine ⟨_, (pss_one (ps_ret (pe_op op_addA (pe_op op_mulA pe_int (pv 0)) pe_int))), ?_⟩
    repeat walk_at "t_w"
    exact k _ (by walk_at "t_ex")
theorem c_is_link (T : Txt K mg) (D : DefAt K mg "is_link" "is_link" s_is_link) : Cal P w K mg base "is_link" 1 ["word"] (spI1 gIsLink) := by
  refine Cal.of D sc_is_link (fun vs H Q E h => ?_) (fun _ _ _ _ _ _ us hl => match us, hl with | [_], _ => rfl) (fun f cdv A outer s H vs Q E hr h => ?_)
  · obtain ⟨i, rfl, _⟩ := h; rfl
  · obtain ⟨i, rfl, k⟩ := h
    have hu : _ + 64 < cLine := hr.units
    refine ⟨_, (pss_one (ps_ret (pe_cmpR (op_eqK (K := K) rfl hu) (pe_op op_mod (pv 0) pe_int) pe_int (nomark _)))), ?_⟩
    repeat walk_at "t_w"
    exact k _ (by walk_at "t_ex")
theorem c_told_by (T : Txt K mg) (D : DefAt K mg "told_by" "told_by" s_told_by) : Cal P w K mg base "told_by" 1 ["word"] (spI1 gTold) := by
  refine Cal.of D sc_told_by (fun vs H Q E h => ?_) (fun _ _ _ _ _ _ us hl => match us, hl with | [_], _ => rfl) (fun f cdv A outer s H vs Q E hr h => ?_)
  · obtain ⟨i, rfl, _⟩ := h; rfl
  · obtain ⟨i, rfl, k⟩ := h
    have hu : _ + 64 < cLine := hr.units
    refine ⟨_, (pss_one (ps_ret (pe_op op_fdiv (pv 0) pe_int))), ?_⟩
    repeat walk_at "t_w"
    exact k _ (by walk_at "t_ex")
theorem c_fields_of (T : Txt K mg) (D : DefAt K mg "fields_of" "fields_of" s_fields_of) : Cal P w K mg base "fields_of" 1 ["head"] (spI1 gFields) := by
  refine Cal.of D sc_fields_of (fun vs H Q E h => ?_) (fun _ _ _ _ _ _ us hl => match us, hl with | [_], _ => rfl) (fun f cdv A outer s H vs Q E hr h => ?_)
  · obtain ⟨i, rfl, _⟩ := h; rfl
  · obtain ⟨i, rfl, k⟩ := h
    have hu : _ + 64 < cLine := hr.units
    refine ⟨_, (pss_one (ps_ret (pe_op op_fdiv (pv 0) pe_int))), ?_⟩
    repeat walk_at "t_w"
    exact k _ (by walk_at "t_ex")
theorem c_head_word (T : Txt K mg) (D : DefAt K mg "head_word" "head_word" s_head_word) : Cal P w K mg base "head_word" 1 ["many", "marked"] spHead := by
  refine Cal.of D sc_head_word (fun vs H Q E h => ?_) (fun _ _ _ _ _ _ us hl => match us, hl with | [_, _], _ => rfl) (fun f cdv A outer s H vs Q E hr h => ?_)
  · obtain ⟨i, b, rfl, _⟩ := h; rfl
  · obtain ⟨i, b, rfl, k⟩ := h
    refine ⟨_, (pss_cons (ps_if (pt_val (pv 1)) (pss_one (ps_ret (pe_op op_addA (pe_op op_mulA pe_int (pv 0)) pe_int))) pss_nil)
      (pss_one (ps_ret (pe_op op_mulA pe_int (pv 0))))), ?_⟩
    cases b with
    | true =>
      repeat walk_at "t_w"
      exact k _ (by walk_at "t_ex")
    | false =>
      repeat walk_at "t_w"
      exact k _ (by walk_at "t_ex")
end
end Tw

set_option Elab.async false
set_option linter.all false
set_option maxRecDepth 100000
set_option maxHeartbeats 4000000
namespace Tw
open PySem PySem.Spec PyProof.Rows L2
open Evl (Ex ex_l ex_t fresh_back sz_of sz_lt)
local macro_rules | `(tactic| walk_at "t_hp") => `(tactic| first
  | assumption
  | exact upd_same
  | (refine' hp_ne ?hne ?hrest; (case hne => walk_at "t_ne"); (case hrest => walk_at "t_hp"))
  | (refine' hp_ex ?hx ?hrest; (case hx => assumption); (case hrest => walk_at "t_hp")))
local macro_rules | `(tactic| walk_at "t_ne") => `(tactic| first
  | assumption
  | exact Ne.symm (by assumption)
  | (refine' ne_of_none ?h1 ?h2; (case h2 => assumption); (case h1 => walk_at "t_hp"))
  | (refine' Ne.symm (ne_of_none ?h1 ?h2); (case h2 => assumption); (case h1 => walk_at "t_hp")))
local macro_rules | `(tactic| walk_at "t_none") => `(tactic| first
  | assumption
  | (refine' fresh_back ?e ?n; (case n => assumption); (case e => walk_at "t_ex")))
local macro_rules | `(tactic| walk_at "t_ex") => `(tactic| first
  | assumption
  | exact Evl.Ex.refl _
  | (refine' ex_new ?n ?e; (case n => assumption); (case e => walk_at "t_ex"))
  | (refine' Evl.Ex.mut ?e ?n; (case n => walk_at "t_none"); (case e => walk_at "t_ex"))
  | (refine' Evl.Ex.trans ?a ?b; (case b => assumption); (case a => walk_at "t_ex")))
local macro_rules | `(tactic| walk_at "t_sq") => `(tactic| first
  | assumption
  | (refine' SqL.of ?h; (case h => walk_at "t_hp"))
  | (refine' ex_l ?e ?s; (case s => assumption); (case e => walk_at "t_ex")))
local macro_rules | `(tactic| walk_at "t_sqt") => `(tactic| first
  | assumption
  | (refine' SqT.of ?h; (case h => walk_at "t_hp"))
  | (refine' ex_t ?e ?s; (case s => assumption); (case e => walk_at "t_ex")))
local macro_rules | `(tactic| walk_at "t_mul") => `(tactic| first
  | assumption
  | exact Or.inl (Or.inl ⟨by decide, by decide⟩)
  | exact Or.inl (Or.inr ⟨by decide, by decide⟩)
  | exact Or.inl (Or.inl ⟨by omega, by omega⟩)
  | exact Or.inl (Or.inr ⟨by omega, by omega⟩))
local macro_rules | `(tactic| walk_at "t_c") => `(tactic| first
  | assumption
  | decide
  | (show (0 : Int) < _; decide)
  | (show (0 : Int) < _; omega)
  | exact ⟨by decide, by decide⟩
  | exact ⟨by decide, by decide, by decide⟩
  | exact ⟨by omega, by omega⟩
  | exact ⟨by omega, by omega, by omega, by omega⟩)
local macro_rules | `(tactic| walk_at "t_w") => `(tactic| first
  | (with_reducible refine w_seq ?_)
  | (with_reducible refine w_asg ?_)
  | (with_reducible refine w_gName ?_)
  | (with_reducible refine w_nx ?_)
  | (with_reducible refine w_rt ?_)
  | (with_reducible refine w_ct ?_)
  | (with_reducible refine w_bk ?_)
  | (with_reducible refine w_ret ?_)
  | (with_reducible refine w_retN ?_)
  | (with_reducible refine w_drop ?_)
  | (with_reducible refine w_ifS ?_)
  | (with_reducible refine w_next ?_)
  | (with_reducible refine w_break ?_)
  | (with_reducible refine w_cont ?_)
  | ((with_reducible refine' w_var ?h ?_); (case h => rfl))
  | (with_reducible refine w_c ?_)
  | (with_reducible refine w_op ?_)
  | (with_reducible refine w_un ?_)
  | (with_reducible refine w_I0 ?_)
  | ((with_reducible refine' w_I ?c ?_); (case c => walk_at "t_c"))
  | (with_reducible refine w_U ?_)
  | (with_reducible refine w_addI ?_)
  | ((with_reducible refine' w_addL ?h1 ?h2 ?hz ?_); (case h1 => walk_at "t_hp"); (case h2 => walk_at "t_hp"); (case hz => walk_at "t_z"))
  | ((with_reducible refine' w_mulI ?c ?_); (case c => walk_at "t_mul"))
  | ((with_reducible refine' w_mulL1 ?h1 ?b1 ?b2 ?_); (case h1 => walk_at "t_hp"); (case b1 => walk_at "t_z"); (case b2 => walk_at "t_z"))
  | ((with_reducible refine' w_mulL ?h1 ?b1 ?b2 ?hz ?_); (case h1 => walk_at "t_hp"); (case b1 => walk_at "t_z"); (case b2 => walk_at "t_z"); (case hz => walk_at "t_z"))
  | (with_reducible refine w_notIB ?_)
  | (with_reducible refine w_notBB ?_)
  | (with_reducible refine w_notN ?_)
  | (with_reducible refine w_isBB ?_)
  | (with_reducible refine w_isN ?_)
  | (with_reducible refine w_eqI ?_)
  | (with_reducible refine w_neI ?_)
  | (with_reducible refine w_eqB ?_)
  | (with_reducible refine w_neB ?_)
  | (with_reducible refine w_eqS ?_)
  | (with_reducible refine w_neS ?_)
  | (with_reducible refine w_test ?_)
  | (with_reducible refine w_B ?_)
  | (with_reducible refine w_exB ?_)
  | (with_reducible refine w_and ?_)
  | (with_reducible refine w_or ?_)
  | (with_reducible refine w_not ?_)
  | (with_reducible refine w_andV ?_)
  | (with_reducible refine w_orV ?_)
  | (with_reducible refine w_notV ?_)
  | (with_reducible refine w_bl ?_)
  | (with_reducible refine w_if ?_)
  | (with_reducible refine w_nil ?_)
  | (with_reducible refine w_cons ?_)
  | (with_reducible refine w_cb ?_)
  | (with_reducible refine w_call ?_)
  | (with_reducible refine w_tup ?_)
  | (with_reducible refine w_lst ?_)
  | ((with_reducible refine' w_fin ?hz ?_); (case hz => (simp only [List.length_cons, List.length_nil]; decide)))
  | ((with_reducible refine' w_len ?s ?_); (case s => walk_at "t_sq"))
  | ((with_reducible refine' w_lenT ?s ?_); (case s => walk_at "t_sqt"))
  | (with_reducible refine w_intI ?_)
  | (with_reducible refine w_intB ?_)
  | ((with_reducible refine' w_list ?s ?_); (case s => walk_at "t_sq"))
  | (with_reducible refine w_max ?_)
  | (with_reducible refine w_min ?_)
  | (with_reducible refine w_abs ?_)
  | (with_reducible refine w_sl ?_)
  | (with_reducible refine w_noPart ?_)
  | (with_reducible refine w_part ?_)
  | (with_reducible refine w_exI ?_)
  | ((with_reducible refine' w_slL ?s ?_); (case s => walk_at "t_sq"))
  | ((with_reducible refine' w_ixLI ?s ?b ?_); (case s => walk_at "t_sq"); (case b => walk_at "t_lt"))
  | ((with_reducible refine' w_ixL ?s ?e ?_); (case s => walk_at "t_sq"); (case e => walk_at "t_at"))
  | ((with_reducible refine' w_ixT ?s ?e ?_); (case s => walk_at "t_sqt"); (case e => walk_at "t_at"))
  | (with_reducible refine w_gSub ?_)
  | ((with_reducible refine' w_setLI ?e ?b ?_); (case e => walk_at "t_hp"); (case b => walk_at "t_lt"))
  | ((with_reducible refine' w_setL ?e ?b ?_); (case e => walk_at "t_hp"); (case b => walk_at "t_ixn"))
  | (with_reducible refine w_bm ?_)
  | (with_reducible refine w_bm0 ?_)
  | ((with_reducible refine' w_tyL ?e ?_); (case e => walk_at "t_sq"))
  | ((with_reducible refine' w_app ?e ?hz ?_); (case e => walk_at "t_hp"); (case hz => walk_at "t_z"))
  | (with_reducible refine w_iteT ?_)
  | (with_reducible refine w_iteF ?_)
  | (with_reducible refine w_iteNT ?_)
  | (with_reducible refine w_iteNF ?_)
  | (with_reducible refine w_for ?_)
  | (with_reducible refine w_iList ?_)
  | ((with_reducible refine' w_exL ?s ?_); (case s => walk_at "t_sq"))
  | (with_reducible refine w_iTup ?_)
  | ((with_reducible refine' w_exT ?s ?_); (case s => walk_at "t_sqt"))
  | (with_reducible refine w_iRng1 ?_)
  | ((with_reducible refine w_exR1 ?b ?_); (case b => walk_at "t_c"))
  | (with_reducible refine w_iRng2 ?_)
  | ((with_reducible refine w_exR2 ?b ?_); (case b => walk_at "t_c"))
  | (with_reducible refine w_yes ?_)
  | ((with_reducible refine w_pos ?p ?_); (case p => walk_at "t_p"))
  | ((with_reducible refine w_neg ?p ?_); (case p => walk_at "t_p"))
  | ((with_reducible refine w_posN ?p ?_); (case p => walk_at "t_p"))
  | ((with_reducible refine w_negN ?p ?_); (case p => walk_at "t_p"))
  | ((with_reducible refine' w_notInL ?s ?_); (case s => walk_at "t_sq"))
  | ((with_reducible refine' w_inL ?s ?_); (case s => walk_at "t_sq"))
  | ((with_reducible refine' w_sum ?s ?_); (case s => walk_at "t_sq"))
  | (with_reducible refine w_isiI ?_)
  | ((with_reducible refine' w_isiL ?e ?_); (case e => walk_at "t_ty"))
  | ((with_reducible refine' w_isiT ?e ?_); (case e => walk_at "t_ty"))
  | (with_reducible intro p hp_new))
local macro_rules | `(tactic| walk_at "t_ty") => `(tactic| first | assumption | (refine' tyx_l ?e; (case e => walk_at "t_hp")) | (refine' tyx_t ?e; (case e => walk_at "t_hp")))
local macro_rules | `(tactic| walk_at "t_z") => `(tactic| first | assumption | decide | omega | (simp only [List.length_cons, List.length_nil, List.length_map, List.length_append, List.length_replicate]; first | done | decide | omega))
local macro_rules | `(tactic| walk_at "t_at") => `(tactic| first | assumption | rfl)
local macro_rules | `(tactic| walk_at "t_ixn") => `(tactic| first | assumption | rfl)
local macro_rules | `(tactic| walk_at "t_ev") => `(tactic| (intro H1 e Q q; (repeat walk_at "t_w"); exact q _ (by walk_at "t_ex")))
local macro_rules | `(tactic| walk_at "t_p") => `(tactic| first | assumption | decide | decide +kernel)
local macro_rules | `(tactic| walk_at "t_lt") => `(tactic| first | assumption | omega | (simp only [List.length_set, List.length_map, List.length_append]; first | assumption | omega))
local macro_rules | `(tactic| walk_at "t_w") => `(tactic| first
  | ((with_reducible refine' w_at ?s ?hl ?h0 ?_); (case s => walk_at "t_sq"); (case hl => walk_at "t_z"); (case h0 => walk_at "t_z"))
  | (with_reducible refine w_isInt ?_)
  | (with_reducible refine w_I1 ?_)
  | (with_reducible refine w_Head ?_)
  | ((with_reducible refine' w_number ?hb ?_); (case hb => walk_at "t_bits")))
local macro_rules | `(tactic| walk_at "t_bits") => `(tactic| assumption)
abbrev s_law_sizes : Stmt := topS 18
theorem sc_law_sizes : FnScope ["_law_script", "_law_at_here", "_law_head", "_law_many", "_law_sizes_here", "_law_k", "_law_seed"] ["_law_script", "_law_at_here"] (defScope s_law_sizes) := ⟨rfl, rfl, rfl, by decide +kernel, rfl, by decide +kernel, by decide +kernel⟩

/-! ### cells of a row -/
theorem nat_mod {x : Int} {z : Nat} (h : 0 < z) : ∃ n : Nat, x % (z : Int) = (n : Int) ∧ n < z := by
  have h1 := Int.emod_nonneg x (show (z : Int) ≠ 0 by omega)
  have h2 := Int.emod_lt_of_pos x (show (0 : Int) < (z : Int) by omega)
  exact ⟨(x % (z : Int)).toNat, by omega, by omega⟩
theorem two_cells {h z : Nat} {t : Int} (hh : h < z) (h2 : 2 ≤ z) (t0 : 0 ≤ t) (t1 : t < (z : Int) - 1) : ∃ j : Nat, ((h : Int) + 1 + t) % (z : Int) = (j : Int) ∧ j < z ∧ j ≠ h := by
  by_cases c : (h : Int) + 1 + t < (z : Int)
  · exact ⟨((h : Int) + 1 + t).toNat, by rw [Int.emod_eq_of_lt (by omega) c]; omega, by omega, by omega⟩
  · refine ⟨((h : Int) + 1 + t - z).toNat, ?_, by omega, by omega⟩
    rw [← Int.sub_emod_right, Int.emod_eq_of_lt (by omega) (by omega)]
    omega
/-! ### the sizes that are drawn -/
/-- some sizes, one at least, together with their heads at most 380 cells -/
def GoodSizes (js : List Nat) : Prop := 1 ≤ js.length ∧ js.length ≤ 60 ∧ js.sum + js.length ≤ 380
def spSizes (K : PySem.W.Frag) : Sp := fun vs H Q _ => ∃ (a : Addr) (i : Int) (ns : List Int), vs = [.ref a, .int i] ∧ SqL K H a (ns.map V.int) ∧ ns.length ≤ 1000 ∧ 0 ≤ i ∧ ∀ js, GoodSizes js → Evl.RetL ((asI js).map V.int) H Q
theorem w_sizes {K : PySem.W.Frag} {H : Hp} {Q : VK} {E : XK} {a : Addr} {i : Int} {ns : List Int} (s : SqL K H a (ns.map V.int)) (hl : ns.length ≤ 1000) (h0 : 0 ≤ i) (k : ∀ js, GoodSizes js → ∀ p H2, H p = none → Ex H H2 → H2 p = some (.lst ((asI js).map V.int)) → Q (.ref p) H2) : spSizes K ([.ref a, .int i] ++ []) H Q E := ⟨a, i, ns, rfl, s, hl, h0, k⟩
section
variable {P : Program} {w : World} {K : PySem.W.Frag} {mg : Str → Option Value} {base : Heap}
theorem c_law_sizes (T : Txt K mg) (D : DefAt K mg "_law_sizes" "_law_sizes" s_law_sizes) (c_law_at : Cal P w K mg base "_law_at" 1 ["_law_script", "_law_place"] (spAt K)) : Cal P w K mg base "_law_sizes" 2 ["_law_script", "_law_at_here"] (spSizes K) := by
  refine Cal.of D sc_law_sizes (fun vs H Q E h => ?_) (fun _ _ _ _ _ _ us hl => match us, hl with | [_, _], _ => rfl) (fun f cdv A outer s H vs Q E hr h => ?_)
  · obtain ⟨a, i, ns, rfl, _⟩ := h; rfl
  · obtain ⟨a, i, ns, rfl, hS, hl, h0, k⟩ := h
    have hu : _ + 64 < cLine := hr.units
    refine ⟨_, (pss_cons (ps_set (i := 2) sc_law_sizes.nd rfl (Or.inl rfl) (pe_callC c_law_at (hr.mono (by decide)) rfl (pa_cons (pv 0) (pa_cons (pv 1) pa_nil))))
      (pss_cons (ps_set (i := 3) sc_law_sizes.nd rfl (Or.inl rfl) (pe_op op_addA pe_int (pe_op op_mod (pv 2) pe_int)))
      (Evl.pss_cut (ps_if (pt_cmpR (op_eqK (K := K) rfl hu) (pe_op op_mod (pe_op op_fdiv (pv 2) pe_int) pe_int) pe_int (nomark _)) (pss_one (ps_set (i := 3) sc_law_sizes.nd rfl (Or.inl rfl) (pe_op op_addA pe_int (pe_op op_mod (pe_op op_fdiv (pv 2) pe_int) pe_int)))) pss_nil)
      (pss_cons (ps_set (i := 4) sc_law_sizes.nd rfl (Or.inl rfl) (pe_lst (pa_cons (pe_op op_mod (pe_op op_fdiv (pv 2) pe_int) pe_int) pa_nil)))
      (pss_cons (ps_for PassesOwn.never rfl (pi_range2 rfl T.b_range (pa_cons pe_int (pa_cons (pv 3) pa_nil))) (pg_name (i := 5) sc_law_sizes.nd rfl (Or.inl rfl)) (pss_cons (ps_set (i := 6) sc_law_sizes.nd rfl (Or.inl rfl) (pe_op op_mod (pe_op op_addA (pe_op op_mulA (pe_callC c_law_at (hr.mono (by decide)) rfl (pa_cons (pv 0) (pa_cons (pe_op op_addA (pe_op op_addA (pv 1) pe_int) (pe_op op_mod (pv 5) pe_int)) pa_nil))) pe_int) (pe_op op_mulA (pv 5) pe_int)) pe_int))
      (pss_one (ps_expr (pe_bmK (K := K) rfl PySem.F.plainAttrs_list PySem.F.slot_list_append PySem.F.type_list_append mt_append (pv 4) (pa_cons (pe_op op_addA (pe_op op_mod (pv 6) pe_int) (pe_op op_mulA pe_int (pe_callTy call_intA (by rfl) T.b_int (by decide +kernel) (pa_cons (pe_cmpR (op_eqK (K := K) rfl hu) (pe_op op_mod (pe_op op_fdiv (pv 6) pe_int) pe_int) pe_int (nomark _)) pa_nil)))) pa_nil))))))
      (pss_cons (ps_while PassesOwn.never (pt_cmpR op_gt (pe_op op_addA (pe_callB (cr_sumK (K := K) rfl rfl) (by rfl) T.b_sum (by decide +kernel) (pa_cons (pv 4) pa_nil)) (pe_callB (call_lenK (K := K) rfl) (by rfl) T.b_len (by decide +kernel) (pa_cons (pv 4) pa_nil))) pe_int (nomark _)) (pss_one (ps_expr (pe_bm0K (K := K) rfl PySem.F.plainAttrs_list PySem.F.slot_list_pop PySem.F.type_list_pop mt_pop (pv 4)))))
      (pss_one (ps_ret (pv 4))))))))), ?_⟩
    repeat walk_at "t_w"
    refine Evl.q_cut (M := fun σ' H' => ∃ (hd : Int) (m : Int), 1 ≤ m ∧ m ≤ 60 ∧ σ' = [some (.ref a), some (.int i), some (.int hd), some (.int m), none, none, none] ∧ Ex H H') ?_ ?_
    · repeat walk_at "t_w"
      generalize ns.getD i.toNat 0 = hd
      refine w_ite (fun h1 => ?_) (fun h1 => ?_)
      · repeat walk_at "t_w"
        exact ⟨hd, _, by omega, by omega, rfl, by walk_at "t_ex"⟩
      · repeat walk_at "t_w"
        exact ⟨hd, _, by omega, by omega, rfl, by walk_at "t_ex"⟩
    · rintro σ' H' ⟨hd, m, hm1, hm2, rfl, hE⟩
      repeat walk_at "t_w"
      rename_i l hl0
      have hHl : H l = none := by walk_at "t_none"
      refine loopR (fun i' σ' H' => ∃ (j0 : Nat) (r : List Nat) (y5 y6 : Option V), σ' = [some (.ref a), some (.int i), some (.int hd), some (.int m), some (.ref l), y5, y6] ∧ Ex H H' ∧ H' l = some (.lst ((asI (j0 :: r)).map V.int)) ∧ j0 ≤ 4 ∧ r.length = i') ?_ ?_ ?_
      · refine ⟨(hd / 3 % 5).toNat, [], none, none, rfl, by walk_at "t_ex", ?_, by omega, rfl⟩
        have e : (((hd / 3 % 5).toNat : Nat) : Int) = hd / 3 % 5 := by omega
        show _ = some (HO.lst [V.int (((hd / 3 % 5).toNat : Nat) : Int)])
        rw [e]
        exact upd_same
      · rintro i' σ' H' hi ⟨j0, r, y5, y6, rfl, hE2, hL, hj0, hr0⟩
        have hz2 : ((asI (j0 :: r)).map V.int).length < 1000000 := by rw [List.length_map, asI_len]; show r.length + 1 < _; omega
        repeat walk_at "t_w"
        generalize hv : (ns.getD (i + 1 + (1 + (i' : Int)) % 40).toNat 0 * 48271 + (1 + (i' : Int)) * 7919) % 999983 = sd
        obtain ⟨v, ev⟩ : ∃ v : Nat, (sd % 4 + 5 * if decide (sd / 4 % 9 = 1) = true then 1 else 0) = (v : Int) := by
          refine ⟨(sd % 4 + 5 * if decide (sd / 4 % 9 = 1) = true then 1 else 0).toNat, ?_⟩
          split <;> omega
        rw [ev, asI_snoc]
        exact ⟨j0, r ++ [v], _, _, rfl, by walk_at "t_ex", upd_same, hj0, by rw [List.length_append]; show r.length + 1 = _; omega⟩
      · rintro σ' H' ⟨j0, r, y5, y6, rfl, hE2, hL, hj0, hr0⟩
        repeat walk_at "t_w"
        refine w_while (fun n σ' H' => ∃ (j0 : Nat) (r : List Nat), n = r.length ∧ σ' = [some (.ref a), some (.int i), some (.int hd), some (.int m), some (.ref l), y5, y6] ∧ Ex H H' ∧ H' l = some (.lst ((asI (j0 :: r)).map V.int)) ∧ j0 ≤ 4 ∧ r.length ≤ 59) r.length ⟨j0, r, rfl, rfl, hE2, hL, hj0, by omega⟩ ?_
        rintro n σ' H2 ⟨j0, r, en, rfl, hE3, hL3, hj0, hr0⟩
        repeat walk_at "t_w"
        rw [List.length_map, asI_len, asI_sum]
        refine w_ite (fun h1 => ?_) (fun h1 => ?_)
        · refine w_exN ?_
          have hne : r ≠ [] := by
            intro e
            subst e
            rw [List.sum_cons] at h1
            simp at h1
            omega
          have hlast : ((asI (j0 :: r)).map V.int)[((asI (j0 :: r)).map V.int).length - 1]? = some (.int (((j0 :: r).getLast (by simp) : Nat) : Int)) := by
            rw [List.length_map, asI_len, List.getElem?_map]
            unfold asI
            rw [List.getElem?_map, ← List.getLast?_eq_getElem?, List.getLast?_eq_some_getLast (by simp)]
            rfl
          repeat walk_at "t_w"
          refine w_pop (by walk_at "t_hp") hlast ?_
          repeat walk_at "t_w"
          have ed : ((asI (j0 :: r)).map V.int).dropLast = (asI (j0 :: r.dropLast)).map V.int := by
            unfold asI
            rw [← List.map_dropLast, ← List.map_dropLast, List.dropLast_cons_of_ne_nil hne]
          rw [ed]
          have h9 : 0 < r.length := List.length_pos_iff.mpr hne
          exact ⟨r.dropLast.length, by rw [List.length_dropLast]; omega, j0, r.dropLast, rfl, rfl, by walk_at "t_ex", upd_same, hj0, by rw [List.length_dropLast]; omega⟩
        · repeat walk_at "t_w"
          refine k (j0 :: r) ⟨by simp, by simp; omega, by simp at h1 ⊢; omega⟩ _ _ hHl (by walk_at "t_ex") hL3
end
end Tw

set_option Elab.async false
set_option linter.all false
set_option maxRecDepth 100000
set_option maxHeartbeats 4000000
namespace Tw
open PySem PySem.Spec PyProof.Rows L2
open Evl (Ex ex_l ex_t fresh_back sz_of sz_lt)
local macro_rules | `(tactic| walk_at "t_hp") => `(tactic| first
  | assumption
  | exact upd_same
  | (refine' hp_ne ?hne ?hrest; (case hne => walk_at "t_ne"); (case hrest => walk_at "t_hp"))
  | (refine' hp_ex ?hx ?hrest; (case hx => assumption); (case hrest => walk_at "t_hp")))
local macro_rules | `(tactic| walk_at "t_ne") => `(tactic| first
  | assumption
  | exact Ne.symm (by assumption)
  | (refine' ne_of_none ?h1 ?h2; (case h2 => assumption); (case h1 => walk_at "t_hp"))
  | (refine' Ne.symm (ne_of_none ?h1 ?h2); (case h2 => assumption); (case h1 => walk_at "t_hp")))
local macro_rules | `(tactic| walk_at "t_none") => `(tactic| first
  | assumption
  | (refine' fresh_back ?e ?n; (case n => assumption); (case e => walk_at "t_ex")))
local macro_rules | `(tactic| walk_at "t_ex") => `(tactic| first
  | assumption
  | exact Evl.Ex.refl _
  | (refine' ex_new ?n ?e; (case n => assumption); (case e => walk_at "t_ex"))
  | (refine' Evl.Ex.mut ?e ?n; (case n => walk_at "t_none"); (case e => walk_at "t_ex"))
  | (refine' Evl.Ex.trans ?a ?b; (case b => assumption); (case a => walk_at "t_ex")))
local macro_rules | `(tactic| walk_at "t_sq") => `(tactic| first
  | assumption
  | (refine' SqL.of ?h; (case h => walk_at "t_hp"))
  | (refine' ex_l ?e ?s; (case s => assumption); (case e => walk_at "t_ex")))
local macro_rules | `(tactic| walk_at "t_sqt") => `(tactic| first
  | assumption
  | (refine' SqT.of ?h; (case h => walk_at "t_hp"))
  | (refine' ex_t ?e ?s; (case s => assumption); (case e => walk_at "t_ex")))
local macro_rules | `(tactic| walk_at "t_mul") => `(tactic| first
  | assumption
  | exact Or.inl (Or.inl ⟨by decide, by decide⟩)
  | exact Or.inl (Or.inr ⟨by decide, by decide⟩)
  | exact Or.inl (Or.inl ⟨by omega, by omega⟩)
  | exact Or.inl (Or.inr ⟨by omega, by omega⟩))
local macro_rules | `(tactic| walk_at "t_c") => `(tactic| first
  | assumption
  | decide
  | (show (0 : Int) < _; decide)
  | (show (0 : Int) < _; omega)
  | exact ⟨by decide, by decide⟩
  | exact ⟨by decide, by decide, by decide⟩
  | exact ⟨by omega, by omega⟩
  | exact ⟨by omega, by omega, by omega, by omega⟩)
local macro_rules | `(tactic| walk_at "t_w") => `(tactic| first
  | (with_reducible refine w_seq ?_)
  | (with_reducible refine w_asg ?_)
  | (with_reducible refine w_gName ?_)
  | (with_reducible refine w_nx ?_)
  | (with_reducible refine w_rt ?_)
  | (with_reducible refine w_ct ?_)
  | (with_reducible refine w_bk ?_)
  | (with_reducible refine w_ret ?_)
  | (with_reducible refine w_retN ?_)
  | (with_reducible refine w_drop ?_)
  | (with_reducible refine w_ifS ?_)
  | (with_reducible refine w_next ?_)
  | (with_reducible refine w_break ?_)
  | (with_reducible refine w_cont ?_)
  | ((with_reducible refine' w_var ?h ?_); (case h => rfl))
  | (with_reducible refine w_c ?_)
  | (with_reducible refine w_op ?_)
  | (with_reducible refine w_un ?_)
  | (with_reducible refine w_I0 ?_)
  | ((with_reducible refine' w_I ?c ?_); (case c => walk_at "t_c"))
  | (with_reducible refine w_U ?_)
  | (with_reducible refine w_addI ?_)
  | ((with_reducible refine' w_addL ?h1 ?h2 ?hz ?_); (case h1 => walk_at "t_hp"); (case h2 => walk_at "t_hp"); (case hz => walk_at "t_z"))
  | ((with_reducible refine' w_mulI ?c ?_); (case c => walk_at "t_mul"))
  | ((with_reducible refine' w_mulL1 ?h1 ?b1 ?b2 ?_); (case h1 => walk_at "t_hp"); (case b1 => walk_at "t_z"); (case b2 => walk_at "t_z"))
  | ((with_reducible refine' w_mulL ?h1 ?b1 ?b2 ?hz ?_); (case h1 => walk_at "t_hp"); (case b1 => walk_at "t_z"); (case b2 => walk_at "t_z"); (case hz => walk_at "t_z"))
  | (with_reducible refine w_notIB ?_)
  | (with_reducible refine w_notBB ?_)
  | (with_reducible refine w_notN ?_)
  | (with_reducible refine w_isBB ?_)
  | (with_reducible refine w_isN ?_)
  | (with_reducible refine w_eqI ?_)
  | (with_reducible refine w_neI ?_)
  | (with_reducible refine w_eqB ?_)
  | (with_reducible refine w_neB ?_)
  | (with_reducible refine w_eqS ?_)
  | (with_reducible refine w_neS ?_)
  | (with_reducible refine w_test ?_)
  | (with_reducible refine w_B ?_)
  | (with_reducible refine w_exB ?_)
  | (with_reducible refine w_and ?_)
  | (with_reducible refine w_or ?_)
  | (with_reducible refine w_not ?_)
  | (with_reducible refine w_andV ?_)
  | (with_reducible refine w_orV ?_)
  | (with_reducible refine w_notV ?_)
  | (with_reducible refine w_bl ?_)
  | (with_reducible refine w_if ?_)
  | (with_reducible refine w_nil ?_)
  | (with_reducible refine w_cons ?_)
  | (with_reducible refine w_cb ?_)
  | (with_reducible refine w_call ?_)
  | (with_reducible refine w_tup ?_)
  | (with_reducible refine w_lst ?_)
  | ((with_reducible refine' w_fin ?hz ?_); (case hz => (simp only [List.length_cons, List.length_nil]; decide)))
  | ((with_reducible refine' w_len ?s ?_); (case s => walk_at "t_sq"))
  | ((with_reducible refine' w_lenT ?s ?_); (case s => walk_at "t_sqt"))
  | (with_reducible refine w_intI ?_)
  | (with_reducible refine w_intB ?_)
  | ((with_reducible refine' w_list ?s ?_); (case s => walk_at "t_sq"))
  | (with_reducible refine w_max ?_)
  | (with_reducible refine w_min ?_)
  | (with_reducible refine w_abs ?_)
  | (with_reducible refine w_sl ?_)
  | (with_reducible refine w_noPart ?_)
  | (with_reducible refine w_part ?_)
  | (with_reducible refine w_exI ?_)
  | ((with_reducible refine' w_slL ?s ?_); (case s => walk_at "t_sq"))
  | ((with_reducible refine' w_ixLI ?s ?b ?_); (case s => walk_at "t_sq"); (case b => walk_at "t_lt"))
  | ((with_reducible refine' w_ixL ?s ?e ?_); (case s => walk_at "t_sq"); (case e => walk_at "t_at"))
  | ((with_reducible refine' w_ixT ?s ?e ?_); (case s => walk_at "t_sqt"); (case e => walk_at "t_at"))
  | (with_reducible refine w_gSub ?_)
  | ((with_reducible refine' w_setLI ?e ?b ?_); (case e => walk_at "t_hp"); (case b => walk_at "t_lt"))
  | ((with_reducible refine' w_setL ?e ?b ?_); (case e => walk_at "t_hp"); (case b => walk_at "t_ixn"))
  | (with_reducible refine w_bm ?_)
  | (with_reducible refine w_bm0 ?_)
  | ((with_reducible refine' w_tyL ?e ?_); (case e => walk_at "t_sq"))
  | ((with_reducible refine' w_app ?e ?hz ?_); (case e => walk_at "t_hp"); (case hz => walk_at "t_z"))
  | (with_reducible refine w_iteT ?_)
  | (with_reducible refine w_iteF ?_)
  | (with_reducible refine w_iteNT ?_)
  | (with_reducible refine w_iteNF ?_)
  | (with_reducible refine w_for ?_)
  | (with_reducible refine w_iList ?_)
  | ((with_reducible refine' w_exL ?s ?_); (case s => walk_at "t_sq"))
  | (with_reducible refine w_iTup ?_)
  | ((with_reducible refine' w_exT ?s ?_); (case s => walk_at "t_sqt"))
  | (with_reducible refine w_iRng1 ?_)
  | ((with_reducible refine w_exR1 ?b ?_); (case b => walk_at "t_c"))
  | (with_reducible refine w_iRng2 ?_)
  | ((with_reducible refine w_exR2 ?b ?_); (case b => walk_at "t_c"))
  | (with_reducible refine w_yes ?_)
  | ((with_reducible refine w_pos ?p ?_); (case p => walk_at "t_p"))
  | ((with_reducible refine w_neg ?p ?_); (case p => walk_at "t_p"))
  | ((with_reducible refine w_posN ?p ?_); (case p => walk_at "t_p"))
  | ((with_reducible refine w_negN ?p ?_); (case p => walk_at "t_p"))
  | ((with_reducible refine' w_notInL ?s ?_); (case s => walk_at "t_sq"))
  | ((with_reducible refine' w_inL ?s ?_); (case s => walk_at "t_sq"))
  | ((with_reducible refine' w_sum ?s ?_); (case s => walk_at "t_sq"))
  | (with_reducible refine w_isiI ?_)
  | ((with_reducible refine' w_isiL ?e ?_); (case e => walk_at "t_ty"))
  | ((with_reducible refine' w_isiT ?e ?_); (case e => walk_at "t_ty"))
  | (with_reducible intro p hp_new))
local macro_rules | `(tactic| walk_at "t_ty") => `(tactic| first | assumption | (refine' tyx_l ?e; (case e => walk_at "t_hp")) | (refine' tyx_t ?e; (case e => walk_at "t_hp")))
local macro_rules | `(tactic| walk_at "t_z") => `(tactic| first | assumption | decide | omega | (simp only [List.length_cons, List.length_nil, List.length_map, List.length_append, List.length_replicate]; first | done | decide | omega))
local macro_rules | `(tactic| walk_at "t_at") => `(tactic| first | assumption | rfl)
local macro_rules | `(tactic| walk_at "t_ixn") => `(tactic| first | assumption | rfl)
local macro_rules | `(tactic| walk_at "t_ev") => `(tactic| (intro H1 e Q q; (repeat walk_at "t_w"); exact q _ (by walk_at "t_ex")))
local macro_rules | `(tactic| walk_at "t_p") => `(tactic| first | assumption | decide | decide +kernel)
local macro_rules | `(tactic| walk_at "t_lt") => `(tactic| first | assumption | omega | (simp only [List.length_set, List.length_map, List.length_append]; first | assumption | omega))
local macro_rules | `(tactic| walk_at "t_w") => `(tactic| first
  | ((with_reducible refine' w_at ?s ?hl ?h0 ?_); (case s => walk_at "t_sq"); (case hl => walk_at "t_z"); (case h0 => walk_at "t_z"))
  | (with_reducible refine w_isInt ?_)
  | (with_reducible refine w_I1 ?_)
  | (with_reducible refine w_Head ?_)
  | ((with_reducible refine' w_number ?hb ?_); (case hb => walk_at "t_bits")))
local macro_rules | `(tactic| walk_at "t_bits") => `(tactic| assumption)
abbrev s_law_boxes : Stmt := topS 19
theorem sc_law_boxes : FnScope ["_law_script", "_law_at_here", "_law_sizes_here", "_law_head", "_law_many", "_law_step", "_law_k", "_law_boxes_here", "_law_fields", "_law_j", "_law_seed"] ["_law_script", "_law_at_here"] (defScope s_law_boxes) := ⟨rfl, rfl, rfl, by decide +kernel, rfl, by decide +kernel, by decide +kernel⟩

/-! ### boxes and their things, and how they lie in the heap -/
inductive Thing where
  | num (n : Int)
  | box (k : Nat)
def Thing.vals : Thing → List V
  | .num n => [.str "number", .int n]
  | .box k => [.str "box", .int (k : Int)]
/-- a number of at most sixty figures; a box of n -/
def Thing.ok (n : Nat) : Thing → Prop
  | .num z => -(10 ^ 60) < z ∧ z < 10 ^ 60
  | .box k => k < n
inductive All2 {α β : Type} (R : α → β → Prop) : List α → List β → Prop where
  | nil : All2 R [] []
  | cons {a : α} {b : β} {as : List α} {bs : List β} : R a b → All2 R as bs → All2 R (a :: as) (b :: bs)
section
variable {α β : Type} {R S : α → β → Prop}
theorem All2.mono (h : ∀ a b, R a b → S a b) : ∀ {as : List α} {bs : List β}, All2 R as bs → All2 S as bs
  | _, _, .nil => .nil
  | _, _, .cons r t => .cons (h _ _ r) (t.mono h)
theorem All2.length : ∀ {as : List α} {bs : List β}, All2 R as bs → as.length = bs.length
  | _, _, .nil => rfl
  | _, _, .cons _ t => congrArg (· + 1) t.length
theorem All2.get : ∀ {as : List α} {bs : List β} {i : Nat} {a : α}, All2 R as bs → as[i]? = some a → ∃ b, bs[i]? = some b ∧ R a b
  | _, _, 0, a, .cons (b := b) r _, h => ⟨b, rfl, by cases h; exact r⟩
  | _, _, i + 1, a, .cons _ t, h => t.get (i := i) h
  | _, _, i, a, .nil, h => by simp at h
theorem All2.getR : ∀ {as : List α} {bs : List β} {i : Nat} {b : β}, All2 R as bs → bs[i]? = some b → ∃ a, as[i]? = some a ∧ R a b
  | _, _, 0, b, .cons (a := a) r _, h => ⟨a, rfl, by cases h; exact r⟩
  | _, _, i + 1, b, .cons _ t, h => t.getR (i := i) h
  | _, _, i, b, .nil, h => by simp at h
theorem All2.of_get : ∀ {as : List α} {bs : List β}, as.length = bs.length → (∀ (i : Nat) a b, as[i]? = some a → bs[i]? = some b → R a b) → All2 R as bs
  | [], [], _, _ => .nil
  | [], _ :: _, h, _ => by simp at h
  | _ :: _, [], h, _ => by simp at h
  | a :: as, b :: bs, h, k => .cons (k 0 a b rfl rfl) (All2.of_get (by simpa using h) fun i x y hx hy => k (i + 1) x y hx hy)
theorem All2.append : ∀ {as cs : List α} {bs ds : List β}, All2 R as bs → All2 R cs ds → All2 R (as ++ cs) (bs ++ ds)
  | _, _, _, _, .nil, h => h
  | _, _, _, _, .cons r t, h => .cons r (t.append h)
theorem All2.snoc {as : List α} {bs : List β} {a : α} {b : β} (h : All2 R as bs) (r : R a b) : All2 R (as ++ [a]) (bs ++ [b]) := h.append (.cons r .nil)
end
/-- a tuple of a thing; the list of a box's things; the list of all boxes -/
def ThingAt (H : Hp) (v : V) (t : Thing) : Prop := ∃ a, v = .ref a ∧ H a = some (.tup t.vals)
def FieldsAt (H : Hp) (v : V) (fs : List Thing) : Prop := ∃ a vs, v = .ref a ∧ H a = some (.lst vs) ∧ All2 (ThingAt H) vs fs
def BoxesAt (H : Hp) (a : Addr) (bs : List (List Thing)) : Prop := ∃ vs, H a = some (.lst vs) ∧ All2 (FieldsAt H) vs bs
section
variable {H H' : Hp}
theorem ThingAt.ex (x : Ex H H') {v : V} {t : Thing} : ThingAt H v t → ThingAt H' v t := fun ⟨a, e, h⟩ => ⟨a, e, x _ _ h⟩
theorem FieldsAt.ex (x : Ex H H') {v : V} {fs : List Thing} : FieldsAt H v fs → FieldsAt H' v fs := fun ⟨a, vs, e, h, t⟩ => ⟨a, vs, e, x _ _ h, t.mono fun _ _ => ThingAt.ex x⟩
theorem BoxesAt.ex (x : Ex H H') {a : Addr} {bs : List (List Thing)} : BoxesAt H a bs → BoxesAt H' a bs := fun ⟨vs, h, t⟩ => ⟨vs, x _ _ h, t.mono fun _ _ => FieldsAt.ex x⟩
end
theorem thing_box {H : Hp} {a : Addr} {z : Int} (h : H a = some (.tup [.str "box", .int z])) (hz : 0 ≤ z) : ThingAt H (.ref a) (.box z.toNat) := ⟨a, rfl, by
  show _ = some (HO.tup [.str "box", .int ((z.toNat : Nat) : Int)])
  rw [show ((z.toNat : Nat) : Int) = z by omega]; exact h⟩
theorem thing_num {H : Hp} {a : Addr} {z : Int} (h : H a = some (.tup [.str "number", .int z])) : ThingAt H (.ref a) (.num z) := ⟨a, rfl, h⟩
theorem ThingAt.put {H : Hp} {l : Addr} {zs : List V} {o : HO} (h : H l = some (.lst zs)) {v : V} {t : Thing} : ThingAt H v t → ThingAt (upd H l o) v t := fun ⟨a, e, q⟩ => ⟨a, e, by
  rw [upd_ne (fun z => by rw [z, h] at q; cases q)]; exact q⟩
theorem ThingAt.del {H : Hp} {l : Addr} {zs : List V} (h : H l = some (.lst zs)) {v : V} {t : Thing} : ThingAt H v t → ThingAt (del H l) v t := fun ⟨a, e, q⟩ => ⟨a, e, by
  rw [del_ne (fun z => by rw [z, h] at q; cases q)]; exact q⟩
/-- how many cells -/
def cells (bs : List (List Thing)) : Nat := (bs.map fun fs => 1 + fs.length).sum
theorem cells_cons (fs : List Thing) (bs : List (List Thing)) : cells (fs :: bs) = 1 + fs.length + cells bs := by
  unfold cells
  rw [List.map_cons, List.sum_cons]
theorem cells_le {m : Nat} : ∀ {bs : List (List Thing)}, (∀ fs ∈ bs, fs.length ≤ m) → cells bs ≤ (m + 1) * bs.length
  | [], _ => Nat.zero_le _
  | fs :: bs, h => by
    have h1 := h fs (List.mem_cons_self ..)
    have h2 := cells_le (bs := bs) fun x hx => h x (List.mem_cons_of_mem _ hx)
    rw [cells_cons, List.length_cons, Nat.mul_succ]
    omega
structure Good (bs : List (List Thing)) : Prop where
  one : 1 ≤ bs.length
  few : bs.length ≤ 110
  small : cells bs ≤ 380
  ok : ∀ fs ∈ bs, ∀ t ∈ fs, t.ok bs.length
def spBoxes (K : PySem.W.Frag) : Sp := fun vs H Q _ => ∃ (a : Addr) (i : Int) (ns : List Int), vs = [.ref a, .int i] ∧ SqL K H a (ns.map V.int) ∧ ns.length ≤ 1000 ∧ 0 ≤ i ∧ (∀ z ∈ ns, Builtin.Int.intBits z ≤ 1048576) ∧ ∀ bs, Good bs → ∀ p H2, H p = none → Ex H H2 → BoxesAt H2 p bs → Q (.ref p) H2
theorem cells_snoc (bs : List (List Thing)) (fs : List Thing) : cells (bs ++ [fs]) = cells bs + 1 + fs.length := by
  unfold cells
  rw [List.map_append, List.sum_append]
  simp
  omega
theorem take_sum {js : List Nat} {i n : Nat} (h : js[i]? = some n) : (js.take (i + 1)).sum = (js.take i).sum + n := by
  rw [List.take_add_one, h, List.sum_append]
  simp
theorem take_sum_le (js : List Nat) (i : Nat) : (js.take i).sum ≤ js.sum := by
  conv => rhs; rw [← List.take_append_drop i js]
  rw [List.sum_append]
  omega
section
variable {P : Program} {w : World} {K : PySem.W.Frag} {mg : Str → Option Value} {base : Heap}
theorem c_law_boxes (T : Txt K mg) (D : DefAt K mg "_law_boxes" "_law_boxes" s_law_boxes) (c_law_at : Cal P w K mg base "_law_at" 1 ["_law_script", "_law_place"] (spAt K)) (c_law_number : Cal P w K mg base "_law_number" 1 ["_law_seed"] spNumber) (c_law_sizes : Cal P w K mg base "_law_sizes" 2 ["_law_script", "_law_at_here"] (spSizes K)) : Cal P w K mg base "_law_boxes" 3 ["_law_script", "_law_at_here"] (spBoxes K) := by
  refine Cal.of D sc_law_boxes (fun vs H Q E h => ?_) (fun _ _ _ _ _ _ us hl => match us, hl with | [_, _], _ => rfl) (fun f cdv A outer s H vs Q E hr h => ?_)
  · obtain ⟨a, i, ns, rfl, _⟩ := h; rfl
  · obtain ⟨a, i, ns, rfl, hS, hl, h0, hB, k⟩ := h
    have hu : _ + 64 < cLine := hr.units
    refine ⟨_, (pss_cons (ps_set (i := 2) sc_law_boxes.nd rfl (Or.inl rfl) (pe_callC c_law_sizes (hr.mono (by decide)) rfl (pa_cons (pv 0) (pa_cons (pv 1) pa_nil))))
      (pss_cons (ps_set (i := 3) sc_law_boxes.nd rfl (Or.inl rfl) (pe_callC c_law_at (hr.mono (by decide)) rfl (pa_cons (pv 0) (pa_cons (pv 1) pa_nil))))
      (pss_cons (ps_if (pt_cmpR (op_eqK (K := K) rfl hu) (pe_op op_mod (pe_op op_fdiv (pv 3) pe_int) pe_int) pe_int (nomark _)) (pss_cons (ps_set (i := 4) sc_law_boxes.nd rfl (Or.inl rfl) (pe_op op_addA pe_int (pe_op op_mod (pe_op op_fdiv (pv 3) pe_int) pe_int)))
      (pss_cons (ps_set (i := 5) sc_law_boxes.nd rfl (Or.inr rfl) (pe_op op_addA pe_int (pe_op op_mod (pv 3) pe_int)))
      (pss_one (ps_ret (pe_op op_addA (pe_lst (pa_cons (pe_lst (pa_cons (pe_tup (pa_cons pe_str (pa_cons (pe_op op_sub (pv 4) pe_int) pa_nil))) pa_nil)) pa_nil)) (pe_lc (own := [("_law_k", 6)]) (g := gName 6) rfl sc_law_boxes.nd (pi_range2 rfl T.b_range (pa_cons pe_int (pa_cons (pv 4) pa_nil))) (blkOk_by (own := [("_law_k", 6)]) (N := ["_law_script", "_law_at_here", "_law_sizes_here", "_law_head", "_law_many", "_law_step", "_law_k", "_law_boxes_here", "_law_fields", "_law_j", "_law_seed"]) (sc := defScope s_law_boxes) (by decide +kernel)) (fun _ _ _ _ _ => pg_name (i := 6) sc_law_boxes.nd rfl (Or.inl rfl)) (fun _ _ _ _ _ => pts_nil) (fun _ _ _ _ _ => (pe_lst (pa_cons (pe_tup (pa_cons pe_str (pa_cons (pe_callB (call_maxA rfl) (by rfl) T.b_max (by decide +kernel) (pa_cons pe_int (pa_cons (pe_op op_sub (pv 6) (pv 5)) pa_nil))) pa_nil))) pa_nil))))))))) pss_nil)
      (pss_cons (ps_set (i := 7) sc_law_boxes.nd rfl (Or.inl rfl) (pe_lst pa_nil))
      (pss_cons (ps_for PassesOwn.never rfl (pi_range1 rfl T.b_range (pa_cons (pe_callB (call_lenK (K := K) rfl) (by rfl) T.b_len (by decide +kernel) (pa_cons (pv 2) pa_nil)) pa_nil)) (pg_name (i := 6) sc_law_boxes.nd rfl (Or.inl rfl)) (pss_cons (ps_set (i := 8) sc_law_boxes.nd rfl (Or.inl rfl) (pe_lst pa_nil))
      (pss_cons (ps_for PassesOwn.never rfl (pi_range1 rfl T.b_range (pa_cons (pe_ix (ix_seqK (K := K) rfl) (pv 2) (pv 6) (fun _ _ => rfl)) pa_nil)) (pg_name (i := 9) sc_law_boxes.nd rfl (Or.inl rfl)) (pss_cons (ps_set (i := 10) sc_law_boxes.nd rfl (Or.inl rfl) (pe_op op_mod (pe_op op_addA (pe_op op_addA (pe_op op_addA (pe_op op_mulA (pe_callC c_law_at (hr.mono (by decide)) rfl (pa_cons (pv 0) (pa_cons (pe_op op_addA (pe_op op_addA (pv 1) pe_int) (pe_op op_mod (pe_op op_addA (pv 6) (pv 9)) pe_int)) pa_nil))) pe_int) (pe_op op_mulA (pv 6) pe_int)) (pe_op op_mulA (pv 9) pe_int)) pe_int) pe_int))
      (pss_one (ps_if (pt_cmpR (op_eqK (K := K) rfl hu) (pe_op op_mod (pv 10) pe_int) pe_int (nomark _)) (pss_one (ps_expr (pe_bmK (K := K) rfl PySem.F.plainAttrs_list PySem.F.slot_list_append PySem.F.type_list_append mt_append (pv 8) (pa_cons (pe_tup (pa_cons pe_str (pa_cons (pe_callC c_law_number (hr.mono (by decide)) rfl (pa_cons (pe_op op_fdiv (pv 10) pe_int) pa_nil)) pa_nil))) pa_nil)))) (pss_one (ps_expr (pe_bmK (K := K) rfl PySem.F.plainAttrs_list PySem.F.slot_list_append PySem.F.type_list_append mt_append (pv 8) (pa_cons (pe_tup (pa_cons pe_str (pa_cons (pe_op op_mod (pe_op op_fdiv (pv 10) pe_int) (pe_callB (call_lenK (K := K) rfl) (by rfl) T.b_len (by decide +kernel) (pa_cons (pv 2) pa_nil))) pa_nil))) pa_nil))))))))
      (pss_one (ps_expr (pe_bmK (K := K) rfl PySem.F.plainAttrs_list PySem.F.slot_list_append PySem.F.type_list_append mt_append (pv 7) (pa_cons (pv 8) pa_nil)))))))
      (pss_one (ps_ret (pv 7)))))))), ?_⟩
    repeat walk_at "t_w"
    refine w_sizes (by walk_at "t_sq") hl h0 fun js hjs l H1 hl0 e1 hl1 => ?_
    obtain ⟨hj1, hj2, hj3⟩ := hjs
    repeat walk_at "t_w"
    generalize ns.getD i.toNat 0 = hd
    refine w_ite (fun h1 => ?_) (fun h1 => ?_)
    · repeat walk_at "t_w"
      rename_i t0 ht0 f0 hf0 d0 hd0
      have hm0 : 20 ≤ 20 + hd / 88 % 91 ∧ 20 + hd / 88 % 91 ≤ 110 := by omega
      generalize 20 + hd / 88 % 91 = mz at *
      have hs0 : 1 ≤ 1 + hd % 3 ∧ 1 + hd % 3 ≤ 3 := by omega
      generalize 1 + hd % 3 = st at *
      refine w_lc ?_
      repeat walk_at "t_w"
      refine lcjRM (fun i v H => FieldsAt H v [Thing.box (if (1 : Int) + (i : Int) - st > 0 then 1 + (i : Int) - st else 0).toNat]) (fun i v H H' e => FieldsAt.ex e) ?_ ?_ ?_ ?_
      case refine_2 => exact fun x => rfl
      case refine_3 => omega
      · intro D i H' acc hD hacc e hi Q' kq
        repeat walk_at "t_w"
        rename_i t ht f hf
        refine kq _ _ (by walk_at "t_ex") ⟨f, [.ref t], rfl, ?_, .cons (thing_box (a := t) ?_ (by split <;> omega)) .nil⟩
        · have n1 : f ≠ D := by walk_at "t_ne"
          rw [del_ne n1, upd_same]
        · have n1 : t ≠ D := by walk_at "t_ne"
          rw [del_ne n1]
          walk_at "t_hp"
      · intro D H' ys hD e hD2 hyl hys
        have hz2 : [V.ref f0].length + ys.length ≤ 1000000 := by show 1 + ys.length ≤ _; omega
        repeat walk_at "t_w"
        rename_i p hp
        refine k ([.box (mz - 1).toNat] :: (List.range (mz - 1).toNat).map fun i : Nat => [Thing.box (if (1 : Int) + (i : Int) - st > 0 then 1 + (i : Int) - st else 0).toNat]) ⟨by simp, by simp; omega, ?_, ?_⟩ _ _ (by walk_at "t_none") (by walk_at "t_ex") ⟨_, upd_same, .cons ⟨f0, [.ref t0], rfl, by walk_at "t_hp", .cons (thing_box (a := t0) (by walk_at "t_hp") (by omega)) .nil⟩ (All2.of_get (by simp; omega) ?_)⟩
        · refine Nat.le_trans (cells_le (m := 1) ?_) (by simp; omega)
          intro fs hfs
          rcases List.mem_cons.mp hfs with rfl | hfs
          · exact Nat.le_refl _
          · obtain ⟨_, _, rfl⟩ := List.mem_map.mp hfs
            exact Nat.le_refl _
        · intro fs hfs x hx
          rw [List.length_cons, List.length_map, List.length_range]
          rcases List.mem_cons.mp hfs with rfl | hfs
          · rw [List.mem_singleton.mp hx]
            show _ < _
            omega
          · obtain ⟨i', hi', rfl⟩ := List.mem_map.mp hfs
            rw [List.mem_singleton.mp hx]
            have := List.mem_range.mp hi'
            show _ < _
            split <;> omega
        · intro i' v b hv hb
          rw [List.getElem?_map] at hb
          cases h9 : (List.range (mz - 1).toNat)[i']? with
          | none => rw [h9] at hb; cases hb
          | some q =>
            rw [h9] at hb
            cases hb
            have : q = i' := by
              obtain ⟨h8, h7⟩ := List.getElem?_eq_some_iff.mp h9
              rw [List.getElem_range] at h7
              exact h7.symm
            subst this
            exact FieldsAt.ex (Evl.Ex.trans del_ex (by walk_at "t_ex")) (hys q v hv)
    · have hjl : (((asI js).map V.int).length : Int) = (js.length : Int) := by rw [List.length_map, asI_len]
      repeat walk_at "t_w"
      rename_i lb hlb
      rw [hjl]
      have hH1lb : H1 lb = none := by walk_at "t_none"
      have hHlb : H lb = none := by walk_at "t_none"
      refine loopR (fun i' σ' H' => ∃ (vs : List V) (bs : List (List Thing)) (y6 y8 y9 y10 : Option V), σ' = [some (.ref a), some (.int i), some (.ref l), some (.int hd), none, none, y6, some (.ref lb), y8, y9, y10] ∧
        Ex H1 H' ∧ H' lb = some (.lst vs) ∧ All2 (FieldsAt (del H' lb)) vs bs ∧ bs.length = i' ∧ cells bs = (js.take i').sum + i' ∧ ∀ fs ∈ bs, ∀ t ∈ fs, t.ok js.length) ?_ ?_ ?_
      · exact ⟨[], [], none, none, none, none, rfl, by walk_at "t_ex", upd_same, .nil, rfl, rfl, fun _ hf => (nomatch hf)⟩
      · rintro i' σ' H' hi ⟨vs, bs, y6, y8, y9, y10, rfl, hE2, hlb2, hA, hbl, hbc, hbo⟩
        obtain ⟨n, hn⟩ : ∃ n, js[i']? = some n := ⟨js[i'], List.getElem?_eq_getElem (by omega)⟩
        have hat : atI ((asI js).map V.int) (0 + (i' : Int)) = some (.int (n : Int)) := by
          rw [Int.zero_add]
          refine atI_nat ?_
          unfold asI
          rw [List.getElem?_map, List.getElem?_map, hn]
          rfl
        have hn4 : n ≤ 380 := by
          have := take_sum hn
          have := take_sum_le js (i' + 1)
          omega
        repeat walk_at "t_w"
        rename_i lf hlf
        refine loopR (fun j σ' H'' => ∃ (ws : List V) (fs : List Thing) (y9 y10 : Option V), σ' = [some (.ref a), some (.int i), some (.ref l), some (.int hd), none, none, some (.int (0 + (i' : Int))), some (.ref lb), some (.ref lf), y9, y10] ∧
          Ex H' H'' ∧ H'' lf = some (.lst ws) ∧ All2 (ThingAt H'') ws fs ∧ fs.length = j ∧ ∀ t ∈ fs, t.ok js.length) ?_ ?_ ?_
        · exact ⟨[], [], y9, y10, rfl, by walk_at "t_ex", upd_same, .nil, rfl, fun _ hf => (nomatch hf)⟩
        · rintro j σ' H3 hj ⟨ws, fs, y9, y10, rfl, hE3, hlf2, hT, hfl, hfo⟩
          have hwl : ws.length < 1000000 := by rw [hT.length]; omega
          repeat walk_at "t_w"
          generalize hsd0 : (ns.getD (i + 2 + (0 + (i' : Int) + (0 + (j : Int))) % 40).toNat 0 * 16807 + (0 + (i' : Int)) * 6101 + (0 + (j : Int)) * 4099 + 7) % 999979 = sd
          have hsd : 0 ≤ sd ∧ sd < 999979 := by subst hsd0; exact ⟨Int.emod_nonneg _ (by decide), Int.emod_lt_of_pos _ (by decide)⟩
          clear hsd0
          have hjn : (0 : Int) < (((asI js).map V.int).length : Int) := by rw [hjl]; omega
          refine w_ite (fun h2 => ?_) (fun h2 => ?_)
          · have hb : Builtin.Int.intBits (sd / 4) ≤ 3000000 := by
              exact Nat.le_trans (bits_div (m := 40) (lt_bits (by omega))) (by decide)
            repeat walk_at "t_w"
            rename_i G hG t ht
            refine ⟨_, fs ++ [.num (lawNum (sd / 4))], _, _, rfl, by walk_at "t_ex", upd_same, ?_, by rw [List.length_append, hfl]; rfl, ?_⟩
            · have hlf4 : upd G t (.tup [.str "number", .int (lawNum (sd / 4))]) lf = some (.lst ws) := by walk_at "t_hp"
              exact ((hT.mono fun _ _ => ThingAt.ex (by walk_at "t_ex")).snoc (thing_num (a := t) upd_same)).mono fun _ _ => ThingAt.put hlf4
            · intro x hx
              rcases List.mem_append.mp hx with q | q
              · exact hfo x q
              · rw [List.mem_singleton.mp q]; exact lawNum_lt _
          · repeat walk_at "t_w"
            rename_i G hG t ht
            rw [hjl]
            have hr0 := Int.emod_nonneg (sd / 4) (show (js.length : Int) ≠ 0 by omega)
            have hr1 := Int.emod_lt_of_pos (sd / 4) (show (0 : Int) < (js.length : Int) by omega)
            refine ⟨_, fs ++ [.box (sd / 4 % (js.length : Int)).toNat], _, _, rfl, by walk_at "t_ex", upd_same, ?_, by rw [List.length_append, hfl]; rfl, ?_⟩
            · have hlf4 : upd G t (.tup [.str "box", .int (sd / 4 % (js.length : Int))]) lf = some (.lst ws) := by walk_at "t_hp"
              exact ((hT.mono fun _ _ => ThingAt.ex (by walk_at "t_ex")).snoc (thing_box (a := t) upd_same hr0)).mono fun _ _ => ThingAt.put hlf4
            · intro x hx
              rcases List.mem_append.mp hx with q | q
              · exact hfo x q
              · rw [List.mem_singleton.mp q]
                show _ < _
                omega
        · rintro σ' H3 ⟨ws, fs, y9, y10, rfl, hE3, hlf2, hT, hfl, hfo⟩
          have hvl : vs.length < 1000000 := by rw [hA.length]; omega
          repeat walk_at "t_w"
          have nlb : lf ≠ lb := by walk_at "t_ne"
          have hlb4 : H3 lb = some (.lst vs) := by walk_at "t_hp"
          refine ⟨_, bs ++ [fs], _, _, _, _, rfl, by walk_at "t_ex", upd_same, ?_, by rw [List.length_append, hbl]; rfl, ?_, ?_⟩
          · rw [del_upd]
            refine (hA.mono fun _ _ => FieldsAt.ex (del_mono hE3)).snoc ⟨lf, ws, rfl, by rw [del_ne nlb]; exact hlf2, hT.mono fun _ _ => ThingAt.del hlb4⟩
          · rw [cells_snoc, hbc, hfl, take_sum hn, Int.toNat_natCast]
            omega
          · intro x hx
            rcases List.mem_append.mp hx with q | q
            · exact hbo x q
            · rw [List.mem_singleton.mp q]; exact hfo
      · rintro σ' H' ⟨vs, bs, y6, y8, y9, y10, rfl, hE2, hlb2, hA, hbl, hbc, hbo⟩
        repeat walk_at "t_w"
        rw [Int.toNat_natCast] at hbl hbc
        refine k bs ⟨by omega, by omega, by rw [hbc, List.take_length]; omega, by rw [hbl]; exact hbo⟩ _ _ hHlb (by walk_at "t_ex") ⟨vs, hlb2, hA.mono fun _ _ => FieldsAt.ex del_ex⟩
end
end Tw

set_option Elab.async false
set_option linter.all false
set_option maxRecDepth 100000
set_option maxHeartbeats 4000000
namespace Tw
open PySem PySem.Spec PyProof.Rows L2
open Evl (Ex ex_l ex_t fresh_back sz_of sz_lt)
local macro_rules | `(tactic| walk_at "t_hp") => `(tactic| first
  | assumption
  | exact upd_same
  | (refine' hp_ne ?hne ?hrest; (case hne => walk_at "t_ne"); (case hrest => walk_at "t_hp"))
  | (refine' hp_ex ?hx ?hrest; (case hx => assumption); (case hrest => walk_at "t_hp")))
local macro_rules | `(tactic| walk_at "t_ne") => `(tactic| first
  | assumption
  | exact Ne.symm (by assumption)
  | (refine' ne_of_none ?h1 ?h2; (case h2 => assumption); (case h1 => walk_at "t_hp"))
  | (refine' Ne.symm (ne_of_none ?h1 ?h2); (case h2 => assumption); (case h1 => walk_at "t_hp")))
local macro_rules | `(tactic| walk_at "t_none") => `(tactic| first
  | assumption
  | (refine' fresh_back ?e ?n; (case n => assumption); (case e => walk_at "t_ex")))
local macro_rules | `(tactic| walk_at "t_ex") => `(tactic| first
  | assumption
  | exact Evl.Ex.refl _
  | (refine' ex_new ?n ?e; (case n => assumption); (case e => walk_at "t_ex"))
  | (refine' Evl.Ex.mut ?e ?n; (case n => walk_at "t_none"); (case e => walk_at "t_ex"))
  | (refine' Evl.Ex.trans ?a ?b; (case b => assumption); (case a => walk_at "t_ex")))
local macro_rules | `(tactic| walk_at "t_sq") => `(tactic| first
  | assumption
  | (refine' SqL.of ?h; (case h => walk_at "t_hp"))
  | (refine' ex_l ?e ?s; (case s => assumption); (case e => walk_at "t_ex")))
local macro_rules | `(tactic| walk_at "t_sqt") => `(tactic| first
  | assumption
  | (refine' SqT.of ?h; (case h => walk_at "t_hp"))
  | (refine' ex_t ?e ?s; (case s => assumption); (case e => walk_at "t_ex")))
local macro_rules | `(tactic| walk_at "t_mul") => `(tactic| first
  | assumption
  | exact Or.inl (Or.inl ⟨by decide, by decide⟩)
  | exact Or.inl (Or.inr ⟨by decide, by decide⟩)
  | exact Or.inl (Or.inl ⟨by omega, by omega⟩)
  | exact Or.inl (Or.inr ⟨by omega, by omega⟩))
local macro_rules | `(tactic| walk_at "t_c") => `(tactic| first
  | assumption
  | decide
  | (show (0 : Int) < _; decide)
  | (show (0 : Int) < _; omega)
  | exact ⟨by decide, by decide⟩
  | exact ⟨by decide, by decide, by decide⟩
  | exact ⟨by omega, by omega⟩
  | exact ⟨by omega, by omega, by omega, by omega⟩)
local macro_rules | `(tactic| walk_at "t_w") => `(tactic| first
  | (with_reducible refine w_seq ?_)
  | (with_reducible refine w_asg ?_)
  | (with_reducible refine w_gName ?_)
  | (with_reducible refine w_nx ?_)
  | (with_reducible refine w_rt ?_)
  | (with_reducible refine w_ct ?_)
  | (with_reducible refine w_bk ?_)
  | (with_reducible refine w_ret ?_)
  | (with_reducible refine w_retN ?_)
  | (with_reducible refine w_drop ?_)
  | (with_reducible refine w_ifS ?_)
  | (with_reducible refine w_next ?_)
  | (with_reducible refine w_break ?_)
  | (with_reducible refine w_cont ?_)
  | ((with_reducible refine' w_var ?h ?_); (case h => rfl))
  | (with_reducible refine w_c ?_)
  | (with_reducible refine w_op ?_)
  | (with_reducible refine w_un ?_)
  | (with_reducible refine w_I0 ?_)
  | ((with_reducible refine' w_I ?c ?_); (case c => walk_at "t_c"))
  | (with_reducible refine w_U ?_)
  | (with_reducible refine w_addI ?_)
  | ((with_reducible refine' w_addL ?h1 ?h2 ?hz ?_); (case h1 => walk_at "t_hp"); (case h2 => walk_at "t_hp"); (case hz => walk_at "t_z"))
  | ((with_reducible refine' w_mulI ?c ?_); (case c => walk_at "t_mul"))
  | ((with_reducible refine' w_mulL1 ?h1 ?b1 ?b2 ?_); (case h1 => walk_at "t_hp"); (case b1 => walk_at "t_z"); (case b2 => walk_at "t_z"))
  | ((with_reducible refine' w_mulL ?h1 ?b1 ?b2 ?hz ?_); (case h1 => walk_at "t_hp"); (case b1 => walk_at "t_z"); (case b2 => walk_at "t_z"); (case hz => walk_at "t_z"))
  | (with_reducible refine w_notIB ?_)
  | (with_reducible refine w_notBB ?_)
  | (with_reducible refine w_notN ?_)
  | (with_reducible refine w_isBB ?_)
  | (with_reducible refine w_isN ?_)
  | (with_reducible refine w_eqI ?_)
  | (with_reducible refine w_neI ?_)
  | (with_reducible refine w_eqB ?_)
  | (with_reducible refine w_neB ?_)
  | (with_reducible refine w_eqS ?_)
  | (with_reducible refine w_neS ?_)
  | (with_reducible refine w_test ?_)
  | (with_reducible refine w_B ?_)
  | (with_reducible refine w_exB ?_)
  | (with_reducible refine w_and ?_)
  | (with_reducible refine w_or ?_)
  | (with_reducible refine w_not ?_)
  | (with_reducible refine w_andV ?_)
  | (with_reducible refine w_orV ?_)
  | (with_reducible refine w_notV ?_)
  | (with_reducible refine w_bl ?_)
  | (with_reducible refine w_if ?_)
  | (with_reducible refine w_nil ?_)
  | (with_reducible refine w_cons ?_)
  | (with_reducible refine w_cb ?_)
  | (with_reducible refine w_call ?_)
  | (with_reducible refine w_tup ?_)
  | (with_reducible refine w_lst ?_)
  | ((with_reducible refine' w_fin ?hz ?_); (case hz => (simp only [List.length_cons, List.length_nil]; decide)))
  | ((with_reducible refine' w_len ?s ?_); (case s => walk_at "t_sq"))
  | ((with_reducible refine' w_lenT ?s ?_); (case s => walk_at "t_sqt"))
  | (with_reducible refine w_intI ?_)
  | (with_reducible refine w_intB ?_)
  | ((with_reducible refine' w_list ?s ?_); (case s => walk_at "t_sq"))
  | (with_reducible refine w_max ?_)
  | (with_reducible refine w_min ?_)
  | (with_reducible refine w_abs ?_)
  | (with_reducible refine w_sl ?_)
  | (with_reducible refine w_noPart ?_)
  | (with_reducible refine w_part ?_)
  | (with_reducible refine w_exI ?_)
  | ((with_reducible refine' w_slL ?s ?_); (case s => walk_at "t_sq"))
  | ((with_reducible refine' w_ixLI ?s ?b ?_); (case s => walk_at "t_sq"); (case b => walk_at "t_lt"))
  | ((with_reducible refine' w_ixL ?s ?e ?_); (case s => walk_at "t_sq"); (case e => walk_at "t_at"))
  | ((with_reducible refine' w_ixT ?s ?e ?_); (case s => walk_at "t_sqt"); (case e => walk_at "t_at"))
  | (with_reducible refine w_gSub ?_)
  | ((with_reducible refine' w_setLI ?e ?b ?_); (case e => walk_at "t_hp"); (case b => walk_at "t_lt"))
  | ((with_reducible refine' w_setL ?e ?b ?_); (case e => walk_at "t_hp"); (case b => walk_at "t_ixn"))
  | (with_reducible refine w_bm ?_)
  | (with_reducible refine w_bm0 ?_)
  | ((with_reducible refine' w_tyL ?e ?_); (case e => walk_at "t_sq"))
  | ((with_reducible refine' w_app ?e ?hz ?_); (case e => walk_at "t_hp"); (case hz => walk_at "t_z"))
  | (with_reducible refine w_iteT ?_)
  | (with_reducible refine w_iteF ?_)
  | (with_reducible refine w_iteNT ?_)
  | (with_reducible refine w_iteNF ?_)
  | (with_reducible refine w_for ?_)
  | (with_reducible refine w_iList ?_)
  | ((with_reducible refine' w_exL ?s ?_); (case s => walk_at "t_sq"))
  | (with_reducible refine w_iTup ?_)
  | ((with_reducible refine' w_exT ?s ?_); (case s => walk_at "t_sqt"))
  | (with_reducible refine w_iRng1 ?_)
  | ((with_reducible refine w_exR1 ?b ?_); (case b => walk_at "t_c"))
  | (with_reducible refine w_iRng2 ?_)
  | ((with_reducible refine w_exR2 ?b ?_); (case b => walk_at "t_c"))
  | (with_reducible refine w_yes ?_)
  | ((with_reducible refine w_pos ?p ?_); (case p => walk_at "t_p"))
  | ((with_reducible refine w_neg ?p ?_); (case p => walk_at "t_p"))
  | ((with_reducible refine w_posN ?p ?_); (case p => walk_at "t_p"))
  | ((with_reducible refine w_negN ?p ?_); (case p => walk_at "t_p"))
  | ((with_reducible refine' w_notInL ?s ?_); (case s => walk_at "t_sq"))
  | ((with_reducible refine' w_inL ?s ?_); (case s => walk_at "t_sq"))
  | ((with_reducible refine' w_sum ?s ?_); (case s => walk_at "t_sq"))
  | (with_reducible refine w_isiI ?_)
  | ((with_reducible refine' w_isiL ?e ?_); (case e => walk_at "t_ty"))
  | ((with_reducible refine' w_isiT ?e ?_); (case e => walk_at "t_ty"))
  | (with_reducible intro p hp_new))
local macro_rules | `(tactic| walk_at "t_ty") => `(tactic| first | assumption | (refine' tyx_l ?e; (case e => walk_at "t_hp")) | (refine' tyx_t ?e; (case e => walk_at "t_hp")))
local macro_rules | `(tactic| walk_at "t_z") => `(tactic| first | assumption | decide | omega | (simp only [List.length_cons, List.length_nil, List.length_map, List.length_append, List.length_replicate]; first | done | decide | omega))
local macro_rules | `(tactic| walk_at "t_at") => `(tactic| first | assumption | rfl)
local macro_rules | `(tactic| walk_at "t_ixn") => `(tactic| first | assumption | rfl)
local macro_rules | `(tactic| walk_at "t_ev") => `(tactic| (intro H1 e Q q; (repeat walk_at "t_w"); exact q _ (by walk_at "t_ex")))
local macro_rules | `(tactic| walk_at "t_p") => `(tactic| first | assumption | decide | decide +kernel)
local macro_rules | `(tactic| walk_at "t_lt") => `(tactic| first | assumption | omega | (simp only [List.length_set, List.length_map, List.length_append]; first | assumption | omega))
local macro_rules | `(tactic| walk_at "t_w") => `(tactic| first
  | ((with_reducible refine' w_at ?s ?hl ?h0 ?_); (case s => walk_at "t_sq"); (case hl => walk_at "t_z"); (case h0 => walk_at "t_z"))
  | (with_reducible refine w_isInt ?_)
  | (with_reducible refine w_I1 ?_)
  | (with_reducible refine w_Head ?_)
  | ((with_reducible refine' w_number ?hb ?_); (case hb => walk_at "t_bits")))
local macro_rules | `(tactic| walk_at "t_bits") => `(tactic| assumption)
abbrev s_law_places : Stmt := topS 20
theorem sc_law_places : FnScope ["_law_boxes_here", "_law_found", "_law_at_here", "_law_fields"] ["_law_boxes_here"] (defScope s_law_places) := ⟨rfl, rfl, rfl, by decide +kernel, rfl, by decide +kernel, by decide +kernel⟩

abbrev s_law_row : Stmt := topS 21
theorem sc_law_row : FnScope ["_law_boxes_here", "_law_goals", "_law_spare", "_law_row_here", "_law_fields", "_law_thing"] ["_law_boxes_here", "_law_goals", "_law_spare"] (defScope s_law_row) := ⟨rfl, rfl, rfl, by decide +kernel, rfl, by decide +kernel, by decide +kernel⟩

abbrev s_law_alive : Stmt := topS 22
theorem sc_law_alive : FnScope ["_law_boxes_here", "_law_found", "_law_turn", "_law_thing"] ["_law_boxes_here"] (defScope s_law_alive) := ⟨rfl, rfl, rfl, by decide +kernel, rfl, by decide +kernel, by decide +kernel⟩

/-! ### places, rows, and what can be come to -/
def offs : List (List Thing) → Nat → List Nat
  | [], _ => []
  | fs :: bs, s => s :: offs bs (s + 1 + fs.length)
def places (bs : List (List Thing)) : List Nat := offs bs 0
theorem offs_len : ∀ (bs : List (List Thing)) (s : Nat), (offs bs s).length = bs.length
  | [], _ => rfl
  | _ :: bs, s => congrArg (· + 1) (offs_len bs _)
theorem offs_get : ∀ (bs : List (List Thing)) (s i : Nat), i < bs.length → (offs bs s)[i]? = some (s + cells (bs.take i))
  | [], _, i, h => by simp at h
  | fs :: bs, s, 0, _ => by simp [offs, cells]
  | fs :: bs, s, i + 1, h => by
    show (offs bs (s + 1 + fs.length))[i]? = _
    rw [offs_get bs _ i (by simpa using h), List.take_succ_cons, cells_cons]
    congr 1
    omega
theorem places_get {bs : List (List Thing)} {i : Nat} (h : i < bs.length) : (places bs)[i]? = some (cells (bs.take i)) := by
  unfold places
  rw [offs_get bs 0 i h, Nat.zero_add]
theorem cells_take {bs : List (List Thing)} {i : Nat} {fs : List Thing} (h : bs[i]? = some fs) : cells (bs.take (i + 1)) = cells (bs.take i) + 1 + fs.length := by
  rw [List.take_add_one, h]
  exact cells_snoc _ _
theorem take_places {bs : List (List Thing)} {i : Nat} (h : i < bs.length) : (places bs).take (i + 1) = (places bs).take i ++ [cells (bs.take i)] := by
  rw [List.take_add_one, places_get h]; rfl
/-- the words of a box, its links to the goals gs -/
def word (gs : List Nat) : Thing → Int
  | .num n => 2 * n
  | .box k => 2 * ((gs.getD k 0 : Nat) : Int) + 1
def boxRow (gs : List Nat) (fs : List Thing) : List Int := 4 * (fs.length : Int) :: fs.map (word gs)
def rowOf (gs : List Nat) (bs : List (List Thing)) : List Int := bs.flatMap (boxRow gs)
theorem boxRow_len (gs : List Nat) (fs : List Thing) : (boxRow gs fs).length = 1 + fs.length := by
  unfold boxRow; rw [List.length_cons, List.length_map]; omega
theorem rowOf_len (gs : List Nat) : ∀ bs : List (List Thing), (rowOf gs bs).length = cells bs
  | [] => rfl
  | fs :: bs => by
    unfold rowOf
    rw [List.flatMap_cons, List.length_append, boxRow_len, cells_cons]
    exact congrArg _ (rowOf_len gs bs)
theorem rowOf_take {gs : List Nat} {bs : List (List Thing)} {i : Nat} {fs : List Thing} (h : bs[i]? = some fs) : rowOf gs (bs.take (i + 1)) = rowOf gs (bs.take i) ++ boxRow gs fs := by
  unfold rowOf
  rw [List.take_add_one, h, List.flatMap_append]
  show _ ++ (boxRow gs fs ++ []) = _
  rw [List.append_nil]
def Edge (bs : List (List Thing)) (i k : Nat) : Prop := ∃ fs, bs[i]? = some fs ∧ Thing.box k ∈ fs
inductive Reach (bs : List (List Thing)) : Nat → Prop where
  | door : Reach bs 0
  | step {i k : Nat} : Reach bs i → Edge bs i k → Reach bs k
/-- the places in their order that can be come to -/
structure AliveOk (bs : List (List Thing)) (al : List Nat) : Prop where
  sorted : al.Pairwise (· < ·)
  mem : ∀ k, k ∈ al ↔ Reach bs k
theorem nodup_few : ∀ {n : Nat} {l : List Nat}, l.Nodup → (∀ k ∈ l, k < n) → l.length ≤ n
  | 0, [], _, _ => Nat.le_refl _
  | 0, a :: _, _, h => absurd (h a (List.mem_cons_self ..)) (Nat.not_lt_zero _)
  | n + 1, l, nd, h => by
    have h1 : (l.erase n).length ≤ n := nodup_few (nd.erase n) fun k hk => by
      have q := (List.Nodup.mem_erase_iff nd).mp hk
      have := h k q.2
      have := q.1
      omega
    have h2 : l.length ≤ (l.erase n).length + 1 := by
      by_cases hm : n ∈ l
      · rw [List.length_erase_of_mem hm]; omega
      · rw [List.erase_of_not_mem hm]; omega
    omega
theorem asI_getD (gs : List Nat) (k : Nat) : (asI gs).getD k 0 = ((gs.getD k 0 : Nat) : Int) := by
  unfold asI
  rw [List.getD_eq_getElem?_getD, List.getD_eq_getElem?_getD, List.getElem?_map]
  cases gs[k]? <;> rfl
theorem take_snoc {α : Type} {xs : List α} {j : Nat} {x : α} (h : xs[j]? = some x) : xs.take (j + 1) = xs.take j ++ [x] := by
  rw [List.take_add_one, h]; rfl
theorem w_sorted {K : PySem.W.Frag} {H : Hp} {Q : VK} {l : Addr} {fs : List Nat} (s : SqL K H l ((asI fs).map V.int)) (k : ∀ js : List Nat, js.Perm fs → js.Pairwise (· ≤ ·) → ∀ p, H p = none → Q (.ref p) (upd H p (.lst ((asI js).map V.int)))) : rSortedI K [.ref l] H Q := by
  refine ⟨l, asI fs, rfl, s, fun ns' p hp hj h0 => ?_⟩
  have e1 : asI (ns'.map Int.toNat) = ns' := by
    unfold asI
    rw [List.map_map]
    refine (List.map_congr_left fun z hz => ?_).trans (List.map_id _)
    obtain ⟨n, _, rfl⟩ := List.mem_map.mp (show z ∈ fs.map fun n : Nat => (n : Int) from hp.mem_iff.mp hz)
    rfl
  have e2 : (asI fs).map Int.toNat = fs := by
    unfold asI
    rw [List.map_map]
    exact (List.map_congr_left fun n _ => rfl).trans (List.map_id _)
  have h := k (ns'.map Int.toNat) (by rw [← e2]; exact hp.map _) (List.pairwise_map.mpr (hj.imp fun h => by omega)) p h0
  rw [e1] at h
  exact h
def spPlaces : Sp := fun vs H Q _ => ∃ (a : Addr) (bs : List (List Thing)), vs = [.ref a] ∧ BoxesAt H a bs ∧ bs.length ≤ 1000 ∧ Evl.RetL ((asI (places bs)).map V.int) H Q
theorem w_places {H : Hp} {Q : VK} {E : XK} {a : Addr} {bs : List (List Thing)} (b : BoxesAt H a bs) (hl : bs.length ≤ 1000) (k : ∀ p H2, H p = none → Ex H H2 → H2 p = some (.lst ((asI (places bs)).map V.int)) → Q (.ref p) H2) : spPlaces ([.ref a] ++ []) H Q E := ⟨a, bs, rfl, b, hl, k⟩
def spRow (K : PySem.W.Frag) : Sp := fun vs H Q _ => ∃ (a g : Addr) (bs : List (List Thing)) (gs : List Nat) (sp : Nat), vs = [.ref a, .ref g, .int (sp : Int)] ∧ BoxesAt H a bs ∧ SqL K H g ((asI gs).map V.int) ∧ bs.length ≤ 1000 ∧ cells bs ≤ 1000 ∧ (∀ fs ∈ bs, ∀ t ∈ fs, t.ok gs.length) ∧ sp ≤ 1000 ∧
  Evl.RetL ((rowOf gs bs ++ List.replicate sp 0).map V.int) H Q
theorem w_row {K : PySem.W.Frag} {H : Hp} {Q : VK} {E : XK} {a g : Addr} {bs : List (List Thing)} {gs : List Nat} {sp : Nat} (b : BoxesAt H a bs) (s : SqL K H g ((asI gs).map V.int)) (hl : bs.length ≤ 1000) (hc : cells bs ≤ 1000) (ho : ∀ fs ∈ bs, ∀ t ∈ fs, t.ok gs.length) (hs : sp ≤ 1000)
    (k : ∀ p H2, H p = none → Ex H H2 → H2 p = some (.lst ((rowOf gs bs ++ List.replicate sp 0).map V.int)) → Q (.ref p) H2) : spRow K ([.ref a, .ref g, .int (sp : Int)] ++ []) H Q E := ⟨a, g, bs, gs, sp, rfl, b, s, hl, hc, ho, hs, k⟩
def spAlive : Sp := fun vs H Q _ => ∃ (a : Addr) (bs : List (List Thing)), vs = [.ref a] ∧ BoxesAt H a bs ∧ Good bs ∧ ∀ al, AliveOk bs al → Evl.RetL ((asI al).map V.int) H Q
theorem w_alive {H : Hp} {Q : VK} {E : XK} {a : Addr} {bs : List (List Thing)} (b : BoxesAt H a bs) (g : Good bs) (k : ∀ al, AliveOk bs al → ∀ p H2, H p = none → Ex H H2 → H2 p = some (.lst ((asI al).map V.int)) → Q (.ref p) H2) : spAlive ([.ref a] ++ []) H Q E := ⟨a, bs, rfl, b, g, k⟩
section
variable {P : Program} {w : World} {K : PySem.W.Frag} {mg : Str → Option Value} {base : Heap}
theorem c_law_places (T : Txt K mg) (D : DefAt K mg "_law_places" "_law_places" s_law_places) : Cal P w K mg base "_law_places" 1 ["_law_boxes_here"] spPlaces := by
  refine Cal.of D sc_law_places (fun vs H Q E h => ?_) (fun _ _ _ _ _ _ us hl => match us, hl with | [_], _ => rfl) (fun f cdv A outer s H vs Q E hr h => ?_)
  · obtain ⟨a, bs, rfl, _⟩ := h; rfl
  · obtain ⟨a, bs, rfl, ⟨ws, hws, hA⟩, hl, k⟩ := h
    have hu : _ + 64 < cLine := hr.units
    refine ⟨_, (pss_cons (ps_set (i := 1) sc_law_places.nd rfl (Or.inl rfl) (pe_lst pa_nil))
      (pss_cons (ps_set (i := 2) sc_law_places.nd rfl (Or.inl rfl) pe_int)
      (pss_cons (ps_for PassesOwn.never rfl (pi_listK (K := K) rfl (pv 0)) (pg_name (i := 3) sc_law_places.nd rfl (Or.inl rfl)) (pss_cons (ps_expr (pe_bmK (K := K) rfl PySem.F.plainAttrs_list PySem.F.slot_list_append PySem.F.type_list_append mt_append (pv 1) (pa_cons (pv 2) pa_nil)))
      (pss_one (ps_set (i := 2) sc_law_places.nd rfl (Or.inl rfl) (pe_op op_addA (pe_op op_addA (pv 2) pe_int) (pe_callB (call_lenK (K := K) rfl) (by rfl) T.b_len (by decide +kernel) (pa_cons (pv 3) pa_nil)))))))
      (pss_one (ps_ret (pv 1)))))), ?_⟩
    repeat walk_at "t_w"
    rename_i lf hlf
    refine loopL (xs := ws) (fun i σ' H' => ∃ (y : Option V), σ' = [some (.ref a), some (.ref lf), some (.int ((cells (bs.take i) : Nat) : Int)), y] ∧ Ex H H' ∧ H' lf = some (.lst ((asI ((places bs).take i)).map V.int))) ?_ ?_ ?_ ?_
    · exact ⟨none, rfl, by walk_at "t_ex", upd_same⟩
    · rintro i σ' H' _ ⟨y, rfl, hE, _⟩
      exact SqL.of (hE _ _ hws)
    · rintro i x σ' H' hi ⟨y, rfl, hE, hL⟩
      obtain ⟨fs, hfs, p, vs, rfl, hp, hv⟩ := hA.get hi
      have hil := (List.getElem?_eq_some_iff.mp hfs).1
      have hz2 : ((asI ((places bs).take i)).map V.int).length < 1000000 := by rw [List.length_map, asI_len, List.length_take]; omega
      repeat walk_at "t_w"
      have ec : ((cells (bs.take i) : Nat) : Int) + 1 + (vs.length : Int) = ((cells (bs.take (i + 1)) : Nat) : Int) := by rw [cells_take hfs, hv.length]; omega
      refine ⟨some (.ref p), by rw [← ec]; rfl, by walk_at "t_ex", ?_⟩
      · rw [take_places hil, ← asI_snoc]
        exact upd_same
    · rintro σ' H' ⟨y, rfl, hE, hL⟩
      rw [hA.length, List.take_of_length_le (by unfold places; rw [offs_len]; exact Nat.le_refl _)] at hL
      repeat walk_at "t_w"
      exact k _ _ (by walk_at "t_none") hE hL
theorem c_law_row (T : Txt K mg) (D : DefAt K mg "_law_row" "_law_row" s_law_row) : Cal P w K mg base "_law_row" 1 ["_law_boxes_here", "_law_goals", "_law_spare"] (spRow K) := by
  refine Cal.of D sc_law_row (fun vs H Q E h => ?_) (fun _ _ _ _ _ _ us hl => match us, hl with | [_, _, _], _ => rfl) (fun f cdv A outer s H vs Q E hr h => ?_)
  · obtain ⟨a, g, bs, gs, sp, rfl, _⟩ := h; rfl
  · obtain ⟨a, g, bs, gs, sp, rfl, ⟨ws, hws, hA⟩, hG, hl, hc, ho, hsp, k⟩ := h
    have hu : _ + 64 < cLine := hr.units
    refine ⟨_, (pss_cons (ps_set (i := 3) sc_law_row.nd rfl (Or.inl rfl) (pe_lst pa_nil))
      (pss_cons (ps_for PassesOwn.never rfl (pi_listK (K := K) rfl (pv 0)) (pg_name (i := 4) sc_law_row.nd rfl (Or.inl rfl)) (pss_cons (ps_expr (pe_bmK (K := K) rfl PySem.F.plainAttrs_list PySem.F.slot_list_append PySem.F.type_list_append mt_append (pv 3) (pa_cons (pe_op op_mulA pe_int (pe_callB (call_lenK (K := K) rfl) (by rfl) T.b_len (by decide +kernel) (pa_cons (pv 4) pa_nil))) pa_nil)))
      (pss_one (ps_for PassesOwn.never rfl (pi_listK (K := K) rfl (pv 4)) (pg_name (i := 5) sc_law_row.nd rfl (Or.inl rfl)) (pss_one (ps_if (pt_cmpR (op_eqK (K := K) rfl hu) (pe_ix (ix_seqK (K := K) rfl) (pv 5) pe_int (fun _ _ => rfl)) pe_str (nomark _)) (pss_one (ps_expr (pe_bmK (K := K) rfl PySem.F.plainAttrs_list PySem.F.slot_list_append PySem.F.type_list_append mt_append (pv 3) (pa_cons (pe_op op_mulA pe_int (pe_ix (ix_seqK (K := K) rfl) (pv 5) pe_int (fun _ _ => rfl))) pa_nil)))) (pss_one (ps_expr (pe_bmK (K := K) rfl PySem.F.plainAttrs_list PySem.F.slot_list_append PySem.F.type_list_append mt_append (pv 3) (pa_cons (pe_op op_addA (pe_op op_mulA pe_int (pe_ix (ix_seqK (K := K) rfl) (pv 1) (pe_ix (ix_seqK (K := K) rfl) (pv 5) pe_int (fun _ _ => rfl)) (fun _ _ => rfl))) pe_int) pa_nil))))))))))
      (pss_one (ps_ret (pe_op op_addA (pv 3) (pe_op op_mulA (pe_lst (pa_cons pe_int pa_nil)) (pv 2))))))), ?_⟩
    repeat walk_at "t_w"
    rename_i lf hlf
    refine loopL (xs := ws) (fun i σ' H' => ∃ (y y2 : Option V), σ' = [some (.ref a), some (.ref g), some (.int (sp : Int)), some (.ref lf), y, y2] ∧ Ex H H' ∧ H' lf = some (.lst ((rowOf gs (bs.take i)).map V.int))) ?_ ?_ ?_ ?_
    · exact ⟨none, none, rfl, by walk_at "t_ex", upd_same⟩
    · rintro i σ' H' _ ⟨y, y2, rfl, hE, _⟩
      exact SqL.of (hE _ _ hws)
    · rintro i x σ' H' hi ⟨y, y2, rfl, hE, hL⟩
      obtain ⟨fs, hfs, p, vs, rfl, hp, hv⟩ := hA.get hi
      have hfo := ho fs (List.mem_of_getElem? hfs)
      have hcl : cells (bs.take i) + 1 + fs.length ≤ 1000 := by
        have h1 := cells_take hfs
        have h2 : cells (bs.take (i + 1)) ≤ cells bs := by
          have e : cells bs = cells (bs.take (i + 1)) + cells (bs.drop (i + 1)) := by
            conv => lhs; rw [← List.take_append_drop (i + 1) bs]
            unfold cells
            rw [List.map_append, List.sum_append]
          omega
        omega
      have hz2 : ((rowOf gs (bs.take i)).map V.int).length < 1000000 := by rw [List.length_map, rowOf_len]; omega
      repeat walk_at "t_w"
      refine loopL (xs := vs) (fun j σ' H'' => ∃ (y2 : Option V), σ' = [some (.ref a), some (.ref g), some (.int (sp : Int)), some (.ref lf), some (.ref p), y2] ∧ Ex H H'' ∧ H'' lf = some (.lst ((rowOf gs (bs.take i) ++ 4 * (fs.length : Int) :: (fs.take j).map (word gs)).map V.int))) ?_ ?_ ?_ ?_
      · refine ⟨y2, rfl, by walk_at "t_ex", ?_⟩
        rw [upd_same, hv.length, List.map_append]; rfl
      · rintro j σ' H3 _ ⟨y2, rfl, hE3, _⟩
        exact SqL.of (hE3 _ _ hp)
      · rintro j x σ' H3 hj ⟨y2, rfl, hE3, hL3⟩
        obtain ⟨t, ht, q, rfl, hq⟩ := hv.get hj
        have hjl := (List.getElem?_eq_some_iff.mp ht).1
        have hz3 : ((rowOf gs (bs.take i) ++ 4 * (fs.length : Int) :: (fs.take j).map (word gs)).map V.int).length < 1000000 := by
          rw [List.length_map, List.length_append, rowOf_len, List.length_cons, List.length_map, List.length_take]; omega
        have es : (rowOf gs (bs.take i) ++ 4 * (fs.length : Int) :: (fs.take j).map (word gs)).map V.int ++ [V.int (word gs t)] = (rowOf gs (bs.take i) ++ 4 * (fs.length : Int) :: (fs.take (j + 1)).map (word gs)).map V.int := by
          rw [take_snoc ht]
          simp only [List.map_append, List.map_cons, List.map_nil, List.append_assoc, List.cons_append]
        cases t with
        | num n =>
          have hq : H q = some (.tup [.str "number", .int n]) := hq
          repeat walk_at "t_w"
          exact ⟨_, rfl, by walk_at "t_ex", by rw [upd_same]; exact congrArg (fun l => some (HO.lst l)) es⟩
        | box k' =>
          have hq : H q = some (.tup [.str "box", .int (k' : Int)]) := hq
          have hk : k' < (asI gs).length := by rw [asI_len]; exact hfo _ (List.mem_of_getElem? ht)
          repeat walk_at "t_w"
          rw [asI_getD]
          exact ⟨_, rfl, by walk_at "t_ex", by rw [upd_same]; exact congrArg (fun l => some (HO.lst l)) es⟩
      · rintro σ' H3 ⟨y2, rfl, hE3, hL3⟩
        repeat walk_at "t_w"
        refine ⟨_, _, rfl, hE3, ?_⟩
        rw [hL3, hv.length, List.take_length, rowOf_take hfs]; rfl
    · rintro σ' H' ⟨y, y2, rfl, hE, hL⟩
      rw [hA.length, List.take_length] at hL
      have hz3 : (rowOf gs bs).length = cells bs := rowOf_len gs bs
      have hz4 : ((rowOf gs bs).map V.int).length + (List.replicate (sp : Int).toNat (V.int 0)).length ≤ 1000000 := by rw [List.length_map, List.length_replicate]; omega
      repeat walk_at "t_w"
      refine k _ _ (by walk_at "t_none") (by walk_at "t_ex") ?_
      rw [upd_same, List.map_append, List.map_replicate, Int.toNat_natCast]
/-- what stands while the law goes from the door: fs what is found, the first t of it gone through -/
structure Found (bs : List (List Thing)) (t : Nat) (fs : List Nat) : Prop where
  nd : fs.Nodup
  zero : fs[0]? = some 0
  lt : ∀ k ∈ fs, k < bs.length
  re : ∀ k ∈ fs, Reach bs k
  cl : ∀ i k q, i < t → fs[i]? = some k → Edge bs k q → q ∈ fs
theorem Found.all {bs : List (List Thing)} {fs : List Nat} (h : Found bs bs.length fs) {k : Nat} (r : Reach bs k) : k ∈ fs := by
  have hf := nodup_few h.nd h.lt
  induction r with
  | door => exact List.mem_of_getElem? h.zero
  | step _ e ih =>
    obtain ⟨i, hi⟩ := List.getElem?_of_mem ih
    exact h.cl i _ _ (by have := (List.getElem?_eq_some_iff.mp hi).1; omega) hi e
theorem c_law_alive (T : Txt K mg) (D : DefAt K mg "_law_alive" "_law_alive" s_law_alive) : Cal P w K mg base "_law_alive" 1 ["_law_boxes_here"] spAlive := by
  refine Cal.of D sc_law_alive (fun vs H Q E h => ?_) (fun _ _ _ _ _ _ us hl => match us, hl with | [_], _ => rfl) (fun f cdv A outer s H vs Q E hr h => ?_)
  · obtain ⟨a, bs, rfl, _⟩ := h; rfl
  · obtain ⟨a, bs, rfl, ⟨ws, hws, hA⟩, hg, k⟩ := h
    have hu : _ + 64 < cLine := hr.units
    have hwl : ws.length ≤ 110 := by rw [hA.length]; exact hg.few
    refine ⟨_, (pss_cons (ps_set (i := 1) sc_law_alive.nd rfl (Or.inl rfl) (pe_lst (pa_cons pe_int pa_nil)))
      (pss_cons (ps_for PassesOwn.never rfl (pi_range1 rfl T.b_range (pa_cons (pe_callB (call_lenK (K := K) rfl) (by rfl) T.b_len (by decide +kernel) (pa_cons (pv 0) pa_nil)) pa_nil)) (pg_name (i := 2) sc_law_alive.nd rfl (Or.inl rfl)) (pss_one (ps_if (pt_cmpR op_lt (pv 2) (pe_callB (call_lenK (K := K) rfl) (by rfl) T.b_len (by decide +kernel) (pa_cons (pv 1) pa_nil)) (nomark _)) (pss_one (ps_for PassesOwn.never rfl (pi_listK (K := K) rfl (pe_ix (ix_seqK (K := K) rfl) (pv 0) (pe_ix (ix_seqK (K := K) rfl) (pv 1) (pv 2) (fun _ _ => rfl)) (fun _ _ => rfl))) (pg_name (i := 3) sc_law_alive.nd rfl (Or.inl rfl)) (pss_one (ps_if (PW.pt (pw_and (pt_cmpR (op_eqK (K := K) rfl hu) (pe_ix (ix_seqK (K := K) rfl) (pv 3) pe_int (fun _ _ => rfl)) pe_str (nomark _)) (pw_and1 (pt_cmpR (op_notInK (K := K) rfl) (pe_ix (ix_seqK (K := K) rfl) (pv 3) pe_int (fun _ _ => rfl)) (pv 1) (by rfl))))) (pss_one (ps_set (i := 1) sc_law_alive.nd rfl (Or.inl rfl) (pe_op op_addA (pv 1) (pe_lst (pa_cons (pe_ix (ix_seqK (K := K) rfl) (pv 3) pe_int (fun _ _ => rfl)) pa_nil))))) pss_nil)))) pss_nil)))
      (pss_one (ps_ret (pe_callB (cr_sortedK (K := K) rfl) (by rfl) T.b_sorted (by decide +kernel) (pa_cons (pv 1) pa_nil)))))), ?_⟩
    repeat walk_at "t_w"
    rename_i l0 hl0
    refine loopR (fun t σ' H' => ∃ (fs : List Nat) (l : Addr) (y2 y3 : Option V), σ' = [some (.ref a), some (.ref l), y2, y3] ∧ Ex H H' ∧ H' l = some (.lst ((asI fs).map V.int)) ∧ Found bs t fs) ?_ ?_ ?_
    · refine ⟨[0], l0, none, none, rfl, by walk_at "t_ex", upd_same, ⟨by simp, rfl, ?_, ?_, fun i k q hi => absurd hi (Nat.not_lt_zero _)⟩⟩
      · intro k hk; rw [List.mem_singleton.mp hk]; exact hg.one
      · intro k hk; rw [List.mem_singleton.mp hk]; exact .door
    · rintro t σ' H' ht ⟨fs, l, y2, y3, rfl, hE, hL, F⟩
      have hfl := nodup_few F.nd F.lt
      repeat walk_at "t_w"
      rw [List.length_map, asI_len]
      refine w_ite (fun h1 => ?_) (fun h1 => ?_)
      · obtain ⟨c, hc⟩ : ∃ c, fs[t]? = some c := ⟨fs[t], List.getElem?_eq_getElem (by omega)⟩
        have hat : atI ((asI fs).map V.int) (0 + (t : Int)) = some (.int (c : Int)) := by
          rw [Int.zero_add]
          refine atI_nat ?_
          unfold asI
          rw [List.getElem?_map, List.getElem?_map, hc]; rfl
        have hcl : c < bs.length := F.lt c (List.mem_of_getElem? hc)
        obtain ⟨x, hx, p, vs, rfl, hp, hv⟩ := hA.getR (List.getElem?_eq_getElem hcl)
        have hat2 : atI ws (c : Int) = some (.ref p) := atI_nat hx
        repeat walk_at "t_w"
        refine loopL (xs := vs) (fun j σ' H'' => ∃ (gs : List Nat) (l : Addr) (y3 : Option V), σ' = [some (.ref a), some (.ref l), some (.int (0 + (t : Int))), y3] ∧ Ex H H'' ∧ H'' l = some (.lst ((asI gs).map V.int)) ∧ Found bs t gs ∧ gs[t]? = some c ∧ ∀ q, Thing.box q ∈ (bs[c]).take j → q ∈ gs) ?_ ?_ ?_ ?_
        · exact ⟨fs, l, y3, rfl, hE, hL, F, hc, fun q hq => by simp at hq⟩
        · rintro j σ' H3 _ ⟨gs, l, y3, rfl, hE3, _⟩
          exact SqL.of (hE3 _ _ hp)
        · rintro j x σ' H3 hj ⟨gs, l, y3, rfl, hE3, hL3, G, hgc, hq⟩
          obtain ⟨th, hth, q, rfl, hq3⟩ := hv.get hj
          have hgl := nodup_few G.nd G.lt
          cases th with
          | num n =>
            have hq3 : H q = some (.tup [.str "number", .int n]) := hq3
            repeat walk_at "t_w"
            refine ⟨gs, l, _, rfl, hE3, hL3, G, hgc, fun q' hq' => ?_⟩
            rw [take_snoc hth] at hq'
            exact hq q' (by simpa using hq')
          | box k' =>
            have hq3 : H q = some (.tup [.str "box", .int (k' : Int)]) := hq3
            have hk' : k' < bs.length := hg.ok _ (List.getElem_mem hcl) _ (List.mem_of_getElem? hth)
            have hz2 : ((asI gs).map V.int).length + [V.int (k' : Int)].length ≤ 1000000 := by rw [List.length_map, asI_len]; show gs.length + 1 ≤ _; have := hg.few; omega
            repeat walk_at "t_w"
            refine w_iteN (fun h2 => ?_) (fun h2 => ?_)
            · have hn : k' ∉ gs := fun e => h2 (asI_mem.mpr e)
              repeat walk_at "t_w"
              refine ⟨gs ++ [k'], _, _, rfl, by walk_at "t_ex", by rw [upd_same]; exact congrArg (fun l => some (HO.lst l)) (asI_snoc gs k'), ⟨?_, ?_, ?_, ?_, ?_⟩, ?_, ?_⟩
              · exact List.nodup_append.mpr ⟨G.nd, by simp, fun a ha b hb e => hn (by rw [List.mem_singleton] at hb; rw [← hb, ← e]; exact ha)⟩
              · rw [List.getElem?_append_left (by have := (List.getElem?_eq_some_iff.mp G.zero).1; omega)]; exact G.zero
              · intro x hx
                rcases List.mem_append.mp hx with e | e
                · exact G.lt x e
                · rw [List.mem_singleton.mp e]; exact hk'
              · intro x hx
                rcases List.mem_append.mp hx with e | e
                · exact G.re x e
                · rw [List.mem_singleton.mp e]
                  exact .step (G.re c (List.mem_of_getElem? hgc)) ⟨_, List.getElem?_eq_getElem hcl, List.mem_of_getElem? hth⟩
              · intro i x q' hi hx e
                have htl := (List.getElem?_eq_some_iff.mp hgc).1
                rw [List.getElem?_append_left (by omega)] at hx
                exact List.mem_append_left _ (G.cl i x q' hi hx e)
              · have htl := (List.getElem?_eq_some_iff.mp hgc).1
                rw [List.getElem?_append_left htl]; exact hgc
              · intro q' hq'
                rw [take_snoc hth] at hq'
                rcases List.mem_append.mp hq' with e | e
                · exact List.mem_append_left _ (hq q' e)
                · have : q' = k' := by simpa using e
                  rw [this]; simp
            · have hn : k' ∈ gs := asI_mem.mp h2
              repeat walk_at "t_w"
              refine ⟨gs, l, _, rfl, hE3, hL3, G, hgc, fun q' hq' => ?_⟩
              rw [take_snoc hth] at hq'
              rcases List.mem_append.mp hq' with e | e
              · exact hq q' e
              · have : q' = k' := by simpa using e
                rw [this]; exact hn
        · rintro σ' H3 ⟨gs, l, y3, rfl, hE3, hL3, G, hgc, hq⟩
          repeat walk_at "t_w"
          refine ⟨gs, l, _, _, rfl, hE3, hL3, ⟨G.nd, G.zero, G.lt, G.re, ?_⟩⟩
          intro i x q' hi hx e
          by_cases hit : i < t
          · exact G.cl i x q' hit hx e
          · have : i = t := by omega
            subst this
            rw [hgc] at hx
            cases hx
            obtain ⟨fl, hfl2, hb⟩ := e
            rw [List.getElem?_eq_getElem hcl] at hfl2
            cases hfl2
            exact hq q' (by rw [hv.length, List.take_length]; exact hb)
      · repeat walk_at "t_w"
        refine ⟨fs, l, _, _, rfl, hE, hL, ⟨F.nd, F.zero, F.lt, F.re, ?_⟩⟩
        intro i x q' hi hx e
        have := (List.getElem?_eq_some_iff.mp hx).1
        exact F.cl i x q' (by omega) hx e
    · rintro σ' H' ⟨fs, l, y2, y3, rfl, hE, hL, F⟩
      rw [Int.toNat_natCast, hA.length] at F
      repeat walk_at "t_w"
      refine w_sorted (SqL.of hL) fun js hp hj p hp0 => ?_
      repeat walk_at "t_w"
      refine k js ⟨?_, fun x => ⟨fun h => F.re x (hp.mem_iff.mp h), fun h => hp.mem_iff.mpr (F.all h)⟩⟩ _ _ (by walk_at "t_none") (by walk_at "t_ex") upd_same
      have nd : js.Nodup := hp.nodup_iff.mpr F.nd
      exact (List.Pairwise.and hj nd).imp fun ⟨h1, h2⟩ => Nat.lt_of_le_of_ne h1 h2
end
/-! ### what rows are handed to the program, and what it promises -/
/-- where the k-th box stands -/
def pl (bs : List (List Thing)) (k : Nat) : Nat := cells (bs.take k)
theorem pl_lt {bs : List (List Thing)} {j k : Nat} (h : j < k) (hk : k ≤ bs.length) : pl bs j < pl bs k := by
  induction k with
  | zero => omega
  | succ k ih =>
    have e : pl bs (k + 1) = pl bs k + 1 + (bs[k]'(by omega)).length := cells_take (List.getElem?_eq_getElem (by omega))
    rcases Nat.lt_or_ge j k with h2 | h2
    · have := ih h2 (by omega); omega
    · have : j = k := by omega
      subst this; omega
theorem pl_inj {bs : List (List Thing)} {j k : Nat} (hj : j ≤ bs.length) (hk : k ≤ bs.length) (e : pl bs j = pl bs k) : j = k := by
  rcases Nat.lt_trichotomy j k with h | h | h
  · have := pl_lt h hk; omega
  · exact h
  · have := pl_lt h hj; omega
theorem pl_all (bs : List (List Thing)) : pl bs bs.length = cells bs := by unfold pl; rw [List.take_length]
theorem places_getD {bs : List (List Thing)} {k : Nat} (h : k < bs.length) : (places bs).getD k 0 = pl bs k := by
  rw [List.getD_eq_getElem?_getD, places_get h]; rfl
theorem places_len (bs : List (List Thing)) : (places bs).length = bs.length := offs_len bs 0
structure RowOk (bs : List (List Thing)) (sp : Nat) : Prop where
  one : 1 ≤ bs.length
  small : cells bs + sp ≤ 400
  ok : ∀ fs ∈ bs, ∀ t ∈ fs, t.ok bs.length
theorem len_le_cells (bs : List (List Thing)) : bs.length ≤ cells bs := by
  induction bs with
  | nil => exact Nat.zero_le _
  | cons fs bs ih => rw [cells_cons, List.length_cons]; omega
theorem RowOk.few {bs : List (List Thing)} {sp : Nat} (h : RowOk bs sp) : bs.length ≤ 400 := by
  have := len_le_cells bs
  have := h.small
  omega
theorem Good.row {bs : List (List Thing)} (g : Good bs) {sp : Nat} (h : sp < 20) : RowOk bs sp := ⟨g.one, by have := g.small; omega, g.ok⟩
/-- the row of boxes, links leading where they stand -/
def rowAt (bs : List (List Thing)) (sp : Nat) : List Int := rowOf (places bs) bs ++ List.replicate sp 0
theorem rowAt_len (bs : List (List Thing)) (sp : Nat) : (rowAt bs sp).length = cells bs + sp := by
  unfold rowAt; rw [List.length_append, rowOf_len, List.length_replicate]
/-- all that can be come to is marked, all else is as it was -/
structure MarkOk (bs : List (List Thing)) (xs ys : List Int) : Prop where
  len : ys.length = xs.length
  yes : ∀ k, Reach bs k → ys.getD (pl bs k) 0 = xs.getD (pl bs k) 0 + 2
  no : ∀ c, (∀ k, Reach bs k → c ≠ pl bs k) → ys.getD c 0 = xs.getD c 0
theorem ext_getD {xs ys : List Int} (l : xs.length = ys.length) (h : ∀ i, xs.getD i 0 = ys.getD i 0) : xs = ys := by
  apply List.ext_getElem?
  intro i
  have e := h i
  by_cases hi : i < xs.length
  · rw [List.getD_eq_getElem?_getD, List.getD_eq_getElem?_getD, List.getElem?_eq_getElem hi, List.getElem?_eq_getElem (by omega)] at e
    rw [List.getElem?_eq_getElem hi, List.getElem?_eq_getElem (by omega)]
    exact congrArg some e
  · rw [List.getElem?_eq_none (by omega), List.getElem?_eq_none (by omega)]
theorem MarkOk.uniq {bs : List (List Thing)} {xs ys zs : List Int} (a : MarkOk bs xs ys) (b : MarkOk bs xs zs) : ys = zs := by
  refine ext_getD (by rw [a.len, b.len]) fun c => ?_
  by_cases h : ∃ k, Reach bs k ∧ c = pl bs k
  · obtain ⟨k, r, rfl⟩ := h
    rw [a.yes k r, b.yes k r]
  · have h2 : ∀ k, Reach bs k → c ≠ pl bs k := fun k r e => h ⟨k, r, e⟩
    rw [a.no c h2, b.no c h2]
theorem Reach.lt {bs : List (List Thing)} {sp : Nat} (h : RowOk bs sp) {k : Nat} (r : Reach bs k) : k < bs.length := by
  cases r with
  | door => exact h.one
  | step _ e =>
    obtain ⟨fs, hf, ht⟩ := e
    exact h.ok fs (List.mem_of_getElem? hf) _ ht
def spHeads (K : PySem.W.Frag) : Sp := fun vs H Q _ => ∃ (a : Addr) (bs : List (List Thing)) (sp : Nat), vs = [.ref a, .int ((cells bs : Nat) : Int)] ∧ SqL K H a ((rowAt bs sp).map V.int) ∧ RowOk bs sp ∧ Evl.RetL ((asI (places bs)).map V.int) H Q
theorem w_heads {K : PySem.W.Frag} {H : Hp} {Q : VK} {E : XK} {a : Addr} {bs : List (List Thing)} (sp : Nat) (s : SqL K H a ((rowAt bs sp).map V.int)) (r : RowOk bs sp) (k : ∀ p H2, H p = none → Ex H H2 → H2 p = some (.lst ((asI (places bs)).map V.int)) → Q (.ref p) H2) : spHeads K ([.ref a, .int ((cells bs : Nat) : Int)] ++ []) H Q E := ⟨a, bs, sp, rfl, s, r, k⟩
def spMarked (K : PySem.W.Frag) : Sp := fun vs H Q _ => ∃ (a : Addr) (bs : List (List Thing)) (sp : Nat), vs = [.ref a, .int ((cells bs : Nat) : Int)] ∧ SqL K H a ((rowAt bs sp).map V.int) ∧ RowOk bs sp ∧ ∀ ys, MarkOk bs (rowAt bs sp) ys → Evl.RetL (ys.map V.int) H Q
theorem w_marked {K : PySem.W.Frag} {H : Hp} {Q : VK} {E : XK} {a : Addr} {bs : List (List Thing)} (sp : Nat) (s : SqL K H a ((rowAt bs sp).map V.int)) (r : RowOk bs sp) (k : ∀ ys, MarkOk bs (rowAt bs sp) ys → ∀ p H2, H p = none → Ex H H2 → H2 p = some (.lst (ys.map V.int)) → Q (.ref p) H2) : spMarked K ([.ref a, .int ((cells bs : Nat) : Int)] ++ []) H Q E := ⟨a, bs, sp, rfl, s, r, k⟩
theorem w_boxes {K : PySem.W.Frag} {H : Hp} {Q : VK} {E : XK} {a : Addr} {i : Int} {ns : List Int} (s : SqL K H a (ns.map V.int)) (hl : ns.length ≤ 1000) (h0 : 0 ≤ i) (hB : ∀ z ∈ ns, Builtin.Int.intBits z ≤ 1048576) (k : ∀ bs, Good bs → ∀ p H2, H p = none → Ex H H2 → BoxesAt H2 p bs → Q (.ref p) H2) : spBoxes K ([.ref a, .int i] ++ []) H Q E := ⟨a, i, ns, rfl, s, hl, h0, hB, k⟩
/-- how many cells, as the law reckons it -/
theorem given_cells {n : Nat} {bs : List (List Thing)} (hn : n = bs.length) : Evl.given n (fun _ => true) (fun i => V.int (1 + ((bs.getD i []).length : Int))) = (bs.map fun fs => 1 + (fs.length : Int)).map V.int := by
  subst hn
  rw [given_all]
  apply List.ext_getElem?
  intro i
  rw [List.getElem?_map, List.getElem?_map, List.getElem?_map]
  by_cases h : i < bs.length
  · have e : bs.getD i [] = bs[i] := by rw [List.getD_eq_getElem?_getD, List.getElem?_eq_getElem h]; rfl
    rw [List.getElem?_eq_getElem (by simpa using h), List.getElem_range, List.getElem?_eq_getElem h]
    show some (V.int (1 + ((bs.getD i []).length : Int))) = _
    rw [e]; rfl
  · rw [List.getElem?_eq_none (by simpa using h), List.getElem?_eq_none (by omega)]; rfl
theorem sum_cells (bs : List (List Thing)) : (bs.map fun fs => 1 + (fs.length : Int)).sum = ((cells bs : Nat) : Int) := by
  induction bs with
  | nil => rfl
  | cons fs bs ih => rw [List.map_cons, List.sum_cons, ih, cells_cons]; omega
/-- what is due while the law marks: the first ones of al are -/
structure DueOk (bs : List (List Thing)) (xs : List Int) (al : List Nat) (ys : List Int) : Prop where
  len : ys.length = xs.length
  yes : ∀ k ∈ al, ys.getD (pl bs k) 0 = xs.getD (pl bs k) 0 + 2
  no : ∀ c, (∀ k ∈ al, c ≠ pl bs k) → ys.getD c 0 = xs.getD c 0
theorem DueOk.turn {bs : List (List Thing)} {xs : List Int} {al : List Nat} {ys : List Int} (d : DueOk bs xs al ys) {k : Nat} (hk : k < bs.length) (ha : ∀ j ∈ al, j < bs.length ∧ j ≠ k) (hx : cells bs ≤ xs.length) : DueOk bs xs (al ++ [k]) (ys.set (pl bs k) (ys.getD (pl bs k) 0 + 2)) := by
  have hp : pl bs k < ys.length := by
    have := pl_lt hk (Nat.le_refl _)
    rw [pl_all] at this
    rw [d.len]; omega
  have hne : ∀ j ∈ al, pl bs j ≠ pl bs k := fun j hj e => (ha j hj).2 (pl_inj (Nat.le_of_lt (ha j hj).1) (Nat.le_of_lt hk) e)
  refine ⟨by rw [List.length_set]; exact d.len, ?_, ?_⟩
  · intro j hj
    rw [getD_set hp]
    rcases List.mem_append.mp hj with h | h
    · rw [if_neg (hne j h)]; exact d.yes j h
    · rw [List.mem_singleton.mp h, if_pos rfl, d.no _ fun j hj => (hne j hj).symm]
  · intro c hc
    rw [getD_set hp, if_neg (hc k (by simp))]
    exact d.no c fun j hj => hc j (List.mem_append_left _ hj)
end Tw

set_option Elab.async false
set_option linter.all false
set_option maxRecDepth 100000
set_option maxHeartbeats 4000000
namespace Tw
open PySem PySem.Spec PyProof.Rows L2
open Evl (Ex ex_l ex_t fresh_back sz_of sz_lt)
local macro_rules | `(tactic| walk_at "t_hp") => `(tactic| first
  | assumption
  | exact upd_same
  | (refine' hp_ne ?hne ?hrest; (case hne => walk_at "t_ne"); (case hrest => walk_at "t_hp"))
  | (refine' hp_ex ?hx ?hrest; (case hx => assumption); (case hrest => walk_at "t_hp")))
local macro_rules | `(tactic| walk_at "t_ne") => `(tactic| first
  | assumption
  | exact Ne.symm (by assumption)
  | (refine' ne_of_none ?h1 ?h2; (case h2 => assumption); (case h1 => walk_at "t_hp"))
  | (refine' Ne.symm (ne_of_none ?h1 ?h2); (case h2 => assumption); (case h1 => walk_at "t_hp")))
local macro_rules | `(tactic| walk_at "t_none") => `(tactic| first
  | assumption
  | (refine' fresh_back ?e ?n; (case n => assumption); (case e => walk_at "t_ex")))
local macro_rules | `(tactic| walk_at "t_ex") => `(tactic| first
  | assumption
  | exact Evl.Ex.refl _
  | (refine' ex_new ?n ?e; (case n => assumption); (case e => walk_at "t_ex"))
  | (refine' Evl.Ex.mut ?e ?n; (case n => walk_at "t_none"); (case e => walk_at "t_ex"))
  | (refine' Evl.Ex.trans ?a ?b; (case b => assumption); (case a => walk_at "t_ex")))
local macro_rules | `(tactic| walk_at "t_sq") => `(tactic| first
  | assumption
  | (refine' SqL.of ?h; (case h => walk_at "t_hp"))
  | (refine' ex_l ?e ?s; (case s => assumption); (case e => walk_at "t_ex")))
local macro_rules | `(tactic| walk_at "t_sqt") => `(tactic| first
  | assumption
  | (refine' SqT.of ?h; (case h => walk_at "t_hp"))
  | (refine' ex_t ?e ?s; (case s => assumption); (case e => walk_at "t_ex")))
local macro_rules | `(tactic| walk_at "t_mul") => `(tactic| first
  | assumption
  | exact Or.inl (Or.inl ⟨by decide, by decide⟩)
  | exact Or.inl (Or.inr ⟨by decide, by decide⟩)
  | exact Or.inl (Or.inl ⟨by omega, by omega⟩)
  | exact Or.inl (Or.inr ⟨by omega, by omega⟩))
local macro_rules | `(tactic| walk_at "t_c") => `(tactic| first
  | assumption
  | decide
  | (show (0 : Int) < _; decide)
  | (show (0 : Int) < _; omega)
  | exact ⟨by decide, by decide⟩
  | exact ⟨by decide, by decide, by decide⟩
  | exact ⟨by omega, by omega⟩
  | exact ⟨by omega, by omega, by omega, by omega⟩)
local macro_rules | `(tactic| walk_at "t_w") => `(tactic| first
  | (with_reducible refine w_seq ?_)
  | (with_reducible refine w_asg ?_)
  | (with_reducible refine w_gName ?_)
  | (with_reducible refine w_nx ?_)
  | (with_reducible refine w_rt ?_)
  | (with_reducible refine w_ct ?_)
  | (with_reducible refine w_bk ?_)
  | (with_reducible refine w_ret ?_)
  | (with_reducible refine w_retN ?_)
  | (with_reducible refine w_drop ?_)
  | (with_reducible refine w_ifS ?_)
  | (with_reducible refine w_next ?_)
  | (with_reducible refine w_break ?_)
  | (with_reducible refine w_cont ?_)
  | ((with_reducible refine' w_var ?h ?_); (case h => rfl))
  | (with_reducible refine w_c ?_)
  | (with_reducible refine w_op ?_)
  | (with_reducible refine w_un ?_)
  | (with_reducible refine w_I0 ?_)
  | ((with_reducible refine' w_I ?c ?_); (case c => walk_at "t_c"))
  | (with_reducible refine w_U ?_)
  | (with_reducible refine w_addI ?_)
  | ((with_reducible refine' w_addL ?h1 ?h2 ?hz ?_); (case h1 => walk_at "t_hp"); (case h2 => walk_at "t_hp"); (case hz => walk_at "t_z"))
  | ((with_reducible refine' w_mulI ?c ?_); (case c => walk_at "t_mul"))
  | ((with_reducible refine' w_mulL1 ?h1 ?b1 ?b2 ?_); (case h1 => walk_at "t_hp"); (case b1 => walk_at "t_z"); (case b2 => walk_at "t_z"))
  | ((with_reducible refine' w_mulL ?h1 ?b1 ?b2 ?hz ?_); (case h1 => walk_at "t_hp"); (case b1 => walk_at "t_z"); (case b2 => walk_at "t_z"); (case hz => walk_at "t_z"))
  | (with_reducible refine w_notIB ?_)
  | (with_reducible refine w_notBB ?_)
  | (with_reducible refine w_notN ?_)
  | (with_reducible refine w_isBB ?_)
  | (with_reducible refine w_isN ?_)
  | (with_reducible refine w_eqI ?_)
  | (with_reducible refine w_neI ?_)
  | (with_reducible refine w_eqB ?_)
  | (with_reducible refine w_neB ?_)
  | (with_reducible refine w_eqS ?_)
  | (with_reducible refine w_neS ?_)
  | (with_reducible refine w_test ?_)
  | (with_reducible refine w_B ?_)
  | (with_reducible refine w_exB ?_)
  | (with_reducible refine w_and ?_)
  | (with_reducible refine w_or ?_)
  | (with_reducible refine w_not ?_)
  | (with_reducible refine w_andV ?_)
  | (with_reducible refine w_orV ?_)
  | (with_reducible refine w_notV ?_)
  | (with_reducible refine w_bl ?_)
  | (with_reducible refine w_if ?_)
  | (with_reducible refine w_nil ?_)
  | (with_reducible refine w_cons ?_)
  | (with_reducible refine w_cb ?_)
  | (with_reducible refine w_call ?_)
  | (with_reducible refine w_tup ?_)
  | (with_reducible refine w_lst ?_)
  | ((with_reducible refine' w_fin ?hz ?_); (case hz => (simp only [List.length_cons, List.length_nil]; decide)))
  | ((with_reducible refine' w_len ?s ?_); (case s => walk_at "t_sq"))
  | ((with_reducible refine' w_lenT ?s ?_); (case s => walk_at "t_sqt"))
  | (with_reducible refine w_intI ?_)
  | (with_reducible refine w_intB ?_)
  | ((with_reducible refine' w_list ?s ?_); (case s => walk_at "t_sq"))
  | (with_reducible refine w_max ?_)
  | (with_reducible refine w_min ?_)
  | (with_reducible refine w_abs ?_)
  | (with_reducible refine w_sl ?_)
  | (with_reducible refine w_noPart ?_)
  | (with_reducible refine w_part ?_)
  | (with_reducible refine w_exI ?_)
  | ((with_reducible refine' w_slL ?s ?_); (case s => walk_at "t_sq"))
  | ((with_reducible refine' w_ixLI ?s ?b ?_); (case s => walk_at "t_sq"); (case b => walk_at "t_lt"))
  | ((with_reducible refine' w_ixL ?s ?e ?_); (case s => walk_at "t_sq"); (case e => walk_at "t_at"))
  | ((with_reducible refine' w_ixT ?s ?e ?_); (case s => walk_at "t_sqt"); (case e => walk_at "t_at"))
  | (with_reducible refine w_gSub ?_)
  | ((with_reducible refine' w_setLI ?e ?b ?_); (case e => walk_at "t_hp"); (case b => walk_at "t_lt"))
  | ((with_reducible refine' w_setL ?e ?b ?_); (case e => walk_at "t_hp"); (case b => walk_at "t_ixn"))
  | (with_reducible refine w_bm ?_)
  | (with_reducible refine w_bm0 ?_)
  | ((with_reducible refine' w_tyL ?e ?_); (case e => walk_at "t_sq"))
  | ((with_reducible refine' w_app ?e ?hz ?_); (case e => walk_at "t_hp"); (case hz => walk_at "t_z"))
  | (with_reducible refine w_iteT ?_)
  | (with_reducible refine w_iteF ?_)
  | (with_reducible refine w_iteNT ?_)
  | (with_reducible refine w_iteNF ?_)
  | (with_reducible refine w_for ?_)
  | (with_reducible refine w_iList ?_)
  | ((with_reducible refine' w_exL ?s ?_); (case s => walk_at "t_sq"))
  | (with_reducible refine w_iTup ?_)
  | ((with_reducible refine' w_exT ?s ?_); (case s => walk_at "t_sqt"))
  | (with_reducible refine w_iRng1 ?_)
  | ((with_reducible refine w_exR1 ?b ?_); (case b => walk_at "t_c"))
  | (with_reducible refine w_iRng2 ?_)
  | ((with_reducible refine w_exR2 ?b ?_); (case b => walk_at "t_c"))
  | (with_reducible refine w_yes ?_)
  | ((with_reducible refine w_pos ?p ?_); (case p => walk_at "t_p"))
  | ((with_reducible refine w_neg ?p ?_); (case p => walk_at "t_p"))
  | ((with_reducible refine w_posN ?p ?_); (case p => walk_at "t_p"))
  | ((with_reducible refine w_negN ?p ?_); (case p => walk_at "t_p"))
  | ((with_reducible refine' w_notInL ?s ?_); (case s => walk_at "t_sq"))
  | ((with_reducible refine' w_inL ?s ?_); (case s => walk_at "t_sq"))
  | ((with_reducible refine' w_sum ?s ?_); (case s => walk_at "t_sq"))
  | (with_reducible refine w_isiI ?_)
  | ((with_reducible refine' w_isiL ?e ?_); (case e => walk_at "t_ty"))
  | ((with_reducible refine' w_isiT ?e ?_); (case e => walk_at "t_ty"))
  | (with_reducible intro p hp_new))
local macro_rules | `(tactic| walk_at "t_ty") => `(tactic| first | assumption | (refine' tyx_l ?e; (case e => walk_at "t_hp")) | (refine' tyx_t ?e; (case e => walk_at "t_hp")))
local macro_rules | `(tactic| walk_at "t_z") => `(tactic| first | assumption | decide | omega | (simp only [List.length_cons, List.length_nil, List.length_map, List.length_append, List.length_replicate]; first | done | decide | omega))
local macro_rules | `(tactic| walk_at "t_at") => `(tactic| first | assumption | rfl)
local macro_rules | `(tactic| walk_at "t_ixn") => `(tactic| first | assumption | rfl)
local macro_rules | `(tactic| walk_at "t_ev") => `(tactic| (intro H1 e Q q; (repeat walk_at "t_w"); exact q _ (by walk_at "t_ex")))
local macro_rules | `(tactic| walk_at "t_p") => `(tactic| first | assumption | decide | decide +kernel)
local macro_rules | `(tactic| walk_at "t_lt") => `(tactic| first | assumption | omega | (simp only [List.length_set, List.length_map, List.length_append]; first | assumption | omega))
local macro_rules | `(tactic| walk_at "t_w") => `(tactic| first
  | ((with_reducible refine' w_at ?s ?hl ?h0 ?_); (case s => walk_at "t_sq"); (case hl => walk_at "t_z"); (case h0 => walk_at "t_z"))
  | (with_reducible refine w_isInt ?_)
  | (with_reducible refine w_I1 ?_)
  | (with_reducible refine w_Head ?_)
  | ((with_reducible refine' w_number ?hb ?_); (case hb => walk_at "t_bits")))
local macro_rules | `(tactic| walk_at "t_bits") => `(tactic| assumption)
local macro_rules | `(tactic| walk_at "t_w") => `(tactic| first
  | (with_reducible refine w_tru ?_)
  | ((with_reducible refine' w_truL ?s ?_); (case s => walk_at "t_sq"))
  | (with_reducible refine w_dnew ?_)
  | (with_reducible refine w_disp1 ?_)
  | ((with_reducible refine' w_aug ?e ?_); (case e => rfl))
  | (with_reducible refine w_ipI ?_)
  | ((with_reducible refine' w_inD ?e ?_); (case e => walk_at "t_hp"))
  | ((with_reducible refine' w_notInD ?e ?_); (case e => walk_at "t_hp"))
  | (with_reducible refine w_dget ?_)
  | ((with_reducible refine' w_dgetE ?e ?hv ?_); (case e => walk_at "t_hp"); (case hv => walk_at "t_dv"))
  | (with_reducible refine w_dput ?_)
  | ((with_reducible refine' w_dputE ?e ?hl ?_); (case e => walk_at "t_hp"); (case hl => walk_at "t_z"))
  | ((with_reducible refine' w_extend ?e1 ?e2 ?hz ?_); (case e1 => walk_at "t_hp"); (case e2 => walk_at "t_hp"); (case hz => walk_at "t_z")))
local macro_rules | `(tactic| walk_at "t_dv") => `(tactic| assumption)
abbrev s_heads : Stmt := topS 7
theorem sc_heads : FnScope ["row", "used", "places", "place"] ["row", "used"] (defScope s_heads) := ⟨rfl, rfl, rfl, by decide +kernel, rfl, by decide +kernel, by decide +kernel⟩

/-! ### what stands in the cells of a row -/
theorem getD_append_left {xs ys : List Int} {i : Nat} (h : i < xs.length) : (xs ++ ys).getD i 0 = xs.getD i 0 := by
  rw [List.getD_eq_getElem?_getD, List.getD_eq_getElem?_getD, List.getElem?_append_left h]
theorem getD_append_right {xs ys : List Int} {i : Nat} : (xs ++ ys).getD (xs.length + i) 0 = ys.getD i 0 := by
  rw [List.getD_eq_getElem?_getD, List.getD_eq_getElem?_getD, List.getElem?_append_right (by omega)]
  congr 2
  omega
theorem rowOf_split (gs : List Nat) {bs : List (List Thing)} {i : Nat} {fs : List Thing} (h : bs[i]? = some fs) : ∃ r, rowOf gs bs = rowOf gs (bs.take i) ++ (boxRow gs fs ++ r) := by
  refine ⟨rowOf gs (bs.drop (i + 1)), ?_⟩
  have e : bs = bs.take i ++ fs :: bs.drop (i + 1) := by
    have h1 := (List.getElem?_eq_some_iff.mp h)
    conv => lhs; rw [← List.take_append_drop i bs, List.drop_eq_getElem_cons h1.1, h1.2]
  conv => lhs; rw [e]
  unfold rowOf
  rw [List.flatMap_append, List.flatMap_cons]
/-- the head of the i-th box, its j-th field -/
theorem rowAt_head {bs : List (List Thing)} {sp i : Nat} {fs : List Thing} (h : bs[i]? = some fs) : (rowAt bs sp).getD (pl bs i) 0 = 4 * (fs.length : Int) := by
  obtain ⟨r, e⟩ := rowOf_split (places bs) h
  unfold rowAt
  rw [e, List.append_assoc]
  have l : (rowOf (places bs) (bs.take i)).length = pl bs i := rowOf_len _ _
  have q := getD_append_right (xs := rowOf (places bs) (bs.take i)) (ys := boxRow (places bs) fs ++ r ++ List.replicate sp 0) (i := 0)
  rw [l, Nat.add_zero] at q
  rw [q]; rfl
theorem rowAt_field {bs : List (List Thing)} {sp i j : Nat} {fs : List Thing} {t : Thing} (h : bs[i]? = some fs) (ht : fs[j]? = some t) : (rowAt bs sp).getD (pl bs i + 1 + j) 0 = word (places bs) t := by
  obtain ⟨r, e⟩ := rowOf_split (places bs) h
  unfold rowAt
  rw [e, List.append_assoc]
  have l : (rowOf (places bs) (bs.take i)).length = pl bs i := rowOf_len _ _
  have q := getD_append_right (xs := rowOf (places bs) (bs.take i)) (ys := boxRow (places bs) fs ++ r ++ List.replicate sp 0) (i := 1 + j)
  rw [l, ← Nat.add_assoc] at q
  rw [q, List.append_assoc]
  have hj := (List.getElem?_eq_some_iff.mp ht).1
  rw [getD_append_left (by rw [boxRow_len]; omega), Nat.add_comm]
  unfold boxRow
  rw [List.getD_eq_getElem?_getD, List.getElem?_cons_succ, List.getElem?_map, ht]; rfl
/-- a cell is a head's, or a field's, or stands behind the boxes -/
theorem pl_step {bs : List (List Thing)} {i : Nat} {fs : List Thing} (h : bs[i]? = some fs) : pl bs (i + 1) = pl bs i + 1 + fs.length := cells_take h
theorem cell_of {bs : List (List Thing)} : ∀ {n c : Nat}, n ≤ bs.length → c < pl bs n → ∃ i fs, i < n ∧ bs[i]? = some fs ∧ (c = pl bs i ∨ ∃ j, j < fs.length ∧ c = pl bs i + 1 + j)
  | 0, c, _, h => by simp [pl, cells] at h
  | n + 1, c, hn, h => by
    have hb : bs[n]? = some bs[n] := List.getElem?_eq_getElem (by omega)
    rw [pl_step hb] at h
    by_cases h1 : c < pl bs n
    · obtain ⟨i, fs, hi, r⟩ := cell_of (by omega) h1
      exact ⟨i, fs, by omega, r⟩
    · refine ⟨n, bs[n], by omega, hb, ?_⟩
      by_cases h2 : c = pl bs n
      · exact Or.inl h2
      · exact Or.inr ⟨c - pl bs n - 1, by omega, by omega⟩
section
variable {P : Program} {w : World} {K : PySem.W.Frag} {mg : Str → Option Value} {base : Heap}
theorem c_heads (T : Txt K mg) (D : DefAt K mg "heads" "heads" s_heads) (c_fields_of : Cal P w K mg base "fields_of" 1 ["head"] (spI1 gFields)) : Cal P w K mg base "heads" 2 ["row", "used"] (spHeads K) := by
  refine Cal.of D sc_heads (fun vs H Q E h => ?_) (fun _ _ _ _ _ _ us hl => match us, hl with | [_, _], _ => rfl) (fun f cdv A outer s H vs Q E hr h => ?_)
  · obtain ⟨a, bs, sp, rfl, _⟩ := h; rfl
  · obtain ⟨a, bs, sp, rfl, hS, hro, k⟩ := h
    have hu : _ + 64 < cLine := hr.units
    have hfew := hro.few
    have hlr := rowAt_len bs sp
    have hpn := places_len bs
    refine ⟨_, (pss_cons (ps_set (i := 2) sc_heads.nd rfl (Or.inl rfl) (pe_lst pa_nil))
      (pss_cons (ps_set (i := 3) sc_heads.nd rfl (Or.inl rfl) pe_int)
      (pss_cons (ps_while PassesOwn.never (pt_cmpR op_lt (pv 3) (pv 1) (nomark _)) (pss_cons (ps_expr (pe_bmK (K := K) rfl PySem.F.plainAttrs_list PySem.F.slot_list_append PySem.F.type_list_append mt_append (pv 2) (pa_cons (pv 3) pa_nil)))
      (pss_one (ps_aug (i := 3) sc_heads.nd rfl (Or.inl rfl) (pe_op op_addA (pe_callC c_fields_of (hr.mono (by decide)) rfl (pa_cons (pe_ix (ix_seqK (K := K) rfl) (pv 0) (pv 3) (fun _ _ => rfl)) pa_nil)) pe_int) ip_add))))
      (pss_one (ps_ret (pv 2)))))), ?_⟩
    repeat walk_at "t_w"
    rename_i l hl
    refine w_while (fun m σ' H' => ∃ i : Nat, i ≤ bs.length ∧ m = bs.length - i ∧ σ' = [some (.ref a), some (.int ((cells bs : Nat) : Int)), some (.ref l), some (.int ((pl bs i : Nat) : Int))] ∧ Ex H H' ∧ H' l = some (.lst ((asI ((places bs).take i)).map V.int))) bs.length ?_ ?_
    · exact ⟨0, Nat.zero_le _, rfl, rfl, by walk_at "t_ex", upd_same⟩
    · rintro m σ' H' ⟨i, hi, em, rfl, hE, hL⟩
      repeat walk_at "t_w"
      rcases Nat.lt_or_ge i bs.length with h | h
      · have hb : bs[i]? = some bs[i] := List.getElem?_eq_getElem h
        have hp := pl_lt h (Nat.le_refl _)
        rw [pl_all] at hp
        refine w_pos (by omega) ?_
        refine w_exN ?_
        have hz2 : ((asI ((places bs).take i)).map V.int).length < 1000000 := by rw [List.length_map, asI_len, List.length_take]; omega
        repeat walk_at "t_w"
        have e1 : ((pl bs i : Nat) : Int) + ((rowAt bs sp).getD (pl bs i) 0 / 4 + 1) = ((pl bs (i + 1) : Nat) : Int) := by rw [rowAt_head hb, pl_step hb]; omega
        refine ⟨bs.length - (i + 1), by omega, i + 1, h, rfl, by rw [← e1]; rfl, by walk_at "t_ex", ?_⟩
        rw [take_places h, ← asI_snoc]
        walk_at "t_hp"
      · have ei : i = bs.length := by omega
        refine w_neg (by rw [ei, pl_all]; omega) ?_
        rw [ei, List.take_of_length_le (by rw [hpn]; exact Nat.le_refl _)] at hL
        repeat walk_at "t_w"
        exact k _ _ (by walk_at "t_none") hE hL
end
/-! ### marking, box by box -/
/-- a head's word while the boxes M are marked -/
theorem DueOk.head {bs : List (List Thing)} {sp : Nat} {M : List Nat} {ys : List Int} (d : DueOk bs (rowAt bs sp) M ys) (hM : ∀ j ∈ M, j < bs.length) {k : Nat} {fs : List Thing} (h : bs[k]? = some fs) :
    ys.getD (pl bs k) 0 = 4 * (fs.length : Int) + (if k ∈ M then 2 else 0) := by
  have hk := (List.getElem?_eq_some_iff.mp h).1
  by_cases hm : k ∈ M
  · rw [d.yes k hm, rowAt_head h, if_pos hm]
  · rw [d.no _ (fun j hj e => hm (by rw [pl_inj (Nat.le_of_lt hk) (Nat.le_of_lt (hM j hj)) e]; exact hj)), rowAt_head h, if_neg hm]; omega
/-- a field's word stays -/
theorem DueOk.field {bs : List (List Thing)} {sp : Nat} {M : List Nat} {ys : List Int} (d : DueOk bs (rowAt bs sp) M ys) (hM : ∀ j ∈ M, j < bs.length) {k j : Nat} {fs : List Thing} {t : Thing} (h : bs[k]? = some fs) (ht : fs[j]? = some t) :
    ys.getD (pl bs k + 1 + j) 0 = word (places bs) t := by
  have hk := (List.getElem?_eq_some_iff.mp h).1
  have hj := (List.getElem?_eq_some_iff.mp ht).1
  rw [d.no _ ?_, rowAt_field h ht]
  intro i hi e
  have h1 := pl_step h
  have hi2 := hM i hi
  rcases Nat.lt_trichotomy i k with q | q | q
  · have := pl_lt q (Nat.le_of_lt hk); omega
  · subst q; omega
  · have : pl bs (k + 1) ≤ pl bs i := by
      rcases Nat.lt_or_ge (k + 1) i with q2 | q2
      · exact Nat.le_of_lt (pl_lt q2 (Nat.le_of_lt hi2))
      · have : i = k + 1 := by omega
        subst this; exact Nat.le_refl _
    omega
/-- marked are M, all to be come to; of all but W (waiting) the boxes that their fields lead to are marked -/
structure Marking (bs : List (List Thing)) (M W : List Nat) : Prop where
  nd : M.Nodup
  lt : ∀ k ∈ M, k < bs.length
  re : ∀ k ∈ M, Reach bs k
  zero : 0 ∈ M
  sub : ∀ k ∈ W, k ∈ M
  cl : ∀ k ∈ M, k ∉ W → ∀ q, Edge bs k q → q ∈ M
theorem Marking.all {bs : List (List Thing)} {M : List Nat} (h : Marking bs M []) {k : Nat} (r : Reach bs k) : k ∈ M := by
  induction r with
  | door => exact h.zero
  | step _ e ih => exact h.cl _ ih (by simp) _ e
theorem Marking.fin {bs : List (List Thing)} {sp : Nat} {M : List Nat} {ys : List Int} (h : Marking bs M []) (d : DueOk bs (rowAt bs sp) M ys) : MarkOk bs (rowAt bs sp) ys :=
  ⟨d.len, fun k r => d.yes k (h.all r), fun c hc => d.no c fun k hk => hc k (h.re k hk)⟩
theorem Marking.start {bs : List (List Thing)} (h : 1 ≤ bs.length) : Marking bs [0] [0] :=
  ⟨by simp, fun k hk => by rw [List.mem_singleton.mp hk]; exact h, fun k hk => by rw [List.mem_singleton.mp hk]; exact .door, by simp, fun k hk => hk, fun k hk hn => absurd hk hn⟩
/-- a box that is led to by one that is marked joins, waiting -/
theorem Marking.join {bs : List (List Thing)} {M W : List Nat} (h : Marking bs M W) {k q : Nat} (hk : k ∈ M) (e : Edge bs k q) (hq : q < bs.length) (hn : q ∉ M) : Marking bs (M ++ [q]) (W ++ [q]) := by
  refine ⟨?_, ?_, ?_, List.mem_append_left _ h.zero, ?_, ?_⟩
  · exact List.nodup_append.mpr ⟨h.nd, by simp, fun a ha b hb e => hn (by rw [List.mem_singleton] at hb; rw [← hb, ← e]; exact ha)⟩
  · intro x hx
    rcases List.mem_append.mp hx with r | r
    · exact h.lt x r
    · rw [List.mem_singleton.mp r]; exact hq
  · intro x hx
    rcases List.mem_append.mp hx with r | r
    · exact h.re x r
    · rw [List.mem_singleton.mp r]; exact .step (h.re k hk) e
  · intro x hx
    rcases List.mem_append.mp hx with r | r
    · exact List.mem_append_left _ (h.sub x r)
    · exact List.mem_append_right _ r
  · intro x hx hw p hp
    rcases List.mem_append.mp hx with r | r
    · exact List.mem_append_left _ (h.cl x r (fun z => hw (List.mem_append_left _ z)) p hp)
    · exact absurd (List.mem_append_right _ r) hw
theorem Marking.same {bs : List (List Thing)} {M W W' : List Nat} (h : Marking bs M W) (e : ∀ k, k ∈ W' ↔ k ∈ W) : Marking bs M W' :=
  ⟨h.nd, h.lt, h.re, h.zero, fun k hk => h.sub k ((e k).mp hk), fun k hk hn => h.cl k hk fun z => hn ((e k).mpr z)⟩
theorem Marking.done {bs : List (List Thing)} {M W : List Nat} {c : Nat} (h : Marking bs M (c :: W)) (hc : ∀ q, Edge bs c q → q ∈ M) : Marking bs M W :=
  ⟨h.nd, h.lt, h.re, h.zero, fun k hk => h.sub k (List.mem_cons_of_mem _ hk), fun k hk hn q e => by
    by_cases z : k = c
    · subst z; exact hc q e
    · exact h.cl k hk (fun y => (List.mem_cons.mp y).elim z hn) q e⟩
end Tw

set_option Elab.async false
set_option linter.all false
set_option maxRecDepth 100000
set_option maxHeartbeats 4000000
namespace Tw
open PySem PySem.Spec PyProof.Rows L2
open Evl (Ex ex_l ex_t fresh_back sz_of sz_lt)
local macro_rules | `(tactic| walk_at "t_hp") => `(tactic| first
  | assumption
  | exact upd_same
  | (refine' hp_ne ?hne ?hrest; (case hne => walk_at "t_ne"); (case hrest => walk_at "t_hp"))
  | (refine' hp_ex ?hx ?hrest; (case hx => assumption); (case hrest => walk_at "t_hp")))
local macro_rules | `(tactic| walk_at "t_ne") => `(tactic| first
  | assumption
  | exact Ne.symm (by assumption)
  | (refine' ne_of_none ?h1 ?h2; (case h2 => assumption); (case h1 => walk_at "t_hp"))
  | (refine' Ne.symm (ne_of_none ?h1 ?h2); (case h2 => assumption); (case h1 => walk_at "t_hp")))
local macro_rules | `(tactic| walk_at "t_none") => `(tactic| first
  | assumption
  | (refine' fresh_back ?e ?n; (case n => assumption); (case e => walk_at "t_ex")))
local macro_rules | `(tactic| walk_at "t_ex") => `(tactic| first
  | assumption
  | exact Evl.Ex.refl _
  | (refine' ex_new ?n ?e; (case n => assumption); (case e => walk_at "t_ex"))
  | (refine' Evl.Ex.mut ?e ?n; (case n => walk_at "t_none"); (case e => walk_at "t_ex"))
  | (refine' Evl.Ex.trans ?a ?b; (case b => assumption); (case a => walk_at "t_ex")))
local macro_rules | `(tactic| walk_at "t_sq") => `(tactic| first
  | assumption
  | (refine' SqL.of ?h; (case h => walk_at "t_hp"))
  | (refine' ex_l ?e ?s; (case s => assumption); (case e => walk_at "t_ex")))
local macro_rules | `(tactic| walk_at "t_sqt") => `(tactic| first
  | assumption
  | (refine' SqT.of ?h; (case h => walk_at "t_hp"))
  | (refine' ex_t ?e ?s; (case s => assumption); (case e => walk_at "t_ex")))
local macro_rules | `(tactic| walk_at "t_mul") => `(tactic| first
  | assumption
  | exact Or.inl (Or.inl ⟨by decide, by decide⟩)
  | exact Or.inl (Or.inr ⟨by decide, by decide⟩)
  | exact Or.inl (Or.inl ⟨by omega, by omega⟩)
  | exact Or.inl (Or.inr ⟨by omega, by omega⟩))
local macro_rules | `(tactic| walk_at "t_c") => `(tactic| first
  | assumption
  | decide
  | (show (0 : Int) < _; decide)
  | (show (0 : Int) < _; omega)
  | exact ⟨by decide, by decide⟩
  | exact ⟨by decide, by decide, by decide⟩
  | exact ⟨by omega, by omega⟩
  | exact ⟨by omega, by omega, by omega, by omega⟩)
local macro_rules | `(tactic| walk_at "t_w") => `(tactic| first
  | (with_reducible refine w_seq ?_)
  | (with_reducible refine w_asg ?_)
  | (with_reducible refine w_gName ?_)
  | (with_reducible refine w_nx ?_)
  | (with_reducible refine w_rt ?_)
  | (with_reducible refine w_ct ?_)
  | (with_reducible refine w_bk ?_)
  | (with_reducible refine w_ret ?_)
  | (with_reducible refine w_retN ?_)
  | (with_reducible refine w_drop ?_)
  | (with_reducible refine w_ifS ?_)
  | (with_reducible refine w_next ?_)
  | (with_reducible refine w_break ?_)
  | (with_reducible refine w_cont ?_)
  | ((with_reducible refine' w_var ?h ?_); (case h => rfl))
  | (with_reducible refine w_c ?_)
  | (with_reducible refine w_op ?_)
  | (with_reducible refine w_un ?_)
  | (with_reducible refine w_I0 ?_)
  | ((with_reducible refine' w_I ?c ?_); (case c => walk_at "t_c"))
  | (with_reducible refine w_U ?_)
  | (with_reducible refine w_addI ?_)
  | ((with_reducible refine' w_addL ?h1 ?h2 ?hz ?_); (case h1 => walk_at "t_hp"); (case h2 => walk_at "t_hp"); (case hz => walk_at "t_z"))
  | ((with_reducible refine' w_mulI ?c ?_); (case c => walk_at "t_mul"))
  | ((with_reducible refine' w_mulL1 ?h1 ?b1 ?b2 ?_); (case h1 => walk_at "t_hp"); (case b1 => walk_at "t_z"); (case b2 => walk_at "t_z"))
  | ((with_reducible refine' w_mulL ?h1 ?b1 ?b2 ?hz ?_); (case h1 => walk_at "t_hp"); (case b1 => walk_at "t_z"); (case b2 => walk_at "t_z"); (case hz => walk_at "t_z"))
  | (with_reducible refine w_notIB ?_)
  | (with_reducible refine w_notBB ?_)
  | (with_reducible refine w_notN ?_)
  | (with_reducible refine w_isBB ?_)
  | (with_reducible refine w_isN ?_)
  | (with_reducible refine w_eqI ?_)
  | (with_reducible refine w_neI ?_)
  | (with_reducible refine w_eqB ?_)
  | (with_reducible refine w_neB ?_)
  | (with_reducible refine w_eqS ?_)
  | (with_reducible refine w_neS ?_)
  | (with_reducible refine w_test ?_)
  | (with_reducible refine w_B ?_)
  | (with_reducible refine w_exB ?_)
  | (with_reducible refine w_and ?_)
  | (with_reducible refine w_or ?_)
  | (with_reducible refine w_not ?_)
  | (with_reducible refine w_andV ?_)
  | (with_reducible refine w_orV ?_)
  | (with_reducible refine w_notV ?_)
  | (with_reducible refine w_bl ?_)
  | (with_reducible refine w_if ?_)
  | (with_reducible refine w_nil ?_)
  | (with_reducible refine w_cons ?_)
  | (with_reducible refine w_cb ?_)
  | (with_reducible refine w_call ?_)
  | (with_reducible refine w_tup ?_)
  | (with_reducible refine w_lst ?_)
  | ((with_reducible refine' w_fin ?hz ?_); (case hz => (simp only [List.length_cons, List.length_nil]; decide)))
  | ((with_reducible refine' w_len ?s ?_); (case s => walk_at "t_sq"))
  | ((with_reducible refine' w_lenT ?s ?_); (case s => walk_at "t_sqt"))
  | (with_reducible refine w_intI ?_)
  | (with_reducible refine w_intB ?_)
  | ((with_reducible refine' w_list ?s ?_); (case s => walk_at "t_sq"))
  | (with_reducible refine w_max ?_)
  | (with_reducible refine w_min ?_)
  | (with_reducible refine w_abs ?_)
  | (with_reducible refine w_sl ?_)
  | (with_reducible refine w_noPart ?_)
  | (with_reducible refine w_part ?_)
  | (with_reducible refine w_exI ?_)
  | ((with_reducible refine' w_slL ?s ?_); (case s => walk_at "t_sq"))
  | ((with_reducible refine' w_ixLI ?s ?b ?_); (case s => walk_at "t_sq"); (case b => walk_at "t_lt"))
  | ((with_reducible refine' w_ixL ?s ?e ?_); (case s => walk_at "t_sq"); (case e => walk_at "t_at"))
  | ((with_reducible refine' w_ixT ?s ?e ?_); (case s => walk_at "t_sqt"); (case e => walk_at "t_at"))
  | (with_reducible refine w_gSub ?_)
  | ((with_reducible refine' w_setLI ?e ?b ?_); (case e => walk_at "t_hp"); (case b => walk_at "t_lt"))
  | ((with_reducible refine' w_setL ?e ?b ?_); (case e => walk_at "t_hp"); (case b => walk_at "t_ixn"))
  | (with_reducible refine w_bm ?_)
  | (with_reducible refine w_bm0 ?_)
  | ((with_reducible refine' w_tyL ?e ?_); (case e => walk_at "t_sq"))
  | ((with_reducible refine' w_app ?e ?hz ?_); (case e => walk_at "t_hp"); (case hz => walk_at "t_z"))
  | (with_reducible refine w_iteT ?_)
  | (with_reducible refine w_iteF ?_)
  | (with_reducible refine w_iteNT ?_)
  | (with_reducible refine w_iteNF ?_)
  | (with_reducible refine w_for ?_)
  | (with_reducible refine w_iList ?_)
  | ((with_reducible refine' w_exL ?s ?_); (case s => walk_at "t_sq"))
  | (with_reducible refine w_iTup ?_)
  | ((with_reducible refine' w_exT ?s ?_); (case s => walk_at "t_sqt"))
  | (with_reducible refine w_iRng1 ?_)
  | ((with_reducible refine w_exR1 ?b ?_); (case b => walk_at "t_c"))
  | (with_reducible refine w_iRng2 ?_)
  | ((with_reducible refine w_exR2 ?b ?_); (case b => walk_at "t_c"))
  | (with_reducible refine w_yes ?_)
  | ((with_reducible refine w_pos ?p ?_); (case p => walk_at "t_p"))
  | ((with_reducible refine w_neg ?p ?_); (case p => walk_at "t_p"))
  | ((with_reducible refine w_posN ?p ?_); (case p => walk_at "t_p"))
  | ((with_reducible refine w_negN ?p ?_); (case p => walk_at "t_p"))
  | ((with_reducible refine' w_notInL ?s ?_); (case s => walk_at "t_sq"))
  | ((with_reducible refine' w_inL ?s ?_); (case s => walk_at "t_sq"))
  | ((with_reducible refine' w_sum ?s ?_); (case s => walk_at "t_sq"))
  | (with_reducible refine w_isiI ?_)
  | ((with_reducible refine' w_isiL ?e ?_); (case e => walk_at "t_ty"))
  | ((with_reducible refine' w_isiT ?e ?_); (case e => walk_at "t_ty"))
  | (with_reducible intro p hp_new))
local macro_rules | `(tactic| walk_at "t_ty") => `(tactic| first | assumption | (refine' tyx_l ?e; (case e => walk_at "t_hp")) | (refine' tyx_t ?e; (case e => walk_at "t_hp")))
local macro_rules | `(tactic| walk_at "t_z") => `(tactic| first | assumption | decide | omega | (simp only [List.length_cons, List.length_nil, List.length_map, List.length_append, List.length_replicate]; first | done | decide | omega))
local macro_rules | `(tactic| walk_at "t_at") => `(tactic| first | assumption | rfl)
local macro_rules | `(tactic| walk_at "t_ixn") => `(tactic| first | assumption | rfl)
local macro_rules | `(tactic| walk_at "t_ev") => `(tactic| (intro H1 e Q q; (repeat walk_at "t_w"); exact q _ (by walk_at "t_ex")))
local macro_rules | `(tactic| walk_at "t_p") => `(tactic| first | assumption | decide | decide +kernel)
local macro_rules | `(tactic| walk_at "t_lt") => `(tactic| first | assumption | omega | (simp only [List.length_set, List.length_map, List.length_append]; first | assumption | omega))
local macro_rules | `(tactic| walk_at "t_w") => `(tactic| first
  | ((with_reducible refine' w_at ?s ?hl ?h0 ?_); (case s => walk_at "t_sq"); (case hl => walk_at "t_z"); (case h0 => walk_at "t_z"))
  | (with_reducible refine w_isInt ?_)
  | (with_reducible refine w_I1 ?_)
  | (with_reducible refine w_Head ?_)
  | ((with_reducible refine' w_number ?hb ?_); (case hb => walk_at "t_bits")))
local macro_rules | `(tactic| walk_at "t_bits") => `(tactic| assumption)
local macro_rules | `(tactic| walk_at "t_w") => `(tactic| first
  | (with_reducible refine w_tru ?_)
  | ((with_reducible refine' w_truL ?s ?_); (case s => walk_at "t_sq"))
  | (with_reducible refine w_dnew ?_)
  | (with_reducible refine w_disp1 ?_)
  | ((with_reducible refine' w_aug ?e ?_); (case e => rfl))
  | (with_reducible refine w_ipI ?_)
  | ((with_reducible refine' w_inD ?e ?_); (case e => walk_at "t_hp"))
  | ((with_reducible refine' w_notInD ?e ?_); (case e => walk_at "t_hp"))
  | (with_reducible refine w_dget ?_)
  | ((with_reducible refine' w_dgetE ?e ?hv ?_); (case e => walk_at "t_hp"); (case hv => walk_at "t_dv"))
  | (with_reducible refine w_dput ?_)
  | ((with_reducible refine' w_dputE ?e ?hl ?_); (case e => walk_at "t_hp"); (case hl => walk_at "t_z"))
  | ((with_reducible refine' w_extend ?e1 ?e2 ?hz ?_); (case e1 => walk_at "t_hp"); (case e2 => walk_at "t_hp"); (case hz => walk_at "t_z")))
local macro_rules | `(tactic| walk_at "t_dv") => `(tactic| assumption)
abbrev s_field_words : Stmt := topS 8
theorem sc_field_words : FnScope ["row", "place"] ["row", "place"] (defScope s_field_words) := ⟨rfl, rfl, rfl, by decide +kernel, rfl, by decide +kernel, by decide +kernel⟩

abbrev s_reached : Stmt := topS 9
theorem sc_reached : FnScope ["row", "used", "found", "waiting", "box", "word", "place"] ["row", "used"] (defScope s_reached) := ⟨rfl, rfl, rfl, by decide +kernel, rfl, by decide +kernel, by decide +kernel⟩

/-! ### what stands in the fields of a box, as the program reads it -/
theorem rowAt_fields {bs : List (List Thing)} {sp i : Nat} {fs : List Thing} (h : bs[i]? = some fs) : ((rowAt bs sp).drop (pl bs i + 1)).take fs.length = fs.map (word (places bs)) := by
  obtain ⟨r, e⟩ := rowOf_split (places bs) h
  unfold rowAt
  rw [e, List.append_assoc]
  have l : (rowOf (places bs) (bs.take i)).length = pl bs i := rowOf_len _ _
  rw [← l, List.drop_append, List.drop_eq_nil_of_le (by omega), List.nil_append, Nat.add_sub_cancel_left, List.append_assoc]
  unfold boxRow
  rw [List.cons_append, List.drop_succ_cons, List.drop_zero]
  have l2 : fs.length = (fs.map (word (places bs))).length := (List.length_map ..).symm
  rw [l2, List.take_left]
theorem cutV_ints (xs : List Int) (p n : Nat) : cutV (xs.map V.int) (some ((p : Int) + 1)) (some ((p : Int) + 1 + (n : Int))) = ((xs.drop (p + 1)).take n).map V.int := by
  have e1 : (p : Int) + 1 = ((p + 1 : Nat) : Int) := by omega
  have e2 : (p : Int) + 1 + (n : Int) = ((p + 1 + n : Nat) : Int) := by omega
  unfold cutV
  rw [e2, e1, HT.sIx_nat, HT.sIx_nat, List.length_map, List.map_take, List.map_drop]
  by_cases h : p + 1 ≤ xs.length
  · rw [Nat.min_eq_left h]
    by_cases h2 : p + 1 + n ≤ xs.length
    · rw [Nat.min_eq_left h2, Nat.add_sub_cancel_left]
    · rw [Nat.min_eq_right (by omega)]
      rw [List.take_of_length_le (i := xs.length - (p + 1)) (by rw [List.length_drop, List.length_map]; exact Nat.le_refl _), List.take_of_length_le (i := n) (by rw [List.length_drop, List.length_map]; omega)]
  · rw [List.drop_eq_nil_of_le (i := p + 1) (by rw [List.length_map]; omega), List.drop_eq_nil_of_le (i := min (p + 1) xs.length) (by rw [List.length_map, Nat.min_eq_right (by omega)]; exact Nat.le_refl _), List.take_nil, List.take_nil]
def spFields (K : PySem.W.Frag) : Sp := fun vs H Q _ => ∃ (a : Addr) (bs : List (List Thing)) (sp i : Nat) (fs : List Thing), vs = [.ref a, .int ((pl bs i : Nat) : Int)] ∧ SqL K H a ((rowAt bs sp).map V.int) ∧ RowOk bs sp ∧ bs[i]? = some fs ∧ Evl.RetL ((fs.map (word (places bs))).map V.int) H Q
theorem w_fields {K : PySem.W.Frag} {H : Hp} {Q : VK} {E : XK} {a : Addr} {bs : List (List Thing)} {i : Nat} (sp : Nat) (fs : List Thing) (s : SqL K H a ((rowAt bs sp).map V.int)) (r : RowOk bs sp) (hb : bs[i]? = some fs)
    (k : ∀ p H2, H p = none → Ex H H2 → H2 p = some (.lst ((fs.map (word (places bs))).map V.int)) → Q (.ref p) H2) : spFields K ([.ref a, .int ((pl bs i : Nat) : Int)] ++ []) H Q E := ⟨a, bs, sp, i, fs, rfl, s, r, hb, k⟩
/-- the places of the boxes that can be come to -/
def spReached (K : PySem.W.Frag) : Sp := fun vs H Q _ => ∃ (a : Addr) (bs : List (List Thing)) (sp : Nat), vs = [.ref a, .int ((cells bs : Nat) : Int)] ∧ SqL K H a ((rowAt bs sp).map V.int) ∧ RowOk bs sp ∧ ∀ al, AliveOk bs al → Evl.RetL ((asI (al.map (pl bs))).map V.int) H Q
theorem w_reached {K : PySem.W.Frag} {H : Hp} {Q : VK} {E : XK} {a : Addr} {bs : List (List Thing)} (sp : Nat) (s : SqL K H a ((rowAt bs sp).map V.int)) (r : RowOk bs sp)
    (k : ∀ al, AliveOk bs al → ∀ p H2, H p = none → Ex H H2 → H2 p = some (.lst ((asI (al.map (pl bs))).map V.int)) → Q (.ref p) H2) : spReached K ([.ref a, .int ((cells bs : Nat) : Int)] ++ []) H Q E := ⟨a, bs, sp, rfl, s, r, k⟩
/-- the dict of what is found: its keys are the places of the boxes M -/
def FoundD (bs : List (List Thing)) (M : List Nat) (kvs : List (Key × V)) : Prop := kvs.length ≤ M.length ∧ ∀ k, k < bs.length → (valV kvs (.inl ((pl bs k : Nat) : Int))).isSome = decide (k ∈ M)
theorem FoundD.start {bs : List (List Thing)} (h : 1 ≤ bs.length) : FoundD bs [0] [(.inl 0, .bl true)] := by
  refine ⟨Nat.le_refl _, fun k hk => ?_⟩
  by_cases e : k = 0
  · subst e; rfl
  · have : pl bs 0 < pl bs k := pl_lt (by omega) (by omega)
    rw [valV_neg (keyI_ne (by omega)), decide_eq_false (by simpa using e)]; rfl
theorem FoundD.join {bs : List (List Thing)} {M : List Nat} {kvs : List (Key × V)} (h : FoundD bs M kvs) {q : Nat} (hq : q < bs.length) (v : V) : FoundD bs (M ++ [q]) (putK kvs (.inl ((pl bs q : Nat) : Int)) v) := by
  refine ⟨by have := length_putK kvs (.inl ((pl bs q : Nat) : Int)) v; have := h.1; rw [List.length_append]; show _ ≤ M.length + 1; omega, fun k hk => ?_⟩
  rw [valV_putI]
  by_cases e : k = q
  · subst e; rw [if_pos rfl]; simp
  · rw [if_neg (fun z => e (pl_inj (Nat.le_of_lt hk) (Nat.le_of_lt hq) (by omega))), h.2 k hk]
    simp [e]
/-- the places found, in the order of the row -/
theorem given_alive {bs : List (List Thing)} {M : List Nat} (h : Marking bs M []) (n : Nat) (hn : n = bs.length) : ∃ al, AliveOk bs al ∧ Evl.given n (fun i => decide (i ∈ M)) (fun i => V.int ((pl bs i : Nat) : Int)) = (asI (al.map (pl bs))).map V.int := by
  subst hn
  refine ⟨(List.range bs.length).filter fun i => decide (i ∈ M), ⟨List.Pairwise.filter _ List.pairwise_lt_range, fun k => ⟨fun hk => ?_, fun r => ?_⟩⟩, ?_⟩
  · have := (List.mem_filter.mp hk).2
    exact h.re k (by simpa using this)
  · have := h.all r
    exact List.mem_filter.mpr ⟨List.mem_range.mpr (h.lt k this), by simpa using this⟩
  · unfold Evl.given asI
    rw [List.map_map, List.map_map]; rfl
section
variable {P : Program} {w : World} {K : PySem.W.Frag} {mg : Str → Option Value} {base : Heap}
theorem c_field_words (T : Txt K mg) (D : DefAt K mg "field_words" "field_words" s_field_words) (c_fields_of : Cal P w K mg base "fields_of" 1 ["head"] (spI1 gFields)) : Cal P w K mg base "field_words" 2 ["row", "place"] (spFields K) := by
  refine Cal.of D sc_field_words (fun vs H Q E h => ?_) (fun _ _ _ _ _ _ us hl => match us, hl with | [_, _], _ => rfl) (fun f cdv A outer s H vs Q E hr h => ?_)
  · obtain ⟨a, bs, sp, i, fs, rfl, _⟩ := h; rfl
  · obtain ⟨a, bs, sp, i, fs, rfl, hS, hro, hb, k⟩ := h
    have hu : _ + 64 < cLine := hr.units
    have hlr := rowAt_len bs sp
    have hi := (List.getElem?_eq_some_iff.mp hb).1
    have hp := pl_lt hi (Nat.le_refl _)
    rw [pl_all] at hp
    have e4 : (rowAt bs sp).getD (pl bs i) 0 / 4 = (fs.length : Int) := by rw [rowAt_head hb]; omega
    refine ⟨_, (pss_one (ps_ret (pe_slice (sl_AK (K := K) rfl) (pv 0) (po_some (pe_op op_addA (pv 1) pe_int)) (po_some (pe_op op_addA (pe_op op_addA (pv 1) pe_int) (pe_callC c_fields_of (hr.mono (by decide)) rfl (pa_cons (pe_ix (ix_seqK (K := K) rfl) (pv 0) (pv 1) (fun _ _ => rfl)) pa_nil))))))), ?_⟩
    repeat walk_at "t_w"
    rename_i p hp2
    refine k _ _ (by walk_at "t_none") (by walk_at "t_ex") ?_
    rw [upd_same, e4, cutV_ints, rowAt_fields hb]
theorem c_reached (T : Txt K mg) (D : DefAt K mg "reached" "reached" s_reached) (c_heads : Cal P w K mg base "heads" 2 ["row", "used"] (spHeads K)) (c_field_words : Cal P w K mg base "field_words" 2 ["row", "place"] (spFields K)) (c_is_link : Cal P w K mg base "is_link" 1 ["word"] (spI1 gIsLink)) (c_told_by : Cal P w K mg base "told_by" 1 ["word"] (spI1 gTold)) :
    Cal P w K mg base "reached" 3 ["row", "used"] (spReached K) := by
  refine Cal.of D sc_reached (fun vs H Q E h => ?_) (fun _ _ _ _ _ _ us hl => match us, hl with | [_, _], _ => rfl) (fun f cdv A outer s H vs Q E hr h => ?_)
  · obtain ⟨a, bs, sp, rfl, _⟩ := h; rfl
  · obtain ⟨a, bs, sp, rfl, hS, hro, k⟩ := h
    have hu : _ + 64 < cLine := hr.units
    have hfew := hro.few
    have hlr := rowAt_len bs sp
    have hpn := places_len bs
    have hone := hro.one
    refine ⟨_, (pss_cons (ps_set (i := 2) sc_reached.nd rfl (Or.inr rfl) (pe_disp (pps_cons pe_int pe_bl pps_nil) (by rfl) (by rfl) (fun z => by cases z) (by decide)))
      (pss_cons (ps_set (i := 3) sc_reached.nd rfl (Or.inl rfl) (pe_lst (pa_cons pe_int pa_nil)))
      (pss_cons (ps_while PassesOwn.never (pt_truthK (K := K) rfl (pv 3) (fun _ => rfl)) (pss_cons (ps_set (i := 4) sc_reached.nd rfl (Or.inl rfl) (pe_bm0K (K := K) rfl PySem.F.plainAttrs_list PySem.F.slot_list_pop PySem.F.type_list_pop mt_pop (pv 3)))
      (pss_one (ps_for PassesOwn.never rfl (pi_listK (K := K) rfl (pe_callC c_field_words (hr.mono (by decide)) rfl (pa_cons (pv 0) (pa_cons (pv 4) pa_nil)))) (pg_name (i := 5) sc_reached.nd rfl (Or.inl rfl)) (pss_one (ps_if (PW.pt (pw_and (pt_val (pe_callC c_is_link (hr.mono (by decide)) rfl (pa_cons (pv 5) pa_nil))) (pw_and1 (pt_cmpR (op_notin_d1 (hu1 hu)) (pe_callC c_told_by (hr.mono (by decide)) rfl (pa_cons (pv 5) pa_nil)) (pv 2) (by rfl))))) (pss_cons (ps_dput (hu1 hu) (pv 2) (pe_callC c_told_by (hr.mono (by decide)) rfl (pa_cons (pv 5) pa_nil)) pe_bl rfl)
      (pss_one (ps_expr (pe_bmK (K := K) rfl PySem.F.plainAttrs_list PySem.F.slot_list_append PySem.F.type_list_append mt_append (pv 3) (pa_cons (pe_callC c_told_by (hr.mono (by decide)) rfl (pa_cons (pv 5) pa_nil)) pa_nil))))) pss_nil))))))
      (pss_one (ps_ret (pe_lc (own := [("place", 6)]) (g := gName 6) rfl sc_reached.nd (pi_listK (K := K) rfl (pe_callC c_heads (hr.mono (by decide)) rfl (pa_cons (pv 0) (pa_cons (pv 1) pa_nil)))) (blkOk_by (own := [("place", 6)]) (N := ["row", "used", "found", "waiting", "box", "word", "place"]) (sc := defScope s_reached) (by decide +kernel)) (fun _ _ _ _ _ => pg_name (i := 6) sc_reached.nd rfl (Or.inl rfl)) (fun _ _ _ _ _ => (pts_one (pt_cmpR (op_in_d1 (hu1 hu)) (pv 6) (pv 2) (by rfl)))) (fun _ _ _ _ _ => (pv 6)))))))), ?_⟩
    repeat walk_at "t_w"
    rename_i d hd w hw
    have ndw : d ≠ w := fun e => ne_of_upd hw e.symm
    have hHw : H w = none := none_of hw
    refine w_while (fun m σ' H' => ∃ (M W : List Nat) (kvs : List (Key × V)) (y4 y5 : Option V), m = 2 * (bs.length - M.length) + W.length ∧ m ≤ 2 * bs.length ∧ σ' = [some (.ref a), some (.int ((cells bs : Nat) : Int)), some (.ref d), some (.ref w), y4, y5, none] ∧ Ex H H' ∧
      H' d = some (.dK kvs) ∧ H' w = some (.lst ((asI (W.map (pl bs))).map V.int)) ∧ FoundD bs M kvs ∧ Marking bs M W) (2 * (bs.length - 1) + 1) ?_ ?_
    · exact ⟨[0], [0], _, none, none, rfl, by omega, rfl, by walk_at "t_ex", by rw [upd_ne ndw, upd_same], upd_same, FoundD.start hone, Marking.start hone⟩
    · rintro m σ' H' ⟨M, W, kvs, y4, y5, em, hmb, rfl, hE, hF, hW, hD, hM⟩
      have hMl := nodup_few hM.nd hM.lt
      repeat walk_at "t_w"
      rcases List.eq_nil_or_concat W with eW | ⟨W', c, eW⟩
      · subst eW
        refine w_ff rfl ?_
        repeat walk_at "t_w"
        refine w_lc ?_
        repeat walk_at "t_w"
        refine w_heads sp (by walk_at "t_sq") hro fun q H5 hq e5 hq5 => ?_
        repeat walk_at "t_w"
        obtain ⟨al, hal, eal⟩ := given_alive hM ((asI (places bs)).map V.int).length (by rw [List.length_map, asI_len, hpn])
        refine lcjL (xs := (asI (places bs)).map V.int) (Evl.Cw H5 (fun i => decide (i ∈ M)) (fun i => V.int ((pl bs i : Nat) : Int))) ?_ ?_ ?_ ?_
        · exact fun Dl hD => ⟨hD, Evl.Ex.new hD, upd_same⟩
        · exact fun Dl i H' _ p => SqL.of (p.2.1 _ _ hq5)
        · intro Dl i x H6 hDl hx p
          obtain ⟨j, hj, rfl⟩ := asI_get hx
          have hil := (List.getElem?_eq_some_iff.mp hj).1
          rw [hpn] at hil
          have ej : j = pl bs i := by
            rw [places_get hil] at hj
            exact (Option.some.inj hj).symm
          subst ej
          refine ⟨rfl, Evl.cw_turn p (by omega) ?_ ?_⟩
          · intro H7 e7 Q7 q7
            repeat walk_at "t_w"
            rw [hD.2 i hil]
            exact q7 _ (by walk_at "t_ex")
          · intro _
            walk_at "t_ev"
        · intro Dl H6 hDl p
          obtain ⟨p1, p2, p3⟩ := p
          rw [eal] at p3
          exact k al hal _ _ (by walk_at "t_none") (by walk_at "t_ex") p3
      · rw [List.concat_eq_append] at eW
        subst eW
        have hcM := hM.sub c (by simp)
        have hcl := hM.lt c hcM
        rw [List.length_append] at em
        simp only [List.length_singleton] at em
        have hbc : bs[c]? = some bs[c] := List.getElem?_eq_getElem hcl
        have e1 : (asI ((W' ++ [c]).map (pl bs))).map V.int = (asI (W'.map (pl bs))).map V.int ++ [V.int ((pl bs c : Nat) : Int)] := by
          rw [List.map_append, List.map_singleton, ← asI_snoc]
        rw [e1] at hW ⊢
        refine w_tt (by simp) ?_
        refine w_exN ?_
        repeat walk_at "t_w"
        refine w_pop (y := V.int ((pl bs c : Nat) : Int)) (by walk_at "t_hp") (by rw [List.length_append, List.getElem?_append_right (by simp)]; simp) ?_
        rw [List.dropLast_concat]
        repeat walk_at "t_w"
        refine w_fields sp bs[c] (by walk_at "t_sq") hro hbc fun lf H5 hlf e5 hlf5 => ?_
        have hM2 : Marking bs M (c :: W') := hM.same fun k => by simp [or_comm]
        have nlw : lf ≠ w := fun e => ne_of_upd hlf e
        have nld : lf ≠ d := fun e => by subst e; rw [upd_ne ndw] at hlf; rw [hF] at hlf; cases hlf
        have b1 : del (del H5 w) d lf = some (.lst ((bs[c].map (word (places bs))).map V.int)) := by rw [del_ne nld, del_ne nlw]; exact hlf5
        have bE : Ex H (del (del H5 w) d) := ex_del2 (ex_del2 (by walk_at "t_ex") hHw) hd
        have bd : del (del H5 w) d d = none := del_same
        have bw : del (del H5 w) d w = none := by rw [del_ne (Ne.symm ndw), del_same]
        have b5 : Ex (del (del H5 w) d) H5 := del_ex.trans del_ex
        have hF5 : H5 d = some (.dK kvs) := e5 _ _ (by rw [upd_ne ndw]; exact hF)
        have hW5 : H5 w = some (.lst ((asI (W'.map (pl bs))).map V.int)) := e5 _ _ upd_same
        clear hlf5 e5 hlf
        generalize del (del H5 w) d = B at b1 bE bd bw b5
        repeat walk_at "t_w"
        refine loopL (xs := (bs[c].map (word (places bs))).map V.int) (fun j σ' H' => ∃ (M' W2 : List Nat) (kvs' : List (Key × V)) (y5 : Option V), σ' = [some (.ref a), some (.int ((cells bs : Nat) : Int)), some (.ref d), some (.ref w), some (.int ((pl bs c : Nat) : Int)), y5, none] ∧ Ex B H' ∧
          H' d = some (.dK kvs') ∧ H' w = some (.lst ((asI (W2.map (pl bs))).map V.int)) ∧ FoundD bs M' kvs' ∧ Marking bs M' (c :: W2) ∧ (M'.length + W'.length = M.length + W2.length ∧ M.length ≤ M'.length) ∧ c ∈ M' ∧ ∀ q, Thing.box q ∈ (bs[c]).take j → q ∈ M') ?_ ?_ ?_ ?_
        · exact ⟨M, W', kvs, y5, rfl, b5, hF5, hW5, hD, hM2, ⟨rfl, Nat.le_refl _⟩, hcM, fun q hq => by simp at hq⟩
        · rintro j σ' H6 _ ⟨M', W2, kvs', y5, rfl, hE6, _⟩
          exact SqL.of (hE6 _ _ b1)
        · rintro j x σ' H6 hj ⟨M', W2, kvs', y5, rfl, hE6, hF6, hW6, hD6, hM6, hms, hcM6, hq6⟩
          rw [List.getElem?_map, List.getElem?_map] at hj
          cases ht : bs[c][j]? with
          | none => rw [ht] at hj; cases hj
          | some t =>
            rw [ht] at hj
            cases hj
            have hMl6 := nodup_few hM6.nd hM6.lt
            cases t with
            | num z =>
              repeat walk_at "t_w"
              refine w_neg (show ¬ (2 * z) % 2 = 1 by omega) ?_
              repeat walk_at "t_w"
              refine ⟨M', W2, kvs', _, rfl, by walk_at "t_ex", by walk_at "t_hp", by walk_at "t_hp", hD6, hM6, hms, hcM6, fun q hq => ?_⟩
              rw [take_snoc ht] at hq
              exact hq6 q (by simpa using hq)
            | box q =>
              have hql : q < bs.length := hro.ok _ (List.getElem_mem hcl) _ (List.mem_of_getElem? ht)
              have hwd : word (places bs) (.box q) = 2 * ((pl bs q : Nat) : Int) + 1 := by
                show 2 * (((places bs).getD q 0 : Nat) : Int) + 1 = _
                rw [places_getD hql]
              have hgt : (2 * ((pl bs q : Nat) : Int) + 1) / 2 = ((pl bs q : Nat) : Int) := by omega
              rw [hwd]
              repeat walk_at "t_w"
              refine w_pos (by omega) ?_
              repeat walk_at "t_w"
              rw [hgt, hD6.2 q hql]
              by_cases hqm : q ∈ M'
              · refine w_ff (by simp [hqm]) ?_
                repeat walk_at "t_w"
                refine ⟨M', W2, kvs', _, rfl, by walk_at "t_ex", by walk_at "t_hp", by walk_at "t_hp", hD6, hM6, hms, hcM6, fun q' hq' => ?_⟩
                rw [take_snoc ht] at hq'
                rcases List.mem_append.mp hq' with e | e
                · exact hq6 q' e
                · have : q' = q := by simpa using e
                  rw [this]; exact hqm
              · refine w_tt (by simp [hqm]) ?_
                have hz1 : kvs'.length < 1000000 := by have := hD6.1; omega
                have hjn := hM6.join (hM6.sub c (by simp)) ⟨_, hbc, List.mem_of_getElem? ht⟩ hql hqm
                have hjl := nodup_few hjn.nd hjn.lt
                simp only [List.length_append, List.length_singleton] at hjl
                have hz2 : ((asI (W2.map (pl bs))).map V.int).length < 1000000 := by rw [List.length_map, asI_len, List.length_map]; omega
                repeat walk_at "t_w"
                refine ⟨M' ++ [q], W2 ++ [q], putK kvs' (.inl ((pl bs q : Nat) : Int)) (.bl true), _, rfl, by walk_at "t_ex", ?_, ?_, hD6.join hql _, hjn, ⟨by rw [List.length_append, List.length_append]; simp; omega, by rw [List.length_append]; omega⟩, List.mem_append_left _ hcM6, fun q' hq' => ?_⟩
                · rw [← hgt]; walk_at "t_hp"
                · have hgt2 : gTold (2 * ((pl bs q : Nat) : Int) + 1) = .int ((pl bs q : Nat) : Int) := congrArg V.int hgt
                  rw [hgt2, upd_same, List.map_append, List.map_singleton, ← asI_snoc]
                · rw [take_snoc ht] at hq'
                  rcases List.mem_append.mp hq' with e | e
                  · exact List.mem_append_left _ (hq6 q' e)
                  · have : q' = q := by simpa using e
                    rw [this]; simp
        · rintro σ' H6 ⟨M', W2, kvs', y5, rfl, hE6, hF6, hW6, hD6, hM6, hms, hcM6, hq6⟩
          have hMl6 := nodup_few hM6.nd hM6.lt
          repeat walk_at "t_w"
          refine ⟨2 * (bs.length - M'.length) + W2.length, by omega, M', W2, kvs', _, _, rfl, by omega, rfl, by walk_at "t_ex", hF6, hW6, hD6, hM6.done fun q hq => ?_⟩
          obtain ⟨fs, hfs, hb⟩ := hq
          rw [hbc] at hfs
          cases hfs
          exact hq6 q (by rw [List.length_map, List.length_map, List.take_length]; exact hb)
end
end Tw

set_option Elab.async false
set_option linter.all false
set_option maxRecDepth 100000
set_option maxHeartbeats 4000000
namespace Tw
open PySem PySem.Spec PyProof.Rows L2
open Evl (Ex ex_l ex_t fresh_back sz_of sz_lt)
local macro_rules | `(tactic| walk_at "t_hp") => `(tactic| first
  | assumption
  | exact upd_same
  | (refine' hp_ne ?hne ?hrest; (case hne => walk_at "t_ne"); (case hrest => walk_at "t_hp"))
  | (refine' hp_ex ?hx ?hrest; (case hx => assumption); (case hrest => walk_at "t_hp")))
local macro_rules | `(tactic| walk_at "t_ne") => `(tactic| first
  | assumption
  | exact Ne.symm (by assumption)
  | (refine' ne_of_none ?h1 ?h2; (case h2 => assumption); (case h1 => walk_at "t_hp"))
  | (refine' Ne.symm (ne_of_none ?h1 ?h2); (case h2 => assumption); (case h1 => walk_at "t_hp")))
local macro_rules | `(tactic| walk_at "t_none") => `(tactic| first
  | assumption
  | (refine' fresh_back ?e ?n; (case n => assumption); (case e => walk_at "t_ex")))
local macro_rules | `(tactic| walk_at "t_ex") => `(tactic| first
  | assumption
  | exact Evl.Ex.refl _
  | (refine' ex_new ?n ?e; (case n => assumption); (case e => walk_at "t_ex"))
  | (refine' Evl.Ex.mut ?e ?n; (case n => walk_at "t_none"); (case e => walk_at "t_ex"))
  | (refine' Evl.Ex.trans ?a ?b; (case b => assumption); (case a => walk_at "t_ex")))
local macro_rules | `(tactic| walk_at "t_sq") => `(tactic| first
  | assumption
  | (refine' SqL.of ?h; (case h => walk_at "t_hp"))
  | (refine' ex_l ?e ?s; (case s => assumption); (case e => walk_at "t_ex")))
local macro_rules | `(tactic| walk_at "t_sqt") => `(tactic| first
  | assumption
  | (refine' SqT.of ?h; (case h => walk_at "t_hp"))
  | (refine' ex_t ?e ?s; (case s => assumption); (case e => walk_at "t_ex")))
local macro_rules | `(tactic| walk_at "t_mul") => `(tactic| first
  | assumption
  | exact Or.inl (Or.inl ⟨by decide, by decide⟩)
  | exact Or.inl (Or.inr ⟨by decide, by decide⟩)
  | exact Or.inl (Or.inl ⟨by omega, by omega⟩)
  | exact Or.inl (Or.inr ⟨by omega, by omega⟩))
local macro_rules | `(tactic| walk_at "t_c") => `(tactic| first
  | assumption
  | decide
  | (show (0 : Int) < _; decide)
  | (show (0 : Int) < _; omega)
  | exact ⟨by decide, by decide⟩
  | exact ⟨by decide, by decide, by decide⟩
  | exact ⟨by omega, by omega⟩
  | exact ⟨by omega, by omega, by omega, by omega⟩)
local macro_rules | `(tactic| walk_at "t_w") => `(tactic| first
  | (with_reducible refine w_seq ?_)
  | (with_reducible refine w_asg ?_)
  | (with_reducible refine w_gName ?_)
  | (with_reducible refine w_nx ?_)
  | (with_reducible refine w_rt ?_)
  | (with_reducible refine w_ct ?_)
  | (with_reducible refine w_bk ?_)
  | (with_reducible refine w_ret ?_)
  | (with_reducible refine w_retN ?_)
  | (with_reducible refine w_drop ?_)
  | (with_reducible refine w_ifS ?_)
  | (with_reducible refine w_next ?_)
  | (with_reducible refine w_break ?_)
  | (with_reducible refine w_cont ?_)
  | ((with_reducible refine' w_var ?h ?_); (case h => rfl))
  | (with_reducible refine w_c ?_)
  | (with_reducible refine w_op ?_)
  | (with_reducible refine w_un ?_)
  | (with_reducible refine w_I0 ?_)
  | ((with_reducible refine' w_I ?c ?_); (case c => walk_at "t_c"))
  | (with_reducible refine w_U ?_)
  | (with_reducible refine w_addI ?_)
  | ((with_reducible refine' w_addL ?h1 ?h2 ?hz ?_); (case h1 => walk_at "t_hp"); (case h2 => walk_at "t_hp"); (case hz => walk_at "t_z"))
  | ((with_reducible refine' w_mulI ?c ?_); (case c => walk_at "t_mul"))
  | ((with_reducible refine' w_mulL1 ?h1 ?b1 ?b2 ?_); (case h1 => walk_at "t_hp"); (case b1 => walk_at "t_z"); (case b2 => walk_at "t_z"))
  | ((with_reducible refine' w_mulL ?h1 ?b1 ?b2 ?hz ?_); (case h1 => walk_at "t_hp"); (case b1 => walk_at "t_z"); (case b2 => walk_at "t_z"); (case hz => walk_at "t_z"))
  | (with_reducible refine w_notIB ?_)
  | (with_reducible refine w_notBB ?_)
  | (with_reducible refine w_notN ?_)
  | (with_reducible refine w_isBB ?_)
  | (with_reducible refine w_isN ?_)
  | (with_reducible refine w_eqI ?_)
  | (with_reducible refine w_neI ?_)
  | (with_reducible refine w_eqB ?_)
  | (with_reducible refine w_neB ?_)
  | (with_reducible refine w_eqS ?_)
  | (with_reducible refine w_neS ?_)
  | (with_reducible refine w_test ?_)
  | (with_reducible refine w_B ?_)
  | (with_reducible refine w_exB ?_)
  | (with_reducible refine w_and ?_)
  | (with_reducible refine w_or ?_)
  | (with_reducible refine w_not ?_)
  | (with_reducible refine w_andV ?_)
  | (with_reducible refine w_orV ?_)
  | (with_reducible refine w_notV ?_)
  | (with_reducible refine w_bl ?_)
  | (with_reducible refine w_if ?_)
  | (with_reducible refine w_nil ?_)
  | (with_reducible refine w_cons ?_)
  | (with_reducible refine w_cb ?_)
  | (with_reducible refine w_call ?_)
  | (with_reducible refine w_tup ?_)
  | (with_reducible refine w_lst ?_)
  | ((with_reducible refine' w_fin ?hz ?_); (case hz => (simp only [List.length_cons, List.length_nil]; decide)))
  | ((with_reducible refine' w_len ?s ?_); (case s => walk_at "t_sq"))
  | ((with_reducible refine' w_lenT ?s ?_); (case s => walk_at "t_sqt"))
  | (with_reducible refine w_intI ?_)
  | (with_reducible refine w_intB ?_)
  | ((with_reducible refine' w_list ?s ?_); (case s => walk_at "t_sq"))
  | (with_reducible refine w_max ?_)
  | (with_reducible refine w_min ?_)
  | (with_reducible refine w_abs ?_)
  | (with_reducible refine w_sl ?_)
  | (with_reducible refine w_noPart ?_)
  | (with_reducible refine w_part ?_)
  | (with_reducible refine w_exI ?_)
  | ((with_reducible refine' w_slL ?s ?_); (case s => walk_at "t_sq"))
  | ((with_reducible refine' w_ixLI ?s ?b ?_); (case s => walk_at "t_sq"); (case b => walk_at "t_lt"))
  | ((with_reducible refine' w_ixL ?s ?e ?_); (case s => walk_at "t_sq"); (case e => walk_at "t_at"))
  | ((with_reducible refine' w_ixT ?s ?e ?_); (case s => walk_at "t_sqt"); (case e => walk_at "t_at"))
  | (with_reducible refine w_gSub ?_)
  | ((with_reducible refine' w_setLI ?e ?b ?_); (case e => walk_at "t_hp"); (case b => walk_at "t_lt"))
  | ((with_reducible refine' w_setL ?e ?b ?_); (case e => walk_at "t_hp"); (case b => walk_at "t_ixn"))
  | (with_reducible refine w_bm ?_)
  | (with_reducible refine w_bm0 ?_)
  | ((with_reducible refine' w_tyL ?e ?_); (case e => walk_at "t_sq"))
  | ((with_reducible refine' w_app ?e ?hz ?_); (case e => walk_at "t_hp"); (case hz => walk_at "t_z"))
  | (with_reducible refine w_iteT ?_)
  | (with_reducible refine w_iteF ?_)
  | (with_reducible refine w_iteNT ?_)
  | (with_reducible refine w_iteNF ?_)
  | (with_reducible refine w_for ?_)
  | (with_reducible refine w_iList ?_)
  | ((with_reducible refine' w_exL ?s ?_); (case s => walk_at "t_sq"))
  | (with_reducible refine w_iTup ?_)
  | ((with_reducible refine' w_exT ?s ?_); (case s => walk_at "t_sqt"))
  | (with_reducible refine w_iRng1 ?_)
  | ((with_reducible refine w_exR1 ?b ?_); (case b => walk_at "t_c"))
  | (with_reducible refine w_iRng2 ?_)
  | ((with_reducible refine w_exR2 ?b ?_); (case b => walk_at "t_c"))
  | (with_reducible refine w_yes ?_)
  | ((with_reducible refine w_pos ?p ?_); (case p => walk_at "t_p"))
  | ((with_reducible refine w_neg ?p ?_); (case p => walk_at "t_p"))
  | ((with_reducible refine w_posN ?p ?_); (case p => walk_at "t_p"))
  | ((with_reducible refine w_negN ?p ?_); (case p => walk_at "t_p"))
  | ((with_reducible refine' w_notInL ?s ?_); (case s => walk_at "t_sq"))
  | ((with_reducible refine' w_inL ?s ?_); (case s => walk_at "t_sq"))
  | ((with_reducible refine' w_sum ?s ?_); (case s => walk_at "t_sq"))
  | (with_reducible refine w_isiI ?_)
  | ((with_reducible refine' w_isiL ?e ?_); (case e => walk_at "t_ty"))
  | ((with_reducible refine' w_isiT ?e ?_); (case e => walk_at "t_ty"))
  | (with_reducible intro p hp_new))
local macro_rules | `(tactic| walk_at "t_ty") => `(tactic| first | assumption | (refine' tyx_l ?e; (case e => walk_at "t_hp")) | (refine' tyx_t ?e; (case e => walk_at "t_hp")))
local macro_rules | `(tactic| walk_at "t_z") => `(tactic| first | assumption | decide | omega | (simp only [List.length_cons, List.length_nil, List.length_map, List.length_append, List.length_replicate]; first | done | decide | omega))
local macro_rules | `(tactic| walk_at "t_at") => `(tactic| first | assumption | rfl)
local macro_rules | `(tactic| walk_at "t_ixn") => `(tactic| first | assumption | rfl)
local macro_rules | `(tactic| walk_at "t_ev") => `(tactic| (intro H1 e Q q; (repeat walk_at "t_w"); exact q _ (by walk_at "t_ex")))
local macro_rules | `(tactic| walk_at "t_p") => `(tactic| first | assumption | decide | decide +kernel)
local macro_rules | `(tactic| walk_at "t_lt") => `(tactic| first | assumption | omega | (simp only [List.length_set, List.length_map, List.length_append]; first | assumption | omega))
local macro_rules | `(tactic| walk_at "t_w") => `(tactic| first
  | ((with_reducible refine' w_at ?s ?hl ?h0 ?_); (case s => walk_at "t_sq"); (case hl => walk_at "t_z"); (case h0 => walk_at "t_z"))
  | (with_reducible refine w_isInt ?_)
  | (with_reducible refine w_I1 ?_)
  | (with_reducible refine w_Head ?_)
  | ((with_reducible refine' w_number ?hb ?_); (case hb => walk_at "t_bits")))
local macro_rules | `(tactic| walk_at "t_bits") => `(tactic| assumption)
abbrev s_law_pair : Stmt := topS 23
theorem sc_law_pair : FnScope ["_law_found", "_law_row_here", "_law_used"] ["_law_found", "_law_row_here", "_law_used"] (defScope s_law_pair) := ⟨rfl, rfl, rfl, by decide +kernel, rfl, by decide +kernel, by decide +kernel⟩

/-! ### pushed together -/
/-- a thing whose box is told by its turn among those that are left -/
def Thing.renum (al : List Nat) : Thing → Thing
  | .num n => .num n
  | .box k => .box (al.idxOf k)
/-- the boxes that are left, in their old order, numbered anew -/
def renum (al : List Nat) (bs : List (List Thing)) : List (List Thing) := al.map fun k => (bs.getD k []).map (Thing.renum al)
def rowPushed (al : List Nat) (bs : List (List Thing)) (sp : Nat) : List Int := rowAt (renum al bs) (cells bs + sp - cells (renum al bs))
theorem renum_len (al : List Nat) (bs : List (List Thing)) : (renum al bs).length = al.length := List.length_map ..
theorem renum_get {al : List Nat} {bs : List (List Thing)} {i k : Nat} (h : al[i]? = some k) : (renum al bs)[i]? = some ((bs.getD k []).map (Thing.renum al)) := by
  unfold renum; rw [List.getElem?_map, h]; rfl
/-- the boxes of rising places take no more cells than all -/
theorem cells_sub : ∀ (bs : List (List Thing)) (s : Nat) (al : List Nat), al.Pairwise (· < ·) → (∀ k ∈ al, s ≤ k ∧ k < s + bs.length) → (al.map fun k => 1 + (bs.getD (k - s) []).length).sum ≤ cells bs
  | [], s, [], _, _ => Nat.le_refl _
  | [], s, k :: al, _, h => by have := h k (List.mem_cons_self ..); simp at this; omega
  | fs :: bs, s, [], _, _ => Nat.zero_le _
  | fs :: bs, s, k :: al, hp, h => by
    have hk := h k (List.mem_cons_self ..)
    rw [List.pairwise_cons] at hp
    have key : ∀ (l : List Nat), l.Pairwise (· < ·) → (∀ j ∈ l, s + 1 ≤ j ∧ j < s + 1 + bs.length) → (l.map fun j => 1 + ((fs :: bs).getD (j - s) []).length).sum ≤ cells bs := by
      intro l hl hb
      have e : (l.map fun j => 1 + ((fs :: bs).getD (j - s) []).length) = l.map fun j => 1 + (bs.getD (j - (s + 1)) []).length := by
        refine List.map_congr_left fun j hj => ?_
        have := hb j hj
        rw [show j - s = (j - (s + 1)) + 1 by omega]
        rfl
      rw [e]
      exact cells_sub bs (s + 1) l hl hb
    rw [cells_cons]
    by_cases e : k = s
    · subst e
      rw [List.map_cons, List.sum_cons, Nat.sub_self]
      have := key al hp.2 fun j hj => by
        have h1 := hp.1 j hj
        have h2 := h j (List.mem_cons_of_mem _ hj)
        rw [List.length_cons] at h2
        omega
      show 1 + fs.length + _ ≤ _
      omega
    · have := key (k :: al) (List.pairwise_cons.mpr hp) fun j hj => by
        have h2 := h j hj
        rw [List.length_cons] at h2
        rcases List.mem_cons.mp hj with rfl | hj
        · omega
        · have := hp.1 j hj
          omega
      omega
theorem renum_cells (al : List Nat) (bs : List (List Thing)) : cells (renum al bs) = (al.map fun k => 1 + (bs.getD k []).length).sum := by
  unfold cells renum
  rw [List.map_map]
  congr 1
  exact List.map_congr_left fun k _ => by show 1 + ((bs.getD k []).map _).length = _; rw [List.length_map]
section
variable {bs : List (List Thing)} {sp : Nat} {al : List Nat}
theorem AliveOk.lt (ha : AliveOk bs al) (h : RowOk bs sp) : ∀ k ∈ al, k < bs.length := fun k hk => ((ha.mem k).mp hk).lt h
theorem AliveOk.nodup (ha : AliveOk bs al) : al.Nodup := ha.sorted.imp fun h => Nat.ne_of_lt h
theorem AliveOk.cells_le (ha : AliveOk bs al) (h : RowOk bs sp) : cells (renum al bs) ≤ cells bs := by
  rw [renum_cells]
  exact cells_sub bs 0 al ha.sorted fun k hk => ⟨Nat.zero_le _, by have := ha.lt h k hk; omega⟩
theorem idx_get (h : ∀ k, k ∈ al → True) {k : Nat} (hk : k ∈ al) : al[al.idxOf k]? = some k := by
  rw [List.getElem?_eq_getElem (List.idxOf_lt_length_iff.mpr hk)]
  exact congrArg some (List.getElem_idxOf (List.idxOf_lt_length_iff.mpr hk))
theorem idx_of_get (nd : al.Nodup) {i k : Nat} (h : al[i]? = some k) : al.idxOf k = i := by
  have hk := List.mem_of_getElem? h
  exact nd_ix nd (idx_get (fun _ _ => trivial) hk) h
theorem AliveOk.rowOk (ha : AliveOk bs al) (h : RowOk bs sp) : RowOk (renum al bs) (cells bs + sp - cells (renum al bs)) := by
  have hc := ha.cells_le h
  refine ⟨?_, by have := h.small; omega, ?_⟩
  · rw [renum_len]
    exact List.length_pos_iff.mpr fun e => by have := (ha.mem 0).mpr .door; rw [e] at this; cases this
  · intro fs hfs t ht
    obtain ⟨k, hk, rfl⟩ := List.mem_map.mp hfs
    obtain ⟨u, hu, rfl⟩ := List.mem_map.mp ht
    have hkl := ha.lt h k hk
    have e : bs[k]? = some (bs.getD k []) := by rw [List.getD_eq_getElem?_getD, List.getElem?_eq_getElem hkl]; rfl
    have ho := h.ok _ (List.mem_of_getElem? e) u hu
    rw [renum_len]
    cases u with
    | num n => exact ho
    | box j => exact List.idxOf_lt_length_iff.mpr ((ha.mem j).mpr (.step ((ha.mem k).mp hk) ⟨_, e, hu⟩))
/-- the door stays the first -/
theorem AliveOk.zero (ha : AliveOk bs al) : al[0]? = some 0 := by
  have h0 := (ha.mem 0).mpr .door
  cases al with
  | nil => cases h0
  | cons a r =>
    rcases List.mem_cons.mp h0 with e | e
    · subst e; rfl
    · have := (List.pairwise_cons.mp ha.sorted).1 0 e; omega
/-- those that are left can all be come to -/
theorem AliveOk.reach (ha : AliveOk bs al) (h : RowOk bs sp) {k : Nat} (r : Reach bs k) : Reach (renum al bs) (al.idxOf k) := by
  induction r with
  | door => rw [idx_of_get ha.nodup ha.zero]; exact .door
  | @step i k r e ih =>
    refine .step ih ?_
    obtain ⟨fs, hf, ht⟩ := e
    refine ⟨_, renum_get (idx_get (fun _ _ => trivial) ((ha.mem i).mpr r)), ?_⟩
    have e : bs.getD i [] = fs := by rw [List.getD_eq_getElem?_getD, hf]; rfl
    rw [e]
    exact List.mem_map.mpr ⟨_, ht, rfl⟩
theorem AliveOk.again (ha : AliveOk bs al) (h : RowOk bs sp) : AliveOk (renum al bs) (List.range al.length) := by
  refine ⟨List.pairwise_lt_range, fun i => ⟨fun hi => ?_, fun r => ?_⟩⟩
  · have hi := List.mem_range.mp hi
    have e := List.getElem?_eq_getElem hi
    have := ha.reach h ((ha.mem _).mp (List.getElem_mem hi))
    rw [idx_of_get ha.nodup e] at this
    exact this
  · have := r.lt (ha.rowOk h)
    rw [renum_len] at this
    exact List.mem_range.mpr this
theorem AliveOk.uniq {al' : List Nat} (a : AliveOk bs al) (b : AliveOk bs al') : al = al' := by
  have hp : al.Perm al' := (List.perm_ext_iff_of_nodup a.nodup b.nodup).mpr fun k => (a.mem k).trans (b.mem k).symm
  exact hp.eq_of_pairwise (le := (· < ·)) (fun x y _ _ h1 h2 => by omega) a.sorted b.sorted
/-- numbered anew where all are left: the same -/
theorem renum_range (h : ∀ fs ∈ bs, ∀ t ∈ fs, t.ok bs.length) : renum (List.range bs.length) bs = bs := by
  apply List.ext_getElem?
  intro i
  by_cases hi : i < bs.length
  · rw [renum_get (k := i) (by rw [List.getElem?_eq_getElem (by simpa using hi), List.getElem_range])]
    have e : bs.getD i [] = bs[i] := by rw [List.getD_eq_getElem?_getD, List.getElem?_eq_getElem hi]; rfl
    rw [e, List.getElem?_eq_getElem hi]
    congr 1
    refine (List.map_congr_left fun t ht => ?_).trans (List.map_id _)
    cases t with
    | num n => rfl
    | box k =>
      have hk : k < bs.length := h _ (List.getElem_mem hi) _ ht
      show Thing.box ((List.range bs.length).idxOf k) = Thing.box k
      rw [idx_of_get List.nodup_range (i := k) (by rw [List.getElem?_eq_getElem (by simpa using hk), List.getElem_range])]
  · rw [List.getElem?_eq_none (by rw [renum_len, List.length_range]; omega), List.getElem?_eq_none (by omega)]
end
theorem asI_set (gs : List Nat) (k m : Nat) : (asI gs).set k ((m : Nat) : Int) = asI (gs.set k m) := by
  unfold asI; rw [List.map_set]
theorem asI_rep (n : Nat) : List.replicate n (V.int 0) = (asI (List.replicate n 0)).map V.int := by
  unfold asI; rw [List.map_replicate, List.map_replicate]; rfl
theorem flatMap_cg {α β : Type} {f g : α → List β} : ∀ {l : List α}, (∀ a ∈ l, f a = g a) → l.flatMap f = l.flatMap g
  | [], _ => rfl
  | a :: l, h => by
    rw [List.flatMap_cons, List.flatMap_cons, h a (List.mem_cons_self ..), flatMap_cg fun x hx => h x (List.mem_cons_of_mem _ hx)]
/-- the boxes as they were, in the row's words by goals that lead where they stand behind it -/
theorem row_renum {bs : List (List Thing)} {al gs : List Nat} (hc : ∀ k ∈ al, ∀ j, Thing.box j ∈ bs.getD k [] → j ∈ al) (hg : ∀ k ∈ al, gs.getD k 0 = pl (renum al bs) (al.idxOf k)) : rowOf gs (al.map fun k => bs.getD k []) = rowOf (places (renum al bs)) (renum al bs) := by
  unfold rowOf
  conv => rhs; arg 2; unfold renum
  rw [List.flatMap_map, List.flatMap_map]
  refine flatMap_cg fun k hk => ?_
  unfold boxRow
  rw [List.length_map, List.map_map]
  congr 1
  refine List.map_congr_left fun t ht => ?_
  cases t with
  | num n => rfl
  | box j =>
    have hj := hc k hk j ht
    show 2 * ((gs.getD j 0 : Nat) : Int) + 1 = 2 * (((places (renum al bs)).getD (al.idxOf j) 0 : Nat) : Int) + 1
    rw [hg j hj, places_getD (by rw [renum_len]; exact List.idxOf_lt_length_iff.mpr hj)]
def spPushed (K : PySem.W.Frag) : Sp := fun vs H Q _ => ∃ (a : Addr) (bs : List (List Thing)) (sp : Nat), vs = [.ref a, .int ((cells bs : Nat) : Int)] ∧ SqL K H a ((rowAt bs sp).map V.int) ∧ RowOk bs sp ∧
  ∀ al, AliveOk bs al → ∀ p q H2, H p = none → H q = none → Ex H H2 → H2 p = some (.lst ((rowPushed al bs sp).map V.int)) → H2 q = some (.tup [.ref p, .int ((cells (renum al bs) : Nat) : Int)]) → Q (.ref q) H2
theorem w_pushed {K : PySem.W.Frag} {H : Hp} {Q : VK} {E : XK} {a : Addr} {bs : List (List Thing)} (sp : Nat) (s : SqL K H a ((rowAt bs sp).map V.int)) (r : RowOk bs sp)
    (k : ∀ al, AliveOk bs al → ∀ p q H2, H p = none → H q = none → Ex H H2 → H2 p = some (.lst ((rowPushed al bs sp).map V.int)) → H2 q = some (.tup [.ref p, .int ((cells (renum al bs) : Nat) : Int)]) → Q (.ref q) H2) : spPushed K ([.ref a, .int ((cells bs : Nat) : Int)] ++ []) H Q E := ⟨a, bs, sp, rfl, s, r, k⟩
def spPair (K : PySem.W.Frag) : Sp := fun vs H Q _ => ∃ (q p b : Addr) (u : Int) (xs : List Int), vs = [.ref q, .ref b, .int u] ∧ H q = some (.tup [.ref p, .int u]) ∧ H p = some (.lst (xs.map V.int)) ∧ SqL K H b (xs.map V.int) ∧ xs.length ≤ 1000 ∧ Evl.RetV (.bl true) H Q
theorem w_pair {K : PySem.W.Frag} {H : Hp} {Q : VK} {E : XK} {q p b : Addr} {u : Int} (xs : List Int) (e1 : H q = some (.tup [.ref p, .int u])) (e2 : H p = some (.lst (xs.map V.int))) (e3 : SqL K H b (xs.map V.int)) (hl : xs.length ≤ 1000) (k : ∀ H2, Ex H H2 → Q (.bl true) H2) : spPair K ([.ref q, .ref b, .int u] ++ []) H Q E := ⟨q, p, b, u, xs, rfl, e1, e2, e3, hl, k⟩
section
variable {P : Program} {w : World} {K : PySem.W.Frag} {mg : Str → Option Value} {base : Heap}
theorem c_law_pair (T : Txt K mg) (D : DefAt K mg "_law_pair" "_law_pair" s_law_pair) (c_law_is_int : Cal P w K mg base "_law_is_int" 1 ["_law_value"] spIsInt) (c_law_words_are : Cal P w K mg base "_law_words_are" 2 ["_law_found", "_law_due"] (spWordsAre K)) : Cal P w K mg base "_law_pair" 3 ["_law_found", "_law_row_here", "_law_used"] (spPair K) := by
  refine Cal.of D sc_law_pair (fun vs H Q E h => ?_) (fun _ _ _ _ _ _ us hl => match us, hl with | [_, _, _], _ => rfl) (fun f cdv A outer s H vs Q E hr h => ?_)
  · obtain ⟨q, p, b, u, xs, rfl, _⟩ := h; rfl
  · obtain ⟨q, p, b, u, xs, rfl, hq, hp, hb, hl, k⟩ := h
    have hu : _ + 64 < cLine := hr.units
    refine ⟨_, (pss_cons (ps_if (PW.pt (pw_or (pt_not (pt_val (pe_callB (call_isiK' (K := K) rfl) (by rfl) T.b_isinstance (by decide +kernel) (pa_cons (pv 0) (pa_cons (pe_bltn (v := .ty "tuple") (by rfl) T.b_tuple (by decide +kernel) rfl) pa_nil))))) (pw_or (pt_cmpR (op_neK (K := K) rfl hu) (pe_callB (call_lenK (K := K) rfl) (by rfl) T.b_len (by decide +kernel) (pa_cons (pv 0) pa_nil)) pe_int (nomark _)) (pw_or1 (pt_not (pt_val (pe_callC c_law_is_int (hr.mono (by decide)) rfl (pa_cons (pe_ix (ix_seqK (K := K) rfl) (pv 0) pe_int (fun _ _ => rfl)) pa_nil)))))))) (pss_one (ps_ret pe_bl)) pss_nil)
      (pss_one (ps_ret (pe_and (pe_cmpR (op_eqK (K := K) rfl hu) (pe_ix (ix_seqK (K := K) rfl) (pv 0) pe_int (fun _ _ => rfl)) (pv 2) (nomark _)) (pe_one (pe_callC c_law_words_are (hr.mono (by decide)) rfl (pa_cons (pe_ix (ix_seqK (K := K) rfl) (pv 0) pe_int (fun _ _ => rfl)) (pa_cons (pv 1) pa_nil)))))))), ?_⟩
    repeat walk_at "t_w"
    refine w_negN rfl ?_
    repeat walk_at "t_w"
    rw [decide_eq_true rfl]
    repeat walk_at "t_w"
    refine w_words2 xs (by walk_at "t_hp") (by walk_at "t_sq") rfl rfl hl fun H2 e2 => ?_
    repeat walk_at "t_w"
    exact k _ (by walk_at "t_ex")
end
end Tw

set_option Elab.async false
set_option linter.all false
set_option maxRecDepth 100000
set_option maxHeartbeats 4000000
namespace Tw
open PySem PySem.Spec PyProof.Rows L2
open Evl (Ex ex_l ex_t fresh_back sz_of sz_lt)
local macro_rules | `(tactic| walk_at "t_hp") => `(tactic| first
  | assumption
  | exact upd_same
  | (refine' hp_ne ?hne ?hrest; (case hne => walk_at "t_ne"); (case hrest => walk_at "t_hp"))
  | (refine' hp_ex ?hx ?hrest; (case hx => assumption); (case hrest => walk_at "t_hp")))
local macro_rules | `(tactic| walk_at "t_ne") => `(tactic| first
  | assumption
  | exact Ne.symm (by assumption)
  | (refine' ne_of_none ?h1 ?h2; (case h2 => assumption); (case h1 => walk_at "t_hp"))
  | (refine' Ne.symm (ne_of_none ?h1 ?h2); (case h2 => assumption); (case h1 => walk_at "t_hp")))
local macro_rules | `(tactic| walk_at "t_none") => `(tactic| first
  | assumption
  | (refine' fresh_back ?e ?n; (case n => assumption); (case e => walk_at "t_ex")))
local macro_rules | `(tactic| walk_at "t_ex") => `(tactic| first
  | assumption
  | exact Evl.Ex.refl _
  | (refine' ex_new ?n ?e; (case n => assumption); (case e => walk_at "t_ex"))
  | (refine' Evl.Ex.mut ?e ?n; (case n => walk_at "t_none"); (case e => walk_at "t_ex"))
  | (refine' Evl.Ex.trans ?a ?b; (case b => assumption); (case a => walk_at "t_ex")))
local macro_rules | `(tactic| walk_at "t_sq") => `(tactic| first
  | assumption
  | (refine' SqL.of ?h; (case h => walk_at "t_hp"))
  | (refine' ex_l ?e ?s; (case s => assumption); (case e => walk_at "t_ex")))
local macro_rules | `(tactic| walk_at "t_sqt") => `(tactic| first
  | assumption
  | (refine' SqT.of ?h; (case h => walk_at "t_hp"))
  | (refine' ex_t ?e ?s; (case s => assumption); (case e => walk_at "t_ex")))
local macro_rules | `(tactic| walk_at "t_mul") => `(tactic| first
  | assumption
  | exact Or.inl (Or.inl ⟨by decide, by decide⟩)
  | exact Or.inl (Or.inr ⟨by decide, by decide⟩)
  | exact Or.inl (Or.inl ⟨by omega, by omega⟩)
  | exact Or.inl (Or.inr ⟨by omega, by omega⟩))
local macro_rules | `(tactic| walk_at "t_c") => `(tactic| first
  | assumption
  | decide
  | (show (0 : Int) < _; decide)
  | (show (0 : Int) < _; omega)
  | exact ⟨by decide, by decide⟩
  | exact ⟨by decide, by decide, by decide⟩
  | exact ⟨by omega, by omega⟩
  | exact ⟨by omega, by omega, by omega, by omega⟩)
local macro_rules | `(tactic| walk_at "t_w") => `(tactic| first
  | (with_reducible refine w_seq ?_)
  | (with_reducible refine w_asg ?_)
  | (with_reducible refine w_gName ?_)
  | (with_reducible refine w_nx ?_)
  | (with_reducible refine w_rt ?_)
  | (with_reducible refine w_ct ?_)
  | (with_reducible refine w_bk ?_)
  | (with_reducible refine w_ret ?_)
  | (with_reducible refine w_retN ?_)
  | (with_reducible refine w_drop ?_)
  | (with_reducible refine w_ifS ?_)
  | (with_reducible refine w_next ?_)
  | (with_reducible refine w_break ?_)
  | (with_reducible refine w_cont ?_)
  | ((with_reducible refine' w_var ?h ?_); (case h => rfl))
  | (with_reducible refine w_c ?_)
  | (with_reducible refine w_op ?_)
  | (with_reducible refine w_un ?_)
  | (with_reducible refine w_I0 ?_)
  | ((with_reducible refine' w_I ?c ?_); (case c => walk_at "t_c"))
  | (with_reducible refine w_U ?_)
  | (with_reducible refine w_addI ?_)
  | ((with_reducible refine' w_addL ?h1 ?h2 ?hz ?_); (case h1 => walk_at "t_hp"); (case h2 => walk_at "t_hp"); (case hz => walk_at "t_z"))
  | ((with_reducible refine' w_mulI ?c ?_); (case c => walk_at "t_mul"))
  | ((with_reducible refine' w_mulL1 ?h1 ?b1 ?b2 ?_); (case h1 => walk_at "t_hp"); (case b1 => walk_at "t_z"); (case b2 => walk_at "t_z"))
  | ((with_reducible refine' w_mulL ?h1 ?b1 ?b2 ?hz ?_); (case h1 => walk_at "t_hp"); (case b1 => walk_at "t_z"); (case b2 => walk_at "t_z"); (case hz => walk_at "t_z"))
  | (with_reducible refine w_notIB ?_)
  | (with_reducible refine w_notBB ?_)
  | (with_reducible refine w_notN ?_)
  | (with_reducible refine w_isBB ?_)
  | (with_reducible refine w_isN ?_)
  | (with_reducible refine w_eqI ?_)
  | (with_reducible refine w_neI ?_)
  | (with_reducible refine w_eqB ?_)
  | (with_reducible refine w_neB ?_)
  | (with_reducible refine w_eqS ?_)
  | (with_reducible refine w_neS ?_)
  | (with_reducible refine w_test ?_)
  | (with_reducible refine w_B ?_)
  | (with_reducible refine w_exB ?_)
  | (with_reducible refine w_and ?_)
  | (with_reducible refine w_or ?_)
  | (with_reducible refine w_not ?_)
  | (with_reducible refine w_andV ?_)
  | (with_reducible refine w_orV ?_)
  | (with_reducible refine w_notV ?_)
  | (with_reducible refine w_bl ?_)
  | (with_reducible refine w_if ?_)
  | (with_reducible refine w_nil ?_)
  | (with_reducible refine w_cons ?_)
  | (with_reducible refine w_cb ?_)
  | (with_reducible refine w_call ?_)
  | (with_reducible refine w_tup ?_)
  | (with_reducible refine w_lst ?_)
  | ((with_reducible refine' w_fin ?hz ?_); (case hz => (simp only [List.length_cons, List.length_nil]; decide)))
  | ((with_reducible refine' w_len ?s ?_); (case s => walk_at "t_sq"))
  | ((with_reducible refine' w_lenT ?s ?_); (case s => walk_at "t_sqt"))
  | (with_reducible refine w_intI ?_)
  | (with_reducible refine w_intB ?_)
  | ((with_reducible refine' w_list ?s ?_); (case s => walk_at "t_sq"))
  | (with_reducible refine w_max ?_)
  | (with_reducible refine w_min ?_)
  | (with_reducible refine w_abs ?_)
  | (with_reducible refine w_sl ?_)
  | (with_reducible refine w_noPart ?_)
  | (with_reducible refine w_part ?_)
  | (with_reducible refine w_exI ?_)
  | ((with_reducible refine' w_slL ?s ?_); (case s => walk_at "t_sq"))
  | ((with_reducible refine' w_ixLI ?s ?b ?_); (case s => walk_at "t_sq"); (case b => walk_at "t_lt"))
  | ((with_reducible refine' w_ixL ?s ?e ?_); (case s => walk_at "t_sq"); (case e => walk_at "t_at"))
  | ((with_reducible refine' w_ixT ?s ?e ?_); (case s => walk_at "t_sqt"); (case e => walk_at "t_at"))
  | (with_reducible refine w_gSub ?_)
  | ((with_reducible refine' w_setLI ?e ?b ?_); (case e => walk_at "t_hp"); (case b => walk_at "t_lt"))
  | ((with_reducible refine' w_setL ?e ?b ?_); (case e => walk_at "t_hp"); (case b => walk_at "t_ixn"))
  | (with_reducible refine w_bm ?_)
  | (with_reducible refine w_bm0 ?_)
  | ((with_reducible refine' w_tyL ?e ?_); (case e => walk_at "t_sq"))
  | ((with_reducible refine' w_app ?e ?hz ?_); (case e => walk_at "t_hp"); (case hz => walk_at "t_z"))
  | (with_reducible refine w_iteT ?_)
  | (with_reducible refine w_iteF ?_)
  | (with_reducible refine w_iteNT ?_)
  | (with_reducible refine w_iteNF ?_)
  | (with_reducible refine w_for ?_)
  | (with_reducible refine w_iList ?_)
  | ((with_reducible refine' w_exL ?s ?_); (case s => walk_at "t_sq"))
  | (with_reducible refine w_iTup ?_)
  | ((with_reducible refine' w_exT ?s ?_); (case s => walk_at "t_sqt"))
  | (with_reducible refine w_iRng1 ?_)
  | ((with_reducible refine w_exR1 ?b ?_); (case b => walk_at "t_c"))
  | (with_reducible refine w_iRng2 ?_)
  | ((with_reducible refine w_exR2 ?b ?_); (case b => walk_at "t_c"))
  | (with_reducible refine w_yes ?_)
  | ((with_reducible refine w_pos ?p ?_); (case p => walk_at "t_p"))
  | ((with_reducible refine w_neg ?p ?_); (case p => walk_at "t_p"))
  | ((with_reducible refine w_posN ?p ?_); (case p => walk_at "t_p"))
  | ((with_reducible refine w_negN ?p ?_); (case p => walk_at "t_p"))
  | ((with_reducible refine' w_notInL ?s ?_); (case s => walk_at "t_sq"))
  | ((with_reducible refine' w_inL ?s ?_); (case s => walk_at "t_sq"))
  | ((with_reducible refine' w_sum ?s ?_); (case s => walk_at "t_sq"))
  | (with_reducible refine w_isiI ?_)
  | ((with_reducible refine' w_isiL ?e ?_); (case e => walk_at "t_ty"))
  | ((with_reducible refine' w_isiT ?e ?_); (case e => walk_at "t_ty"))
  | (with_reducible intro p hp_new))
local macro_rules | `(tactic| walk_at "t_ty") => `(tactic| first | assumption | (refine' tyx_l ?e; (case e => walk_at "t_hp")) | (refine' tyx_t ?e; (case e => walk_at "t_hp")))
local macro_rules | `(tactic| walk_at "t_z") => `(tactic| first | assumption | decide | omega | (simp only [List.length_cons, List.length_nil, List.length_map, List.length_append, List.length_replicate]; first | done | decide | omega))
local macro_rules | `(tactic| walk_at "t_at") => `(tactic| first | assumption | rfl)
local macro_rules | `(tactic| walk_at "t_ixn") => `(tactic| first | assumption | rfl)
local macro_rules | `(tactic| walk_at "t_ev") => `(tactic| (intro H1 e Q q; (repeat walk_at "t_w"); exact q _ (by walk_at "t_ex")))
local macro_rules | `(tactic| walk_at "t_p") => `(tactic| first | assumption | decide | decide +kernel)
local macro_rules | `(tactic| walk_at "t_lt") => `(tactic| first | assumption | omega | (simp only [List.length_set, List.length_map, List.length_append]; first | assumption | omega))
local macro_rules | `(tactic| walk_at "t_w") => `(tactic| first
  | ((with_reducible refine' w_at ?s ?hl ?h0 ?_); (case s => walk_at "t_sq"); (case hl => walk_at "t_z"); (case h0 => walk_at "t_z"))
  | (with_reducible refine w_isInt ?_)
  | (with_reducible refine w_I1 ?_)
  | (with_reducible refine w_Head ?_)
  | ((with_reducible refine' w_number ?hb ?_); (case hb => walk_at "t_bits")))
local macro_rules | `(tactic| walk_at "t_bits") => `(tactic| assumption)
local macro_rules | `(tactic| walk_at "t_w") => `(tactic| first
  | (with_reducible refine w_tru ?_)
  | ((with_reducible refine' w_truL ?s ?_); (case s => walk_at "t_sq"))
  | (with_reducible refine w_dnew ?_)
  | (with_reducible refine w_disp1 ?_)
  | ((with_reducible refine' w_aug ?e ?_); (case e => rfl))
  | (with_reducible refine w_ipI ?_)
  | ((with_reducible refine' w_inD ?e ?_); (case e => walk_at "t_hp"))
  | ((with_reducible refine' w_notInD ?e ?_); (case e => walk_at "t_hp"))
  | (with_reducible refine w_dget ?_)
  | ((with_reducible refine' w_dgetE ?e ?hv ?_); (case e => walk_at "t_hp"); (case hv => walk_at "t_dv"))
  | (with_reducible refine w_dput ?_)
  | ((with_reducible refine' w_dputE ?e ?hl ?_); (case e => walk_at "t_hp"); (case hl => walk_at "t_z"))
  | ((with_reducible refine' w_extend ?e1 ?e2 ?hz ?_); (case e1 => walk_at "t_hp"); (case e2 => walk_at "t_hp"); (case hz => walk_at "t_z")))
local macro_rules | `(tactic| walk_at "t_dv") => `(tactic| assumption)
abbrev s_places_behind : Stmt := topS 10
theorem sc_places_behind : FnScope ["row", "kept", "places", "free", "place"] ["row", "kept"] (defScope s_places_behind) := ⟨rfl, rfl, rfl, by decide +kernel, rfl, by decide +kernel, by decide +kernel⟩

abbrev s_moved : Stmt := topS 11
theorem sc_moved : FnScope ["word", "places"] ["word", "places"] (defScope s_moved) := ⟨rfl, rfl, rfl, by decide +kernel, rfl, by decide +kernel, by decide +kernel⟩

abbrev s_pushed : Stmt := topS 12
theorem sc_pushed : FnScope ["row", "used", "kept", "places", "cells", "place", "word", "many"] ["row", "used"] (defScope s_pushed) := ⟨rfl, rfl, rfl, by decide +kernel, rfl, by decide +kernel, by decide +kernel⟩

/-- the dict of where the boxes that are left stand -/
def GoesD (bs : List (List Thing)) (al : List Nat) (n : Nat) (kvs : List (Key × V)) : Prop := kvs.length ≤ n ∧ ∀ i k : Nat, i < n → al[i]? = some k → valV kvs (.inl ((pl bs k : Nat) : Int)) = some (.int ((pl (renum al bs) i : Nat) : Int))
def spBehind (K : PySem.W.Frag) : Sp := fun vs H Q _ => ∃ (a l : Addr) (bs : List (List Thing)) (sp : Nat) (al : List Nat), vs = [.ref a, .ref l] ∧ SqL K H a ((rowAt bs sp).map V.int) ∧ SqL K H l ((asI (al.map (pl bs))).map V.int) ∧ RowOk bs sp ∧ AliveOk bs al ∧
  ∀ kvs, GoesD bs al al.length kvs → ∀ p H2, H p = none → Ex H H2 → H2 p = some (.dK kvs) → Q (.ref p) H2
theorem w_behind {K : PySem.W.Frag} {H : Hp} {Q : VK} {E : XK} {a l : Addr} {bs : List (List Thing)} {al : List Nat} (sp : Nat) (s : SqL K H a ((rowAt bs sp).map V.int)) (s2 : SqL K H l ((asI (al.map (pl bs))).map V.int)) (r : RowOk bs sp) (ha : AliveOk bs al)
    (k : ∀ kvs, GoesD bs al al.length kvs → ∀ p H2, H p = none → Ex H H2 → H2 p = some (.dK kvs) → Q (.ref p) H2) : spBehind K ([.ref a, .ref l] ++ []) H Q E := ⟨a, l, bs, sp, al, rfl, s, s2, r, ha, k⟩
def spMoved : Sp := fun vs H Q _ => ∃ (x z : Int) (d : Addr) (kvs : List (Key × V)), vs = [.int x, .ref d] ∧ H d = some (.dK kvs) ∧ ((x % 2 ≠ 1 ∧ z = x) ∨ (x % 2 = 1 ∧ ∃ q, valV kvs (.inl (x / 2)) = some (.int q) ∧ z = 2 * q + 1)) ∧ Evl.RetV (.int z) H Q
theorem w_moved {H : Hp} {Q : VK} {E : XK} {x : Int} {d : Addr} {kvs : List (Key × V)} (z : Int) (e : H d = some (.dK kvs)) (c : (x % 2 ≠ 1 ∧ z = x) ∨ (x % 2 = 1 ∧ ∃ q, valV kvs (.inl (x / 2)) = some (.int q) ∧ z = 2 * q + 1)) (k : ∀ H2, Ex H H2 → Q (.int z) H2) : spMoved ([.int x, .ref d] ++ []) H Q E := ⟨x, z, d, kvs, rfl, e, c, k⟩
section
variable {P : Program} {w : World} {K : PySem.W.Frag} {mg : Str → Option Value} {base : Heap}
theorem c_places_behind (T : Txt K mg) (D : DefAt K mg "places_behind" "places_behind" s_places_behind) (c_fields_of : Cal P w K mg base "fields_of" 1 ["head"] (spI1 gFields)) : Cal P w K mg base "places_behind" 2 ["row", "kept"] (spBehind K) := by
  refine Cal.of D sc_places_behind (fun vs H Q E h => ?_) (fun _ _ _ _ _ _ us hl => match us, hl with | [_, _], _ => rfl) (fun f cdv A outer s H vs Q E hr h => ?_)
  · obtain ⟨a, l, bs, sp, al, rfl, _⟩ := h; rfl
  · obtain ⟨a, l, bs, sp, al, rfl, hS, hL, hro, hal, k⟩ := h
    have hu : _ + 64 < cLine := hr.units
    have hlr := rowAt_len bs sp
    have hfew := hro.few
    have hall := hal.lt hro
    have hnd := hal.nodup
    have hal4 : al.length ≤ bs.length := nodup_few hnd hall
    refine ⟨_, (pss_cons (ps_set (i := 2) sc_places_behind.nd rfl (Or.inl rfl) pe_dnewK)
      (pss_cons (ps_set (i := 3) sc_places_behind.nd rfl (Or.inl rfl) pe_int)
      (pss_cons (ps_for PassesOwn.never rfl (pi_listK (K := K) rfl (pv 1)) (pg_name (i := 4) sc_places_behind.nd rfl (Or.inl rfl)) (pss_cons (ps_dput (hu1 hu) (pv 2) (pv 4) (pv 3) rfl)
      (pss_one (ps_aug (i := 3) sc_places_behind.nd rfl (Or.inl rfl) (pe_op op_addA (pe_callC c_fields_of (hr.mono (by decide)) rfl (pa_cons (pe_ix (ix_seqK (K := K) rfl) (pv 0) (pv 4) (fun _ _ => rfl)) pa_nil)) pe_int) ip_add))))
      (pss_one (ps_ret (pv 2)))))), ?_⟩
    repeat walk_at "t_w"
    rename_i d hd
    refine loopL (xs := (asI (al.map (pl bs))).map V.int) (fun j σ' H' => ∃ (kvs : List (Key × V)) (y : Option V), σ' = [some (.ref a), some (.ref l), some (.ref d), some (.int ((pl (renum al bs) j : Nat) : Int)), y] ∧ Ex H H' ∧ H' d = some (.dK kvs) ∧ GoesD bs al j kvs) ?_ ?_ ?_ ?_
    · exact ⟨[], none, rfl, by walk_at "t_ex", upd_same, Nat.le_refl _, fun i k hi => absurd hi (Nat.not_lt_zero _)⟩
    · rintro j σ' H' _ ⟨kvs, y, rfl, hE, _⟩
      exact ex_l hE hL
    · rintro j x σ' H' hj ⟨kvs, y, rfl, hE, hY, hD⟩
      obtain ⟨p, hp, rfl⟩ := asI_get hj
      rw [List.getElem?_map] at hp
      cases hk : al[j]? with
      | none => rw [hk] at hp; cases hp
      | some k' =>
        rw [hk] at hp
        cases hp
        have hkl := hall k' (List.mem_of_getElem? hk)
        have hjl := (List.getElem?_eq_some_iff.mp hk).1
        have hbk : bs[k']? = some bs[k'] := List.getElem?_eq_getElem hkl
        have hbd : bs.getD k' [] = bs[k'] := by rw [List.getD_eq_getElem?_getD, hbk]; rfl
        have hpl := pl_lt hkl (Nat.le_refl _)
        rw [pl_all] at hpl
        have hpr : pl bs k' < (rowAt bs sp).length := by omega
        have hz1 : kvs.length < 1000000 := by have := hD.1; omega
        repeat walk_at "t_w"
        have em : ((pl (renum al bs) j : Nat) : Int) + ((rowAt bs sp).getD (pl bs k') 0 / 4 + 1) = ((pl (renum al bs) (j + 1) : Nat) : Int) := by
          unfold pl
          rw [cells_take (renum_get hk), List.length_map, hbd]
          have := rowAt_head (sp := sp) hbk
          unfold pl at this
          rw [this]; omega
        refine ⟨_, _, by rw [← em]; rfl, by walk_at "t_ex", by walk_at "t_hp", ?_, ?_⟩
        · have h1 := length_putK kvs (.inl ((pl bs k' : Nat) : Int)) (.int ((pl (renum al bs) j : Nat) : Int))
          have h2 := hD.1
          omega
        · intro i k2 hi hk2
          rw [valV_putI]
          by_cases e : k2 = k'
          · subst e
            have : i = j := nd_ix hnd hk2 hk
            subst this
            rw [if_pos rfl]
          · have hk2l := hall k2 (List.mem_of_getElem? hk2)
            rw [if_neg (fun z => e (pl_inj (Nat.le_of_lt hk2l) (Nat.le_of_lt hkl) (by omega)))]
            refine hD.2 i k2 ?_ hk2
            rcases Nat.lt_or_ge i j with h | h
            · exact h
            · have : i = j := by omega
              subst this
              rw [hk] at hk2
              exact absurd (Option.some.inj hk2).symm e
    · rintro σ' H' ⟨kvs, y, rfl, hE, hY, hD⟩
      rw [List.length_map, asI_len, List.length_map] at hD
      repeat walk_at "t_w"
      exact k kvs hD _ _ (by walk_at "t_none") hE hY
theorem c_moved (T : Txt K mg) (D : DefAt K mg "moved" "moved" s_moved) (c_is_link : Cal P w K mg base "is_link" 1 ["word"] (spI1 gIsLink)) (c_told_by : Cal P w K mg base "told_by" 1 ["word"] (spI1 gTold)) (c_link_word : Cal P w K mg base "link_word" 1 ["place"] (spI1 gLink)) : Cal P w K mg base "moved" 2 ["word", "places"] spMoved := by
  refine Cal.of D sc_moved (fun vs H Q E h => ?_) (fun _ _ _ _ _ _ us hl => match us, hl with | [_, _], _ => rfl) (fun f cdv A outer s H vs Q E hr h => ?_)
  · obtain ⟨x, z, d, kvs, rfl, _⟩ := h; rfl
  · obtain ⟨x, z, d, kvs, rfl, hd, hc, k⟩ := h
    have hu : _ + 64 < cLine := hr.units
    refine ⟨_, (pss_cons (ps_if (pt_val (pe_callC c_is_link (hr.mono (by decide)) rfl (pa_cons (pv 0) pa_nil))) (pss_one (ps_ret (pe_callC c_link_word (hr.mono (by decide)) rfl (pa_cons (pe_dget (hu1 hu) (pv 1) (pe_callC c_told_by (hr.mono (by decide)) rfl (pa_cons (pv 0) pa_nil)) (fun _ _ => rfl)) pa_nil)))) pss_nil)
      (pss_one (ps_ret (pv 0)))), ?_⟩
    repeat walk_at "t_w"
    rcases hc with ⟨h1, rfl⟩ | ⟨h1, q, hq, rfl⟩
    · refine w_neg h1 ?_
      repeat walk_at "t_w"
      exact k _ (by walk_at "t_ex")
    · refine w_pos h1 ?_
      repeat walk_at "t_w"
      exact k _ (by walk_at "t_ex")
theorem c_pushed (T : Txt K mg) (D : DefAt K mg "pushed" "pushed" s_pushed) (c_fields_of : Cal P w K mg base "fields_of" 1 ["head"] (spI1 gFields)) (c_head_word : Cal P w K mg base "head_word" 1 ["many", "marked"] spHead) (c_reached : Cal P w K mg base "reached" 3 ["row", "used"] (spReached K))
    (c_field_words : Cal P w K mg base "field_words" 2 ["row", "place"] (spFields K)) (c_places_behind : Cal P w K mg base "places_behind" 2 ["row", "kept"] (spBehind K)) (c_moved : Cal P w K mg base "moved" 2 ["word", "places"] spMoved) : Cal P w K mg base "pushed" 4 ["row", "used"] (spPushed K) := by
  refine Cal.of D sc_pushed (fun vs H Q E h => ?_) (fun _ _ _ _ _ _ us hl => match us, hl with | [_, _], _ => rfl) (fun f cdv A outer s H vs Q E hr h => ?_)
  · obtain ⟨a, bs, sp, rfl, _⟩ := h; rfl
  · obtain ⟨a, bs, sp, rfl, hS, hro, k⟩ := h
    have hu : _ + 64 < cLine := hr.units
    have hlr := rowAt_len bs sp
    have hsm := hro.small
    refine ⟨_, (pss_cons (ps_set (i := 2) sc_pushed.nd rfl (Or.inl rfl) (pe_callC c_reached (hr.mono (by decide)) rfl (pa_cons (pv 0) (pa_cons (pv 1) pa_nil))))
      (pss_cons (ps_set (i := 3) sc_pushed.nd rfl (Or.inr rfl) (pe_callC c_places_behind (hr.mono (by decide)) rfl (pa_cons (pv 0) (pa_cons (pv 2) pa_nil))))
      (pss_cons (ps_set (i := 4) sc_pushed.nd rfl (Or.inl rfl) (pe_lst pa_nil))
      (pss_cons (ps_for PassesOwn.never rfl (pi_listK (K := K) rfl (pv 2)) (pg_name (i := 5) sc_pushed.nd rfl (Or.inl rfl)) (pss_cons (ps_expr (pe_bmK (K := K) rfl PySem.F.plainAttrs_list PySem.F.slot_list_append PySem.F.type_list_append mt_append (pv 4) (pa_cons (pe_callC c_head_word (hr.mono (by decide)) rfl (pa_cons (pe_callC c_fields_of (hr.mono (by decide)) rfl (pa_cons (pe_ix (ix_seqK (K := K) rfl) (pv 0) (pv 5) (fun _ _ => rfl)) pa_nil)) (pa_cons pe_bl pa_nil))) pa_nil)))
      (pss_one (ps_expr (pe_bmK (K := K) rfl PySem.F.plainAttrs_list PySem.F.slot_list_extend PySem.F.type_list_extend mt_extend (pv 4) (pa_cons (pe_lc (own := [("word", 6)]) (g := gName 6) rfl sc_pushed.nd (pi_listK (K := K) rfl (pe_callC c_field_words (hr.mono (by decide)) rfl (pa_cons (pv 0) (pa_cons (pv 5) pa_nil)))) (blkOk_by (own := [("word", 6)]) (N := ["row", "used", "kept", "places", "cells", "place", "word", "many"]) (sc := defScope s_pushed) (by decide +kernel)) (fun _ _ _ _ _ => pg_name (i := 6) sc_pushed.nd rfl (Or.inl rfl)) (fun _ _ _ _ _ => pts_nil) (fun _ _ _ _ _ => (pe_callC c_moved (hr.mono (by decide)) rfl (pa_cons (pv 6) (pa_cons (pv 3) pa_nil))))) pa_nil))))))
      (pss_cons (ps_set (i := 7) sc_pushed.nd rfl (Or.inl rfl) (pe_callB (call_lenK (K := K) rfl) (by rfl) T.b_len (by decide +kernel) (pa_cons (pv 4) pa_nil)))
      (pss_one (ps_ret (pe_tup (pa_cons (pe_op op_addA (pv 4) (pe_op op_mulA (pe_lst (pa_cons pe_int pa_nil)) (pe_op op_sub (pe_callB (call_lenK (K := K) rfl) (by rfl) T.b_len (by decide +kernel) (pa_cons (pv 0) pa_nil)) (pv 7)))) (pa_cons (pv 7) pa_nil)))))))))), ?_⟩
    repeat walk_at "t_w"
    refine w_reached sp (by walk_at "t_sq") hro fun al hal lk H1 hlk e1 hlk1 => ?_
    have hall := hal.lt hro
    have hnd := hal.nodup
    have hcl := hal.cells_le hro
    repeat walk_at "t_w"
    refine w_behind sp (by walk_at "t_sq") (by walk_at "t_sq") hro hal fun kvs hkv d H2 hd e2 hd2 => ?_
    repeat walk_at "t_w"
    rename_i lc hlc
    have hlk2 : H2 lk = some (.lst ((asI (al.map (pl bs))).map V.int)) := by walk_at "t_hp"
    have hE2 : Ex H H2 := by walk_at "t_ex"
    have ndlc : d ≠ lc := ne_of_none hd2 hlc
    clear e1 e2 hlk1 hlk hd
    refine loopL (xs := (asI (al.map (pl bs))).map V.int) (fun j σ' H' => ∃ (y y6 : Option V), σ' = [some (.ref a), some (.int ((cells bs : Nat) : Int)), some (.ref lk), some (.ref d), some (.ref lc), y, y6, none] ∧ Ex H2 H' ∧ H' lc = some (.lst ((rowOf (places (renum al bs)) ((renum al bs).take j)).map V.int))) ?_ ?_ ?_ ?_
    · exact ⟨none, none, rfl, by walk_at "t_ex", upd_same⟩
    · rintro j σ' H' _ ⟨y, y6, rfl, hE, _⟩
      exact SqL.of (hE _ _ hlk2)
    · rintro j x σ' H' hj ⟨y, y6, rfl, hE, hY⟩
      obtain ⟨p, hp, rfl⟩ := asI_get hj
      rw [List.getElem?_map] at hp
      cases hk : al[j]? with
      | none => rw [hk] at hp; cases hp
      | some k' =>
        rw [hk] at hp
        cases hp
        have hkl := hall k' (List.mem_of_getElem? hk)
        have hbk : bs[k']? = some bs[k'] := List.getElem?_eq_getElem hkl
        have hbd : bs.getD k' [] = bs[k'] := by rw [List.getD_eq_getElem?_getD, hbk]; rfl
        have hpl := pl_lt hkl (Nat.le_refl _)
        rw [pl_all] at hpl
        have hpr : pl bs k' < (rowAt bs sp).length := by omega
        have hrg := renum_get (bs := bs) hk
        have hct : cells ((renum al bs).take j) + 1 + (bs[k']).length ≤ 400 := by
          have h1 := cells_take hrg
          rw [List.length_map, hbd] at h1
          have h2 : cells ((renum al bs).take (j + 1)) ≤ cells (renum al bs) := by
            have e : cells (renum al bs) = cells ((renum al bs).take (j + 1)) + cells ((renum al bs).drop (j + 1)) := by
              conv => lhs; rw [← List.take_append_drop (j + 1) (renum al bs)]
              unfold cells
              rw [List.map_append, List.sum_append]
            omega
          omega
        have hz1 : ((rowOf (places (renum al bs)) ((renum al bs).take j)).map V.int).length < 1000000 := by rw [List.length_map, rowOf_len]; omega
        have hwd : (4 * ((rowAt bs sp).getD (pl bs k') 0 / 4)) = 4 * ((((bs.getD k' []).map (Thing.renum al)).length : Nat) : Int) := by rw [rowAt_head hbk, List.length_map, hbd]; omega
        repeat walk_at "t_w"
        rw [if_neg (by decide), hwd]
        repeat walk_at "t_w"
        refine w_lc ?_
        repeat walk_at "t_w"
        refine w_fields sp bs[k'] (by walk_at "t_sq") hro hbk fun lf H5 hlf e5 hlf5 => ?_
        repeat walk_at "t_w"
        have hd5 : H5 d = some (.dK kvs) := by walk_at "t_hp"
        refine lcjL (xs := (bs[k'].map (word (places bs))).map V.int) (Evl.Cw H5 (fun _ => true) (fun i => V.int (((bs[k'].map (Thing.renum al)).map (word (places (renum al bs)))).getD i 0))) ?_ ?_ ?_ ?_
        · exact fun Dl hD => ⟨hD, Evl.Ex.new hD, upd_same⟩
        · exact fun Dl i H' _ p => SqL.of (p.2.1 _ _ hlf5)
        · intro Dl i x H6 hDl hx pp
          rw [List.getElem?_map, List.getElem?_map] at hx
          cases ht : bs[k'][i]? with
          | none => rw [ht] at hx; cases hx
          | some t =>
            rw [ht] at hx
            cases hx
            have hil := (List.getElem?_eq_some_iff.mp ht).1
            have hlen : bs[k'].length ≤ 400 := by omega
            refine ⟨rfl, Evl.cw_turn pp (by omega) ?_ ?_⟩
            · walk_at "t_ev"
            · intro _ H7 e7 Q7 q7
              have hr2 : ((bs[k'].map (Thing.renum al)).map (word (places (renum al bs)))).getD i 0 = word (places (renum al bs)) (t.renum al) := by
                rw [List.getD_eq_getElem?_getD, List.getElem?_map, List.getElem?_map, ht]; rfl
              rw [hr2] at q7
              repeat walk_at "t_w"
              refine w_moved (word (places (renum al bs)) (t.renum al)) (by walk_at "t_hp") ?_ fun H8 e8 => ?_
              · cases t with
                | num z => exact Or.inl ⟨show ¬ (2 * z) % 2 = 1 by omega, rfl⟩
                | box q =>
                  have hqa : q ∈ al := (hal.mem q).mpr (.step ((hal.mem k').mp (List.mem_of_getElem? hk)) ⟨_, hbk, List.mem_of_getElem? ht⟩)
                  have hql := hall q hqa
                  have hix := idx_get (al := al) (fun _ _ => trivial) hqa
                  have hxl := (List.getElem?_eq_some_iff.mp hix).1
                  have hw1 : word (places bs) (.box q) = 2 * ((pl bs q : Nat) : Int) + 1 := by
                    show 2 * (((places bs).getD q 0 : Nat) : Int) + 1 = _
                    rw [places_getD hql]
                  have hw2 : word (places (renum al bs)) ((Thing.box q).renum al) = 2 * ((pl (renum al bs) (al.idxOf q) : Nat) : Int) + 1 := by
                    show 2 * (((places (renum al bs)).getD (al.idxOf q) 0 : Nat) : Int) + 1 = _
                    rw [places_getD (by rw [renum_len]; exact hxl)]
                  rw [hw1, hw2]
                  refine Or.inr ⟨by omega, _, ?_, rfl⟩
                  rw [show (2 * ((pl bs q : Nat) : Int) + 1) / 2 = ((pl bs q : Nat) : Int) by omega]
                  exact hkv.2 _ q hxl hix
              · exact q7 _ (by walk_at "t_ex")
        · intro Dl H6 hDl pp
          obtain ⟨p1, p2, p3⟩ := pp
          have eg : Evl.given ((bs[k'].map (word (places bs))).map V.int).length (fun _ => true) (fun i => V.int (((bs[k'].map (Thing.renum al)).map (word (places (renum al bs)))).getD i 0)) = ((bs[k'].map (Thing.renum al)).map (word (places (renum al bs)))).map V.int := by
            rw [given_all, List.length_map, List.length_map]
            apply List.ext_getElem?
            intro i
            rw [List.getElem?_map, List.getElem?_map]
            by_cases hi : i < bs[k'].length
            · rw [List.getElem?_eq_getElem (by simpa using hi), List.getElem_range, List.getElem?_eq_getElem (by simpa using hi)]
              show some (V.int _) = some (V.int _)
              rw [List.getD_eq_getElem?_getD, List.getElem?_eq_getElem (by simpa using hi)]; rfl
            · rw [List.getElem?_eq_none (by simpa using hi), List.getElem?_eq_none (by simpa using hi)]; rfl
          rw [eg] at p3
          have hz9 : ((rowOf (places (renum al bs)) ((renum al bs).take j)).map V.int ++ [V.int (4 * ((((bs.getD k' []).map (Thing.renum al)).length : Nat) : Int))]).length + (((bs[k'].map (Thing.renum al)).map (word (places (renum al bs)))).map V.int).length ≤ 1000000 := by
            simp only [List.length_append, List.length_map, List.length_singleton, rowOf_len]; omega
          have hlc0 : H2 lc = none := hlc
          have hc6 : H6 lc = some (.lst ((rowOf (places (renum al bs)) ((renum al bs).take j)).map V.int ++ [V.int (4 * ((((bs.getD k' []).map (Thing.renum al)).length : Nat) : Int))])) := p2 _ _ (e5 _ _ upd_same)
          have hE6 : Ex H2 H6 := by walk_at "t_ex"
          repeat walk_at "t_w"
          refine ⟨_, _, rfl, by walk_at "t_ex", ?_⟩
          rw [upd_same, rowOf_take hrg]
          unfold boxRow
          rw [hbd, List.map_append, List.map_cons, List.append_assoc]; rfl
    · rintro σ' H' ⟨y, y6, rfl, hE, hY⟩
      rw [List.length_map, asI_len, List.length_map, List.take_of_length_le (by rw [renum_len]; exact Nat.le_refl _)] at hY
      have hrl : (rowOf (places (renum al bs)) (renum al bs)).length = cells (renum al bs) := rowOf_len _ _
      have e10 : ((((rowOf (places (renum al bs)) (renum al bs)).map V.int).length : Nat) : Int) = ((cells (renum al bs) : Nat) : Int) := by rw [List.length_map, hrl]
      obtain ⟨n, hn⟩ : ∃ n, n = cells bs + sp - cells (renum al bs) := ⟨_, rfl⟩
      have hz2 : ((((rowAt bs sp).map V.int).length : Int) - (((rowOf (places (renum al bs)) (renum al bs)).map V.int).length : Int)) = (n : Int) := by rw [List.length_map, List.length_map, hrl, hlr, hn]; omega
      have hn4 : n ≤ 400 := by omega
      repeat walk_at "t_w"
      rename_i ra hra rz hrz r1 hr1 r2 hr2
      obtain ⟨zs, hzs, hzl⟩ : ∃ zs : List V, zs = List.replicate n (V.int 0) ∧ zs.length = n := ⟨_, rfl, List.length_replicate⟩
      rw [hz2, Int.toNat_natCast, ← hzs] at hr1 hr2 ⊢
      have e9 : ((rowOf (places (renum al bs)) (renum al bs)).map V.int ++ zs) = (rowPushed al bs sp).map V.int := by
        unfold rowPushed rowAt
        rw [List.map_append, List.map_replicate, hzs, hn]
      have n12 : r1 ≠ r2 := fun e => ne_of_upd hr2 e.symm
      refine k al hal r1 r2 _ (by walk_at "t_none") (by walk_at "t_none") (by walk_at "t_ex") ?_ ?_
      · rw [upd_ne n12, upd_same, e9]
      · rw [upd_same, e10]
end
end Tw

set_option Elab.async false
set_option linter.all false
set_option maxRecDepth 100000
set_option maxHeartbeats 4000000
namespace Tw
open PySem PySem.Spec PyProof.Rows L2
open Evl (Ex ex_l ex_t fresh_back sz_of sz_lt)
local macro_rules | `(tactic| walk_at "t_hp") => `(tactic| first
  | assumption
  | exact upd_same
  | (refine' hp_ne ?hne ?hrest; (case hne => walk_at "t_ne"); (case hrest => walk_at "t_hp"))
  | (refine' hp_ex ?hx ?hrest; (case hx => assumption); (case hrest => walk_at "t_hp")))
local macro_rules | `(tactic| walk_at "t_ne") => `(tactic| first
  | assumption
  | exact Ne.symm (by assumption)
  | (refine' ne_of_none ?h1 ?h2; (case h2 => assumption); (case h1 => walk_at "t_hp"))
  | (refine' Ne.symm (ne_of_none ?h1 ?h2); (case h2 => assumption); (case h1 => walk_at "t_hp")))
local macro_rules | `(tactic| walk_at "t_none") => `(tactic| first
  | assumption
  | (refine' fresh_back ?e ?n; (case n => assumption); (case e => walk_at "t_ex")))
local macro_rules | `(tactic| walk_at "t_ex") => `(tactic| first
  | assumption
  | exact Evl.Ex.refl _
  | (refine' ex_new ?n ?e; (case n => assumption); (case e => walk_at "t_ex"))
  | (refine' Evl.Ex.mut ?e ?n; (case n => walk_at "t_none"); (case e => walk_at "t_ex"))
  | (refine' Evl.Ex.trans ?a ?b; (case b => assumption); (case a => walk_at "t_ex")))
local macro_rules | `(tactic| walk_at "t_sq") => `(tactic| first
  | assumption
  | (refine' SqL.of ?h; (case h => walk_at "t_hp"))
  | (refine' ex_l ?e ?s; (case s => assumption); (case e => walk_at "t_ex")))
local macro_rules | `(tactic| walk_at "t_sqt") => `(tactic| first
  | assumption
  | (refine' SqT.of ?h; (case h => walk_at "t_hp"))
  | (refine' ex_t ?e ?s; (case s => assumption); (case e => walk_at "t_ex")))
local macro_rules | `(tactic| walk_at "t_mul") => `(tactic| first
  | assumption
  | exact Or.inl (Or.inl ⟨by decide, by decide⟩)
  | exact Or.inl (Or.inr ⟨by decide, by decide⟩)
  | exact Or.inl (Or.inl ⟨by omega, by omega⟩)
  | exact Or.inl (Or.inr ⟨by omega, by omega⟩))
local macro_rules | `(tactic| walk_at "t_c") => `(tactic| first
  | assumption
  | decide
  | (show (0 : Int) < _; decide)
  | (show (0 : Int) < _; omega)
  | exact ⟨by decide, by decide⟩
  | exact ⟨by decide, by decide, by decide⟩
  | exact ⟨by omega, by omega⟩
  | exact ⟨by omega, by omega, by omega, by omega⟩)
local macro_rules | `(tactic| walk_at "t_w") => `(tactic| first
  | (with_reducible refine w_seq ?_)
  | (with_reducible refine w_asg ?_)
  | (with_reducible refine w_gName ?_)
  | (with_reducible refine w_nx ?_)
  | (with_reducible refine w_rt ?_)
  | (with_reducible refine w_ct ?_)
  | (with_reducible refine w_bk ?_)
  | (with_reducible refine w_ret ?_)
  | (with_reducible refine w_retN ?_)
  | (with_reducible refine w_drop ?_)
  | (with_reducible refine w_ifS ?_)
  | (with_reducible refine w_next ?_)
  | (with_reducible refine w_break ?_)
  | (with_reducible refine w_cont ?_)
  | ((with_reducible refine' w_var ?h ?_); (case h => rfl))
  | (with_reducible refine w_c ?_)
  | (with_reducible refine w_op ?_)
  | (with_reducible refine w_un ?_)
  | (with_reducible refine w_I0 ?_)
  | ((with_reducible refine' w_I ?c ?_); (case c => walk_at "t_c"))
  | (with_reducible refine w_U ?_)
  | (with_reducible refine w_addI ?_)
  | ((with_reducible refine' w_addL ?h1 ?h2 ?hz ?_); (case h1 => walk_at "t_hp"); (case h2 => walk_at "t_hp"); (case hz => walk_at "t_z"))
  | ((with_reducible refine' w_mulI ?c ?_); (case c => walk_at "t_mul"))
  | ((with_reducible refine' w_mulL1 ?h1 ?b1 ?b2 ?_); (case h1 => walk_at "t_hp"); (case b1 => walk_at "t_z"); (case b2 => walk_at "t_z"))
  | ((with_reducible refine' w_mulL ?h1 ?b1 ?b2 ?hz ?_); (case h1 => walk_at "t_hp"); (case b1 => walk_at "t_z"); (case b2 => walk_at "t_z"); (case hz => walk_at "t_z"))
  | (with_reducible refine w_notIB ?_)
  | (with_reducible refine w_notBB ?_)
  | (with_reducible refine w_notN ?_)
  | (with_reducible refine w_isBB ?_)
  | (with_reducible refine w_isN ?_)
  | (with_reducible refine w_eqI ?_)
  | (with_reducible refine w_neI ?_)
  | (with_reducible refine w_eqB ?_)
  | (with_reducible refine w_neB ?_)
  | (with_reducible refine w_eqS ?_)
  | (with_reducible refine w_neS ?_)
  | (with_reducible refine w_test ?_)
  | (with_reducible refine w_B ?_)
  | (with_reducible refine w_exB ?_)
  | (with_reducible refine w_and ?_)
  | (with_reducible refine w_or ?_)
  | (with_reducible refine w_not ?_)
  | (with_reducible refine w_andV ?_)
  | (with_reducible refine w_orV ?_)
  | (with_reducible refine w_notV ?_)
  | (with_reducible refine w_bl ?_)
  | (with_reducible refine w_if ?_)
  | (with_reducible refine w_nil ?_)
  | (with_reducible refine w_cons ?_)
  | (with_reducible refine w_cb ?_)
  | (with_reducible refine w_call ?_)
  | (with_reducible refine w_tup ?_)
  | (with_reducible refine w_lst ?_)
  | ((with_reducible refine' w_fin ?hz ?_); (case hz => (simp only [List.length_cons, List.length_nil]; decide)))
  | ((with_reducible refine' w_len ?s ?_); (case s => walk_at "t_sq"))
  | ((with_reducible refine' w_lenT ?s ?_); (case s => walk_at "t_sqt"))
  | (with_reducible refine w_intI ?_)
  | (with_reducible refine w_intB ?_)
  | ((with_reducible refine' w_list ?s ?_); (case s => walk_at "t_sq"))
  | (with_reducible refine w_max ?_)
  | (with_reducible refine w_min ?_)
  | (with_reducible refine w_abs ?_)
  | (with_reducible refine w_sl ?_)
  | (with_reducible refine w_noPart ?_)
  | (with_reducible refine w_part ?_)
  | (with_reducible refine w_exI ?_)
  | ((with_reducible refine' w_slL ?s ?_); (case s => walk_at "t_sq"))
  | ((with_reducible refine' w_ixLI ?s ?b ?_); (case s => walk_at "t_sq"); (case b => walk_at "t_lt"))
  | ((with_reducible refine' w_ixL ?s ?e ?_); (case s => walk_at "t_sq"); (case e => walk_at "t_at"))
  | ((with_reducible refine' w_ixT ?s ?e ?_); (case s => walk_at "t_sqt"); (case e => walk_at "t_at"))
  | (with_reducible refine w_gSub ?_)
  | ((with_reducible refine' w_setLI ?e ?b ?_); (case e => walk_at "t_hp"); (case b => walk_at "t_lt"))
  | ((with_reducible refine' w_setL ?e ?b ?_); (case e => walk_at "t_hp"); (case b => walk_at "t_ixn"))
  | (with_reducible refine w_bm ?_)
  | (with_reducible refine w_bm0 ?_)
  | ((with_reducible refine' w_tyL ?e ?_); (case e => walk_at "t_sq"))
  | ((with_reducible refine' w_app ?e ?hz ?_); (case e => walk_at "t_hp"); (case hz => walk_at "t_z"))
  | (with_reducible refine w_iteT ?_)
  | (with_reducible refine w_iteF ?_)
  | (with_reducible refine w_iteNT ?_)
  | (with_reducible refine w_iteNF ?_)
  | (with_reducible refine w_for ?_)
  | (with_reducible refine w_iList ?_)
  | ((with_reducible refine' w_exL ?s ?_); (case s => walk_at "t_sq"))
  | (with_reducible refine w_iTup ?_)
  | ((with_reducible refine' w_exT ?s ?_); (case s => walk_at "t_sqt"))
  | (with_reducible refine w_iRng1 ?_)
  | ((with_reducible refine w_exR1 ?b ?_); (case b => walk_at "t_c"))
  | (with_reducible refine w_iRng2 ?_)
  | ((with_reducible refine w_exR2 ?b ?_); (case b => walk_at "t_c"))
  | (with_reducible refine w_yes ?_)
  | ((with_reducible refine w_pos ?p ?_); (case p => walk_at "t_p"))
  | ((with_reducible refine w_neg ?p ?_); (case p => walk_at "t_p"))
  | ((with_reducible refine w_posN ?p ?_); (case p => walk_at "t_p"))
  | ((with_reducible refine w_negN ?p ?_); (case p => walk_at "t_p"))
  | ((with_reducible refine' w_notInL ?s ?_); (case s => walk_at "t_sq"))
  | ((with_reducible refine' w_inL ?s ?_); (case s => walk_at "t_sq"))
  | ((with_reducible refine' w_sum ?s ?_); (case s => walk_at "t_sq"))
  | (with_reducible refine w_isiI ?_)
  | ((with_reducible refine' w_isiL ?e ?_); (case e => walk_at "t_ty"))
  | ((with_reducible refine' w_isiT ?e ?_); (case e => walk_at "t_ty"))
  | (with_reducible intro p hp_new))
local macro_rules | `(tactic| walk_at "t_ty") => `(tactic| first | assumption | (refine' tyx_l ?e; (case e => walk_at "t_hp")) | (refine' tyx_t ?e; (case e => walk_at "t_hp")))
local macro_rules | `(tactic| walk_at "t_z") => `(tactic| first | assumption | decide | omega | (simp only [List.length_cons, List.length_nil, List.length_map, List.length_append, List.length_replicate]; first | done | decide | omega))
local macro_rules | `(tactic| walk_at "t_at") => `(tactic| first | assumption | rfl)
local macro_rules | `(tactic| walk_at "t_ixn") => `(tactic| first | assumption | rfl)
local macro_rules | `(tactic| walk_at "t_ev") => `(tactic| (intro H1 e Q q; (repeat walk_at "t_w"); exact q _ (by walk_at "t_ex")))
local macro_rules | `(tactic| walk_at "t_p") => `(tactic| first | assumption | decide | decide +kernel)
local macro_rules | `(tactic| walk_at "t_lt") => `(tactic| first | assumption | omega | (simp only [List.length_set, List.length_map, List.length_append]; first | assumption | omega))
local macro_rules | `(tactic| walk_at "t_w") => `(tactic| first
  | ((with_reducible refine' w_at ?s ?hl ?h0 ?_); (case s => walk_at "t_sq"); (case hl => walk_at "t_z"); (case h0 => walk_at "t_z"))
  | (with_reducible refine w_isInt ?_)
  | (with_reducible refine w_I1 ?_)
  | (with_reducible refine w_Head ?_)
  | ((with_reducible refine' w_number ?hb ?_); (case hb => walk_at "t_bits")))
local macro_rules | `(tactic| walk_at "t_bits") => `(tactic| assumption)
abbrev s_law : Stmt := topS 24
theorem sc_law : FnScope ["_law_script", "_law_boxes_here", "_law_row_here", "_law_used", "_law_fields", "_law_goals", "_law_kept", "_law_many", "_law_k", "_law_due", "_law_handed", "_law_found"] ["_law_script"] (defScope s_law) := ⟨rfl, rfl, rfl, by decide +kernel, rfl, by decide +kernel, by decide +kernel⟩

structure Ds (K : PySem.W.Frag) (mg : Str → Option Value) : Prop where
  link_word : DefAt K mg "link_word" "link_word" s_link_word
  head_word : DefAt K mg "head_word" "head_word" s_head_word
  is_link : DefAt K mg "is_link" "is_link" s_is_link
  told_by : DefAt K mg "told_by" "told_by" s_told_by
  fields_of : DefAt K mg "fields_of" "fields_of" s_fields_of
  heads : DefAt K mg "heads" "heads" s_heads
  field_words : DefAt K mg "field_words" "field_words" s_field_words
  reached : DefAt K mg "reached" "reached" s_reached
  places_behind : DefAt K mg "places_behind" "places_behind" s_places_behind
  moved : DefAt K mg "moved" "moved" s_moved
  pushed : DefAt K mg "pushed" "pushed" s_pushed
  law_at : DefAt K mg "_law_at" "_law_at" s_law_at
  law_is_int : DefAt K mg "_law_is_int" "_law_is_int" s_law_is_int
  law_words_are : DefAt K mg "_law_words_are" "_law_words_are" s_law_words_are
  law_number : DefAt K mg "_law_number" "_law_number" s_law_number
  law_sizes : DefAt K mg "_law_sizes" "_law_sizes" s_law_sizes
  law_boxes : DefAt K mg "_law_boxes" "_law_boxes" s_law_boxes
  law_places : DefAt K mg "_law_places" "_law_places" s_law_places
  law_row : DefAt K mg "_law_row" "_law_row" s_law_row
  law_alive : DefAt K mg "_law_alive" "_law_alive" s_law_alive
  law_pair : DefAt K mg "_law_pair" "_law_pair" s_law_pair

section
variable {P : Program} {w : World} {K : PySem.W.Frag} {mg : Str → Option Value} {base : Heap}
theorem law_core {f : Addr} {fd : FuncData} (F : Fun K "law" "law" s_law f fd) (T : Txt K mg) (X : Ds K mg)
    (c_pushed : Cal P w K mg base "pushed" 6 ["row", "used"] (spPushed K)) : FnOk P w K mg base CX0 8 f fd ["_law_script"] (spLaw K) := by
  have c_law_at := c_law_at (P := P) (w := w) (base := base) T X.law_at
  have c_law_is_int := c_law_is_int (P := P) (w := w) (base := base) T X.law_is_int
  have c_law_words_are := c_law_words_are (P := P) (w := w) (base := base) T X.law_words_are c_law_is_int
  have c_law_number := c_law_number (P := P) (w := w) (base := base) T X.law_number
  have c_law_sizes := c_law_sizes (P := P) (w := w) (base := base) T X.law_sizes c_law_at
  have c_law_boxes := c_law_boxes (P := P) (w := w) (base := base) T X.law_boxes c_law_at c_law_number c_law_sizes
  have c_law_places := c_law_places (P := P) (w := w) (base := base) T X.law_places
  have c_law_row := c_law_row (P := P) (w := w) (base := base) T X.law_row
  have c_law_alive := c_law_alive (P := P) (w := w) (base := base) T X.law_alive
  have c_law_pair := c_law_pair (P := P) (w := w) (base := base) T X.law_pair c_law_is_int c_law_words_are
  refine F.ok sc_law (fun vs H Q E h => ?_) (fun cdv A outer s H vs Q E hr h => ?_)
  · obtain ⟨a, ns, rfl, _⟩ := h; rfl
  · obtain ⟨a, ns, rfl, hS, hlen, hB, k⟩ := h
    have hu : _ + 64 < cLine := hr.units
    refine ⟨_, (pss_cons (ps_set (i := 1) sc_law.nd rfl (Or.inl rfl) (pe_callC c_law_boxes (hr.mono (by decide)) rfl (pa_cons (pv 0) (pa_cons pe_int pa_nil))))
      (pss_cons (ps_set (i := 2) sc_law.nd rfl (Or.inl rfl) (pe_callC c_law_row (hr.mono (by decide)) rfl (pa_cons (pv 1) (pa_cons (pe_callC c_law_places (hr.mono (by decide)) rfl (pa_cons (pv 1) pa_nil)) (pa_cons (pe_op op_mod (pe_callC c_law_at (hr.mono (by decide)) rfl (pa_cons (pv 0) (pa_cons pe_int pa_nil))) pe_int) pa_nil)))))
      (pss_cons (ps_set (i := 3) sc_law.nd rfl (Or.inl rfl) (pe_callB (cr_sumK (K := K) rfl rfl) (by rfl) T.b_sum (by decide +kernel) (pa_cons (pe_lc (own := [("_law_fields", 4)]) (g := gName 4) rfl sc_law.nd (pi_listK (K := K) rfl (pv 1)) (blkOk_by (own := [("_law_fields", 4)]) (N := ["_law_script", "_law_boxes_here", "_law_row_here", "_law_used", "_law_fields", "_law_goals", "_law_kept", "_law_many", "_law_k", "_law_due", "_law_handed", "_law_found"]) (sc := defScope s_law) (by decide +kernel)) (fun _ _ _ _ _ => pg_name (i := 4) sc_law.nd rfl (Or.inl rfl)) (fun _ _ _ _ _ => pts_nil) (fun _ _ _ _ _ => (pe_op op_addA pe_int (pe_callB (call_lenK (K := K) rfl) (by rfl) T.b_len (by decide +kernel) (pa_cons (pv 4) pa_nil))))) pa_nil)))
      (pss_cons (ps_set (i := 5) sc_law.nd rfl (Or.inl rfl) (pe_op op_mulA (pe_lst (pa_cons pe_int pa_nil)) (pe_callB (call_lenK (K := K) rfl) (by rfl) T.b_len (by decide +kernel) (pa_cons (pv 1) pa_nil))))
      (pss_cons (ps_set (i := 6) sc_law.nd rfl (Or.inl rfl) (pe_lst pa_nil))
      (pss_cons (ps_set (i := 7) sc_law.nd rfl (Or.inl rfl) pe_int)
      (pss_cons (ps_for PassesOwn.never rfl (pi_listK (K := K) rfl (pe_callC c_law_alive (hr.mono (by decide)) rfl (pa_cons (pv 1) pa_nil))) (pg_name (i := 8) sc_law.nd rfl (Or.inl rfl)) (pss_cons (ps_asg (pv 7) (pg_sub (pv 5) (pv 8) set_list))
      (pss_cons (ps_expr (pe_bmK (K := K) rfl PySem.F.plainAttrs_list PySem.F.slot_list_append PySem.F.type_list_append mt_append (pv 6) (pa_cons (pe_ix (ix_seqK (K := K) rfl) (pv 1) (pv 8) (fun _ _ => rfl)) pa_nil)))
      (pss_one (ps_set (i := 7) sc_law.nd rfl (Or.inl rfl) (pe_op op_addA (pe_op op_addA (pv 7) pe_int) (pe_callB (call_lenK (K := K) rfl) (by rfl) T.b_len (by decide +kernel) (pa_cons (pe_ix (ix_seqK (K := K) rfl) (pv 1) (pv 8) (fun _ _ => rfl)) pa_nil))))))))
      (pss_cons (ps_set (i := 9) sc_law.nd rfl (Or.inl rfl) (pe_callC c_law_row (hr.mono (by decide)) rfl (pa_cons (pv 6) (pa_cons (pv 5) (pa_cons (pe_op op_sub (pe_callB (call_lenK (K := K) rfl) (by rfl) T.b_len (by decide +kernel) (pa_cons (pv 2) pa_nil)) (pv 7)) pa_nil)))))
      (pss_cons (ps_set (i := 10) sc_law.nd rfl (Or.inl rfl) (pe_callTy (call_listK (K := K) rfl) (by rfl) T.b_list (by decide +kernel) (pa_cons (pv 2) pa_nil)))
      (pss_cons (ps_set (i := 11) sc_law.nd rfl (Or.inl rfl) (pe_callC c_pushed (hr.mono (by decide)) rfl (pa_cons (pv 10) (pa_cons (pv 3) pa_nil))))
      (pss_cons (ps_if (PW.pt (pw_or (pt_not (pt_val (pe_callC c_law_pair (hr.mono (by decide)) rfl (pa_cons (pv 11) (pa_cons (pv 9) (pa_cons (pv 7) pa_nil)))))) (pw_or1 (pt_not (pt_val (pe_callC c_law_words_are (hr.mono (by decide)) rfl (pa_cons (pv 10) (pa_cons (pv 2) pa_nil)))))))) (pss_one (ps_ret pe_bl)) pss_nil)
      (pss_cons (ps_expr (pe_bmK (K := K) rfl PySem.F.plainAttrs_list PySem.F.slot_list_append PySem.F.type_list_append mt_append (pe_ix (ix_seqK (K := K) rfl) (pv 11) pe_int (fun _ _ => rfl)) (pa_cons pe_int pa_nil)))
      (pss_cons (ps_set (i := 10) sc_law.nd rfl (Or.inl rfl) (pe_callTy (call_listK (K := K) rfl) (by rfl) T.b_list (by decide +kernel) (pa_cons (pv 9) pa_nil)))
      (pss_cons (ps_set (i := 11) sc_law.nd rfl (Or.inl rfl) (pe_callC c_pushed (hr.mono (by decide)) rfl (pa_cons (pv 10) (pa_cons (pv 7) pa_nil))))
      (pss_cons (ps_if (pt_not (pt_val (pe_callC c_law_pair (hr.mono (by decide)) rfl (pa_cons (pv 11) (pa_cons (pv 9) (pa_cons (pv 7) pa_nil)))))) (pss_one (ps_ret pe_bl)) pss_nil)
      (pss_cons (ps_expr (pe_bmK (K := K) rfl PySem.F.plainAttrs_list PySem.F.slot_list_append PySem.F.type_list_append mt_append (pe_ix (ix_seqK (K := K) rfl) (pv 11) pe_int (fun _ _ => rfl)) (pa_cons pe_int pa_nil)))
      (pss_one (ps_ret (pe_callC c_law_words_are (hr.mono (by decide)) rfl (pa_cons (pv 10) (pa_cons (pv 9) pa_nil))))))))))))))))))))), ?_⟩
    repeat walk_at "t_w"
    refine w_boxes hS (by omega) (by decide) hB fun bs g ab H1 hab e1 hbx => ?_
    repeat walk_at "t_w"
    refine w_places hbx (by have := g.few; omega) fun ap H2 hap e2 hpl => ?_
    have hbx2 := hbx.ex e2
    repeat walk_at "t_w"
    obtain ⟨sp, esp, hsp⟩ := nat_mod (x := ns.getD (Int.toNat 0) 0) (z := 20) (by decide)
    rw [show ns.getD (Int.toNat 0) 0 % 20 = (sp : Int) from esp]
    clear esp
    have hro := g.row hsp
    refine w_row (hbx2.ex (by walk_at "t_ex")) (by walk_at "t_sq") (by have := g.few; omega) (by have := g.small; omega) (by rw [places_len]; exact g.ok) (by omega) fun ar H3 har e3 hrow => ?_
    have hbx3 : BoxesAt H3 ab bs := hbx2.ex (by walk_at "t_ex")
    change H3 ar = some (.lst ((rowAt bs sp).map V.int)) at hrow
    obtain ⟨ws, hws, hA⟩ := hbx3
    repeat walk_at "t_w"
    refine w_lcL (a := ab) (xs := ws) (fun _ => true) (fun i => V.int (1 + ((bs.getD i []).length : Int))) ?ha ?hx ?hz ?hw ?ht ?he ?hk
    case ha => walk_at "t_ev"
    case hx => exact SqL.of hws
    case hz => rw [hA.length]; have := g.few; omega
    case hw => intro x; rfl
    case ht => intro i x G e hi; walk_at "t_ev"
    case he =>
      intro i x G e hi hf
      obtain ⟨fs, hfs, p, vs, rfl, hp, hv⟩ := hA.get hi
      have ef : bs.getD i [] = fs := by rw [List.getD_eq_getElem?_getD, hfs]; rfl
      rw [ef, ← hv.length]
      walk_at "t_ev"
    case hk =>
      intro p H4 hp4 e4 hp5
      rw [given_cells hA.length] at hp5
      have hws4 : H4 ab = some (.lst ws) := by walk_at "t_hp"
      have hA4 : All2 (FieldsAt H4) ws bs := hA.mono fun _ _ => FieldsAt.ex e4
      have hrow4 : H4 ar = some (.lst ((rowAt bs sp).map V.int)) := by walk_at "t_hp"
      have hE4 : Ex H H4 := by walk_at "t_ex"
      repeat walk_at "t_w"
      rw [sum_cells]
      clear hws hA hbx hbx2 hpl hrow
      repeat walk_at "t_w"
      have hfew := g.few
      have hlr := rowAt_len bs sp
      have hsm := hro.small
      have hwl := hA4.length
      obtain ⟨gs0, egs⟩ : ∃ gs0, gs0 = List.replicate bs.length 0 := ⟨_, rfl⟩
      have hgs0 : gs0.length = bs.length := by rw [egs, List.length_replicate]
      refine w_mulL1 (by walk_at "t_hp") (by omega) (by omega) fun rg hrg => ?_
      rw [show List.replicate ((ws.length : Nat) : Int).toNat (V.int 0) = (asI gs0).map V.int by rw [Int.toNat_natCast, hwl, asI_rep, egs]]
      clear egs
      repeat walk_at "t_w"
      rename_i rk hrk
      refine w_alive (bs := bs) ⟨ws, by walk_at "t_hp", hA4.mono fun _ _ => FieldsAt.ex (by walk_at "t_ex")⟩ g fun al hal la H8 hla e8 hla8 => ?_
      have h4g : H4 rg = none := none_of hrg
      have h4k : H4 rk = none := none_of (none_of hrk)
      have ngk : rg ≠ rk := fun e => ne_of_upd hrk e.symm
      have nlk : la ≠ rk := fun e => ne_of_upd hla e
      have nlg : la ≠ rg := fun e => ne_of_upd (none_of hla) e
      have dB : Ex H4 (del (del H8 rg) rk) := ex_del2 (ex_del2 (by walk_at "t_ex") h4g) h4k
      have dg : del (del H8 rg) rk rg = none := by rw [del_ne ngk, del_same]
      have dk : del (del H8 rg) rk rk = none := del_same
      have dl : del (del H8 rg) rk la = some (.lst ((asI al).map V.int)) := by rw [del_ne nlk, del_ne nlg]; exact hla8
      have d8 : Ex (del (del H8 rg) rk) H8 := del_ex.trans del_ex
      have hg8 : H8 rg = some (.lst ((asI gs0).map V.int)) := e8 _ _ (by rw [upd_ne ngk, upd_same])
      have hk8 : H8 rk = some (.lst []) := e8 _ _ upd_same
      have hall := hal.lt hro
      have hnd := hal.nodup
      have hal110 : al.length ≤ bs.length := nodup_few hnd hall
      clear e8 hla8 hla hrg hrk
      generalize del (del H8 rg) rk = B at dB dg dk dl d8
      have hBb : B ab = some (.lst ws) := dB _ _ hws4
      have hBA : All2 (FieldsAt B) ws bs := hA4.mono fun _ _ => FieldsAt.ex dB
      have hBr : B ar = some (.lst ((rowAt bs sp).map V.int)) := dB _ _ hrow4
      have hEB : Ex H B := hE4.trans dB
      have hrl := renum_len al bs
      have hcl := hal.cells_le hro
      have hrR := hal.rowOk hro
      clear hws4 hA4 hrow4 dB hp5 h4g h4k
      repeat walk_at "t_w"
      refine loopL (xs := (asI al).map V.int) (fun j σ' H' => ∃ (gs : List Nat) (vs : List V) (y : Option V), σ' = [some (.ref a), some (.ref ab), some (.ref ar), some (.int ((cells bs : Nat) : Int)), none, some (.ref rg), some (.ref rk), some (.int ((pl (renum al bs) j : Nat) : Int)), y, none, none, none] ∧
        Ex B H' ∧ H' rg = some (.lst ((asI gs).map V.int)) ∧ H' rk = some (.lst vs) ∧ gs.length = bs.length ∧ (∀ i k : Nat, i < j → al[i]? = some k → gs.getD k 0 = pl (renum al bs) i) ∧ All2 (FieldsAt B) vs ((al.take j).map fun k => bs.getD k [])) ?_ ?_ ?_ ?_
      · exact ⟨gs0, [], none, rfl, d8, hg8, hk8, hgs0, fun i k hi => absurd hi (Nat.not_lt_zero _), .nil⟩
      · rintro j σ' H' _ ⟨gs, vs, y, rfl, hE, _⟩
        exact SqL.of (hE _ _ dl)
      · rintro j x σ' H' hj ⟨gs, vs, y, rfl, hE, hG, hV, hgl, hgg, hvv⟩
        obtain ⟨k', hk', rfl⟩ := asI_get hj
        have hkl := hall k' (List.mem_of_getElem? hk')
        have hkg : k' < (asI gs).length := by rw [asI_len]; omega
        obtain ⟨x, hx, p, ts, rfl, hp, hv⟩ := hBA.getR (List.getElem?_eq_getElem hkl)
        have hat : atI ws (k' : Int) = some (.ref p) := atI_nat hx
        have hbk : bs.getD k' [] = bs[k'] := by rw [List.getD_eq_getElem?_getD, List.getElem?_eq_getElem hkl]; rfl
        have hjl := (List.getElem?_eq_some_iff.mp hk').1
        have hvl : vs.length < 1000000 := by rw [hvv.length, List.length_map, List.length_take]; omega
        repeat walk_at "t_w"
        have em : ((pl (renum al bs) j : Nat) : Int) + 1 + (ts.length : Int) = ((pl (renum al bs) (j + 1) : Nat) : Int) := by
          unfold pl
          rw [cells_take (renum_get hk'), List.length_map, hbk, hv.length]; omega
        rw [em, asI_set]
        refine ⟨gs.set k' (pl (renum al bs) j), _, some (.int (k' : Int)), rfl, by walk_at "t_ex", by rw [upd_ne ngk, upd_same], upd_same, by rw [List.length_set]; exact hgl, ?_, ?_⟩
        · intro i k2 hi hk2
          rw [List.getD_eq_getElem?_getD, List.getElem?_set]
          by_cases e : k' = k2
          · subst e
            have : i = j := nd_ix hnd hk2 hk'
            rw [if_pos rfl, if_pos (by omega), this]; rfl
          · rw [if_neg e, ← List.getD_eq_getElem?_getD]
            refine hgg i k2 ?_ hk2
            rcases Nat.lt_or_ge i j with h | h
            · exact h
            · have : i = j := by omega
              subst this
              rw [hk'] at hk2
              exact absurd (Option.some.inj hk2) e
        · rw [take_snoc hk', List.map_append]
          refine hvv.snoc ⟨p, ts, rfl, hp, ?_⟩
          show All2 (ThingAt B) ts (bs.getD k' [])
          rw [hbk]; exact hv
      · rintro σ' H' ⟨gs, vs, y, rfl, hE, hG, hV, hgl, hgg, hvv⟩
        rw [List.length_map, asI_len, List.take_length] at hvv
        rw [List.length_map, asI_len] at hgg
        rw [List.length_map, asI_len, show pl (renum al bs) al.length = cells (renum al bs) by rw [← hrl, pl_all]]
        have hsp2 : (((rowAt bs sp).map V.int).length : Int) - ((cells (renum al bs) : Nat) : Int) = ((cells bs + sp - cells (renum al bs) : Nat) : Int) := by rw [List.length_map, hlr]; omega
        repeat walk_at "t_w"
        rw [hsp2]
        have hckp : cells (al.map fun k => bs.getD k []) = cells (renum al bs) := by
          rw [renum_cells]; unfold cells; rw [List.map_map]; rfl
        have hmem : ∀ k ∈ al, ∀ t ∈ bs.getD k [], t.ok bs.length := fun k hk t ht => by
          have hkl := hall k hk
          have e : bs.getD k [] = bs[k] := by rw [List.getD_eq_getElem?_getD, List.getElem?_eq_getElem hkl]; rfl
          rw [e] at ht
          exact g.ok _ (List.getElem_mem hkl) t ht
        refine w_row (bs := al.map fun k => bs.getD k []) ⟨vs, hV, hvv.mono fun _ _ => FieldsAt.ex hE⟩ (SqL.of hG) (by rw [List.length_map]; omega) (by rw [hckp]; omega) ?_ (by omega) fun ad H9 had e9 hdue => ?_
        · intro fs hfs t ht
          obtain ⟨k', hk', rfl⟩ := List.mem_map.mp hfs
          rw [hgl]
          exact hmem k' hk' t ht
        have hrow2 : rowOf gs (al.map fun k => bs.getD k []) = rowOf (places (renum al bs)) (renum al bs) := by
          refine row_renum (fun k hk j hj => ?_) (fun k hk => ?_)
          · have hkl := hall k hk
            have e : bs[k]? = some (bs.getD k []) := by rw [List.getD_eq_getElem?_getD, List.getElem?_eq_getElem hkl]; rfl
            exact (hal.mem j).mpr (.step ((hal.mem k).mp hk) ⟨_, e, hj⟩)
          · have hi := idx_get (al := al) (fun _ _ => trivial) hk
            exact hgg _ k (List.getElem?_eq_some_iff.mp hi).1 hi
        rw [hrow2] at hdue
        change H9 ad = some (.lst ((rowPushed al bs sp).map V.int)) at hdue
        have hpl2 : (rowPushed al bs sp).length = cells bs + sp := by unfold rowPushed; rw [rowAt_len]; omega
        clear hV hG hvv
        repeat walk_at "t_w"
        rename_i rh hrh
        refine w_pushed sp (by walk_at "t_sq") hro fun al2 hal2 p1 q1 G1 hp1 hq1 x1 hp2 hq2 => ?_
        cases hal2.uniq hal
        repeat walk_at "t_w"
        refine w_pair (rowPushed al bs sp) (by walk_at "t_hp") (by walk_at "t_hp") (by walk_at "t_sq") (by omega) fun G2 x2 => ?_
        repeat walk_at "t_w"
        refine w_words2 (rowAt bs sp) (by walk_at "t_hp") (by walk_at "t_sq") rfl rfl (by omega) fun G3 x3 => ?_
        have hd2 : ((rowPushed al bs sp).map V.int).length < 1000000 := by rw [List.length_map]; omega
        repeat walk_at "t_w"
        rename_i rh2 hrh2
        refine w_pushed (bs := renum al bs) (cells bs + sp - cells (renum al bs)) (SqL.of (upd_same : upd _ rh2 (HO.lst ((rowPushed al bs sp).map V.int)) rh2 = _)) hrR fun al3 hal3 p2 q2 G4 hp3 hq3 x4 hp4 hq4 => ?_
        cases hal3.uniq (hal.again hro)
        have e4 : renum (List.range al.length) (renum al bs) = renum al bs := by
          rw [← hrl]; exact renum_range hrR.ok
        have e5 : rowPushed (List.range al.length) (renum al bs) (cells bs + sp - cells (renum al bs)) = rowPushed al bs sp := by
          unfold rowPushed
          rw [e4]
          congr 1
          omega
        rw [e5] at hp4
        rw [e4] at hq4
        repeat walk_at "t_w"
        refine w_pair (rowPushed al bs sp) (by walk_at "t_hp") (by walk_at "t_hp") (by walk_at "t_sq") (by omega) fun G5 x5 => ?_
        repeat walk_at "t_w"
        refine w_words2 (rowPushed al bs sp) (by walk_at "t_hp") (by walk_at "t_sq") rfl rfl (by omega) fun G6 x6 => ?_
        repeat walk_at "t_w"
        exact k _
end
end Tw

set_option Elab.async false
set_option linter.all false
set_option maxRecDepth 100000
set_option maxHeartbeats 4000000
namespace Tw
open PySem PySem.Spec PyProof.Rows L2
open Evl (Ex ex_l ex_t fresh_back sz_of sz_lt)
local macro_rules | `(tactic| walk_at "t_hp") => `(tactic| first
  | assumption
  | exact upd_same
  | (refine' hp_ne ?hne ?hrest; (case hne => walk_at "t_ne"); (case hrest => walk_at "t_hp"))
  | (refine' hp_ex ?hx ?hrest; (case hx => assumption); (case hrest => walk_at "t_hp")))
local macro_rules | `(tactic| walk_at "t_ne") => `(tactic| first
  | assumption
  | exact Ne.symm (by assumption)
  | (refine' ne_of_none ?h1 ?h2; (case h2 => assumption); (case h1 => walk_at "t_hp"))
  | (refine' Ne.symm (ne_of_none ?h1 ?h2); (case h2 => assumption); (case h1 => walk_at "t_hp")))
local macro_rules | `(tactic| walk_at "t_none") => `(tactic| first
  | assumption
  | (refine' fresh_back ?e ?n; (case n => assumption); (case e => walk_at "t_ex")))
local macro_rules | `(tactic| walk_at "t_ex") => `(tactic| first
  | assumption
  | exact Evl.Ex.refl _
  | (refine' ex_new ?n ?e; (case n => assumption); (case e => walk_at "t_ex"))
  | (refine' Evl.Ex.mut ?e ?n; (case n => walk_at "t_none"); (case e => walk_at "t_ex"))
  | (refine' Evl.Ex.trans ?a ?b; (case b => assumption); (case a => walk_at "t_ex")))
local macro_rules | `(tactic| walk_at "t_sq") => `(tactic| first
  | assumption
  | (refine' SqL.of ?h; (case h => walk_at "t_hp"))
  | (refine' ex_l ?e ?s; (case s => assumption); (case e => walk_at "t_ex")))
local macro_rules | `(tactic| walk_at "t_sqt") => `(tactic| first
  | assumption
  | (refine' SqT.of ?h; (case h => walk_at "t_hp"))
  | (refine' ex_t ?e ?s; (case s => assumption); (case e => walk_at "t_ex")))
local macro_rules | `(tactic| walk_at "t_mul") => `(tactic| first
  | assumption
  | exact Or.inl (Or.inl ⟨by decide, by decide⟩)
  | exact Or.inl (Or.inr ⟨by decide, by decide⟩)
  | exact Or.inl (Or.inl ⟨by omega, by omega⟩)
  | exact Or.inl (Or.inr ⟨by omega, by omega⟩))
local macro_rules | `(tactic| walk_at "t_c") => `(tactic| first
  | assumption
  | decide
  | (show (0 : Int) < _; decide)
  | (show (0 : Int) < _; omega)
  | exact ⟨by decide, by decide⟩
  | exact ⟨by decide, by decide, by decide⟩
  | exact ⟨by omega, by omega⟩
  | exact ⟨by omega, by omega, by omega, by omega⟩)
local macro_rules | `(tactic| walk_at "t_w") => `(tactic| first
  | (with_reducible refine w_seq ?_)
  | (with_reducible refine w_asg ?_)
  | (with_reducible refine w_gName ?_)
  | (with_reducible refine w_nx ?_)
  | (with_reducible refine w_rt ?_)
  | (with_reducible refine w_ct ?_)
  | (with_reducible refine w_bk ?_)
  | (with_reducible refine w_ret ?_)
  | (with_reducible refine w_retN ?_)
  | (with_reducible refine w_drop ?_)
  | (with_reducible refine w_ifS ?_)
  | (with_reducible refine w_next ?_)
  | (with_reducible refine w_break ?_)
  | (with_reducible refine w_cont ?_)
  | ((with_reducible refine' w_var ?h ?_); (case h => rfl))
  | (with_reducible refine w_c ?_)
  | (with_reducible refine w_op ?_)
  | (with_reducible refine w_un ?_)
  | (with_reducible refine w_I0 ?_)
  | ((with_reducible refine' w_I ?c ?_); (case c => walk_at "t_c"))
  | (with_reducible refine w_U ?_)
  | (with_reducible refine w_addI ?_)
  | ((with_reducible refine' w_addL ?h1 ?h2 ?hz ?_); (case h1 => walk_at "t_hp"); (case h2 => walk_at "t_hp"); (case hz => walk_at "t_z"))
  | ((with_reducible refine' w_mulI ?c ?_); (case c => walk_at "t_mul"))
  | ((with_reducible refine' w_mulL1 ?h1 ?b1 ?b2 ?_); (case h1 => walk_at "t_hp"); (case b1 => walk_at "t_z"); (case b2 => walk_at "t_z"))
  | ((with_reducible refine' w_mulL ?h1 ?b1 ?b2 ?hz ?_); (case h1 => walk_at "t_hp"); (case b1 => walk_at "t_z"); (case b2 => walk_at "t_z"); (case hz => walk_at "t_z"))
  | (with_reducible refine w_notIB ?_)
  | (with_reducible refine w_notBB ?_)
  | (with_reducible refine w_notN ?_)
  | (with_reducible refine w_isBB ?_)
  | (with_reducible refine w_isN ?_)
  | (with_reducible refine w_eqI ?_)
  | (with_reducible refine w_neI ?_)
  | (with_reducible refine w_eqB ?_)
  | (with_reducible refine w_neB ?_)
  | (with_reducible refine w_eqS ?_)
  | (with_reducible refine w_neS ?_)
  | (with_reducible refine w_test ?_)
  | (with_reducible refine w_B ?_)
  | (with_reducible refine w_exB ?_)
  | (with_reducible refine w_and ?_)
  | (with_reducible refine w_or ?_)
  | (with_reducible refine w_not ?_)
  | (with_reducible refine w_andV ?_)
  | (with_reducible refine w_orV ?_)
  | (with_reducible refine w_notV ?_)
  | (with_reducible refine w_bl ?_)
  | (with_reducible refine w_if ?_)
  | (with_reducible refine w_nil ?_)
  | (with_reducible refine w_cons ?_)
  | (with_reducible refine w_cb ?_)
  | (with_reducible refine w_call ?_)
  | (with_reducible refine w_tup ?_)
  | (with_reducible refine w_lst ?_)
  | ((with_reducible refine' w_fin ?hz ?_); (case hz => (simp only [List.length_cons, List.length_nil]; decide)))
  | ((with_reducible refine' w_len ?s ?_); (case s => walk_at "t_sq"))
  | ((with_reducible refine' w_lenT ?s ?_); (case s => walk_at "t_sqt"))
  | (with_reducible refine w_intI ?_)
  | (with_reducible refine w_intB ?_)
  | ((with_reducible refine' w_list ?s ?_); (case s => walk_at "t_sq"))
  | (with_reducible refine w_max ?_)
  | (with_reducible refine w_min ?_)
  | (with_reducible refine w_abs ?_)
  | (with_reducible refine w_sl ?_)
  | (with_reducible refine w_noPart ?_)
  | (with_reducible refine w_part ?_)
  | (with_reducible refine w_exI ?_)
  | ((with_reducible refine' w_slL ?s ?_); (case s => walk_at "t_sq"))
  | ((with_reducible refine' w_ixLI ?s ?b ?_); (case s => walk_at "t_sq"); (case b => walk_at "t_lt"))
  | ((with_reducible refine' w_ixL ?s ?e ?_); (case s => walk_at "t_sq"); (case e => walk_at "t_at"))
  | ((with_reducible refine' w_ixT ?s ?e ?_); (case s => walk_at "t_sqt"); (case e => walk_at "t_at"))
  | (with_reducible refine w_gSub ?_)
  | ((with_reducible refine' w_setLI ?e ?b ?_); (case e => walk_at "t_hp"); (case b => walk_at "t_lt"))
  | ((with_reducible refine' w_setL ?e ?b ?_); (case e => walk_at "t_hp"); (case b => walk_at "t_ixn"))
  | (with_reducible refine w_bm ?_)
  | (with_reducible refine w_bm0 ?_)
  | ((with_reducible refine' w_tyL ?e ?_); (case e => walk_at "t_sq"))
  | ((with_reducible refine' w_app ?e ?hz ?_); (case e => walk_at "t_hp"); (case hz => walk_at "t_z"))
  | (with_reducible refine w_iteT ?_)
  | (with_reducible refine w_iteF ?_)
  | (with_reducible refine w_iteNT ?_)
  | (with_reducible refine w_iteNF ?_)
  | (with_reducible refine w_for ?_)
  | (with_reducible refine w_iList ?_)
  | ((with_reducible refine' w_exL ?s ?_); (case s => walk_at "t_sq"))
  | (with_reducible refine w_iTup ?_)
  | ((with_reducible refine' w_exT ?s ?_); (case s => walk_at "t_sqt"))
  | (with_reducible refine w_iRng1 ?_)
  | ((with_reducible refine w_exR1 ?b ?_); (case b => walk_at "t_c"))
  | (with_reducible refine w_iRng2 ?_)
  | ((with_reducible refine w_exR2 ?b ?_); (case b => walk_at "t_c"))
  | (with_reducible refine w_yes ?_)
  | ((with_reducible refine w_pos ?p ?_); (case p => walk_at "t_p"))
  | ((with_reducible refine w_neg ?p ?_); (case p => walk_at "t_p"))
  | ((with_reducible refine w_posN ?p ?_); (case p => walk_at "t_p"))
  | ((with_reducible refine w_negN ?p ?_); (case p => walk_at "t_p"))
  | ((with_reducible refine' w_notInL ?s ?_); (case s => walk_at "t_sq"))
  | ((with_reducible refine' w_inL ?s ?_); (case s => walk_at "t_sq"))
  | ((with_reducible refine' w_sum ?s ?_); (case s => walk_at "t_sq"))
  | (with_reducible refine w_isiI ?_)
  | ((with_reducible refine' w_isiL ?e ?_); (case e => walk_at "t_ty"))
  | ((with_reducible refine' w_isiT ?e ?_); (case e => walk_at "t_ty"))
  | (with_reducible intro p hp_new))
local macro_rules | `(tactic| walk_at "t_ty") => `(tactic| first | assumption | (refine' tyx_l ?e; (case e => walk_at "t_hp")) | (refine' tyx_t ?e; (case e => walk_at "t_hp")))
local macro_rules | `(tactic| walk_at "t_z") => `(tactic| first | assumption | decide | omega | (simp only [List.length_cons, List.length_nil, List.length_map, List.length_append, List.length_replicate]; first | done | decide | omega))
local macro_rules | `(tactic| walk_at "t_at") => `(tactic| first | assumption | rfl)
local macro_rules | `(tactic| walk_at "t_ixn") => `(tactic| first | assumption | rfl)
local macro_rules | `(tactic| walk_at "t_ev") => `(tactic| (intro H1 e Q q; (repeat walk_at "t_w"); exact q _ (by walk_at "t_ex")))
local macro_rules | `(tactic| walk_at "t_p") => `(tactic| first | assumption | decide | decide +kernel)
local macro_rules | `(tactic| walk_at "t_lt") => `(tactic| first | assumption | omega | (simp only [List.length_set, List.length_map, List.length_append]; first | assumption | omega))
local macro_rules | `(tactic| walk_at "t_w") => `(tactic| first
  | ((with_reducible refine' w_at ?s ?hl ?h0 ?_); (case s => walk_at "t_sq"); (case hl => walk_at "t_z"); (case h0 => walk_at "t_z"))
  | (with_reducible refine w_isInt ?_)
  | (with_reducible refine w_I1 ?_)
  | (with_reducible refine w_Head ?_)
  | ((with_reducible refine' w_number ?hb ?_); (case hb => walk_at "t_bits")))
local macro_rules | `(tactic| walk_at "t_bits") => `(tactic| assumption)
section
variable {P : Program} {w : World} {K : PySem.W.Frag} {mg : Str → Option Value} {base : Heap}
theorem ok_law {f : Addr} {fd : FuncData} (F : Fun K "law" "law" s_law f fd) (T : Txt K mg) (X : Ds K mg) : FnOk P w K mg base CX0 8 f fd ["_law_script"] (spLaw K) := by
  have c_fields_of := c_fields_of (P := P) (w := w) (base := base) T X.fields_of
  have c_is_link := c_is_link (P := P) (w := w) (base := base) T X.is_link
  have c_told_by := c_told_by (P := P) (w := w) (base := base) T X.told_by
  have c_link_word := c_link_word (P := P) (w := w) (base := base) T X.link_word
  have c_head_word := c_head_word (P := P) (w := w) (base := base) T X.head_word
  have c_heads := c_heads (P := P) (w := w) (base := base) T X.heads c_fields_of
  have c_field_words := c_field_words (P := P) (w := w) (base := base) T X.field_words c_fields_of
  have c_reached := c_reached (P := P) (w := w) (base := base) T X.reached c_heads c_field_words c_is_link c_told_by
  have c_places_behind := c_places_behind (P := P) (w := w) (base := base) T X.places_behind c_fields_of
  have c_moved := c_moved (P := P) (w := w) (base := base) T X.moved c_is_link c_told_by c_link_word
  have c_pushed := c_pushed (P := P) (w := w) (base := base) T X.pushed c_fields_of c_head_word c_reached c_field_words c_places_behind c_moved
  exact law_core F T X (c_pushed.mono (by decide))
end
theorem all_mk {l : PySem.W.OpenLaw} {w : World} {K : PySem.W.Frag} {h : Heap} {mg : Str → Option Value} {fa f0 f1 f2 f3 f4 f5 f6 f7 f8 f9 f10 f11 f12 f13 f14 f15 f16 f17 f18 f19 f20 f21 : Addr} (X : K.In h) (G : h.Ns mainGlobals mg) (hfa : mg "law" = some (.ref fa))
    {od0 an0 od1 an1 od2 an2 od3 an3 od4 an4 od5 an5 od6 an6 od7 an7 od8 an8 od9 an9 od10 an10 od11 an11 od12 an12 od13 an13 od14 an14 od15 an15 od16 an16 od17 an17 od18 an18 od19 an19 od20 an20 od21 an21 : Option Addr} {sl0 sl1 sl2 sl3 sl4 sl5 sl6 sl7 sl8 sl9 sl10 sl11 sl12 sl13 sl14 sl15 sl16 sl17 sl18 sl19 sl20 sl21 : Array (Option Value)} {oc0 kV0 dc0 pm0 cd0 ct0 oc1 kV1 dc1 pm1 cd1 ct1 oc2 kV2 dc2 pm2 cd2 ct2 oc3 kV3 dc3 pm3 cd3 ct3 oc4 kV4 dc4 pm4 cd4 ct4 oc5 kV5 dc5 pm5 cd5 ct5 oc6 kV6 dc6 pm6 cd6 ct6 oc7 kV7 dc7 pm7 cd7 ct7 oc8 kV8 dc8 pm8 cd8 ct8 oc9 kV9 dc9 pm9 cd9 ct9 oc10 kV10 dc10 pm10 cd10 ct10 oc11 kV11 dc11 pm11 cd11 ct11 oc12 kV12 dc12 pm12 cd12 ct12 oc13 kV13 dc13 pm13 cd13 ct13 oc14 kV14 dc14 pm14 cd14 ct14 oc15 kV15 dc15 pm15 cd15 ct15 oc16 kV16 dc16 pm16 cd16 ct16 oc17 kV17 dc17 pm17 cd17 ct17 oc18 kV18 dc18 pm18 cd18 ct18 oc19 kV19 dc19 pm19 cd19 ct19 oc20 kV20 dc20 pm20 cd20 ct20 oc21 kV21 dc21 pm21 cd21 ct21 : Value}
    (a0 : PySem.W.nsIn K mainGlobals "link_word" = some (some (.ref f0))) (l0 : K.lookup f0 = some ⟨oc0, od0, .func (PySem.W.fnOf "link_word" "link_word" (defArgs s_link_word) (defBody s_link_word) (defScope s_link_word) .none kV0 dc0 pm0 an0 cd0 ct0), sl0⟩) (c0 : PySem.W.codeIn K cd0 "link_word" = true) (k0 : PySem.W.keepIn K (.ref f0) = true)
    (a1 : PySem.W.nsIn K mainGlobals "head_word" = some (some (.ref f1))) (l1 : K.lookup f1 = some ⟨oc1, od1, .func (PySem.W.fnOf "head_word" "head_word" (defArgs s_head_word) (defBody s_head_word) (defScope s_head_word) .none kV1 dc1 pm1 an1 cd1 ct1), sl1⟩) (c1 : PySem.W.codeIn K cd1 "head_word" = true) (k1 : PySem.W.keepIn K (.ref f1) = true)
    (a2 : PySem.W.nsIn K mainGlobals "is_link" = some (some (.ref f2))) (l2 : K.lookup f2 = some ⟨oc2, od2, .func (PySem.W.fnOf "is_link" "is_link" (defArgs s_is_link) (defBody s_is_link) (defScope s_is_link) .none kV2 dc2 pm2 an2 cd2 ct2), sl2⟩) (c2 : PySem.W.codeIn K cd2 "is_link" = true) (k2 : PySem.W.keepIn K (.ref f2) = true)
    (a3 : PySem.W.nsIn K mainGlobals "told_by" = some (some (.ref f3))) (l3 : K.lookup f3 = some ⟨oc3, od3, .func (PySem.W.fnOf "told_by" "told_by" (defArgs s_told_by) (defBody s_told_by) (defScope s_told_by) .none kV3 dc3 pm3 an3 cd3 ct3), sl3⟩) (c3 : PySem.W.codeIn K cd3 "told_by" = true) (k3 : PySem.W.keepIn K (.ref f3) = true)
    (a4 : PySem.W.nsIn K mainGlobals "fields_of" = some (some (.ref f4))) (l4 : K.lookup f4 = some ⟨oc4, od4, .func (PySem.W.fnOf "fields_of" "fields_of" (defArgs s_fields_of) (defBody s_fields_of) (defScope s_fields_of) .none kV4 dc4 pm4 an4 cd4 ct4), sl4⟩) (c4 : PySem.W.codeIn K cd4 "fields_of" = true) (k4 : PySem.W.keepIn K (.ref f4) = true)
    (a5 : PySem.W.nsIn K mainGlobals "heads" = some (some (.ref f5))) (l5 : K.lookup f5 = some ⟨oc5, od5, .func (PySem.W.fnOf "heads" "heads" (defArgs s_heads) (defBody s_heads) (defScope s_heads) .none kV5 dc5 pm5 an5 cd5 ct5), sl5⟩) (c5 : PySem.W.codeIn K cd5 "heads" = true) (k5 : PySem.W.keepIn K (.ref f5) = true)
    (a6 : PySem.W.nsIn K mainGlobals "field_words" = some (some (.ref f6))) (l6 : K.lookup f6 = some ⟨oc6, od6, .func (PySem.W.fnOf "field_words" "field_words" (defArgs s_field_words) (defBody s_field_words) (defScope s_field_words) .none kV6 dc6 pm6 an6 cd6 ct6), sl6⟩) (c6 : PySem.W.codeIn K cd6 "field_words" = true) (k6 : PySem.W.keepIn K (.ref f6) = true)
    (a7 : PySem.W.nsIn K mainGlobals "reached" = some (some (.ref f7))) (l7 : K.lookup f7 = some ⟨oc7, od7, .func (PySem.W.fnOf "reached" "reached" (defArgs s_reached) (defBody s_reached) (defScope s_reached) .none kV7 dc7 pm7 an7 cd7 ct7), sl7⟩) (c7 : PySem.W.codeIn K cd7 "reached" = true) (k7 : PySem.W.keepIn K (.ref f7) = true)
    (a8 : PySem.W.nsIn K mainGlobals "places_behind" = some (some (.ref f8))) (l8 : K.lookup f8 = some ⟨oc8, od8, .func (PySem.W.fnOf "places_behind" "places_behind" (defArgs s_places_behind) (defBody s_places_behind) (defScope s_places_behind) .none kV8 dc8 pm8 an8 cd8 ct8), sl8⟩) (c8 : PySem.W.codeIn K cd8 "places_behind" = true) (k8 : PySem.W.keepIn K (.ref f8) = true)
    (a9 : PySem.W.nsIn K mainGlobals "moved" = some (some (.ref f9))) (l9 : K.lookup f9 = some ⟨oc9, od9, .func (PySem.W.fnOf "moved" "moved" (defArgs s_moved) (defBody s_moved) (defScope s_moved) .none kV9 dc9 pm9 an9 cd9 ct9), sl9⟩) (c9 : PySem.W.codeIn K cd9 "moved" = true) (k9 : PySem.W.keepIn K (.ref f9) = true)
    (a10 : PySem.W.nsIn K mainGlobals "pushed" = some (some (.ref f10))) (l10 : K.lookup f10 = some ⟨oc10, od10, .func (PySem.W.fnOf "pushed" "pushed" (defArgs s_pushed) (defBody s_pushed) (defScope s_pushed) .none kV10 dc10 pm10 an10 cd10 ct10), sl10⟩) (c10 : PySem.W.codeIn K cd10 "pushed" = true) (k10 : PySem.W.keepIn K (.ref f10) = true)
    (a11 : PySem.W.nsIn K mainGlobals "_law_at" = some (some (.ref f11))) (l11 : K.lookup f11 = some ⟨oc11, od11, .func (PySem.W.fnOf "_law_at" "_law_at" (defArgs s_law_at) (defBody s_law_at) (defScope s_law_at) .none kV11 dc11 pm11 an11 cd11 ct11), sl11⟩) (c11 : PySem.W.codeIn K cd11 "_law_at" = true) (k11 : PySem.W.keepIn K (.ref f11) = true)
    (a12 : PySem.W.nsIn K mainGlobals "_law_is_int" = some (some (.ref f12))) (l12 : K.lookup f12 = some ⟨oc12, od12, .func (PySem.W.fnOf "_law_is_int" "_law_is_int" (defArgs s_law_is_int) (defBody s_law_is_int) (defScope s_law_is_int) .none kV12 dc12 pm12 an12 cd12 ct12), sl12⟩) (c12 : PySem.W.codeIn K cd12 "_law_is_int" = true) (k12 : PySem.W.keepIn K (.ref f12) = true)
    (a13 : PySem.W.nsIn K mainGlobals "_law_words_are" = some (some (.ref f13))) (l13 : K.lookup f13 = some ⟨oc13, od13, .func (PySem.W.fnOf "_law_words_are" "_law_words_are" (defArgs s_law_words_are) (defBody s_law_words_are) (defScope s_law_words_are) .none kV13 dc13 pm13 an13 cd13 ct13), sl13⟩) (c13 : PySem.W.codeIn K cd13 "_law_words_are" = true) (k13 : PySem.W.keepIn K (.ref f13) = true)
    (a14 : PySem.W.nsIn K mainGlobals "_law_number" = some (some (.ref f14))) (l14 : K.lookup f14 = some ⟨oc14, od14, .func (PySem.W.fnOf "_law_number" "_law_number" (defArgs s_law_number) (defBody s_law_number) (defScope s_law_number) .none kV14 dc14 pm14 an14 cd14 ct14), sl14⟩) (c14 : PySem.W.codeIn K cd14 "_law_number" = true) (k14 : PySem.W.keepIn K (.ref f14) = true)
    (a15 : PySem.W.nsIn K mainGlobals "_law_sizes" = some (some (.ref f15))) (l15 : K.lookup f15 = some ⟨oc15, od15, .func (PySem.W.fnOf "_law_sizes" "_law_sizes" (defArgs s_law_sizes) (defBody s_law_sizes) (defScope s_law_sizes) .none kV15 dc15 pm15 an15 cd15 ct15), sl15⟩) (c15 : PySem.W.codeIn K cd15 "_law_sizes" = true) (k15 : PySem.W.keepIn K (.ref f15) = true)
    (a16 : PySem.W.nsIn K mainGlobals "_law_boxes" = some (some (.ref f16))) (l16 : K.lookup f16 = some ⟨oc16, od16, .func (PySem.W.fnOf "_law_boxes" "_law_boxes" (defArgs s_law_boxes) (defBody s_law_boxes) (defScope s_law_boxes) .none kV16 dc16 pm16 an16 cd16 ct16), sl16⟩) (c16 : PySem.W.codeIn K cd16 "_law_boxes" = true) (k16 : PySem.W.keepIn K (.ref f16) = true)
    (a17 : PySem.W.nsIn K mainGlobals "_law_places" = some (some (.ref f17))) (l17 : K.lookup f17 = some ⟨oc17, od17, .func (PySem.W.fnOf "_law_places" "_law_places" (defArgs s_law_places) (defBody s_law_places) (defScope s_law_places) .none kV17 dc17 pm17 an17 cd17 ct17), sl17⟩) (c17 : PySem.W.codeIn K cd17 "_law_places" = true) (k17 : PySem.W.keepIn K (.ref f17) = true)
    (a18 : PySem.W.nsIn K mainGlobals "_law_row" = some (some (.ref f18))) (l18 : K.lookup f18 = some ⟨oc18, od18, .func (PySem.W.fnOf "_law_row" "_law_row" (defArgs s_law_row) (defBody s_law_row) (defScope s_law_row) .none kV18 dc18 pm18 an18 cd18 ct18), sl18⟩) (c18 : PySem.W.codeIn K cd18 "_law_row" = true) (k18 : PySem.W.keepIn K (.ref f18) = true)
    (a19 : PySem.W.nsIn K mainGlobals "_law_alive" = some (some (.ref f19))) (l19 : K.lookup f19 = some ⟨oc19, od19, .func (PySem.W.fnOf "_law_alive" "_law_alive" (defArgs s_law_alive) (defBody s_law_alive) (defScope s_law_alive) .none kV19 dc19 pm19 an19 cd19 ct19), sl19⟩) (c19 : PySem.W.codeIn K cd19 "_law_alive" = true) (k19 : PySem.W.keepIn K (.ref f19) = true)
    (a20 : PySem.W.nsIn K mainGlobals "_law_pair" = some (some (.ref f20))) (l20 : K.lookup f20 = some ⟨oc20, od20, .func (PySem.W.fnOf "_law_pair" "_law_pair" (defArgs s_law_pair) (defBody s_law_pair) (defScope s_law_pair) .none kV20 dc20 pm20 an20 cd20 ct20), sl20⟩) (c20 : PySem.W.codeIn K cd20 "_law_pair" = true) (k20 : PySem.W.keepIn K (.ref f20) = true)
    (a21 : PySem.W.nsIn K mainGlobals "law" = some (some (.ref f21))) (l21 : K.lookup f21 = some ⟨oc21, od21, .func (PySem.W.fnOf "law" "law" (defArgs s_law) (defBody s_law) (defScope s_law) .none kV21 dc21 pm21 an21 cd21 ct21), sl21⟩) (c21 : PySem.W.codeIn K cd21 "law" = true) (k21 : PySem.W.keepIn K (.ref f21) = true)
    (z_int : PySem.W.nsIn K mainGlobals "int" = some none) (z_isinstance : PySem.W.nsIn K mainGlobals "isinstance" = some none) (z_len : PySem.W.nsIn K mainGlobals "len" = some none) (z_list : PySem.W.nsIn K mainGlobals "list" = some none) (z_max : PySem.W.nsIn K mainGlobals "max" = some none) (z_range : PySem.W.nsIn K mainGlobals "range" = some none) (z_sorted : PySem.W.nsIn K mainGlobals "sorted" = some none) (z_sum : PySem.W.nsIn K mainGlobals "sum" = some none) (z_tuple : PySem.W.nsIn K mainGlobals "tuple" = some none) :
    ∃ fd : FuncData, (∀ (s : Shared) (v : Value), BindsTo s fd ⟨[v], []⟩ [("_law_script", v)]) ∧ ∀ base : Heap, K.In base → base.Ns mainGlobals mg → FnOk l.prog w K mg base CX0 8 fa fd ["_law_script"] (spLaw K) := by
  have e := hfa.symm.trans (PySem.W.mg_of X G a21)
  cases e
  have T : Txt K mg := ⟨PySem.W.mg_none_of X G z_int, PySem.W.mg_none_of X G z_isinstance, PySem.W.mg_none_of X G z_len, PySem.W.mg_none_of X G z_list, PySem.W.mg_none_of X G z_max, PySem.W.mg_none_of X G z_range, PySem.W.mg_none_of X G z_sorted, PySem.W.mg_none_of X G z_sum, PySem.W.mg_none_of X G z_tuple⟩
  have d_link_word : DefAt K mg "link_word" "link_word" s_link_word := ⟨_, _, fun_mk (st := s_link_word) l0 c0 k0, PySem.W.mg_of X G a0⟩
  have d_head_word : DefAt K mg "head_word" "head_word" s_head_word := ⟨_, _, fun_mk (st := s_head_word) l1 c1 k1, PySem.W.mg_of X G a1⟩
  have d_is_link : DefAt K mg "is_link" "is_link" s_is_link := ⟨_, _, fun_mk (st := s_is_link) l2 c2 k2, PySem.W.mg_of X G a2⟩
  have d_told_by : DefAt K mg "told_by" "told_by" s_told_by := ⟨_, _, fun_mk (st := s_told_by) l3 c3 k3, PySem.W.mg_of X G a3⟩
  have d_fields_of : DefAt K mg "fields_of" "fields_of" s_fields_of := ⟨_, _, fun_mk (st := s_fields_of) l4 c4 k4, PySem.W.mg_of X G a4⟩
  have d_heads : DefAt K mg "heads" "heads" s_heads := ⟨_, _, fun_mk (st := s_heads) l5 c5 k5, PySem.W.mg_of X G a5⟩
  have d_field_words : DefAt K mg "field_words" "field_words" s_field_words := ⟨_, _, fun_mk (st := s_field_words) l6 c6 k6, PySem.W.mg_of X G a6⟩
  have d_reached : DefAt K mg "reached" "reached" s_reached := ⟨_, _, fun_mk (st := s_reached) l7 c7 k7, PySem.W.mg_of X G a7⟩
  have d_places_behind : DefAt K mg "places_behind" "places_behind" s_places_behind := ⟨_, _, fun_mk (st := s_places_behind) l8 c8 k8, PySem.W.mg_of X G a8⟩
  have d_moved : DefAt K mg "moved" "moved" s_moved := ⟨_, _, fun_mk (st := s_moved) l9 c9 k9, PySem.W.mg_of X G a9⟩
  have d_pushed : DefAt K mg "pushed" "pushed" s_pushed := ⟨_, _, fun_mk (st := s_pushed) l10 c10 k10, PySem.W.mg_of X G a10⟩
  have d_law_at : DefAt K mg "_law_at" "_law_at" s_law_at := ⟨_, _, fun_mk (st := s_law_at) l11 c11 k11, PySem.W.mg_of X G a11⟩
  have d_law_is_int : DefAt K mg "_law_is_int" "_law_is_int" s_law_is_int := ⟨_, _, fun_mk (st := s_law_is_int) l12 c12 k12, PySem.W.mg_of X G a12⟩
  have d_law_words_are : DefAt K mg "_law_words_are" "_law_words_are" s_law_words_are := ⟨_, _, fun_mk (st := s_law_words_are) l13 c13 k13, PySem.W.mg_of X G a13⟩
  have d_law_number : DefAt K mg "_law_number" "_law_number" s_law_number := ⟨_, _, fun_mk (st := s_law_number) l14 c14 k14, PySem.W.mg_of X G a14⟩
  have d_law_sizes : DefAt K mg "_law_sizes" "_law_sizes" s_law_sizes := ⟨_, _, fun_mk (st := s_law_sizes) l15 c15 k15, PySem.W.mg_of X G a15⟩
  have d_law_boxes : DefAt K mg "_law_boxes" "_law_boxes" s_law_boxes := ⟨_, _, fun_mk (st := s_law_boxes) l16 c16 k16, PySem.W.mg_of X G a16⟩
  have d_law_places : DefAt K mg "_law_places" "_law_places" s_law_places := ⟨_, _, fun_mk (st := s_law_places) l17 c17 k17, PySem.W.mg_of X G a17⟩
  have d_law_row : DefAt K mg "_law_row" "_law_row" s_law_row := ⟨_, _, fun_mk (st := s_law_row) l18 c18 k18, PySem.W.mg_of X G a18⟩
  have d_law_alive : DefAt K mg "_law_alive" "_law_alive" s_law_alive := ⟨_, _, fun_mk (st := s_law_alive) l19 c19 k19, PySem.W.mg_of X G a19⟩
  have d_law_pair : DefAt K mg "_law_pair" "_law_pair" s_law_pair := ⟨_, _, fun_mk (st := s_law_pair) l20 c20 k20, PySem.W.mg_of X G a20⟩
  have d_law : DefAt K mg "law" "law" s_law := ⟨_, _, fun_mk (st := s_law) l21 c21 k21, PySem.W.mg_of X G a21⟩
  refine ⟨PySem.W.fnOf "law" "law" (defArgs s_law) (defBody s_law) (defScope s_law) .none kV21 dc21 pm21 an21 cd21 ct21, fun s v => .of_eq rfl, fun base _ _ => ?_⟩
  exact ok_law (fun_mk (st := s_law) l21 c21 k21) T ⟨d_link_word, d_head_word, d_is_link, d_told_by, d_fields_of, d_heads, d_field_words, d_reached, d_places_behind, d_moved, d_pushed, d_law_at, d_law_is_int, d_law_words_are, d_law_number, d_law_sizes, d_law_boxes, d_law_places, d_law_row, d_law_alive, d_law_pair⟩
theorem walk {l : PySem.W.OpenLaw} {q : Program} {loose : List Str} {XP : (Str → Option Value) → Heap → Prop} {YP : World → Heap → Prop} {d : DefRec} {K : Params → PySem.W.Frag} (hn : l.most = some 63) (hdf : d.params.defaults = [])
    (hY : ∀ (w : World) (h : Heap), YP w h → (K w.params).In h)
    (F : ∀ (w : World) (mg : Str → Option Value) (fa : Addr) (h : Heap), (K w.params).In h → h.Ns mainGlobals mg → mg d.name = some (.ref fa) →
      ∃ fd : FuncData, (∀ (s : Shared) (u : Value), BindsTo s fd ⟨[u], []⟩ [("_law_script", u)]) ∧ ∀ base : Heap, (K w.params).In base → base.Ns mainGlobals mg → FnOk l.prog w (K w.params) mg base CX0 8 fa fd ["_law_script"] (spLaw (K w.params))) :
    PySem.W.WalkO q loose XP YP l.row.toRowW d [] (fun f vs => PySem.call f vs) :=
  L2.walk_ofB (n := 63) (k := 8) (x := "_law_script") (CX := fun _ => CX0) (sp := fun w => spLaw (K w.params)) hn (by decide) hdf ⟨rfl, by decide, by decide⟩ hY F (fun _ _ a ns hl hb _ hS => ⟨a, ns, rfl, hS, hl, hb, fun _ => rfl⟩) fun _ _ _ _ _ z => z
end Tw
open PySem PySem.W PyProof.Rows in
set_option maxRecDepth 100000 in
set_option maxHeartbeats 0 in
theorem PySem.Challenge.cw_threadslide_k05_whole_pushed_holds : PySem.Challenge.rw_threadslide_k05_whole_pushed.Holds := by
  w_on; o_law; k_head; (case hw => w_witness2)
  k_fill
  refine Tw.walk (l := PySem.Challenge.rw_threadslide_k05_whole_pushed) rfl rfl (fun w h Y => PySem.W.kIn_of Y) ?F
  case F =>
    intro w mg fa h KX G hmg
    refine' Tw.all_mk KX G hmg ?a0 ?l0 ?c0 ?k0 ?a1 ?l1 ?c1 ?k1 ?a2 ?l2 ?c2 ?k2 ?a3 ?l3 ?c3 ?k3 ?a4 ?l4 ?c4 ?k4 ?a5 ?l5 ?c5 ?k5 ?a6 ?l6 ?c6 ?k6 ?a7 ?l7 ?c7 ?k7 ?a8 ?l8 ?c8 ?k8 ?a9 ?l9 ?c9 ?k9 ?a10 ?l10 ?c10 ?k10 ?a11 ?l11 ?c11 ?k11 ?a12 ?l12 ?c12 ?k12 ?a13 ?l13 ?c13 ?k13 ?a14 ?l14 ?c14 ?k14 ?a15 ?l15 ?c15 ?k15 ?a16 ?l16 ?c16 ?k16 ?a17 ?l17 ?c17 ?k17 ?a18 ?l18 ?c18 ?k18 ?a19 ?l19 ?c19 ?k19 ?a20 ?l20 ?c20 ?k20 ?a21 ?l21 ?c21 ?k21 ?z_int ?z_isinstance ?z_len ?z_list ?z_max ?z_range ?z_sorted ?z_sum ?z_tuple
    (case a0 => k_is)
    (case l0 => k_is)
    (case c0 => k_is)
    (case k0 => k_is)
    (case a1 => k_is)
    (case l1 => k_is)
    (case c1 => k_is)
    (case k1 => k_is)
    (case a2 => k_is)
    (case l2 => k_is)
    (case c2 => k_is)
    (case k2 => k_is)
    (case a3 => k_is)
    (case l3 => k_is)
    (case c3 => k_is)
    (case k3 => k_is)
    (case a4 => k_is)
    (case l4 => k_is)
    (case c4 => k_is)
    (case k4 => k_is)
    (case a5 => k_is)
    (case l5 => k_is)
    (case c5 => k_is)
    (case k5 => k_is)
    (case a6 => k_is)
    (case l6 => k_is)
    (case c6 => k_is)
    (case k6 => k_is)
    (case a7 => k_is)
    (case l7 => k_is)
    (case c7 => k_is)
    (case k7 => k_is)
    (case a8 => k_is)
    (case l8 => k_is)
    (case c8 => k_is)
    (case k8 => k_is)
    (case a9 => k_is)
    (case l9 => k_is)
    (case c9 => k_is)
    (case k9 => k_is)
    (case a10 => k_is)
    (case l10 => k_is)
    (case c10 => k_is)
    (case k10 => k_is)
    (case a11 => k_is)
    (case l11 => k_is)
    (case c11 => k_is)
    (case k11 => k_is)
    (case a12 => k_is)
    (case l12 => k_is)
    (case c12 => k_is)
    (case k12 => k_is)
    (case a13 => k_is)
    (case l13 => k_is)
    (case c13 => k_is)
    (case k13 => k_is)
    (case a14 => k_is)
    (case l14 => k_is)
    (case c14 => k_is)
    (case k14 => k_is)
    (case a15 => k_is)
    (case l15 => k_is)
    (case c15 => k_is)
    (case k15 => k_is)
    (case a16 => k_is)
    (case l16 => k_is)
    (case c16 => k_is)
    (case k16 => k_is)
    (case a17 => k_is)
    (case l17 => k_is)
    (case c17 => k_is)
    (case k17 => k_is)
    (case a18 => k_is)
    (case l18 => k_is)
    (case c18 => k_is)
    (case k18 => k_is)
    (case a19 => k_is)
    (case l19 => k_is)
    (case c19 => k_is)
    (case k19 => k_is)
    (case a20 => k_is)
    (case l20 => k_is)
    (case c20 => k_is)
    (case k20 => k_is)
    (case a21 => k_is)
    (case l21 => k_is)
    (case c21 => k_is)
    (case k21 => k_is)
    (case z_int => k_is)
    (case z_isinstance => k_is)
    (case z_len => k_is)
    (case z_list => k_is)
    (case z_max => k_is)
    (case z_range => k_is)
    (case z_sorted => k_is)
    (case z_sum => k_is)
    (case z_tuple => k_is)
