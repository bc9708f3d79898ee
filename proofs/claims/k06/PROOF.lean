import PyProof.Rows.All
import Wide.All
import OpenK.AllK
import Wide.FinOn
import HandS.ForMost
import HandS.Evl
import HandS.IsInst
import HandS.Style
import HandS.Wide
import HandS.EndBits
import HandS.SortInts
import HandS.ForExc
import HandS.TryMany
import HandS.Star
import HandS.ExcIs
import HandS.HotCalls
import HandS.Small
import HandS.FStr
import HandS.RaiseMore
import HandS.Deep
import PyProof.ReprRoads
import PyProof.StrOps2
import PyProof.P3In
import PySem.Challenge.RW_threadslide_k06_what_is_refused
set_option Elab.async false
set_option linter.all false
set_option maxRecDepth 100000
set_option maxHeartbeats 4000000
/-! Steps over the hand layer: a def by its name, readings taken step by step, facts of the heap found by themselves. -/
namespace Tw
open PySem PySem.Spec PyProof.Rows L2
open Evl (Ex ex_l ex_t fresh_back sz_of sz_lt)

/-! ### a def by its name -/
structure DefAt (K : PySem.W.Frag) (mg : Str → Option Value) (x qual : Str) (st : Stmt) : Prop where
  ex : ∃ f fd, Fun K x qual st f fd ∧ mg x = some (.ref f)
structure Cal (P : Program) (w : World) (K : PySem.W.Frag) (mg : Str → Option Value) (base : Heap) (x : Str) (k : Nat) (ps : List Str) (sp : Sp) : Prop where
  ex : ∃ f fd, FnOk P w K mg base CX0 k f fd ps sp ∧ mg x = some (.ref f) ∧ PySem.W.keepIn K (.ref f) = true ∧ Binds K fd ps []
section
variable {P : Program} {w : World} {K : PySem.W.Frag} {mg : Str → Option Value} {base : Heap}
theorem Cal.of {x qual : Str} {st : Stmt} {k : Nat} {N ps : List Str} {sp : Sp} (D : DefAt K mg x qual st) (S : FnScope N ps (defScope st)) (len : ∀ vs H Q E, sp vs H Q E → vs.length = ps.length)
    (hb : ∀ (kV doc pm : Value) (an : Option Addr) (cdv ct : Value) (us : List Value), us.length = ps.length → bindArgs (PySem.W.fnOf x qual (defArgs st) (defBody st) (defScope st) .none kV doc pm an cdv ct) ⟨us, []⟩ = pure (ps.zip us))
    (hbody : ∀ (f : Addr) (cdv : Value) (A : Around) (outer : List Env) (s : Shared) (H : Hp) (vs : List V) (Q : VK) (E : XK), Room k (A.deeper (envOfC qual (defScope st) s.heap.objs.size f cdv)) → sp vs H Q E →
      ∃ t, PSs (cxOf CX0 P w K mg base N qual (defScope st) f cdv A outer s H E).nox (defBody st) t ∧ t { nx := fun _ H' => Q .non H', rt := Q } (start N vs) H) : Cal P w K mg base x (k + 1) ps sp := by
  obtain ⟨f, fd, F, hm⟩ := D.ex
  exact ⟨f, fd, F.ok S len (hbody f), hm, F.kp, F.binds hb⟩
theorem pe_callC {X : Cx} {x : Str} {k : Nat} {ps : List Str} {sp : Sp} {p pos : Pos} {e : Expr} {es : List Expr} {t : TA} (c : Cal X.prog X.w X.K X.mg X.base x k ps sp) (hr : Room k X.A) (hg : Gl X x)
    (ha : PA X (e :: es) t) (hdb : (x == ("__debug__" : Str)) = false := by decide) (he : starEach (e :: es) X.env = (false, eval e X.env) :: starEach es X.env := by rfl) (hpl : (backTo pos (starEach es X.env)).any (·.1) = false := by rfl) :
    PE X (.Call (.Name x p) (e :: es) [] pos) (tCall sp [] E0 t) := by
  obtain ⟨f, fd, F, hm, hk, hb⟩ := c.ex
  exact pe_call F hr hg hm hk hb .nil pass0 ha hdb he hpl
end

/-! ### wider operators -/
section
variable {X : Cx}
/-- * of two ints, each of less than 2^20 and 187 bits -/
def CMulB (i j : Int) : Prop := Builtin.Int.intBits i + Builtin.Int.intBits j ≤ 10000000
theorem CMulB.ok {i j : Int} (h : CMulB i j) : IntMulOk i j := by
  have h3 : Builtin.Int.intBits i + Builtin.Int.intBits j ≤ 10000000 := h
  have e : bitsLine = 134217728 := by decide
  unfold IntMulOk
  intro z
  rw [Bool.and_eq_true] at z
  have z2 := z.2
  unfold Builtin.Int.intTooBig at z2
  have z3 := of_decide_eq_true z2
  rw [e] at z3
  omega
theorem op_mulB : OpR X (binaryOp .Mult) (rI CMulB fun i j => .int (i * j)) := opI fun _ _ _ _ _ _ _ hc q => mul_int q hc.ok
/-- an int is no bool -/
theorem op_notIB : OpR X (compareOp .IsNot) (fun x y H Q => ∃ i b, x = .int i ∧ y = .bl b ∧ Q (.bl true) H) := by
  intro pins s σ H x y v u Q I rx ry h
  obtain ⟨i, b, rfl, rfl, q⟩ := h
  obtain ⟨t, rfl⟩ := rx
  cases (show u = Value.bool b from ry)
  exact wpAny_isNot_other rfl (fun z => by cases z) ⟨.bl true, H, I, rfl, q⟩
end
end Tw

set_option Elab.async false
set_option linter.all false
set_option maxRecDepth 100000
set_option maxHeartbeats 4000000
namespace Tw
open PySem PySem.Spec PyProof.Rows L2
open Evl (Ex ex_l ex_t fresh_back sz_of sz_lt)

/-! ### operators whose reading is chosen by the values -/
section
variable {X : Cx}
def rAddA : R2 := fun x y H Q => rI0 (fun i j => .int (i + j)) x y H Q ∨ rCat x y H Q
theorem op_addA : OpR X (binaryOp .Add) rAddA := op_add.or op_cat
def CMulA (i j : Int) : Prop := CMul i j ∨ CMulB i j
theorem CMulA.ok {i j : Int} (h : CMulA i j) : IntMulOk i j := h.elim CMul.ok CMulB.ok
theorem op_mulI : OpR X (binaryOp .Mult) (rI CMulA fun i j => .int (i * j)) := opI fun _ _ _ _ _ _ _ hc q => mul_int q hc.ok
def rMulA : R2 := fun x y H Q => rI CMulA (fun i j => .int (i * j)) x y H Q ∨ rRep x y H Q
theorem op_mulA : OpR X (binaryOp .Mult) rMulA := op_mulI.or op_rep
def rSlA (K : PySem.W.Frag) : V → Option Int → Option Int → Hp → VK → Prop := fun x lo hi H Q => rSlL K x lo hi H Q ∨ rSlT K x lo hi H Q
theorem sl_A : SlR X (rSlA X.K) := sl_list.or sl_tup
def rNotA : R2 := fun x y H Q => (∃ i b, x = .int i ∧ y = .bl b ∧ Q (.bl true) H) ∨ rNotB x y H Q ∨ (y = .non ∧ Q (.bl (!decide (x = .non))) H)
theorem op_notA : OpR X (compareOp .IsNot) rNotA := op_notIB.or (op_notBl.or op_notN)
def rIsA : R2 := fun x y H Q => rIsB x y H Q ∨ (y = .non ∧ Q (.bl (decide (x = .non))) H)
theorem op_isA : OpR X (compareOp .Is) rIsA := op_isBl.or op_isN
def rEqA (K : PySem.W.Frag) : R2 := fun x y H Q => rEq x y H Q ∨ rEqD K x y H Q
theorem op_eqA (hu : X.A.units + 64 < cLine) : OpR X (compareOp .Eq) (rEqA X.K) := op_eq.or (op_eqD hu)
def rNeA (K : PySem.W.Frag) : R2 := fun x y H Q => rNe x y H Q ∨ rNeD K x y H Q
theorem op_neA (hu : X.A.units + 64 < cLine) : OpR X (compareOp .NotEq) (rNeA X.K) := op_ne.or (op_neD hu)
def rLenA (K : PySem.W.Frag) : List V → Hp → VK → Prop := fun xs H Q => ∃ p ys, xs = [.ref p] ∧ (SqL K H p ys ∨ SqT K H p ys) ∧ Q (.int ys.length) H
theorem call_lenA : CallR X (.builtin "len") (rLenA X.K) := call_len_seq
def rIntA : List V → Hp → VK → Prop := fun xs H Q => (∃ i, xs = [.int i] ∧ Q (.int i) H) ∨ ∃ k, xs = [.bl k] ∧ Q (.int (if k then 1 else 0)) H
theorem call_intA : CallR X (.type "int") rIntA := call_int1
def rListA (K : PySem.W.Frag) : List V → Hp → VK → Prop := fun xs H Q => ∃ p ys, xs = [.ref p] ∧ (SqL K H p ys ∨ SqT K H p ys) ∧ ∀ l, H l = none → Q (.ref l) (upd H l (.lst ys))
theorem call_listA : CallR X (.type "list") (rListA X.K) := call_list_of
def rMaxA : List V → Hp → VK → Prop := fun xs H Q => ∃ i j, xs = [.int i, .int j] ∧ Q (.int (if j > i then j else i)) H
theorem call_maxA (hc : X.calm = true) : CallR X (.builtin "max") rMaxA := call_max2 hc
def rMinA : List V → Hp → VK → Prop := fun xs H Q => ∃ i j, xs = [.int i, .int j] ∧ Q (.int (if j < i then j else i)) H
theorem call_minA (hc : X.calm = true) : CallR X (.builtin "min") rMinA := call_min2 hc
def rAbsA : List V → Hp → VK → Prop := fun xs H Q => ∃ i, xs = [.int i] ∧ Q (.int (if i < 0 then -i else i)) H
theorem call_absA : CallR X (.builtin "abs") rAbsA := call_abs
end

/-! the same, the written part named -/
section
variable {X : Cx} {K : PySem.W.Frag}
theorem ix_seqK (h : X.K = K) : IxR X (rIx K) := h ▸ ix_seq
theorem sl_AK (h : X.K = K) : SlR X (rSlA K) := h ▸ sl_A
theorem op_eqK (h : X.K = K) (hu : X.A.units + 64 < cLine) : OpR X (compareOp .Eq) (rEqA K) := h ▸ op_eqA hu
theorem op_neK (h : X.K = K) (hu : X.A.units + 64 < cLine) : OpR X (compareOp .NotEq) (rNeA K) := h ▸ op_neA hu
theorem op_inK (h : X.K = K) : OpR X (compareOp .In) (rIn K false) := h ▸ op_in_seq
theorem op_notInK (h : X.K = K) : OpR X (compareOp .NotIn) (rIn K true) := h ▸ op_notIn_seq
theorem call_lenK (h : X.K = K) : CallR X (.builtin "len") (rLenA K) := h ▸ call_lenA
theorem call_isiK' (h : X.K = K) : CallR X (.builtin "isinstance") (rIsi K) := h ▸ call_isi
theorem call_listK (h : X.K = K) : CallR X (.type "list") (rListA K) := h ▸ call_listA
theorem cr_sumK (h : X.K = K) (hc : X.calm = true) : CallR X (.builtin "sum") (rSum K) := h ▸ cr_sum hc
theorem cr_sortedK (h : X.K = K) : CallR X (.builtin "sorted") (rSortedI K) := h ▸ cr_sortedI
theorem pi_listK (h : X.K = K) {l tg : Expr} {tl : TE} (hl : PE X l tl) : PI X tg l (iList K tl) := h ▸ pi_list hl
theorem pi_tupK (h : X.K = K) {l tg : Expr} {tl : TE} (hl : PE X l tl) : PI X tg l (iTup K tl) := h ▸ pi_tup hl
theorem pe_bm0K (h : X.K = K) {T name id : String} {r : V → List V → Hp → VK → Prop} {o : Expr} {to : TE} {apos cpos : Pos} (pa : PlainAttrs T) (slot : Slot T name id) (hty : typeOf (.builtin id) = pure (.type "method_descriptor")) (hm : MtR X id r) (ho : PE X o to)
    (hbase : attributeBase o name X.env (eval o X.env) = eval o X.env := by rfl) (hline : (apos.endLine == cpos.line) = true := by rfl) : PE X (.Call (.Attribute o name apos) [] [] cpos) (tBM0 K T r to) := h ▸ pe_bm0 pa slot hty hm ho hbase hline
theorem pe_bmK (h : X.K = K) {T name id : String} {r : V → List V → Hp → VK → Prop} {o e : Expr} {es : List Expr} {to : TE} {t : TA} {apos cpos : Pos} (pa : PlainAttrs T) (slot : Slot T name id) (hty : typeOf (.builtin id) = pure (.type "method_descriptor")) (hm : MtR X id r) (ho : PE X o to) (ha : PA X (e :: es) t)
    (hbase : attributeBase o name X.env (eval o X.env) = eval o X.env := by rfl)
    (hfew : ((backTo cpos (starEach (e :: es) X.env)).all (fun x => !x.1) && (backToKw cpos (keywordEach [] X.env)).all (fun x => x.1.isSome)
      && decide ((e :: es).length + ([] : List Keyword).length + (if ([] : List Keyword).isEmpty then 0 else 1) < 30)) = true := by rfl)
    (hline : (apos.endLine == cpos.line) = true := by rfl) (hs : starEach (e :: es) X.env = (false, eval e X.env) :: starEach es X.env := by rfl) (hplain : (backTo cpos (starEach es X.env)).any (·.1) = false := by rfl) :
    PE X (.Call (.Attribute o name apos) (e :: es) [] cpos) (tBM K T r to t) := h ▸ pe_bm pa slot hty hm ho ha hbase hfew hline hs hplain
theorem pe_fldK (h : X.K = K) {e : Expr} {f : Str} {pos : Pos} {ta : TE} (he : PE X e ta) (hb : attributeBase e f X.env (eval e X.env) = eval e X.env) : PE X (.Attribute e f pos) (tFld K ta f) := h ▸ pe_fld he hb
end

/-! ### one step -/
section
variable {K : PySem.W.Frag} {σ : L2.St} {H H1 H2 : Hp} {D : Ends} {t u : TS} {te ta tb : TE} {tt tu : TT} {Q : VK} {B : Bool → Hp → Prop}
theorem w_seq (h : t { D with nx := u D } σ H) : tSeq t u D σ H := h
theorem w_asg {g : TG} (h : te σ H fun x H1 => g x σ H1 D.nx) : tAsg te g D σ H := h
theorem w_gName {i : Nat} {v : V} {R : L2.St → Hp → Prop} (h : R (σ.set i (some v)) H) : gName i v σ H R := h
theorem w_ret (h : te σ H D.rt) : tRet te D σ H := h
theorem w_retN (h : D.rt .non H) : tRetN D σ H := h
theorem w_drop (h : te σ H fun _ H1 => D.nx σ H1) : tDrop te D σ H := h
theorem w_ifS (h : tt σ H fun b H1 => if b = true then t D σ H1 else u D σ H1) : tIfS tt t u D σ H := h
theorem w_next (h : D.nx σ H) : tNext D σ H := h
theorem w_break (h : D.bk σ H) : tBreak D σ H := h
theorem w_cont (h : D.ct σ H) : tCont D σ H := h
theorem w_nx {f b c : L2.St → Hp → Prop} {r : VK} (h : f σ H) : Ends.nx ⟨f, r, b, c⟩ σ H := h
theorem w_ct {f b c : L2.St → Hp → Prop} {r : VK} (h : c σ H) : Ends.ct ⟨f, r, b, c⟩ σ H := h
theorem w_bk {f b c : L2.St → Hp → Prop} {r : VK} (h : b σ H) : Ends.bk ⟨f, r, b, c⟩ σ H := h
theorem w_rt {f b c : L2.St → Hp → Prop} {r : VK} {v : V} (h : r v H) : Ends.rt ⟨f, r, b, c⟩ v H := h
theorem w_var {i : Nat} {v : V} (e : σ[i]? = some (some v)) (h : Q v H) : tVar i σ H Q := ⟨v, e, h⟩
theorem w_c {v : V} (h : Q v H) : tC v σ H Q := h
theorem w_op {r : R2} (h : ta σ H fun x H1 => tb σ H1 fun y H2 => r x y H2 Q) : tOp r ta tb σ H Q := h
theorem w_un {r : V → Hp → VK → Prop} (h : ta σ H fun x H1 => r x H1 Q) : tUn r ta σ H Q := h
theorem w_I0 {g : Int → Int → V} {i j : Int} (h : Q (g i j) H) : rI0 g (.int i) (.int j) H Q := ⟨i, j, rfl, rfl, h⟩
theorem w_I {C : Int → Int → Prop} {g : Int → Int → V} {i j : Int} (c : C i j) (h : Q (g i j) H) : rI C g (.int i) (.int j) H Q := ⟨i, j, rfl, rfl, c, h⟩
theorem w_U {g : Int → V} {i : Int} (h : Q (g i) H) : rU g (.int i) H Q := ⟨i, rfl, h⟩
theorem w_addI {i j : Int} (h : Q (.int (i + j)) H) : rAddA (.int i) (.int j) H Q := Or.inl ⟨i, j, rfl, rfl, h⟩
theorem w_addL {l b : Addr} {xs zs : List V} (h1 : H l = some (.lst xs)) (h2 : H b = some (.lst zs)) (hz : xs.length + zs.length ≤ 1000000) (h : ∀ p, H p = none → Q (.ref p) (upd H p (.lst (xs ++ zs)))) : rAddA (.ref l) (.ref b) H Q :=
  Or.inr ⟨l, b, xs, zs, rfl, rfl, h1, h2, Nat.le_trans hz (by decide), h⟩
theorem w_mulI {i j : Int} (c : CMulA i j) (h : Q (.int (i * j)) H) : rMulA (.int i) (.int j) H Q := Or.inl ⟨i, j, rfl, rfl, c, h⟩
theorem w_mulL {l : Addr} {k : Int} {xs : List V} (h1 : H l = some (.lst xs)) (b1 : -1000000 ≤ k) (b2 : k ≤ 1000000) (hz : xs.length * k.toNat ≤ 1000000) (h : ∀ p, H p = none → Q (.ref p) (upd H p (.lst (List.replicate k.toNat xs).flatten))) : rMulA (.ref l) (.int k) H Q :=
  Or.inr ⟨l, k, xs, rfl, rfl, h1, by omega, by omega, Nat.le_trans hz (by decide), h⟩
theorem w_mulL1 {l : Addr} {k : Int} {v : V} (h1 : H l = some (.lst [v])) (b1 : -1000000 ≤ k) (b2 : k ≤ 1000000) (h : ∀ p, H p = none → Q (.ref p) (upd H p (.lst (List.replicate k.toNat v)))) : rMulA (.ref l) (.int k) H Q :=
  w_mulL h1 b1 b2 (by show 1 * _ ≤ _; omega) fun p hp => by
    have e : (List.replicate k.toNat [v]).flatten = List.replicate k.toNat v := List.flatten_replicate_singleton
    rw [e]; exact h p hp
theorem w_notIB {i : Int} {b : Bool} (h : Q (.bl true) H) : rNotA (.int i) (.bl b) H Q := Or.inl ⟨i, b, rfl, rfl, h⟩
theorem w_notBB {a b : Bool} (h : Q (.bl (!decide (a = b))) H) : rNotA (.bl a) (.bl b) H Q := Or.inr (Or.inl ⟨a, b, rfl, rfl, h⟩)
theorem w_notN {x : V} (h : Q (.bl (!decide (x = .non))) H) : rNotA x .non H Q := Or.inr (Or.inr ⟨rfl, h⟩)
theorem w_isBB {a b : Bool} (h : Q (.bl (decide (a = b))) H) : rIsA (.bl a) (.bl b) H Q := Or.inl ⟨a, b, rfl, rfl, h⟩
theorem w_isN {x : V} (h : Q (.bl (decide (x = .non))) H) : rIsA x .non H Q := Or.inr ⟨rfl, h⟩
theorem dec_i {i j : Int} : decide (V.int i = V.int j) = decide (i = j) := by simp
theorem dec_b {i j : Bool} : decide (V.bl i = V.bl j) = decide (i = j) := by simp
theorem dec_s {i j : Str} : decide (V.str i = V.str j) = decide (i = j) := by simp
theorem w_eqI {i j : Int} (h : Q (.bl (decide (i = j))) H) : rEqA K (.int i) (.int j) H Q := Or.inl ⟨rfl, by rw [dec_i]; exact h⟩
theorem w_neI {i j : Int} (h : Q (.bl (!decide (i = j))) H) : rNeA K (.int i) (.int j) H Q := Or.inl ⟨rfl, by rw [dec_i]; exact h⟩
theorem w_eqB {i j : Bool} (h : Q (.bl (decide (i = j))) H) : rEqA K (.bl i) (.bl j) H Q := Or.inl ⟨rfl, by rw [dec_b]; exact h⟩
theorem w_neB {i j : Bool} (h : Q (.bl (!decide (i = j))) H) : rNeA K (.bl i) (.bl j) H Q := Or.inl ⟨rfl, by rw [dec_b]; exact h⟩
theorem w_eqS {i j : Str} (h : Q (.bl (decide (i = j))) H) : rEqA K (.str i) (.str j) H Q := Or.inl ⟨rfl, by rw [dec_s]; exact h⟩
theorem w_neS {i j : Str} (h : Q (.bl (!decide (i = j))) H) : rNeA K (.str i) (.str j) H Q := Or.inl ⟨rfl, by rw [dec_s]; exact h⟩
theorem w_eqD {x y : V} {d e : PyData} (h1 : Dp K H x d) (h2 : Dp K H y e) (s1 : SeqAt.shaped d = true) (s2 : SeqAt.shaped e = true) (h : Q (.bl (PyData.eqv d e)) H) : rEqA K x y H Q := Or.inr ⟨d, e, h1, h2, s1, s2, h⟩
theorem w_neD {x y : V} {d e : PyData} (h1 : Dp K H x d) (h2 : Dp K H y e) (s1 : SeqAt.shaped d = true) (s2 : SeqAt.shaped e = true) (h : Q (.bl (!PyData.eqv d e)) H) : rNeA K x y H Q := Or.inr ⟨d, e, h1, h2, s1, s2, h⟩
theorem w_test (h : te σ H fun x H1 => ∃ k, x = .bl k ∧ B k H1) : tTest te σ H B := h
theorem w_B (h : te σ H fun x H1 => ∃ k, x = .bl k ∧ B k H1) : tB te σ H B := h
theorem w_exB {b : Bool} (h : B b H) : ∃ k, V.bl b = .bl k ∧ B k H := ⟨b, rfl, h⟩
theorem w_and (h : tt σ H fun c H1 => if c = true then tu σ H1 B else B false H1) : tAnd tt tu σ H B := h
theorem w_or (h : tt σ H fun c H1 => if c = true then B true H1 else tu σ H1 B) : tOr tt tu σ H B := h
theorem w_not (h : tt σ H fun c H1 => B (!c) H1) : tNot tt σ H B := h
theorem w_andV (h : ta σ H fun x H1 => ∃ c, x = .bl c ∧ if c = true then tb σ H1 Q else Q (.bl false) H1) : tAndV ta tb σ H Q := h
theorem w_orV (h : ta σ H fun x H1 => ∃ c, x = .bl c ∧ if c = true then Q (.bl true) H1 else tb σ H1 Q) : tOrV ta tb σ H Q := h
theorem w_notV (h : ta σ H fun x H1 => ∃ c, x = .bl c ∧ Q (.bl (!c)) H1) : tNotV ta σ H Q := h
theorem w_bl {b : Bool} {F : Bool → Prop} (h : F b) : ∃ c, V.bl b = .bl c ∧ F c := ⟨b, rfl, h⟩
theorem w_if (h : tt σ H fun c H1 => if c = true then ta σ H1 Q else tb σ H1 Q) : tIf tt ta tb σ H Q := h
theorem w_nil {F : List V → Hp → Prop} (h : F [] H) : tNil σ H F := h
theorem w_cons {tr : TA} {F : List V → Hp → Prop} (h : ta σ H fun x H1 => tr σ H1 fun xs H2 => F (x :: xs) H2) : tCons ta tr σ H F := h
theorem w_cb {r : List V → Hp → VK → Prop} {a : TA} (h : a σ H fun vs H1 => r vs H1 Q) : tCB r a σ H Q := h
theorem w_call {sp : Sp} {dvs : List V} {E : XK} {a : TA} (h : a σ H fun vs H1 => sp (vs ++ dvs) H1 Q E) : tCall sp dvs E a σ H Q := h
theorem w_tup {a : TA} (h : a σ H fun xs H1 => xs.length ≤ sizeLine ∧ ∀ p, H1 p = none → Q (.ref p) (upd H1 p (.tup xs))) : tTup a σ H Q := h
theorem w_lst {a : TA} (h : a σ H fun xs H1 => xs.length ≤ sizeLine ∧ ∀ p, H1 p = none → Q (.ref p) (upd H1 p (.lst xs))) : tLst a σ H Q := h
theorem w_fin {n : Nat} {F : Prop} (hz : n ≤ 1000) (h : F) : n ≤ sizeLine ∧ F := ⟨Nat.le_trans hz (by decide), h⟩
theorem w_len {p : Addr} {ys : List V} (s : SqL K H p ys) (h : Q (.int ys.length) H) : rLenA K [.ref p] H Q := ⟨p, ys, rfl, .inl s, h⟩
theorem w_lenT {p : Addr} {ys : List V} (s : SqT K H p ys) (h : Q (.int ys.length) H) : rLenA K [.ref p] H Q := ⟨p, ys, rfl, .inr s, h⟩
theorem w_intI {i : Int} (h : Q (.int i) H) : rIntA [.int i] H Q := .inl ⟨i, rfl, h⟩
theorem w_intB {b : Bool} (h : Q (.int (if b then 1 else 0)) H) : rIntA [.bl b] H Q := .inr ⟨b, rfl, h⟩
theorem w_list {p : Addr} {ys : List V} (s : SqL K H p ys) (h : ∀ l, H l = none → Q (.ref l) (upd H l (.lst ys))) : rListA K [.ref p] H Q := ⟨p, ys, rfl, .inl s, h⟩
theorem w_max {i j : Int} (h : Q (.int (if j > i then j else i)) H) : rMaxA [.int i, .int j] H Q := ⟨i, j, rfl, h⟩
theorem w_min {i j : Int} (h : Q (.int (if j < i then j else i)) H) : rMinA [.int i, .int j] H Q := ⟨i, j, rfl, h⟩
theorem w_abs {i : Int} (h : Q (.int (if i < 0 then -i else i)) H) : rAbsA [.int i] H Q := ⟨i, rfl, h⟩
theorem w_sl {r : V → Option Int → Option Int → Hp → VK → Prop} {tl th : TO} (h : te σ H fun x H1 => tl σ H1 fun l H2 => th σ H2 fun u H3 => r x l u H3 Q) : tSl r te tl th σ H Q := h
theorem w_noPart {F : Option Int → Hp → Prop} (h : F none H) : tNoPart σ H F := h
theorem w_part {F : Option Int → Hp → Prop} (h : te σ H fun x H1 => ∃ i, x = .int i ∧ F (some i) H1) : tPart te σ H F := h
theorem w_exI {i : Int} {F : Int → Prop} (h : F i) : ∃ j, V.int i = .int j ∧ F j := ⟨i, rfl, h⟩
theorem w_slL {a : Addr} {xs : List V} {lo hi : Option Int} (s : SqL K H a xs) (h : ∀ p, H p = none → Q (.ref p) (upd H p (.lst (cutV xs lo hi)))) : rSlA K (.ref a) lo hi H Q := Or.inl ⟨a, xs, rfl, s, h⟩
theorem w_ixL {p : Addr} {xs : List V} {i : Int} {v : V} (s : SqL K H p xs) (e : atI xs i = some v) (h : Q v H) : rIx K (.ref p) (.int i) H Q := .inl ⟨p, xs, i, v, rfl, rfl, s, e, h⟩
theorem w_ixT {p : Addr} {xs : List V} {i : Int} {v : V} (s : SqT K H p xs) (e : atI xs i = some v) (h : Q v H) : rIx K (.ref p) (.int i) H Q := .inr (.inl ⟨p, xs, i, v, rfl, rfl, s, e, h⟩)
theorem w_gSub {to ti : TE} {s : TSet} {v : V} {R : L2.St → Hp → Prop} (h : to σ H fun o H1 => ti σ H1 fun i H2 => s o i v H2 fun H3 => R σ H3) : gSub to ti s v σ H R := h
theorem w_setL {l : Addr} {xs : List V} {k : Int} {j : Nat} {v : V} {F : Hp → Prop} (e : H l = some (.lst xs)) (b : ixN xs.length k = some j) (h : F (upd H l (.lst (xs.set j v)))) : rSetL (.ref l) (.int k) v H F := ⟨l, xs, k, j, rfl, rfl, e, b, h⟩
theorem w_bm {T : String} {r : V → List V → Hp → VK → Prop} {to : TE} {a : TA} (h : to σ H fun x H1 => tyV K T x H1 ∧ a σ H1 fun xs H2 => r x xs H2 Q) : tBM K T r to a σ H Q := h
theorem w_bm0 {T : String} {r : V → List V → Hp → VK → Prop} {to : TE} (h : to σ H fun x H1 => tyV K T x H1 ∧ r x [] H1 Q) : tBM0 K T r to σ H Q := h
theorem w_tyL {l : Addr} {xs : List V} {F : Prop} (e : SqL K H l xs) (h : F) : tyV K "list" (.ref l) H ∧ F := ⟨.inl ⟨rfl, xs, e⟩, h⟩
theorem w_app {l : Addr} {xs : List V} {v : V} (e : H l = some (.lst xs)) (hz : xs.length < 1000000) (h : Q .non (upd H l (.lst (xs ++ [v])))) : rAppend (.ref l) [v] H Q := ⟨l, xs, v, rfl, rfl, e, Nat.lt_of_lt_of_le hz (by decide), h⟩
theorem w_ite {p A C : Prop} [Decidable p] (h1 : p → A) (h2 : ¬ p → C) : if decide p = true then A else C := by
  by_cases h : p
  · rw [if_pos (decide_eq_true h)]; exact h1 h
  · rw [if_neg (by rw [decide_eq_false h]; decide)]; exact h2 h
theorem w_iteN {p A C : Prop} [Decidable p] (h1 : ¬ p → A) (h2 : p → C) : if (!decide p) = true then A else C := by
  by_cases h : p
  · rw [if_neg (by rw [decide_eq_true h]; decide)]; exact h2 h
  · rw [if_pos (by rw [decide_eq_false h]; rfl)]; exact h1 h
theorem w_iteB {b : Bool} {A C : Prop} (h1 : b = true → A) (h2 : b = false → C) : if b = true then A else C := by
  cases b with
  | true => rw [if_pos rfl]; exact h1 rfl
  | false => rw [if_neg (by decide)]; exact h2 rfl
theorem w_iteT {A C : Prop} (h : A) : if true = true then A else C := by rw [if_pos rfl]; exact h
theorem w_iteF {A C : Prop} (h : C) : if false = true then A else C := by rw [if_neg (by decide)]; exact h
theorem w_iteNT {A C : Prop} (h : C) : if (!true) = true then A else C := by rw [if_neg (by decide)]; exact h
theorem w_iteNF {A C : Prop} (h : A) : if (!false) = true then A else C := by rw [if_pos (by decide)]; exact h
theorem w_pos {p A C : Prop} [Decidable p] (hp : p) (h : A) : if decide p = true then A else C := w_ite (fun _ => h) fun n => absurd hp n
theorem w_neg {p A C : Prop} [Decidable p] (hp : ¬ p) (h : C) : if decide p = true then A else C := w_ite (fun y => absurd y hp) fun _ => h
theorem w_posN {p A C : Prop} [Decidable p] (hp : ¬ p) (h : A) : if (!decide p) = true then A else C := w_iteN (fun _ => h) fun n => absurd n hp
theorem w_negN {p A C : Prop} [Decidable p] (hp : p) (h : C) : if (!decide p) = true then A else C := w_iteN (fun y => absurd hp y) fun _ => h
end

/-! ### facts of the heap -/
theorem hp_ne {H : Hp} {p l : Addr} {o u : HO} (h : p ≠ l) (e : H p = some o) : upd H l u p = some o := by rw [upd_ne h]; exact e
theorem hp_ex {H H' : Hp} {p : Addr} {o : HO} (x : Ex H H') (e : H p = some o) : H' p = some o := x p o e
theorem ex_new {H0 H : Hp} {p : Addr} {o : HO} (n : H p = none) (e : Ex H0 H) : Ex H0 (upd H p o) := e.trans (Ex.new n)
theorem none_ne {H : Hp} {p l : Addr} {u : HO} (h : p ≠ l) (e : H p = none) : upd H l u p = none := by rw [upd_ne h]; exact e
theorem none_of {H : Hp} {p l : Addr} {u : HO} (e : upd H l u p = none) : H p = none := by
  by_cases h : p = l
  · subst h; rw [upd_same] at e; cases e
  · rw [upd_ne h] at e; exact e
theorem ne_of_upd {H : Hp} {p l : Addr} {u : HO} (e : upd H l u p = none) : p ≠ l := by
  intro h; subst h; rw [upd_same] at e; cases e

/-! ### kinds; comprehensions of plain values -/
section
variable {K : PySem.W.Frag} {σ : L2.St} {H : Hp} {Q : VK} {t : TT} {te : TE}
theorem kit_int_int : kitB "int" "int" = some true := by decide +kernel
theorem kit_list_list : kitB "list" "list" = some true := by decide +kernel
theorem kit_tuple_tuple : kitB "tuple" "tuple" = some true := by decide +kernel
theorem w_isiI {i : Int} (h : Q (.bl true) H) : rIsi K [.int i, .ty "int"] H Q := ⟨_, _, _, _, _, rfl, .ty "int", .base (.int i), kit_ty kit_int_int, h⟩
theorem tyx_l {p : Addr} {xs : List V} (e : H p = some (.lst xs)) : TyX K H (.ref p) (.type "list") := .base (.lst e)
theorem tyx_t {p : Addr} {xs : List V} (e : H p = some (.tup xs)) : TyX K H (.ref p) (.type "tuple") := .base (.tup e)
theorem w_isiL {p : Addr} (e : TyX K H (.ref p) (.type "list")) (h : Q (.bl true) H) : rIsi K [.ref p, .ty "list"] H Q := ⟨_, _, _, _, _, rfl, .ty "list", e, kit_ty kit_list_list, h⟩
theorem w_isiT {p : Addr} (e : TyX K H (.ref p) (.type "tuple")) (h : Q (.bl true) H) : rIsi K [.ref p, .ty "tuple"] H Q := ⟨_, _, _, _, _, rfl, .ty "tuple", e, kit_ty kit_tuple_tuple, h⟩
theorem w_lcR1 {ta : TA} {j : Nat} {vs : List Nat} {n : Int} (f : Nat → Bool) (v : Nat → V) (h : Evl.EvA ta σ H [.int n]) (hn : 0 ≤ n ∧ n ≤ 40000) (hw : ∀ x, wipe ((wipe σ vs).set j (some x)) vs = wipe σ vs)
    (ht : ∀ (i : Nat) H1, Ex H H1 → (i : Int) < n → Evl.EvT t ((wipe σ vs).set j (some (.int (i : Int)))) H1 (f i)) (he : ∀ (i : Nat) H1, Ex H H1 → (i : Int) < n → f i = true → Evl.Ev te ((wipe σ vs).set j (some (.int (i : Int)))) H1 (v i))
    (k : ∀ p H2, H p = none → Ex H H2 → H2 p = some (.lst (Evl.given n.toNat f v)) → Q (.ref p) H2) : tLc (iRng1 ta) (gName j) t te vs σ H Q :=
  Evl.el_lcR1 f v h hn hw ht he H (Evl.Ex.refl H) Q k
theorem w_lcL {a : Addr} {xs : List V} {tl : TE} {j : Nat} {vs : List Nat} (f : Nat → Bool) (v : Nat → V) (h : Evl.Ev tl σ H (.ref a)) (hx : SqL K H a xs) (hz : xs.length ≤ 40000) (hw : ∀ x, wipe ((wipe σ vs).set j (some x)) vs = wipe σ vs)
    (ht : ∀ (i : Nat) (x : V) H1, Ex H H1 → xs[i]? = some x → Evl.EvT t ((wipe σ vs).set j (some x)) H1 (f i)) (he : ∀ (i : Nat) (x : V) H1, Ex H H1 → xs[i]? = some x → f i = true → Evl.Ev te ((wipe σ vs).set j (some x)) H1 (v i))
    (k : ∀ p H2, H p = none → Ex H H2 → H2 p = some (.lst (Evl.given xs.length f v)) → Q (.ref p) H2) : tLc (iList K tl) (gName j) t te vs σ H Q :=
  Evl.el_lcL f v h hx hz hw ht he H (Evl.Ex.refl H) Q k
theorem given_all (n : Nat) (v : Nat → V) : Evl.given n (fun _ => true) v = (List.range n).map v := by
  unfold Evl.given
  rw [List.filter_eq_self.mpr (by simp)]
theorem given_none (n : Nat) (v : Nat → V) : Evl.given n (fun _ => false) v = [] := by
  unfold Evl.given
  rw [List.filter_eq_nil_iff.mpr (by simp)]
  rfl
theorem at_map {xs : List Int} {i : Nat} (h : i < xs.length) : atI (xs.map V.int) (i : Int) = some (.int xs[i]) := atI_nat (by rw [List.getElem?_map, List.getElem?_eq_getElem h]; rfl)
end

/-! ### in a list of ints -/
section
variable {K : PySem.W.Frag} {H : Hp} {Q : VK}
theorem inV_ints (a : Int) (l : List Int) : inV (.int a) (l.map V.int) = decide (a ∈ l) := by
  unfold inV
  rw [List.any_map]
  induction l with
  | nil => rfl
  | cons b r ih =>
    rw [List.any_cons, ih]
    show ((b == a) || _) = _
    by_cases h : b = a
    · subst h; simp
    · have h' : ¬ a = b := fun e => h e.symm
      simp [h, h']
theorem flat_ints (l : List Int) : (l.map V.int).all flatV = true := by
  rw [List.all_map]
  exact List.all_eq_true.mpr fun _ _ => rfl
theorem w_notInL {p : Addr} {a : Int} {l : List Int} (s : SqL K H p (l.map V.int)) (h : Q (.bl (!decide (a ∈ l))) H) : rIn K true (.int a) (.ref p) H Q :=
  ⟨p, l.map V.int, rfl, .inl s, rfl, flat_ints l, by rw [inV_ints]; exact h⟩
theorem w_inL {p : Addr} {a : Int} {l : List Int} (s : SqL K H p (l.map V.int)) (h : Q (.bl (decide (a ∈ l))) H) : rIn K false (.int a) (.ref p) H Q :=
  ⟨p, l.map V.int, rfl, .inl s, rfl, flat_ints l, by rw [inV_ints]; exact h⟩
end

/-! ### lists of ints, by their cells -/
section
variable {K : PySem.W.Frag} {H : Hp} {Q : VK}
theorem at_mapD {xs : List Int} {i : Nat} (h : i < xs.length) : atI (xs.map V.int) (i : Int) = some (.int (xs.getD i 0)) := by
  rw [at_map h, List.getD_eq_getElem?_getD, List.getElem?_eq_getElem h]; rfl
theorem ixn_map {xs : List Int} {i : Nat} (h : i < xs.length) : ixN (xs.map V.int).length (i : Int) = some i := Evl.ixN_nat (by rw [List.length_map]; exact h)
theorem map_set (xs : List Int) (i : Nat) (v : Int) : (xs.map V.int).set i (.int v) = (xs.set i v).map V.int := by rw [List.map_set]
theorem w_setLI {l : Addr} {xs : List Int} {j : Nat} {v : Int} {F : Hp → Prop} (e : H l = some (.lst (xs.map V.int))) (b : j < xs.length) (h : F (upd H l (.lst ((xs.set j v).map V.int)))) : rSetL (.ref l) (.int (j : Int)) (.int v) H F :=
  w_setL e (ixn_map b) (by rw [map_set]; exact h)
theorem w_ixLI {p : Addr} {xs : List Int} {j : Nat} (s : SqL K H p (xs.map V.int)) (b : j < xs.length) (h : Q (.int (xs.getD j 0)) H) : rIx K (.ref p) (.int (j : Int)) H Q := w_ixL s (at_mapD b) h
theorem getD_set {xs : List Int} {i j : Nat} {v : Int} (hi : i < xs.length) : (xs.set i v).getD j 0 = if j = i then v else xs.getD j 0 := by
  rw [List.getD_eq_getElem?_getD, List.getElem?_set]
  by_cases h : i = j
  · subst h; simp [hi]
  · have h' : ¬ j = i := fun e => h e.symm
    simp [h, h', List.getD_eq_getElem?_getD]
end

/-- places as ints -/
def asI (js : List Nat) : List Int := js.map fun n : Nat => (n : Int)
theorem asI_len (js : List Nat) : (asI js).length = js.length := List.length_map ..
theorem asI_mem {js : List Nat} {j : Nat} : (j : Int) ∈ asI js ↔ j ∈ js := by
  unfold asI
  rw [List.mem_map]
  constructor
  · rintro ⟨n, hn, e⟩
    have : n = j := by omega
    exact this ▸ hn
  · exact fun h => ⟨j, h, rfl⟩
theorem asI_get {js : List Nat} {i : Nat} {x : V} (h : ((asI js).map V.int)[i]? = some x) : ∃ j, js[i]? = some j ∧ x = .int (j : Int) := by
  unfold asI at h
  rw [List.getElem?_map, List.getElem?_map] at h
  cases e : js[i]? with
  | none => rw [e] at h; cases h
  | some j => rw [e] at h; exact ⟨j, rfl, (Option.some.inj h).symm⟩
theorem asI_snoc (js : List Nat) (j : Nat) : (asI js).map V.int ++ [V.int (j : Int)] = (asI (js ++ [j])).map V.int := by
  unfold asI
  rw [List.map_append, List.map_append]; rfl

theorem asI_sum (js : List Nat) : (asI js).sum = ((js.sum : Nat) : Int) := by
  induction js with
  | nil => rfl
  | cons j r ih =>
    show ((j : Int) :: asI r).sum = _
    rw [List.sum_cons, ih, List.sum_cons]
    omega
section
variable {K : PySem.W.Frag} {σ : L2.St} {H : Hp} {Q : VK}
theorem w_sum {p : Addr} {ns : List Int} (s : SqL K H p (ns.map V.int)) (h : Q (.int ns.sum) H) : rSum K [.ref p] H Q := ⟨p, ns, rfl, s, h⟩
theorem w_pop {l : Addr} {xs : List V} {y : V} (e : H l = some (.lst xs)) (g : xs[xs.length - 1]? = some y) (h : Q y (upd H l (.lst xs.dropLast))) : rPop (.ref l) [] H Q := ⟨l, xs, y, rfl, rfl, e, g, h⟩
end

section
variable {H H' : Hp}
/-- the heap without one address -/
def del (H : Hp) (l : Addr) : Hp := fun b => if b = l then none else H b
theorem del_same {l : Addr} : del H l l = none := by unfold del; rw [if_pos rfl]
theorem del_ne {l b : Addr} (h : b ≠ l) : del H l b = H b := by unfold del; rw [if_neg h]
theorem del_ex {l : Addr} : Ex (del H l) H := fun a o e => by
  by_cases h : a = l
  · subst h; rw [del_same] at e; cases e
  · rw [del_ne h] at e; exact e
theorem del_mono {l : Addr} (x : Ex H H') : Ex (del H l) (del H' l) := fun a o e => by
  by_cases h : a = l
  · subst h; rw [del_same] at e; cases e
  · rw [del_ne h] at e ⊢; exact x a o e
theorem del_upd {l : Addr} {o : HO} : del (upd H l o) l = del H l := by
  funext b
  by_cases h : b = l
  · subst h; rw [del_same, del_same]
  · rw [del_ne h, del_ne h, upd_ne h]
theorem ex_del {l : Addr} (h : H l = none) : Ex H (del H l) := fun a o e => by
  rw [del_ne (ne_of_none e h)]; exact e
theorem del_put {l : Addr} {o : HO} : Ex (del H l) (upd H l o) := Evl.Ex.mut del_ex del_same
end

/-! ### loops -/
section
variable {K : PySem.W.Frag} {σ : L2.St} {H : Hp} {Q : VK} {D : Ends} {g : TG} {tb : TS} {tl : TE} {ta : TA} {wi : TI} {tt : TT} {te : TE} {vs : List Nat}
def LoopJ (J : It) (g : TG) (tb : TS) (D : Ends) (σ : L2.St) (H1 : Hp) : Prop := ∃ W : Nat → Nat → L2.St → Hp → Prop, (∃ m, W 0 m σ H1) ∧ ∀ i m σ H, W i m σ H →
  (J.stop i H ∧ D.nx σ H) ∨ (J.go i H ∧ ∃ N : L2.St → Hp → Prop, (∀ σ' H', N σ' H' → ∃ m', m' < m ∧ W (i + 1) m' σ' H') ∧ ∀ x H', J.yld i H x H' → g x σ H' fun σ2 H2 => tb { D with nx := N, ct := N, bk := D.nx } σ2 H2)
theorem w_for (h : wi σ H fun J H1 => LoopJ J g tb D σ H1) : tFor wi g tb D σ H := h
def LcJ (J : It) (g : TG) (tt : TT) (te : TE) (vs : List Nat) (σ : L2.St) (H1 : Hp) (Q : VK) : Prop := ∀ D, H1 D = none → ∃ W : Nat → Nat → Hp → Prop, (∃ m, W 0 m (upd H1 D (.lst []))) ∧ ∀ i m H, W i m H →
  (J.stop i H ∧ Q (.ref D) H) ∨ (J.go i H ∧ ∃ Nx : Hp → Prop, (∀ H', Nx H' → ∃ m', m' < m ∧ W (i + 1) m' H') ∧ ∀ x H', J.yld i H x H' → g x (wipe σ vs) H' fun σ2 H2 => wipe σ2 vs = wipe σ vs ∧ tt σ2 H2 fun b H3 =>
    if b = true then te σ2 H3 fun y H4 => ∃ acc, H4 D = some (.lst acc) ∧ acc.length < sizeLine ∧ Nx (upd H4 D (.lst (acc ++ [y]))) else Nx H3)
theorem w_lc (h : wi σ H fun J H1 => LcJ J g tt te vs σ H1 Q) : tLc wi g tt te vs σ H Q := h
theorem w_iList {R : It → Hp → Prop} (h : tl σ H fun x H1 => ∃ a, x = .ref a ∧ (∃ xs, SqL K H1 a xs) ∧ R (Itl K a) H1) : iList K tl σ H R := h
theorem w_exL {F : Addr → Prop} {a : Addr} {xs : List V} (s : SqL K H a xs) (h : F a) : ∃ b, V.ref a = .ref b ∧ (∃ xs, SqL K H b xs) ∧ F b := ⟨a, rfl, ⟨xs, s⟩, h⟩
theorem w_iTup {R : It → Hp → Prop} (h : tl σ H fun x H1 => ∃ a, x = .ref a ∧ (∃ xs, SqT K H1 a xs) ∧ R (Itt K a) H1) : iTup K tl σ H R := h
theorem w_exT {F : Addr → Prop} {a : Addr} {xs : List V} (s : SqT K H a xs) (h : F a) : ∃ b, V.ref a = .ref b ∧ (∃ xs, SqT K H b xs) ∧ F b := ⟨a, rfl, ⟨xs, s⟩, h⟩
theorem w_iRng1 {R : It → Hp → Prop} (h : ta σ H fun vs H1 => ∃ j : Int, vs = [.int j] ∧ -(2 ^ 62) ≤ j ∧ j < 2 ^ 62 ∧ R (Itr 0 j.toNat) H1) : iRng1 ta σ H R := h
theorem w_exR1 {F : Int → Prop} {j : Int} (b : -1000000000 ≤ j ∧ j ≤ 1000000000) (h : F j) : ∃ i : Int, [V.int j] = [.int i] ∧ -(2 ^ 62) ≤ i ∧ i < 2 ^ 62 ∧ F i := ⟨j, rfl, by omega, by omega, h⟩
theorem w_iRng2 {R : It → Hp → Prop} (h : ta σ H fun vs H1 => ∃ i j : Int, vs = [.int i, .int j] ∧ (-(2 ^ 62) ≤ i ∧ i < 2 ^ 62 ∧ -(2 ^ 62) ≤ j ∧ j < 2 ^ 62) ∧ R (Itr i (j - i).toNat) H1) : iRng2 ta σ H R := h
theorem w_exR2 {F : Int → Int → Prop} {i j : Int} (b : -1000000000 ≤ i ∧ i ≤ 1000000000 ∧ -1000000000 ≤ j ∧ j ≤ 1000000000) (h : F i j) : ∃ i' j' : Int, [V.int i, V.int j] = [.int i', .int j'] ∧ (-(2 ^ 62) ≤ i' ∧ i' < 2 ^ 62 ∧ -(2 ^ 62) ≤ j' ∧ j' < 2 ^ 62) ∧ F i' j' := ⟨i, j, rfl, ⟨by omega, by omega, by omega, by omega⟩, h⟩
theorem loopL {a : Addr} {xs : List V} (Pv : Nat → L2.St → Hp → Prop) (h0 : Pv 0 σ H) (hl : ∀ i σ H, i ≤ xs.length → Pv i σ H → SqL K H a xs)
    (hs : ∀ i x σ H, xs[i]? = some x → Pv i σ H → g x σ H fun σ2 H2 => tb { D with nx := Pv (i + 1), ct := Pv (i + 1), bk := D.nx } σ2 H2) (hd : ∀ σ H, Pv xs.length σ H → D.nx σ H) : LoopJ (Itl K a) g tb D σ H := for_list Pv h0 hl hs hd
theorem loopT {a : Addr} {xs : List V} (Pv : Nat → L2.St → Hp → Prop) (h0 : Pv 0 σ H) (hl : ∀ i σ H, i ≤ xs.length → Pv i σ H → SqT K H a xs)
    (hs : ∀ i x σ H, xs[i]? = some x → Pv i σ H → g x σ H fun σ2 H2 => tb { D with nx := Pv (i + 1), ct := Pv (i + 1), bk := D.nx } σ2 H2) (hd : ∀ σ H, Pv xs.length σ H → D.nx σ H) : LoopJ (Itt K a) g tb D σ H := for_tup Pv h0 hl hs hd
theorem loopR {lo : Int} {n : Nat} (Pv : Nat → L2.St → Hp → Prop) (h0 : Pv 0 σ H)
    (hs : ∀ i σ H, i < n → Pv i σ H → g (.int (lo + i)) σ H fun σ2 H2 => tb { D with nx := Pv (i + 1), ct := Pv (i + 1), bk := D.nx } σ2 H2) (hd : ∀ σ H, Pv n σ H → D.nx σ H) : LoopJ (Itr lo n) g tb D σ H := for_range Pv h0 hs hd
theorem lcjR {lo : Int} {n : Nat} (Pv : Addr → Nat → Hp → Prop) (h0 : ∀ D, H D = none → Pv D 0 (upd H D (.lst [])))
    (hs : ∀ D i H', H D = none → i < n → Pv D i H' → g (.int (lo + i)) (wipe σ vs) H' fun σ2 H2 => wipe σ2 vs = wipe σ vs ∧ tt σ2 H2 fun b H3 =>
      if b = true then te σ2 H3 fun y H4 => ∃ acc, H4 D = some (.lst acc) ∧ acc.length < sizeLine ∧ Pv D (i + 1) (upd H4 D (.lst (acc ++ [y]))) else Pv D (i + 1) H3) (hd : ∀ D H', H D = none → Pv D n H' → Q (.ref D) H') : LcJ (Itr lo n) g tt te vs σ H Q := fun D hD => lc_range (Pv D) (h0 D hD) (fun i H' hi p => hs D i H' hD hi p) fun H' p => hd D H' hD p
theorem lcjL {a : Addr} {xs : List V} (Pv : Addr → Nat → Hp → Prop) (h0 : ∀ D, H D = none → Pv D 0 (upd H D (.lst []))) (hl : ∀ D i H', i ≤ xs.length → Pv D i H' → SqL K H' a xs)
    (hs : ∀ D i x H', H D = none → xs[i]? = some x → Pv D i H' → g x (wipe σ vs) H' fun σ2 H2 => wipe σ2 vs = wipe σ vs ∧ tt σ2 H2 fun b H3 =>
      if b = true then te σ2 H3 fun y H4 => ∃ acc, H4 D = some (.lst acc) ∧ acc.length < sizeLine ∧ Pv D (i + 1) (upd H4 D (.lst (acc ++ [y]))) else Pv D (i + 1) H3) (hd : ∀ D H', H D = none → Pv D xs.length H' → Q (.ref D) H') : LcJ (Itl K a) g tt te vs σ H Q := fun D hD => lc_list (Pv D) (h0 D hD) (hl D) (fun i x H' hi p => hs D i x H' hD hi p) fun H' p => hd D H' hD p
theorem w_yes {B : Bool → Hp → Prop} (h : B true H) : tYes σ H B := h
/-- a comprehension whose items lie in the heap: R what is true of the i-th item -/
theorem lcjRM {lo : Int} {n j : Nat} (R : Nat → V → Hp → Prop) (mono : ∀ i v H H', Ex H H' → R i v H → R i v H')
    (hs : ∀ D i H' acc, H D = none → H' D = some (.lst acc) → Ex H H' → i < n → ∀ Q' : VK, (∀ v H4, Ex H' H4 → R i v (del H4 D) → Q' v H4) → te ((wipe σ vs).set j (some (.int (lo + (i : Int))))) H' Q')
    (hw : ∀ x, wipe ((wipe σ vs).set j (some x)) vs = wipe σ vs) (hn : n ≤ 100000)
    (hd : ∀ D H' ys, H D = none → Ex H H' → H' D = some (.lst ys) → ys.length = n → (∀ i v, ys[i]? = some v → R i v (del H' D)) → Q (.ref D) H') : LcJ (Itr lo n) (gName j) tYes te vs σ H Q := by
  refine lcjR (fun D i H' => Ex H H' ∧ ∃ ys, H' D = some (.lst ys) ∧ ys.length = i ∧ ∀ k v, ys[k]? = some v → R k v (del H' D)) (fun D hD => ⟨Evl.Ex.new hD, [], upd_same, rfl, fun k v e => by simp at e⟩) ?_ (fun D H' hD ⟨e, ys, h1, h2, h3⟩ => hd D H' ys hD e h1 h2 h3)
  rintro D i H' hD hi ⟨e, ys, h1, h2, h3⟩
  refine ⟨hw _, ?_⟩
  refine w_yes ?_
  refine w_iteT ?_
  refine hs D i H' ys hD h1 e hi _ fun v H4 e4 r => ⟨ys, e4 _ _ h1, Nat.lt_of_le_of_lt (by omega : ys.length ≤ 100000) (by decide), Evl.Ex.mut (e.trans e4) hD, ys ++ [v], upd_same, by rw [List.length_append, h2]; rfl, fun k u ek => ?_⟩
  rw [del_upd]
  by_cases hk : k < ys.length
  · rw [List.getElem?_append_left hk] at ek
    exact mono _ _ _ _ (del_mono e4) (h3 k u ek)
  · rw [List.getElem?_append_right (by omega)] at ek
    cases h9 : k - ys.length with
    | zero =>
      rw [h9] at ek
      cases ek
      have : k = i := by omega
      rw [this]; exact r
    | succ m => rw [h9] at ek; simp at ek
theorem lcjLM {a : Addr} {xs : List V} {j : Nat} (R : Nat → V → Hp → Prop) (mono : ∀ i v H H', Ex H H' → R i v H → R i v H') (hx : SqL K H a xs)
    (hs : ∀ D (i : Nat) (x : V) H' acc, H D = none → H' D = some (.lst acc) → Ex H H' → xs[i]? = some x → ∀ Q' : VK, (∀ v H4, Ex H' H4 → R i v (del H4 D) → Q' v H4) → te ((wipe σ vs).set j (some x)) H' Q')
    (hw : ∀ x, wipe ((wipe σ vs).set j (some x)) vs = wipe σ vs) (hn : xs.length ≤ 100000)
    (hd : ∀ D H' ys, H D = none → Ex H H' → H' D = some (.lst ys) → ys.length = xs.length → (∀ i v, ys[i]? = some v → R i v (del H' D)) → Q (.ref D) H') : LcJ (Itl K a) (gName j) tYes te vs σ H Q := by
  refine lcjL (xs := xs) (fun D i H' => Ex H H' ∧ ∃ ys, H' D = some (.lst ys) ∧ ys.length = i ∧ ∀ k v, ys[k]? = some v → R k v (del H' D)) (fun D hD => ⟨Evl.Ex.new hD, [], upd_same, rfl, fun k v e => by simp at e⟩) (fun D i H' _ ⟨e, _⟩ => ex_l e hx) ?_ (fun D H' hD ⟨e, ys, h1, h2, h3⟩ => hd D H' ys hD e h1 h2 h3)
  rintro D i x H' hD hi ⟨e, ys, h1, h2, h3⟩
  have hil := (List.getElem?_eq_some_iff.mp hi).1
  refine ⟨hw _, ?_⟩
  refine w_yes ?_
  refine w_iteT ?_
  refine hs D i x H' ys hD h1 e hi _ fun v H4 e4 r => ⟨ys, e4 _ _ h1, Nat.lt_of_le_of_lt (by omega : ys.length ≤ 100000) (by decide), Evl.Ex.mut (e.trans e4) hD, ys ++ [v], upd_same, by rw [List.length_append, h2]; rfl, fun k u ek => ?_⟩
  rw [del_upd]
  by_cases hk : k < ys.length
  · rw [List.getElem?_append_left hk] at ek
    exact mono _ _ _ _ (del_mono e4) (h3 k u ek)
  · rw [List.getElem?_append_right (by omega)] at ek
    cases h9 : k - ys.length with
    | zero =>
      rw [h9] at ek
      cases ek
      have : k = i := by omega
      rw [this]; exact r
    | succ m => rw [h9] at ek; simp at ek
theorem set_self {σ : L2.St} {j : Nat} (hj : j < σ.length) : ∃ y, σ = σ.set j y := ⟨σ[j], (List.set_getElem_self hj).symm⟩
/-- a loop over a list that stores its variable alone and changes nothing that stood -/
theorem loopL_pure {j : Nat} {a : Addr} {xs : List V} (s : SqL K H a xs) (hs : ∀ (i : Nat) (x : V) (H' : Hp), xs[i]? = some x → Ex H H' → tb { D with nx := fun σ2 H2 => (∃ y, σ2 = σ.set j y) ∧ Ex H H2, ct := fun σ2 H2 => (∃ y, σ2 = σ.set j y) ∧ Ex H H2, bk := D.nx } (σ.set j (some x)) H')
    (hd : ∀ y H', Ex H H' → D.nx (σ.set j y) H') (hj : (σ[j]?).isSome = true := by rfl) : LoopJ (Itl K a) (gName j) tb D σ H := by
  have hj : j < σ.length := by
    cases e : σ[j]? with
    | none => rw [e] at hj; cases hj
    | some y => exact (List.getElem?_eq_some_iff.mp e).1
  refine loopL (fun _ σ2 H2 => (∃ y, σ2 = σ.set j y) ∧ Ex H H2) ⟨set_self hj, Evl.Ex.refl H⟩ (fun i σ2 H2 _ ⟨_, e⟩ => ex_l e s) ?_ ?_
  · rintro i x σ2 H2 hi ⟨⟨y, rfl⟩, e⟩
    show tb _ ((σ.set j y).set j (some x)) H2
    rw [List.set_set]
    exact hs i x H2 hi e
  · rintro σ2 H2 ⟨⟨y, rfl⟩, e⟩
    exact hd y H2 e
theorem w_while {c : TT} (W : Nat → L2.St → Hp → Prop) (m0 : Nat) (h0 : W m0 σ H) (hs : ∀ m σ H, W m σ H → c σ H fun b H1 => if b = true then ∃ N : L2.St → Hp → Prop, (∀ σ' H', N σ' H' → ∃ m', m' < m ∧ W m' σ' H') ∧ tb { D with nx := N, ct := N, bk := D.nx } σ H1 else D.nx σ H1) : tWhile c tb D σ H := ⟨W, ⟨m0, h0⟩, hs⟩
theorem w_exN {W : Nat → L2.St → Hp → Prop} {m : Nat} (h : tb { D with nx := fun σ' H' => ∃ m', m' < m ∧ W m' σ' H', ct := fun σ' H' => ∃ m', m' < m ∧ W m' σ' H', bk := D.nx } σ H) : ∃ N : L2.St → Hp → Prop, (∀ σ' H', N σ' H' → ∃ m', m' < m ∧ W m' σ' H') ∧ tb { D with nx := N, ct := N, bk := D.nx } σ H := ⟨_, fun _ _ h => h, h⟩
end

/-! ### data -/
section
variable {K : PySem.W.Frag} {H H' : Hp} {Q : VK}
mutual
theorem Dp.mono (x : Ex H H') : ∀ {v : V} {d : PyData}, Dp K H v d → Dp K H' v d
  | _, _, .non => .non
  | _, _, .bl b => .bl b
  | _, _, .int i => .int i
  | _, _, .str s => .str s
  | _, _, .lst s h => .lst (ex_l x s) (DpAll.mono x h)
  | _, _, .tup s h => .tup (ex_t x s) (DpAll.mono x h)
theorem DpAll.mono (x : Ex H H') : ∀ {vs : List V} {ds : List PyData}, DpAll K H vs ds → DpAll K H' vs ds
  | _, _, .nil => .nil
  | _, _, .cons h t => .cons (Dp.mono x h) (DpAll.mono x t)
end
theorem w_neSame {x y : V} {d : PyData} (h1 : Dp K H x d) (h2 : Dp K H y d) (s : SeqAt.shaped d = true) (h : Q (.bl false) H) : rNeA K x y H Q :=
  w_neD h1 h2 s s (by rw [SeqAt.eqv_refl d (SeqAt.canLay_of_shaped s)]; exact h)
theorem w_eqSame {x y : V} {d : PyData} (h1 : Dp K H x d) (h2 : Dp K H y d) (s : SeqAt.shaped d = true) (h : Q (.bl true) H) : rEqA K x y H Q :=
  w_eqD h1 h2 s s (by rw [SeqAt.eqv_refl d (SeqAt.canLay_of_shaped s)]; exact h)
theorem dpAll_bl (bs : List Bool) : DpAll K H (bs.map V.bl) (bs.map PyData.bool) := by
  induction bs with
  | nil => exact .nil
  | cons b r ih => exact .cons (.bl b) ih
theorem dp_bools (bs : List Bool) {p : Addr} {ys : List V} (h : H p = some (.lst ys)) (e : ys = bs.map V.bl) : Dp K H (.ref p) (.list (bs.map PyData.bool)) := .lst (SqL.of (e ▸ h)) (dpAll_bl bs)
theorem dpAll_int (bs : List Int) : DpAll K H (bs.map V.int) (bs.map PyData.int) := by
  induction bs with
  | nil => exact .nil
  | cons b r ih => exact .cons (.int b) ih
theorem shaped_flat {ds : List PyData} (h : ∀ d ∈ ds, d.canLay0 = true ∧ d.depth = 0) : SeqAt.shaped (.list ds) = true := by
  have h1 : ∀ ds : List PyData, (∀ d ∈ ds, d.canLay0 = true ∧ d.depth = 0) → PyData.canLayAll0 ds = true ∧ PyData.depthAll ds = 0 := by
    intro ds h
    induction ds with
    | nil => exact ⟨rfl, rfl⟩
    | cons d r ih =>
      obtain ⟨a, b⟩ := h d (List.mem_cons_self ..)
      obtain ⟨c, e⟩ := ih fun x hx => h x (List.mem_cons_of_mem _ hx)
      exact ⟨by simp [PyData.canLayAll0, a, c], by simp [PyData.depthAll, b, e]⟩
  obtain ⟨a, b⟩ := h1 ds h
  unfold SeqAt.shaped
  rw [Bool.and_eq_true]
  exact ⟨by simp [PyData.canLay0, a], by simp [PyData.depth, b]⟩
end

/-! ### how many bits -/
theorem bits_lt {z : Int} {n : Nat} (h : Builtin.Int.intBits z ≤ n) : z.natAbs < 2 ^ n := by
  unfold Builtin.Int.intBits at h
  split at h
  · rename_i e
    have e2 : z = 0 := by simpa using e
    have : z.natAbs = 0 := by omega
    rw [this]; exact Nat.two_pow_pos n
  · rename_i e
    have h1 : z.natAbs < 2 ^ (z.natAbs.log2 + 1) := Nat.lt_log2_self
    exact Nat.lt_of_lt_of_le h1 (Nat.pow_le_pow_right (by decide) h)
theorem lt_bits {z : Int} {n : Nat} (h : z.natAbs < 2 ^ n) : Builtin.Int.intBits z ≤ n := by
  unfold Builtin.Int.intBits
  split
  · omega
  · rename_i e
    have e2 : z ≠ 0 := by simpa using e
    have h0 : z.natAbs ≠ 0 := by omega
    have := (Nat.log2_lt h0).mpr h
    omega
theorem bits_mul {a b : Int} {m n : Nat} (ha : Builtin.Int.intBits a ≤ m) (hb : Builtin.Int.intBits b ≤ n) : Builtin.Int.intBits (a * b) ≤ m + n := by
  apply lt_bits
  rw [Int.natAbs_mul, Nat.pow_add]
  exact Nat.mul_lt_mul'' (bits_lt ha) (bits_lt hb)
theorem bits_add {a b : Int} {m : Nat} (ha : Builtin.Int.intBits a ≤ m) (hb : Builtin.Int.intBits b ≤ m) : Builtin.Int.intBits (a + b) ≤ m + 1 := by
  apply lt_bits
  have h1 := bits_lt ha
  have h2 := bits_lt hb
  rw [Nat.pow_succ]
  omega
theorem bits_div {a : Int} {b : Int} {m : Nat} (ha : Builtin.Int.intBits a ≤ m) : Builtin.Int.intBits (a / b) ≤ m + 1 := by
  apply lt_bits
  have h1 := bits_lt ha
  have h2 := Int.natAbs_ediv_le_natAbs a b
  rw [Nat.pow_succ]
  omega
theorem bits_mono {a : Int} {m n : Nat} (h : Builtin.Int.intBits a ≤ m) (l : m ≤ n) : Builtin.Int.intBits a ≤ n := Nat.le_trans h l

end Tw

set_option Elab.async false
set_option linter.all false
set_option maxRecDepth 100000
set_option maxHeartbeats 4000000
namespace Tw
open PySem PySem.Spec PyProof.Rows L2
open Evl (Ex ex_l ex_t fresh_back sz_of sz_lt)

/-! ### dicts whose keys are ints; the truth of a list; what is dead -/
theorem hu1 {n : Nat} (h : n + 64 < cLine) : n + 1 < cLine := Nat.lt_of_le_of_lt (Nat.add_le_add_left (by decide : 1 ≤ 64) _) h
def rInD1 : R2 := fun y x H Q => ∃ a o, x = .ref a ∧ DGet H a y o ∧ Q (.bl o.isSome) H
def rNInD1 : R2 := fun y x H Q => ∃ a o, x = .ref a ∧ DGet H a y o ∧ Q (.bl (!o.isSome)) H
section
variable {X : Cx}
theorem op_in_d1 (hu : X.A.units + 1 < cLine) : OpR X (compareOp .In) rInD1 := by
  intro pins s σ H y x v u Q I ry rx h
  obtain ⟨a, o, rfl, g, q⟩ := h
  obtain rfl : u = Value.ref a := rx
  exact d_in hu I g ry fun s3 I3 => ⟨.bl o.isSome, H, I3, rfl, q⟩
theorem op_notin_d1 (hu : X.A.units + 1 < cLine) : OpR X (compareOp .NotIn) rNInD1 := by
  intro pins s σ H y x v u Q I ry rx h
  obtain ⟨a, o, rfl, g, q⟩ := h
  obtain rfl : u = Value.ref a := rx
  exact d_notIn hu I g ry fun s3 I3 => ⟨.bl (!o.isSome), H, I3, rfl, q⟩
def tTru (K : PySem.W.Frag) (te : TE) : TT := fun σ H Q => te σ H fun x H1 => ∃ k, TruV K x H1 k ∧ Q k H1
theorem pt_truthK {K : PySem.W.Frag} (h : X.K = K) {a : Expr} {ta : TE} (ha : PE X a ta) (he : ∀ whole, isTrue a X.env whole = (do let v ← whole; standAt a.pos; holding [v] (truthy v))) : PT X a (tTru K ta) := h ▸ pt_truth ha he
/-- a statement that is not come to -/
def tDead : TS := fun _ _ _ => False
theorem ps_dead {st : Stmt} : PS X st tDead := ⟨fun _ _ _ _ _ _ h => False.elim h⟩
theorem pss_dead {st : List Stmt} : PSs X st tDead := ⟨fun _ _ _ _ _ _ h => False.elim h⟩
end
section
variable {K : PySem.W.Frag} {σ : L2.St} {H : Hp} {Q : VK} {B : Bool → Hp → Prop} {D : Ends} {te td ty tv : TE} {kvs : List (Key × V)} {a : Addr} {i : Int} {v : V}
theorem w_inD (e : H a = some (.dK kvs)) (h : Q (.bl (valV kvs (.inl i)).isSome) H) : rInD1 (.int i) (.ref a) H Q := ⟨a, _, rfl, DGet.k (k := .inl i) e, h⟩
theorem w_notInD (e : H a = some (.dK kvs)) (h : Q (.bl (!(valV kvs (.inl i)).isSome)) H) : rNInD1 (.int i) (.ref a) H Q := ⟨a, _, rfl, DGet.k (k := .inl i) e, h⟩
theorem w_tru (h : te σ H fun x H1 => ∃ k, TruV K x H1 k ∧ B k H1) : tTru K te σ H B := h
theorem w_truL {R : Bool → Prop} {xs : List V} (s : SqL K H a xs) (h : R (!xs.isEmpty)) : ∃ k, TruV K (.ref a) H k ∧ R k := ⟨_, .inl ⟨xs, s, rfl⟩, h⟩
theorem w_dget (h : td σ H fun x H1 => ty σ H1 fun y H2 => ∃ a v, x = .ref a ∧ DGet H2 a y (some v) ∧ Q v H2) : tDGet td ty σ H Q := h
theorem w_dgetE {F : V → Prop} (e : H a = some (.dK kvs)) (hv : valV kvs (.inl i) = some v) (h : F v) : ∃ a' v', V.ref a = .ref a' ∧ DGet H a' (.int i) (some v') ∧ F v' := ⟨a, v, rfl, by rw [← hv]; exact DGet.k (k := .inl i) e, h⟩
theorem w_dput (h : tv σ H fun v H1 => td σ H1 fun x H2 => ty σ H2 fun y H3 => ∃ a H4, x = .ref a ∧ DPut H3 a y v H4 ∧ D.nx σ H4) : sDPut td ty tv D σ H := h
theorem w_dputE {F : Hp → Prop} (e : H a = some (.dK kvs)) (hl : kvs.length < 1000000) (h : F (upd H a (.dK (putK kvs (.inl i) v)))) : ∃ a' H4, V.ref a = .ref a' ∧ DPut H a' (.int i) v H4 ∧ F H4 := ⟨a, _, rfl, DPut.k (k := .inl i) e (Nat.lt_of_lt_of_le hl (by decide)), h⟩
theorem w_dnew (h : ∀ p, H p = none → Q (.ref p) (upd H p (.dK []))) : tDNewK σ H Q := h
theorem w_disp1 {j : Int} {w : V} (h : ∀ p, H p = none → Q (.ref p) (upd H p (.dK [(.inl j, w)]))) : tDisp [(tC (.int j), tC w)] σ H Q := fun p hp => ⟨upd_same, [(.inl j, w)], rfl, (show 1 ≤ 15 by decide), by
  rw [upd_upd]
  exact h p hp⟩
theorem w_aug {j : Nat} {x : V} {ti : TIp} (e : σ[j]? = some (some x)) (h : te σ H fun y H1 => ti x y H1 fun z H2 => D.nx (σ.set j (some z)) H2) : tAug j te ti D σ H := ⟨x, e, h⟩
theorem w_ipI {f : Int → Int → Int} {m n : Int} (h : Q (.int (f m n)) H) : ipI f (.int m) (.int n) H Q := ⟨m, n, rfl, rfl, h⟩
theorem w_extend {b : Addr} {xs zs : List V} (e1 : H a = some (.lst xs)) (e2 : H b = some (.lst zs)) (hz : xs.length + zs.length ≤ 1000000) (h : Q .non (upd H a (.lst (xs ++ zs)))) : rExtend (.ref a) [.ref b] H Q := ⟨a, b, xs, zs, rfl, rfl, e1, e2, Nat.le_trans hz (by decide), h⟩
theorem w_tt {b : Bool} {A C : Prop} (e : b = true) (h : A) : if b = true then A else C := by rw [if_pos e]; exact h
theorem w_ff {b : Bool} {A C : Prop} (e : b = false) (h : C) : if b = true then A else C := by rw [if_neg (by rw [e]; decide)]; exact h
end
theorem ex_del2 {H H' : Hp} {l : Addr} (x : Ex H H') (h : H l = none) : Ex H (del H' l) := fun a o e => by
  rw [del_ne (ne_of_none e h)]; exact x a o e
theorem keyI_ne {i j : Int} (h : i ≠ j) : (Sum.inl i : Key) ≠ Sum.inl j := fun e => h (Sum.inl.inj e)
theorem valV_putI (kvs : List (Key × V)) (i j : Int) (y : V) : valV (putK kvs (.inl i) y) (.inl j) = if j = i then some y else valV kvs (.inl j) := by
  rw [valV_put]
  by_cases h : j = i
  · rw [if_pos h, if_pos (by rw [h])]
  · rw [if_neg h, if_neg (keyI_ne h)]

section
variable {P : Program} {w : World} {K : PySem.W.Frag} {mg : Str → Option Value} {base : Heap}
theorem Cal.mono {x : Str} {j k : Nat} {ps : List Str} {sp : Sp} (c : Cal P w K mg base x j ps sp) (h : j ≤ k) : Cal P w K mg base x k ps sp := by
  obtain ⟨f, fd, F, r⟩ := c.ex
  exact ⟨f, fd, F.mono h, r⟩
end
end Tw

set_option Elab.async false
set_option linter.all false
set_option maxRecDepth 100000
set_option maxHeartbeats 4000000
namespace Tw
open PySem PySem.Spec PyProof.Rows L2
open Evl (Ex ex_l ex_t fresh_back sz_of sz_lt)

/-! ### methods by their names; what may leave them -/
structure CalM (P : Program) (w : World) (K : PySem.W.Frag) (mg : Str → Option Value) (base : Heap) (C : Addr) (m : Str) (k : Nat) (ps : List Str) (sp : Sp) : Prop where
  ex : ∃ f fd, FnOk P w K mg base (L2.CX P w) k f fd ps sp ∧ Meth K C m f ∧ Binds K fd ps []
structure CalX (P : Program) (w : World) (K : PySem.W.Frag) (mg : Str → Option Value) (base : Heap) (x : Str) (k : Nat) (ps : List Str) (sp : Sp) : Prop where
  ex : ∃ f fd, FnOk P w K mg base (L2.CX P w) k f fd ps sp ∧ mg x = some (.ref f) ∧ PySem.W.keepIn K (.ref f) = true ∧ Binds K fd ps []
structure DefM (K : PySem.W.Frag) (C : Addr) (m qual : Str) (st : Stmt) : Prop where
  ex : ∃ f fd, Fun K m qual st f fd ∧ Meth K C m f
section
variable {P : Program} {w : World} {K : PySem.W.Frag} {mg : Str → Option Value} {base : Heap} {C : Addr}
theorem CalM.of {m qual : Str} {st : Stmt} {k : Nat} {N ps : List Str} {sp : Sp} (D : DefM K C m qual st) (S : FnScope N ps (defScope st)) (len : ∀ vs H Q E, sp vs H Q E → vs.length = ps.length)
    (hb : ∀ (kV doc pm : Value) (an : Option Addr) (cdv ct : Value) (us : List Value), us.length = ps.length → bindArgs (PySem.W.fnOf m qual (defArgs st) (defBody st) (defScope st) .none kV doc pm an cdv ct) ⟨us, []⟩ = pure (ps.zip us))
    (hbody : ∀ (f : Addr) (cdv : Value) (A : Around) (outer : List Env) (s : Shared) (H : Hp) (vs : List V) (Q : VK) (E : XK), Room k (A.deeper (envOfC qual (defScope st) s.heap.objs.size f cdv)) → sp vs H Q E →
      ∃ t, PSs (cxOf (L2.CX P w) P w K mg base N qual (defScope st) f cdv A outer s H E) (defBody st) t ∧ t { nx := fun _ H' => Q .non H', rt := Q } (start N vs) H) : CalM P w K mg base C m (k + 1) ps sp := by
  obtain ⟨f, fd, F, hm⟩ := D.ex
  exact ⟨f, fd, F.okX S len (hbody f), hm, F.binds hb⟩
theorem CalX.of {x qual : Str} {st : Stmt} {k : Nat} {N ps : List Str} {sp : Sp} (D : DefAt K mg x qual st) (S : FnScope N ps (defScope st)) (len : ∀ vs H Q E, sp vs H Q E → vs.length = ps.length)
    (hb : ∀ (kV doc pm : Value) (an : Option Addr) (cdv ct : Value) (us : List Value), us.length = ps.length → bindArgs (PySem.W.fnOf x qual (defArgs st) (defBody st) (defScope st) .none kV doc pm an cdv ct) ⟨us, []⟩ = pure (ps.zip us))
    (hbody : ∀ (f : Addr) (cdv : Value) (A : Around) (outer : List Env) (s : Shared) (H : Hp) (vs : List V) (Q : VK) (E : XK), Room k (A.deeper (envOfC qual (defScope st) s.heap.objs.size f cdv)) → sp vs H Q E →
      ∃ t, PSs (cxOf (L2.CX P w) P w K mg base N qual (defScope st) f cdv A outer s H E) (defBody st) t ∧ t { nx := fun _ H' => Q .non H', rt := Q } (start N vs) H) : CalX P w K mg base x (k + 1) ps sp := by
  obtain ⟨f, fd, F, hm⟩ := D.ex
  exact ⟨f, fd, F.okX S len (hbody f), hm, F.kp, F.binds hb⟩
theorem CalM.mono {m : Str} {j k : Nat} {ps : List Str} {sp : Sp} (c : CalM P w K mg base C m j ps sp) (h : j ≤ k) : CalM P w K mg base C m k ps sp := by
  obtain ⟨f, fd, F, r⟩ := c.ex
  exact ⟨f, fd, F.mono h, r⟩
end
section
variable {X : Cx} {C : Addr} {m x : Str} {k : Nat} {ps : List Str} {sp : Sp} {o e : Expr} {es : List Expr} {ta : TE} {t : TA} {apos pos p : Pos} {E : XK} {pl : Sem Bool}
theorem pe_methC (cl : Cls X.K C) (c : CalM X.prog X.w X.K X.mg X.base C m k ps sp) (hr : Room k X.A) (hx : Passes (L2.CX X.prog X.w) X E) (ho : PE X o ta) (ha : PA X (e :: es) t)
    (h1 : starEach (e :: es) X.env = (false, eval e X.env) :: starEach es X.env := by rfl) (h2 : (backTo pos (starEach es X.env)).any (·.1) = false := by rfl)
    (h3 : eval (.Call (.Attribute o m apos) (e :: es) [] pos) X.env = (do let ov ← eval o X.env; standAt apos.atName; let (f, first) ← holding [ov] (getMethod ov m pl); callWith pos f first (backTo pos (starEach (e :: es) X.env)) (backToKw pos (keywordEach [] X.env))) := by rfl) :
    PE X (.Call (.Attribute o m apos) (e :: es) [] pos) (tMeth C m sp [] E ta t) := by
  obtain ⟨f, fd, F, hm, hb⟩ := c.ex
  exact pe_meth ho cl hm F hr hb .nil hx ha h1 h2 h3
theorem pe_methC0 (cl : Cls X.K C) (c : CalM X.prog X.w X.K X.mg X.base C m k ps sp) (hr : Room k X.A) (hx : Passes (L2.CX X.prog X.w) X E) (ho : PE X o ta)
    (h3 : eval (.Call (.Attribute o m apos) [] [] pos) X.env = (do let ov ← eval o X.env; standAt apos.atName; let (f, first) ← holding [ov] (getMethod ov m pl); callWith pos f first (backTo pos (starEach [] X.env)) (backToKw pos (keywordEach [] X.env))) := by rfl) :
    PE X (.Call (.Attribute o m apos) [] [] pos) (tMeth C m sp [] E ta tNil) := by
  obtain ⟨f, fd, F, hm, hb⟩ := c.ex
  exact pe_meth0 ho cl hm F hr hb .nil hx h3
/-- a def that may raise, called -/
theorem pe_callCX (c : CalX X.prog X.w X.K X.mg X.base x k ps sp) (hr : Room k X.A) (hx : Passes (L2.CX X.prog X.w) X E) (hg : Gl X x) (ha : PA X (e :: es) t) (hdb : (x == ("__debug__" : Str)) = false := by decide)
    (h1 : starEach (e :: es) X.env = (false, eval e X.env) :: starEach es X.env := by rfl) (h2 : (backTo pos (starEach es X.env)).any (·.1) = false := by rfl) : PE X (.Call (.Name x p) (e :: es) [] pos) (tCall sp [] E t) := by
  obtain ⟨f, fd, F, hm, hk, hb⟩ := c.ex
  exact pe_call F hr hg hm hk hb .nil hx ha hdb h1 h2
/-- o.m(e, ..) in a try: what is raised is wished for at the slots -/
def tMethX (C : Addr) (m : Str) (sp : Sp) (W : WX) (ta : TE) (t : TA) : TE := fun σ H Q => ta σ H fun x H1 => ∃ a dx fs, x = .ref a ∧ H1 a = some (.ins C dx fs) ∧ fs.lookup m = none ∧ t σ H1 fun vs H2 => sp (x :: vs) H2 Q (WE W σ)
theorem pe_methX {W : WX} (tk : Takes X W) (cl : Cls X.K C) (c : CalM X.prog X.w X.K X.mg X.base C m k ps sp) (hr : Room k X.A) (ho : PE X o ta) (ha : PA X (e :: es) t)
    (h1 : starEach (e :: es) X.env = (false, eval e X.env) :: starEach es X.env := by rfl) (h2 : (backTo pos (starEach es X.env)).any (·.1) = false := by rfl)
    (h3 : eval (.Call (.Attribute o m apos) (e :: es) [] pos) X.env = (do let ov ← eval o X.env; standAt apos.atName; let (f, first) ← holding [ov] (getMethod ov m pl); callWith pos f first (backTo pos (starEach (e :: es) X.env)) (backToKw pos (keywordEach [] X.env))) := by rfl) :
    PE X (.Call (.Attribute o m apos) (e :: es) [] pos) (tMethX C m sp W ta t) := by
  obtain ⟨f, fd, F, hm, hb⟩ := c.ex
  refine ⟨fun pins s σ H Q I h => ?_⟩
  refine PySem.W.methodCall_KW (pl := pl) (thn (ho.run pins s σ H _ I h) fun u s1 ⟨x, H1, I1, rx, a, dx, fs, ex, ea, l, q⟩ => ?_) h3
  subst ex
  obtain rfl : u = Value.ref a := rx
  refine getmeth_ok I1 ea cl hm l ?_
  refine PySem.W.callWith_K (first := [.ref a]) (h₀ := X.base) I.ok.mod.kin hm.kp (thn (ha.run pos pins s1 σ H1 _ I1 q) fun us s2 ⟨vs, H2, I2, r, q2⟩ => ⟨I2.kIn, ?_⟩) h1 h2
  exact run_fnS (us := .ref a :: us) (vs := .ref a :: vs) (E := WE W) F hr hb (passAt tk σ) I2 (.cons rfl r) q2
end

/-! ### o.f among several targets; a slice of a list stored -/
def gFld (K : PySem.W.Frag) (ta : TE) (f : Str) : TG := fun v σ H Q => ta σ H fun x H2 => ∃ a C dx fs, x = .ref a ∧ H2 a = some (.ins C dx fs) ∧ Cls K C ∧ NoAttr K C f ∧ fs.length < 1000 ∧ Q σ (upd H2 a (.ins C dx (putF f v fs)))
def sSetSl (to : TE) (tl th : TO) (tv : TE) : TS := fun D σ H => tv σ H fun y H1 => to σ H1 fun x H2 => tl σ H2 fun lo H3 => th σ H3 fun hi H4 => ∃ l b xs ys a c, x = .ref l ∧ y = .ref b ∧ lo = some a ∧ hi = some c ∧ H4 l = some (.lst xs) ∧ H4 b = some (.lst ys) ∧ l ≠ b ∧
  0 ≤ a ∧ a ≤ c ∧ c ≤ (xs.length : Int) ∧ xs.length + ys.length ≤ sizeLine ∧ D.nx σ (upd H4 l (.lst (xs.take a.toNat ++ ys ++ xs.drop c.toNat)))
section
variable {X : Cx} {o value : Expr} {f : Str} {pos pos' p2 : Pos} {ta tv : TE}
theorem pg_fld (ho : PE X o ta) : PG X (.Attribute o f pos) (gFld X.K ta f) := by
  refine ⟨fun pins s σ H v u Q I r h => ?_⟩
  rw [arm_assign_Attribute]
  refine wpAny_bind (wpAny_holding (thn (ho.run pins s σ H _ I h) fun ov s1 ⟨x, H1, I1, rx, a, C, dx, fs, ex, ea, c, n, l, q⟩ => ?_))
  subst ex
  obtain rfl : ov = Value.ref a := rx
  refine wpAny_bind (wpAny_standAt (wpAny_bind (wpAny_holding (setattr_ok I1 ea c n l r fun s3 I3 => ?_))))
  exact wpAny_release ⟨σ, _, I3, q⟩
theorem ps_setSl {lo hi : Option Expr} {tl th : TO} (ho : PE X o ta) (hl : PO X lo tl) (hh : PO X hi th) (hv : PE X value tv) (hs : swapsWith value (some (.Subscript o (.Slice lo hi none p2) pos')) pos.line X.env = pure false) :
    PS X (.Assign [.Subscript o (.Slice lo hi none p2) pos'] value pos) (sSetSl ta tl th tv) := by
  refine ⟨fun pins s σ H D I h => ?_⟩
  refine wpAny_Assign_Subscript (thn (hv.run pins s σ H _ I h) fun r s1 ⟨v, H1, I1, rv, q1⟩ => thn (ho.run pins s1 σ H1 _ I1 q1) fun u s2 ⟨x, H2, I2, rx, q2⟩ => ?_) hs
  refine wpAny_Slice (thn (hl.run pins s2 σ H2 _ I2 q2) fun vl s3 ⟨l, H3, I3, pl, q3⟩ => thn (hh.run pins s3 σ H3 _ I3 q3) fun vu s4 ⟨c, H4, I4, pu, l1, b1, xs, ys, a1, c1, ex, ey, el, eh, e1, e2, ne, h0, hac, hc, hz, q4⟩ => ?_)
  rw [evalPart_none]
  refine wpAny_pure ?_
  subst ex ey el eh
  obtain rfl : u = Value.ref l1 := rx
  obtain rfl : r = Value.ref b1 := rv
  have I5 : Inv X pins σ H4 { s4 with heap := s4.heap.push { cls := .type "slice", data := .fields #[vl, vu, .none] } } := I4.kept (t' := s4.toks) fun b ob q => Heap.get?_push_of_some _ q
  have ra : RelV (.int a1) vl := by cases pl; exact ⟨_, rfl⟩
  have rc : RelV (.int c1) vu := by cases pu; exact ⟨_, rfl⟩
  exact set_slice I5 e1 e2 ne (Heap.IsSliceOf.new ..) ra rc h0 hac hc hz fun s6 I6 => ⟨σ, _, I6, q4⟩
end

/-! ### the written part named -/
section
variable {X : Cx} {K : PySem.W.Frag}
theorem ps_fldK (h : X.K = K) {o value : Expr} {f : Str} {pos pos' : Pos} {ta tv : TE} (ha : PE X o ta) (hv : PE X value tv) (hs : swapsWith value (some (.Attribute o f pos')) pos.line X.env = pure false) : PS X (.Assign [.Attribute o f pos'] value pos) (sFld K ta tv f) := h ▸ ps_fld ha hv hs
theorem pg_fldK (h : X.K = K) {o : Expr} {f : Str} {pos : Pos} {ta : TE} (ho : PE X o ta) : PG X (.Attribute o f pos) (gFld K ta f) := h ▸ pg_fld ho
theorem pg_tupK (h : X.K = K) {es : List Expr} {k : Nat} {t : TGs} {n : Nat} {pos : Pos} (hc : X.calm = true) (hp : PGs X es t) (hn : (assignEach es X.env).length = n := by rfl) (hst : (assignEach es X.env).findIdx? (·.1) = none := by rfl) : PG X (.Tuple es k pos) (gTup K n t) := h ▸ pg_tup hc hp hn hst
theorem pa_starK (h : X.K = K) {e : Expr} {es : List Expr} {te : TE} {t : TA} {p : Pos} (he : PE X e te) (hr : PA X es t) (hs : starEach (.Starred e p :: es) X.env = (true, eval e X.env) :: starEach es X.env := by rfl) : PA X (.Starred e p :: es) (StX.tStar K te t) := h ▸ StX.pa_star he hr hs
end

/-! ### the heap without some addresses -/
def off (S : List Addr) (H : Hp) : Hp := fun b => if b ∈ S then none else H b
section
variable {H H' : Hp} {S : List Addr} {a b : Addr} {o : HO}
theorem off_in (h : a ∈ S) : off S H a = none := if_pos h
theorem off_out (h : a ∉ S) : off S H a = H a := if_neg h
theorem off_ex : Ex (off S H) H := fun a o e => by
  by_cases h : a ∈ S
  · rw [off_in h] at e; cases e
  · rw [off_out h] at e; exact e
theorem off_mono (x : Ex H H') : Ex (off S H) (off S H') := fun a o e => by
  by_cases h : a ∈ S
  · rw [off_in h] at e; cases e
  · rw [off_out h] at e ⊢; exact x a o e
theorem off_upd (h : a ∈ S) : off S (upd H a o) = off S H := by
  funext b
  by_cases hb : b ∈ S
  · rw [off_in hb, off_in hb]
  · rw [off_out hb, off_out hb, upd_ne (fun e => hb (by rw [e]; exact h))]
/-- what is new lies outside -/
theorem ex_off {S' : List Addr} (x : Ex (off S H) H') (h : ∀ a ∈ S', a ∈ S ∨ H a = none) : Ex (off S H) (off S' H') := fun a o e => by
  by_cases ha : a ∈ S
  · rw [off_in ha] at e; cases e
  · have e2 : H a = some o := by rw [off_out ha] at e; exact e
    rw [off_out (fun z => (h a z).elim ha fun n => by rw [n] at e2; cases e2)]
    exact x a o e
theorem hp_off (h : a ∉ S) (e : H a = some o) : off S H a = some o := by rw [off_out h]; exact e
theorem hp_off1 (h : a ≠ b) (e : off S H a = some o) : off (b :: S) H a = some o := by
  by_cases hs : a ∈ S
  · rw [off_in hs] at e; cases e
  · rw [off_out hs] at e
    rw [off_out (by simp [h, hs])]; exact e
theorem hp_off0 (e : H a = some o) : off [] H a = some o := by rw [off_out (by simp)]; exact e
theorem off_none (e : H a = none) : off S H a = none := by
  by_cases hs : a ∈ S
  · exact off_in hs
  · rw [off_out hs]; exact e
end
/-! ### a class made; constants; what a class and an error must have -/
structure CalK (P : Program) (w : World) (K : PySem.W.Frag) (mg : Str → Option Value) (base : Heap) (C : Addr) (k : Nat) (ps : List Str) (sp : Sp) : Prop where
  ex : ∃ f fd, FnOk P w K mg base (L2.CX P w) k f fd ps sp ∧ Mk K C f ∧ Binds K fd ps []
structure DefK (K : PySem.W.Frag) (C : Addr) (qual : Str) (st : Stmt) : Prop where
  ex : ∃ f fd, Fun K "__init__" qual st f fd ∧ Mk K C f
structure DefAs (K : PySem.W.Frag) (mg : Str → Option Value) (y x qual : Str) (st : Stmt) : Prop where
  ex : ∃ f fd, Fun K x qual st f fd ∧ mg y = some (.ref f)
structure ExT (K : PySem.W.Frag) (mg : Str → Option Value) (x : Str) (c : Addr) : Prop where
  g : mg x = some (.ref c)
  xc : PySem.W.excIn K c [.type "ValueError", .type "Exception", .type "BaseException", .type "object"] "ValueError.__new__" = true
  k : PySem.W.keepIn K (.ref c) = true
  b : PySem.W.subIn K (.ref c) (.type "BaseException") = some true
  t : PySem.W.typeIn K (.ref c) = some (.type "type")
  e : PySem.W.exmOne K (.ref c) (.ref c) = some true
structure RmT (K : PySem.W.Frag) (mg : Str → Option Value) (C cB cR : Addr) : Prop where
  cl : Cls K C
  nr : NoAttr K C "_row"
  nu : NoAttr K C "_used"
  gR : mg "Room" = some (.ref C)
  xNoBox : ExT K mg "NoBox" cB
  xNoRoom : ExT K mg "NoRoom" cR
section
variable {P : Program} {w : World} {K : PySem.W.Frag} {mg : Str → Option Value} {base : Heap} {C : Addr}
theorem CalK.of {qual : Str} {st : Stmt} {k : Nat} {N ps : List Str} {sp : Sp} (D : DefK K C qual st) (S : FnScope N ps (defScope st)) (len : ∀ vs H Q E, sp vs H Q E → vs.length = ps.length)
    (hb : ∀ (kV doc pm : Value) (an : Option Addr) (cdv ct : Value) (us : List Value), us.length = ps.length → bindArgs (PySem.W.fnOf "__init__" qual (defArgs st) (defBody st) (defScope st) .none kV doc pm an cdv ct) ⟨us, []⟩ = pure (ps.zip us))
    (hbody : ∀ (f : Addr) (cdv : Value) (A : Around) (outer : List Env) (s : Shared) (H : Hp) (vs : List V) (Q : VK) (E : XK), Room k (A.deeper (envOfC qual (defScope st) s.heap.objs.size f cdv)) → sp vs H Q E →
      ∃ t, PSs (cxOf (L2.CX P w) P w K mg base N qual (defScope st) f cdv A outer s H E) (defBody st) t ∧ t { nx := fun _ H' => Q .non H', rt := Q } (start N vs) H) : CalK P w K mg base C (k + 1) ps sp := by
  obtain ⟨f, fd, F, hm⟩ := D.ex
  exact ⟨f, fd, F.okX S len (hbody f), hm, F.binds hb⟩
theorem Cal.ofAs {y x qual : Str} {st : Stmt} {k : Nat} {N ps : List Str} {sp : Sp} (D : DefAs K mg y x qual st) (S : FnScope N ps (defScope st)) (len : ∀ vs H Q E, sp vs H Q E → vs.length = ps.length)
    (hb : ∀ (kV doc pm : Value) (an : Option Addr) (cdv ct : Value) (us : List Value), us.length = ps.length → bindArgs (PySem.W.fnOf x qual (defArgs st) (defBody st) (defScope st) .none kV doc pm an cdv ct) ⟨us, []⟩ = pure (ps.zip us))
    (hbody : ∀ (f : Addr) (cdv : Value) (A : Around) (outer : List Env) (s : Shared) (H : Hp) (vs : List V) (Q : VK) (E : XK), Room k (A.deeper (envOfC qual (defScope st) s.heap.objs.size f cdv)) → sp vs H Q E →
      ∃ t, PSs (cxOf CX0 P w K mg base N qual (defScope st) f cdv A outer s H E).nox (defBody st) t ∧ t { nx := fun _ H' => Q .non H', rt := Q } (start N vs) H) : Cal P w K mg base y (k + 1) ps sp := by
  obtain ⟨f, fd, F, hm⟩ := D.ex
  exact ⟨f, fd, F.ok S len (hbody f), hm, F.kp, F.binds hb⟩
end
section
variable {X : Cx} {C : Addr} {x : Str} {k : Nat} {ps : List Str} {sp : Sp} {e : Expr} {es : List Expr} {t : TA} {pos p : Pos} {E : XK}
theorem pe_makeC (c : CalK X.prog X.w X.K X.mg X.base C k ps sp) (hr : Room (k + 1) X.A) (hg : Gl X x) (hm : X.mg x = some (.ref C)) (hx : Passes (L2.CX X.prog X.w) X E) (ha : PA X (e :: es) t) (hdb : (x == ("__debug__" : Str)) = false := by decide)
    (h1 : starEach (e :: es) X.env = (false, eval e X.env) :: starEach es X.env := by rfl) (h2 : (backTo pos (starEach es X.env)).any (·.1) = false := by rfl) : PE X (.Call (.Name x p) (e :: es) [] pos) (tMake C sp [] E t) := by
  obtain ⟨f, fd, F, hm2, hb⟩ := c.ex
  exact pe_make hm2 F hr hg hm hb .nil hx ha hdb h1 h2
theorem pe_globI {i : Int} (hg : Gl X x) (hm : ∃ tk, X.mg x = some (.int i tk)) (hd : (x == ("__debug__" : Str)) = false := by decide) : PE X (.Name x p) (tC (.int i)) := by
  obtain ⟨tk, hm⟩ := hm
  exact pe_glob hg hm ⟨_, rfl⟩ hd
end

/-! ### steps -/
section
variable {K : PySem.W.Frag} {σ : L2.St} {H : Hp} {Q : VK} {D : Ends} {te ta tb tc tv : TE} {t : TA} {a C dx p : Addr} {fs : List (Str × V)} {f m : Str} {v : V} {sp : Sp} {E : XK} {xs : List V}
theorem w_fld (h : ta σ H fun x H1 => ∃ a C dx fs v, x = .ref a ∧ H1 a = some (.ins C dx fs) ∧ Cls K C ∧ NoAttr K C f ∧ fs.lookup f = some v ∧ Q v H1) : tFld K ta f σ H Q := h
theorem w_fldE {F : V → Prop} (e : H a = some (.ins C dx fs)) (c : Cls K C) (n : NoAttr K C f) (l : fs.lookup f = some v) (h : F v) : ∃ a' C dx fs v, V.ref a = .ref a' ∧ H a' = some (.ins C dx fs) ∧ Cls K C ∧ NoAttr K C f ∧ fs.lookup f = some v ∧ F v := ⟨a, C, dx, fs, v, rfl, e, c, n, l, h⟩
theorem w_sfld (h : tv σ H fun y H1 => ta σ H1 fun x H2 => ∃ a C dx fs, x = .ref a ∧ H2 a = some (.ins C dx fs) ∧ Cls K C ∧ NoAttr K C f ∧ fs.length < 1000 ∧ D.nx σ (upd H2 a (.ins C dx (putF f y fs)))) : sFld K ta tv f D σ H := h
theorem w_sfldE {F : Hp → Prop} (e : H a = some (.ins C dx fs)) (c : Cls K C) (n : NoAttr K C f) (l : fs.length < 1000) (h : F (upd H a (.ins C dx (putF f v fs)))) : ∃ a' C dx fs, V.ref a = .ref a' ∧ H a' = some (.ins C dx fs) ∧ Cls K C ∧ NoAttr K C f ∧ fs.length < 1000 ∧ F (upd H a' (.ins C dx (putF f v fs))) := ⟨a, C, dx, fs, rfl, e, c, n, l, h⟩
theorem w_gfld {R : L2.St → Hp → Prop} (h : ta σ H fun x H2 => ∃ a C dx fs, x = .ref a ∧ H2 a = some (.ins C dx fs) ∧ Cls K C ∧ NoAttr K C f ∧ fs.length < 1000 ∧ R σ (upd H2 a (.ins C dx (putF f v fs)))) : gFld K ta f v σ H R := h
theorem w_gfld0 {i : Nat} {R : L2.St → Hp → Prop} (hv : σ[i]? = some (some (.ref a))) (e : H a = some (.ins C dx fs)) (c : Cls K C) (n : NoAttr K C f) (l : fs.length < 1000) (h : R σ (upd H a (.ins C dx (putF f v fs)))) : gFld K (tVar i) f v σ H R := ⟨_, hv, a, C, dx, fs, rfl, e, c, n, l, h⟩
theorem w_meth (h : ta σ H fun x H1 => ∃ a dx fs, x = .ref a ∧ H1 a = some (.ins C dx fs) ∧ fs.lookup m = none ∧ t σ H1 fun vs H2 => sp (x :: (vs ++ [])) H2 Q E) : tMeth C m sp [] E ta t σ H Q := h
theorem w_methX {W : WX} (h : ta σ H fun x H1 => ∃ a dx fs, x = .ref a ∧ H1 a = some (.ins C dx fs) ∧ fs.lookup m = none ∧ t σ H1 fun vs H2 => sp (x :: vs) H2 Q (WE W σ)) : tMethX C m sp W ta t σ H Q := h
theorem w_methE {G : Prop} (e : H a = some (.ins C dx fs)) (l : fs.lookup m = none) (h : G) : ∃ a' dx fs, V.ref a = .ref a' ∧ H a' = some (.ins C dx fs) ∧ fs.lookup m = none ∧ G := ⟨a, dx, fs, rfl, e, l, h⟩
theorem w_chain {r r' : R2} (h : ta σ H fun x H1 => tb σ H1 fun y H2 => r x y H2 fun z H3 => ∃ k, z = .bl k ∧ (if k = true then tc σ H3 fun w' H4 => r' y w' H4 Q else Q (.bl false) H3)) : tChain r r' ta tb tc σ H Q := h
theorem w_gTup {n : Nat} {ts : TGs} {R : L2.St → Hp → Prop} (s : SqT K H p xs) (l : xs.length = n) (h : ts xs σ H R) : gTup K n ts (.ref p) σ H R := ⟨p, xs, rfl, s, l, h⟩
theorem w_gCons {g : TG} {ts : TGs} {r : List V} {R : L2.St → Hp → Prop} (h : g v σ H fun σ' H' => ts r σ' H' R) : gCons g ts (v :: r) σ H R := ⟨v, r, rfl, h⟩
theorem w_gNil {R : L2.St → Hp → Prop} (h : R σ H) : gNil [] σ H R := ⟨rfl, h⟩
theorem w_star {F : List V → Hp → Prop} (h : te σ H fun x H1 => ∃ p xs, x = V.ref p ∧ (SqT K H1 p xs ∨ SqL K H1 p xs) ∧ t σ H1 fun ys H2 => F (xs ++ ys) H2) : StX.tStar K te t σ H F := h
theorem w_starL {G : List V → Prop} (s : SqL K H p xs) (h : G xs) : ∃ p' xs, V.ref p = V.ref p' ∧ (SqT K H p' xs ∨ SqL K H p' xs) ∧ G xs := ⟨p, xs, rfl, .inr s, h⟩
theorem kit_int_bool : kitB "int" "bool" = some false := by decide +kernel
theorem kit_str_str : kitB "str" "str" = some true := by decide +kernel
theorem w_isiIB {i : Int} (h : Q (.bl false) H) : rIsi K [.int i, .ty "bool"] H Q := ⟨_, _, _, _, _, rfl, .ty "bool", .base (.int i), kit_ty kit_int_bool, h⟩
theorem w_isiS {x : Str} (h : Q (.bl true) H) : rIsi K [.str x, .ty "str"] H Q := ⟨_, _, _, _, _, rfl, .ty "str", .base (.str x), kit_ty kit_str_str, h⟩
theorem w_inTup {neg : Bool} (s : SqT K H p xs) (f1 : flatV v = true) (f2 : xs.all flatV = true) (h : Q (.bl (if neg then !inV v xs else inV v xs)) H) : rIn K neg v (.ref p) H Q := ⟨p, xs, rfl, .inr s, f1, f2, h⟩
theorem w_setSl {tl th : TO} (h : tv σ H fun y H1 => ta σ H1 fun x H2 => tl σ H2 fun lo H3 => th σ H3 fun hi H4 => ∃ l b xs ys a c, x = .ref l ∧ y = .ref b ∧ lo = some a ∧ hi = some c ∧ H4 l = some (.lst xs) ∧ H4 b = some (.lst ys) ∧ l ≠ b ∧
  0 ≤ a ∧ a ≤ c ∧ c ≤ (xs.length : Int) ∧ xs.length + ys.length ≤ sizeLine ∧ D.nx σ (upd H4 l (.lst (xs.take a.toNat ++ ys ++ xs.drop c.toNat)))) : sSetSl ta tl th tv D σ H := h
theorem w_setSlE {F : Hp → Prop} {l b : Addr} {ys : List V} {i j : Int} (e1 : H l = some (.lst xs)) (e2 : H b = some (.lst ys)) (ne : l ≠ b) (h0 : 0 ≤ i) (hac : i ≤ j) (hc : j ≤ (xs.length : Int)) (hz : xs.length + ys.length ≤ 1000000) (h : F (upd H l (.lst (xs.take i.toNat ++ ys ++ xs.drop j.toNat)))) :
    ∃ l' b' xs ys a c, V.ref l = .ref l' ∧ V.ref b = .ref b' ∧ some i = some a ∧ some j = some c ∧ H l' = some (.lst xs) ∧ H b' = some (.lst ys) ∧ l' ≠ b' ∧ 0 ≤ a ∧ a ≤ c ∧ c ≤ (xs.length : Int) ∧ xs.length + ys.length ≤ sizeLine ∧ F (upd H l' (.lst (xs.take a.toNat ++ ys ++ xs.drop c.toNat))) :=
  ⟨l, b, xs, ys, i, j, rfl, rfl, rfl, rfl, e1, e2, ne, h0, hac, hc, Nat.le_trans hz (by decide), h⟩
theorem w_make (h : t σ H fun vs H1 => ∀ x dx, H1 x = none → H1 dx = none → dx ≠ x → sp (.ref x :: (vs ++ [])) (upd (upd H1 dx (.own x)) x (.ins C dx [])) (fun v H2 => v = .non ∧ Q (.ref x) H2) E) : tMake C sp [] E t σ H Q := h
end
theorem exm_me {K : PySem.W.Frag} {c : Addr} (b : PySem.W.subIn K (.ref c) (.type "BaseException") = some true) (i : PySem.W.isClsIn K c = true) (t : PySem.W.typeIn K (.ref c) = some (.type "type")) (s : PySem.W.subIn K (.ref c) (.ref c) = some true) : PySem.W.exmOne K (.ref c) (.ref c) = some true := by
  have hi : (PySem.W.clsIn K c).isSome = true := i
  have h1 : (PySem.W.subIn K (.ref c) (.type "BaseException") == some true) = true := by rw [b]; rfl
  have h2 : ((PySem.W.clsIn K c).isSome && PySem.W.typeIn K (.ref c) == some (.type "type")) = true := by rw [hi, t]; rfl
  show (if _ = true then (if _ = true then _ else none) else none) = some true
  rw [if_pos h1, if_pos h2, s]
end Tw

set_option Elab.async false
set_option linter.all false
set_option maxRecDepth 100000
set_option maxHeartbeats 4000000
namespace Tw
open PySem PySem.Spec PyProof.Rows L2
open Evl (Ex ex_l ex_t fresh_back sz_of sz_lt)

/-! ### try with several clauses, all of one name, each of which ends in a return; nothing else flies -/
def justRt (r : VK) : Ends := { nx := fun _ _ => False, rt := r, bk := fun _ _ => False, ct := fun _ _ => False }
abbrev Suites := List (Value × (Addr → Value → Option Addr → TS))
def wNamed (K : PySem.W.Frag) (i : Nat) (r : VK) : Suites → WX
  | [] => fun _ _ _ _ => False
  | (c, ts) :: l => fun cls d σ H => ∃ b, PySem.W.exmOne K cls c = some b ∧ (b = true → ∀ a, H a = none → ts a cls d (justRt r) (σ.set i (some (.ref a))) H) ∧ (b = false → wNamed K i r l cls d σ H)
inductive Named (X : Cx) (n : Str) : List ExceptHandler → Suites → Prop
  | none : Named X n [] []
  | more {x : Str} {C : Addr} {ts : Addr → Value → Option Addr → TS} {b₀ : Stmt} {suite : List Stmt} {np pos' : Pos} {hds : List ExceptHandler} {l : Suites} (hg : Gl X x) (hm : X.mg x = some (.ref C)) (hd : (x == ("__debug__" : Str)) = false)
      (hsu : ∀ (a : Addr) (oe : Obj) (cls : Value) (d : Option Addr) (pn : List (Addr × Obj)), Zc cls d oe → (∃ vs, oe.data = .fields vs) → PSs (X.suite a ((a, oe) :: pn)) (b₀ :: suite) (ts a cls d)) (next : Named X n hds l) :
      Named X n (.ExceptHandler (some (.Name x np)) (some n) (b₀ :: suite) pos' :: hds) ((.ref C, ts) :: l)
/-- an exception in hand: it flew out of the state sI, and stands at a now -/
structure Hand (X : Cx) (pins : List (Addr × Obj)) (σ : L2.St) (H : Hp) (s : Shared) (a : Addr) (B : Heap) (cls : Value) (d : Option Addr) : Prop where
  was : ∃ sI : Shared, Inv X pins σ H sI ∧ (∀ b o, sI.heap.get? b = some o → b ∉ frs X.stack → B.get? b = some o) ∧ sI.heap.UpToSlots s.heap ∧ s.os = sI.os ∧ AllBare s.gens
  fly : HandSPX.FlyingZ B (X.env :: X.outer) a (Zc cls d) s.heap
  new : H a = none
section
variable {X : Cx} {n : Str} {i : Nat} {pins : List (Addr × Obj)} {σ : L2.St} {H : Hp} {s : Shared} {a : Addr} {B : Heap} {cls : Value} {d : Option Addr} {D : Ends}
theorem Hand.inv (I : Hand X pins σ H s a B cls d) : Inv X pins σ H s := by
  obtain ⟨sI, J, nb, up, os, ag⟩ := I.was
  exact J.landed nb I.fly.1 up os ag
theorem Hand.go (I : Hand X pins σ H s a B cls d) {h' : Heap} (f : HandSPX.FlyingZ B (X.env :: X.outer) a (Zc cls d) h') (u : s.heap.UpToSlots h') : Hand X pins σ H { s with heap := h' } a B cls d := by
  obtain ⟨sI, J, nb, up, os, ag⟩ := I.was
  exact ⟨⟨sI, J, nb, up.trans u, os, ag⟩, f, I.new⟩
theorem Hand.pin (I : Hand X pins σ H s a B cls d) (hf : X.env.frame = some X.env.locals) : ∃ oe, Zc cls d oe ∧ (∃ vs, oe.data = .fields vs) ∧ s.heap.get? a = some oe ∧ Inv (X.suite a ((a, oe) :: (X.pn ++ pins))) [] σ H s := by
  obtain ⟨oe, vs, g, z, ed⟩ := I.fly.there
  have off : ∀ e ∈ X.env :: X.outer, e.frame ≠ some a := fun e he q => by
    obtain ⟨_, o', q', nf⟩ := I.fly.2.2.1.mem (List.mem_filterMap.mpr ⟨e, he, q⟩)
    rw [g] at q'; cases q'
    exact nf _ ed
  refine ⟨oe, z, ⟨vs, ed⟩, g, I.inv.suite g ed I.new (fun q => off _ List.mem_cons_self (by rw [hf, q])) fun q => ?_⟩
  obtain ⟨e, he, z⟩ := List.mem_filterMap.mp q
  exact off e (List.mem_cons_of_mem _ he) z
theorem Named.run (hf : X.env.frame = some X.env.locals) (hN : X.N.Nodup) (hi : X.N[i]? = some n) (hln : X.env.kindOf n = some .local) {hds : List ExceptHandler} {l : Suites} (C : Named X n hds l) :
    ∀ {s : Shared}, Hand X pins σ H s a B cls d → wNamed X.K i D.rt l cls d σ H → wpAny (model X.prog X.w) X.A (handleBy (.ref a) X.env hds) (SP X pins D) X.xe s := by
  induction C with
  | none => exact fun _ w => False.elim w
  | more hg hm hd hsu next ih =>
    rintro s I ⟨b, hit, yes, no⟩
    obtain ⟨oe, z, _, g, S⟩ := I.pin hf
    refine wpAny_handleBy_cons (codeAny_handlers_test ?_) (by intro q; cases q)
    have lk : PySem.W.Looks (model X.prog X.w) s.heap (typeOf (.ref a)) cls := fun _ _ _ _ k q => wpAny_typeOf_ref (k _ _ g) (by rw [z.1]; exact q)
    refine ld_glob (X := X.suite a ((a, oe) :: (X.pn ++ pins))) S hg hm ((PySem.W.exm_one I.inv.kIn lk hit).here ?_) hd
    cases b with
    | false => exact ih I (no rfl)
    | true =>
      refine codeAny_handlers_suite_as (HandSPX.lands_againZ I.fly fun h4 f4 u4 => ?_)
      have I4 := I.go f4 u4
      obtain ⟨oe4, z4, e4, _, S4⟩ := I4.pin hf
      refine store_ok (X := X.suite a ((a, oe4) :: (X.pn ++ pins))) (v := .ref a) S4 hN hi (.inl hln) rfl (fun s5 S5 => ?_) (.inr hln)
      refine wpAny_mono ((hsu a oe4 cls d (X.pn ++ pins) z4 e4).run [] s5 _ H (justRt D.rt) S5 (yes rfl a I.new)) (fun f s6 q => ?_) fun _ _ q => q.elim
      cases f with
      | next => obtain ⟨_, _, _, q⟩ := q; exact q.elim
      | brk => obtain ⟨_, _, _, q⟩ := q; exact q.elim
      | cont => obtain ⟨_, _, _, q⟩ := q; exact q.elim
      | ret u =>
        obtain ⟨v, σ6, H6, S6, rv, q⟩ := q
        exact gone_ok (S6.unsuite I.inv.ok) hN hi hln fun s7 J7 => ⟨_, _, _, J7, rv, q⟩
end
section
variable {X : Cx} {K : PySem.W.Frag} {n : Str} {i : Nat} {body : List Stmt} {h₀ : ExceptHandler} {hds : List ExceptHandler} {l : Suites} {pos : Pos} {tb : WX → TS}
theorem ps_try_named (hK : X.K = K) (hs : X.stack = X.env :: X.outer) (hf : X.env.frame = some X.env.locals) (hN : X.N.Nodup) (hi : X.N[i]? = some n) (hln : X.env.kindOf n = some .local)
    (hb : ∀ (W : WX) (pn : List (Addr × Obj)) (xe : Value → Shared → Prop), Takes (X.tr pn xe) W → PSs (X.tr pn xe) body (tb W)) (hh : Named X n (h₀ :: hds) l) :
    PS X (.Try body (h₀ :: hds) [] [] pos) (fun D σ H => tb (wNamed K i D.rt l) D σ H) := by
  subst hK
  refine ⟨fun pins s σ H D I h => wpAny_Try_except ?_⟩
  have frm : X.A.frames = some (X.env :: X.outer) := by rw [I.ok.frames, hs]
  have go := fun (xe : Value → Shared → Prop) (tk : Takes (X.tr (X.pn ++ pins) xe) (wNamed X.K i D.rt l)) => (hb _ _ xe tk).run [] s σ H D (I.toTry _) h
  refine wpAny_mono (go _ ?tk) (fun f s1 q => ?_) fun e s1 q => q
  case tk =>
    rintro u s' ⟨a, B, sI, pins', σ', H', cls, d, rfl, J', nb, up, sky, na, os, ag, w⟩
    have sky' : Sky B (X.env :: X.outer) a (Zc cls d) X.env.locals s'.heap := hs ▸ sky
    exact Sky.land Zc.steady frm hf sky' fun h3 f3 u3 => hh.run hf hN hi hln ⟨⟨sI, J'.ofTry I.ok, nb, up.trans u3, os, ag⟩, f3, na⟩ w
  cases f with
  | next =>
    obtain ⟨σ', H', J, q⟩ := q
    exact wpAny_execs_nil ⟨σ', H', J.ofTry I.ok, q⟩
  | brk => obtain ⟨σ', H', J, q⟩ := q; exact ⟨σ', H', J.ofTry I.ok, q⟩
  | cont => obtain ⟨σ', H', J, q⟩ := q; exact ⟨σ', H', J.ofTry I.ok, q⟩
  | ret u => obtain ⟨v, σ', H', J, rv, q⟩ := q; exact ⟨v, σ', H', J.ofTry I.ok, rv, q⟩
end

/-! ### a def's body run; a def that is handed the exception p that is handled -/
open L2H (PinOk RoomH roomH_of)
abbrev cxP (P : Program) (w : World) (K : PySem.W.Frag) (mg : Str → Option Value) (base : Heap) (N : List Str) (qual : Str) (scope : Scope) (f : Addr) (cd : Value) (A : Around) (outer : List Env) (s : Shared) (H : Hp) (calm : Bool) (pn : List (Addr × Obj)) : Cx :=
  { cxOf CX0 P w K mg base N qual scope f cd A outer s H E0 with calm := calm, pn := pn }
section
variable {P : Program} {w : World} {K : PySem.W.Frag} {mg : Str → Option Value} {base : Heap} {k : Nat} {f : Addr} {x qual : Str} {st : Stmt} {fd : FuncData} {N ps : List Str}
theorem _root_.L2.Fun.enter (F : Fun K x qual st f fd) (S : FnScope N ps (defScope st)) {A : Around} {outer : List Env} {s : Shared} {H : Hp} {args : Args} {us : List Value} {vs : List V} {Q : VK} {calm : Bool} {pn : List (Addr × Obj)}
    (dep : A.depth < recursionLimit) (e0 : Env0 P w K mg base A outer s H) (hb : BindsTo s fd args (ps.zip us))
    (hI : ∀ (cd : Value) (s1 : Shared), InCallC s s.heap.objs.size (bindL (envOfC qual (defScope st) s.heap.objs.size f cd).kindOf (ps.zip us) fun _ => none) (cellsFrom (s.heap.objs.size + 1) (defScope st).names []) (bindC (envOfC qual (defScope st) s.heap.objs.size f cd).kindOf (ps.zip us) fun _ => none) s1 →
      Inv (cxP P w K mg base N qual (defScope st) f cd A outer s H calm pn) [] (L2.start N vs) H s1)
    (ht : ∀ cd : Value, ∃ t, PSs (cxP P w K mg base N qual (defScope st) f cd A outer s H calm pn) (defBody st) t ∧ t { nx := fun _ H' => Q .non H', rt := Q } (L2.start N vs) H) :
    codeAny (model P w) A (.call (.ref f) args) (CR CX0 outer P w H s Q E0) s := by
  obtain ⟨oc, od, kV, doc, pm, an, cd, ct, osl, rfl, lk, hcd⟩ := F.ex
  have KX : K.In s.heap := e0.mod.kin.keeps fun b o e => (e0.bs b o e).1
  refine codeAny_call_function dep (KX _ _ lk) rfl S.co S.gen rfl (PySem.W.codeRec_of KX hcd) (hb _ _ _ _ (wpAny_newFunctionEnv_cells S.kind ?_ fun env he s1 hx => ?_))
  · rintro ⟨y, v⟩ hy
    exact (S.par y (List.of_mem_zip hy).1).imp id fun q => ⟨q, PySem.W.cellsFrom_some _ _ _ (.inl q)⟩
  · subst he
    obtain ⟨t, T, q⟩ := ht cd
    refine ⟨(e0.mod.nolimit.keeps fun b o e => (e0.bs b o e).1).keeps hx.toInCall.keep, codeAny_func (wpAny_mono (T.run [] s1 _ H _ (hI cd s1 hx) q) (fun fl s' z => ?_) fun _ _ z => z)⟩
    cases fl with
    | brk => obtain ⟨_, _, _, z⟩ := z; exact z.elim
    | cont => obtain ⟨_, _, _, z⟩ := z; exact z.elim
    | next => obtain ⟨σ', H', J, z⟩ := z; exact ⟨.non, H', J.os, J.bare, J.base, J.hok, rfl, z⟩
    | ret u => obtain ⟨v, σ', H', J, rv, z⟩ := z; exact ⟨v, H', J.os, J.bare, J.base, J.hok, rv, z⟩
end
/-- what a def promises that is handed the exception at a, of the class cls -/
structure FnP (P : Program) (w : World) (K : PySem.W.Frag) (mg : Str → Option Value) (base : Heap) (k : Nat) (f : Addr) (fd : FuncData) (ps : List Str) (sp : Addr → Value → Sp) : Prop where
  len : ∀ a cls vs H Q E, sp a cls vs H Q E → vs.length = ps.length
  run : ∀ (A : Around) (outer : List Env) (s : Shared) (H : Hp) (args : Args) (us : List Value) (vs : List V) (Q : VK) (p : Addr × Obj) (cls : Value), RoomH k A → PinOk outer H s p → Zc cls none p.2 → (∃ vs, p.2.data = .fields vs) → Env0 P w K mg base A outer s H → BindsTo s fd args (ps.zip us) → Vals vs us → sp p.1 cls vs H Q E0 →
    codeAny (model P w) A (.call (.ref f) args) (CR CX0 outer P w H s Q E0) s
structure CalP (P : Program) (w : World) (K : PySem.W.Frag) (mg : Str → Option Value) (base : Heap) (x : Str) (k : Nat) (ps : List Str) (sp : Addr → Value → Sp) : Prop where
  ex : ∃ f fd, FnP P w K mg base k f fd ps sp ∧ mg x = some (.ref f) ∧ PySem.W.keepIn K (.ref f) = true ∧ Binds K fd ps []
section
variable {P : Program} {w : World} {K : PySem.W.Frag} {mg : Str → Option Value} {base : Heap}
theorem CalP.of {x qual : Str} {st : Stmt} {k : Nat} {N ps : List Str} {sp : Addr → Value → Sp} (D : DefAt K mg x qual st) (S : FnScope N ps (defScope st)) (len : ∀ a cls vs H Q E, sp a cls vs H Q E → vs.length = ps.length)
    (hb : ∀ (kV doc pm : Value) (an : Option Addr) (cdv ct : Value) (us : List Value), us.length = ps.length → bindArgs (PySem.W.fnOf x qual (defArgs st) (defBody st) (defScope st) .none kV doc pm an cdv ct) ⟨us, []⟩ = pure (ps.zip us))
    (hbody : ∀ (f : Addr) (cdv : Value) (A : Around) (outer : List Env) (s : Shared) (H : Hp) (vs : List V) (Q : VK) (p : Addr × Obj) (cls : Value), RoomH k (A.deeper (envOfC qual (defScope st) s.heap.objs.size f cdv)) → Zc cls none p.2 → (∃ vs, p.2.data = .fields vs) → sp p.1 cls vs H Q E0 →
      ∃ t, PSs (cxP P w K mg base N qual (defScope st) f cdv A outer s H false [p]) (defBody st) t ∧ t { nx := fun _ H' => Q .non H', rt := Q } (L2.start N vs) H) : CalP P w K mg base x (k + 1) ps sp := by
  obtain ⟨f, fd, F, hm⟩ := D.ex
  refine ⟨f, fd, ⟨len, fun A outer s H args us vs Q p cls hr hp hz hf e0 hbd r h => ?_⟩, hm, F.kp, F.binds hb⟩
  exact F.enter S hr.depth e0 hbd (fun cd s1 hx => L2H.inv_startH S hp e0 (len _ _ _ _ _ _ h) r hx) fun cd => hbody f cd A outer s H vs Q p cls (hr.deeper _) hz hf h
end
def tCallP (sp : Addr → Value → Sp) (a : Addr) (cls : Value) (d : Option Addr) (t : TA) : TE := fun σ H Q => d = none ∧ t σ H fun vs H1 => sp a cls vs H1 Q E0
theorem roomH_mark {k : Nat} {A : Around} {v : Option Value} (h : Room k A) : RoomH k (A.mark v) := ⟨h.dp, h.un⟩
section
variable {X : Cx} {p : Addr × Obj} {cls : Value} {d : Option Addr} {x : Str} {k : Nat} {ps : List Str} {sp : Addr → Value → Sp} {q pos : Pos} {e : Expr} {es : List Expr} {t : TA}
theorem pe_callP (hp : p ∈ X.pn) (hz : Zc cls d p.2) (hf : ∃ vs, p.2.data = .fields vs) (c : CalP X.prog X.w X.K X.mg X.base x k ps sp) (hr : RoomH k X.A) (hg : Gl X x) (ha : PA X (e :: es) t) (hdb : (x == ("__debug__" : Str)) = false := by decide)
    (he : starEach (e :: es) X.env = (false, eval e X.env) :: starEach es X.env := by rfl) (hpl : (backTo pos (starEach es X.env)).any (·.1) = false := by rfl) : PE X (.Call (.Name x q) (e :: es) [] pos) (tCallP sp p.1 cls d t) := by
  obtain ⟨f, fd, F, hm, hk, hb⟩ := c.ex
  refine ⟨fun pins s σ H Q I ⟨hd, h⟩ => wpAny_Call_Name_kw (ld_glob I hg hm ?_ hdb)⟩
  subst hd
  refine PySem.W.callWith_K (h₀ := X.base) I.ok.mod.kin hk (thn (ha.run pos pins s σ H _ I h) fun us s1 ⟨vs, H1, I1, r, z⟩ => ⟨I1.kIn, ?_⟩) he hpl
  have b := hb s1 us I1.kIn (by rw [List.append_nil, ← r.length]; exact F.len _ _ _ _ _ _ z)
  rw [List.append_nil] at b
  obtain ⟨p1, p2, p3, p4, p5⟩ := I1.pin p (List.mem_append_left _ hp)
  refine wpAny_call (codeAny_mono (F.run X.A X.stack s1 H1 ⟨us, []⟩ us vs Q p cls hr ⟨p1, p2, fun m => (List.mem_cons.mp (I1.stkSub p.1 m)).elim p3 p4, p5⟩ hz hf I1.env0 b r z) fun rr s' y => ?_)
  cases rr with
  | error e => exact y.elim
  | ok fl =>
    cases fl with
    | ret u => exact I1.after y
    | next => exact y.elim
    | brk => exact y.elim
    | cont => exact y.elim
/-- what leaves a call made in a try, at whatever values of the slots -/
theorem passes_len {W : WX} (n : Nat) (tk : Takes X W) (hn : X.N.length = n) : Passes (L2.CX X.prog X.w) X (fun cls d H => ∀ σ : L2.St, σ.length = n → W cls d σ H) := fun _ σ _ _ e s' I c => tk e s' (XE.of_call I (fun _ _ _ h => h σ (I.len.trans hn)) c)
/-- isinstance of the exception that is pinned -/
theorem call_isP {K : PySem.W.Frag} {D : Addr} (hK : X.K = K) (hp : p ∈ X.pn) (C : ExcC K D) (hz : Zc (.ref D) none p.2) (hf : ∃ vs, p.2.data = .fields vs) : CallR X (.builtin "isinstance") (rIsE K D p.1) := by
  subst hK
  rintro pins s σ H xs us Q I r ⟨c, cv, b, rfl, hcv, hk, q⟩
  cases r with
  | cons ru r =>
    cases r with
    | cons rt r =>
      cases r
      obtain rfl := hcv _ rt
      cases (show _ = Value.ref p.1 from ru)
      have g := (I.pin p (List.mem_append_left _ hp)).1
      obtain ⟨vs, hv⟩ := hf
      have J : PySem.W.InstAt s.heap p.1 p.2 D none := by
        obtain ⟨a, oc, od, oda, osl⟩ := p
        obtain ⟨h1, h2⟩ := hz
        dsimp only at h1 h2 hv g ⊢
        subst h1 h2 hv
        exact ⟨g, rfl, rfl, trivial⟩
      exact PySem.W.kia_one (PySem.W.handS_kitx_exc C.hg C.hk C.hs C.hd C.ha C.hn C.ht C.hm) I.kIn J hk (fun z => nomatch z) fun tk => ⟨.bl b, H, I.kept (t' := tk) fun _ _ z => z, rfl, q⟩
end
theorem kit_own {K : PySem.W.Frag} {D C : Addr} {b : Bool} (i : PySem.W.isClsIn K C = true) (t : PySem.W.typeIn K (.ref C) = some (.type "type")) (s : PySem.W.subIn K (.ref D) (.ref C) = some b) (hb : D = C → b = true) : PySem.W.kitOne K (.ref D) (.ref C) = some b := by
  unfold PySem.W.kitOne
  split
  · rename_i e
    rw [hb (Value.ref.inj (beq_iff_eq.mp e))]
  · show (if ((PySem.W.clsIn K C).isSome && PySem.W.typeIn K (.ref C) == some (.type "type")) = true then PySem.W.subIn K (.ref D) (.ref C) else none) = some b
    rw [if_pos ?_]
    · exact s
    · rw [show (PySem.W.clsIn K C).isSome = true from i, t]; rfl

/-! ### operators on data of any kind -/
section
variable {X : Cx} {K : PySem.W.Frag}
def rNotInDT (K : PySem.W.Frag) : R2 := fun x y H Q => ∃ d ds, Dp K H x d ∧ Dp K H y (.tuple ds) ∧ SeqAt.shaped d = true ∧ SeqAt.shaped (.tuple ds) = true ∧ Q (.bl (!ds.any fun z => PyData.eqv z d)) H
theorem op_notInDT (hK : X.K = K) (hu : X.A.units + 66 < cLine) : OpR X (compareOp .NotIn) (rNotInDT K) := by
  subst hK
  rintro pins s σ H x y v u Q I rx ry ⟨d, ds, hd, he, sd, se, q⟩
  obtain ⟨as, r1⟩ := Dp.reads I d x v hd rx
  obtain ⟨bs, r2⟩ := Dp.reads I (.tuple ds) y u he ry
  have h1 := SeqAt.depth_of_shaped sd
  have h2 : min (PyData.depthAll ds) d.depth ≤ d.depth := Nat.min_le_right _ _
  exact SeqAt.notIn_tuple_reads r2 r1 (SeqAt.canLay_of_shaped se) (SeqAt.canLay_of_shaped sd) (by omega) ⟨.bl _, H, I, rfl, q⟩
theorem op_isIB : OpR X (compareOp .Is) (fun x y H Q => ∃ i b, x = .int i ∧ y = .bl b ∧ Q (.bl false) H) := by
  rintro pins s σ H x y v u Q I rx ry ⟨i, b, rfl, rfl, q⟩
  obtain ⟨t, rfl⟩ := rx
  cases (show u = Value.bool b from ry)
  exact wpAny_is_other rfl (fun z => by cases z) ⟨.bl false, H, I, rfl, q⟩
def rIsD : R2 := fun x y H Q => (∃ i b, x = .int i ∧ y = .bl b ∧ Q (.bl false) H) ∨ rIsB x y H Q
theorem op_isD : OpR X (compareOp .Is) rIsD := op_isIB.or op_isBl
/-- a text once or not at all -/
def rMulS : R2 := fun x y H Q => ∃ (z : Str) (k : Bool), x = .str z ∧ y = .int (if k = true then 1 else 0) ∧ Q (.str (if k = true then z else Str.empty)) H
theorem op_mulS : OpR X (binaryOp .Mult) rMulS := by
  rintro pins s σ H x y v u Q I rx ry ⟨z, k, rfl, rfl, q⟩
  obtain ⟨t, rfl⟩ := rx
  obtain ⟨t2, rfl⟩ := ry
  cases k with
  | false => exact PySem.P.mul_str_none (by decide) (by decide) ⟨.str _, H, I.tok _, ⟨_, rfl⟩, q⟩
  | true =>
    refine PySem.P.mul_str (by decide) (fun _ h => absurd h (by simp)) (fun _ h => absurd h (by simp)) ?_
    exact ⟨.str z, H, I, ⟨_, rfl⟩, q⟩
/-- repr of data, where no repr is under way -/
def rReprD (K : PySem.W.Frag) : List V → Hp → VK → Prop := fun xs H Q => ∃ a d, xs = [.ref a] ∧ Dp K H (.ref a) d ∧ d.showable = true ∧ d.hasDict = false ∧ d.depth ≤ 60 ∧ d.shown.length ≤ 100000 ∧ Q (.str d.shown) H
theorem call_reprD (hK : X.K = K) (hg : X.A.guards = some []) (hu : X.A.units + 64 < cLine) : CallR X (.builtin "repr") (rReprD K) := by
  subst hK
  rintro pins s σ H xs us Q I r ⟨a, d, rfl, h, hs, hn, hd, hz, q⟩
  cases r with
  | cons ru r =>
    cases r
    cases (show _ = Value.ref a from ru)
    obtain ⟨as, rd⟩ := Dp.reads I d _ _ h rfl
    exact repr_of_reads' rd hs (PyData.noDict_hsm hn) hg (by omega) (fun _ _ z => z) (fun h' u tk k => ⟨.str _, H, I.kept (t' := tk) k, ⟨_, rfl⟩, q⟩) (sz_of hz)
end

theorem pe_callC0 {X : Cx} {x : Str} {k : Nat} {sp : Sp} {p pos : Pos} (c : Cal X.prog X.w X.K X.mg X.base x k [] sp) (hr : Room k X.A) (hg : Gl X x) (hdb : (x == ("__debug__" : Str)) = false := by decide) : PE X (.Call (.Name x p) [] [] pos) (tCall sp [] E0 tNil) := by
  obtain ⟨f, fd, F, hm, hk, hb⟩ := c.ex
  exact pe_call0 F hr hg hm hk hb .nil pass0 hdb

/-! ### the top: the call itself, where no repr is under way -/
section
variable {P : Program} {w : World} {K : PySem.W.Frag} {mg mb : Str → Option Value} {fa a : Addr} {s₁ : Shared} {vs : List Value} {ns : List Int}
theorem call_top (KX : K.In s₁.heap) (hns : s₁.heap.Ns mainGlobals mg) (hb : s₁.heap.Ns builtinsNs mb) (hbb : ∀ x : Str, x ≠ "__name__" → mb x = bootBuiltins x) (hlim : s₁.heap.NoLimit) (hg : s₁.gens = #[])
    (ha : s₁.heap.get? a = some { cls := .type "list", data := .seq vs.toArray }) (hi : IntsAre vs ns) (hl : ns.length ≤ sizeLine)
    (run : ∀ (base : Heap) (H : Hp), Env0 P w K mg base callerA [] s₁ H → SqL K H a (ns.map V.int) → codeAny (model P w) callerA (.call (.ref fa) ⟨[.ref a], []⟩) (CR CX0 [] P w H s₁ (fun v _ => v = .bl true) E0) s₁) :
    codeAny (model P w) callerA (.call (.ref fa) ⟨[.ref a], []⟩) (fun r s' => r = .ok (.ret (.bool true)) ∧ OldK s₁.heap s'.heap ∧ s'.os = s₁.os ∧ AllBare s'.gens) s₁ := by
  have hv := vals_ints hi
  let u : HO := .frz { cls := .type "list", data := .seq vs.toArray } (.lst (ns.map V.int))
  let H : Hp := fun b => if b = a ∧ K.lookup a = none then some u else none
  have tr : ∀ {b : Addr} {v : HO}, H b = some v → b = a ∧ K.lookup a = none ∧ v = u := fun {b v} e => by
    by_cases c : b = a ∧ K.lookup a = none
    · exact ⟨c.1, c.2, Option.some.inj ((if_pos c).symm.trans e).symm⟩
    · cases (if_neg c).symm.trans e
  have un_ : ∀ {b : Addr}, (b = a → K.lookup a = none → False) → H b = none := fun {b} h => if_neg fun c => h c.1 c.2
  have sees : ∀ {b : Addr} {m : Str → Option Value}, s₁.heap.Ns b m → (hidT s₁.heap H).Ns b m := by
    rintro b m ⟨o, es, ep, e, dd, r⟩
    refine ⟨o, es, ep, hidT_get e (un_ fun hb _ => ?_), dd, r⟩
    rw [hb, ha] at e
    cases e
    cases dd
  have kb : K.In (hidT s₁.heap H) := fun b o e => hidT_get (KX b o e) (un_ fun hb hk => by rw [hb, hk] at e; cases e)
  have ok : HOk P w H s₁.heap := fun b v e => by
    obtain ⟨rfl, _, rfl⟩ := tr e
    exact ⟨ha, by rw [List.length_map]; exact hl, vs, _, hv, ha⟩
  have nol : (hidT s₁.heap H).NoLimit := let ⟨mc, n1, n2⟩ := hlim; ⟨mc, sees n1, n2⟩
  have e0 : Env0 P w K mg (hidT s₁.heap H) callerA [] s₁ H := ⟨rfl, ⟨kb, sees hns, ⟨mb, sees hb, hbb⟩, nol⟩, fun _ _ e => of_hidT e, Nat.le_of_eq (hidT_size _ _), trivial, fun _ z => (nomatch z), ok, .of_eq hg⟩
  have sq : SqL K H a (ns.map V.int) := by
    cases hk : K.lookup a with
    | none => exact .inl (.inr ⟨_, if_pos ⟨rfl, hk⟩⟩)
    | some o =>
      obtain rfl := Option.some.inj ((KX a o hk).symm.trans ha)
      exact .inr ⟨_, vs.toArray, _, hk, rfl, rfl, rfl, by rw [List.size_toArray, ← hv.length, List.length_map]; exact hl, by simpa using hv⟩
  refine codeAny_mono (run _ H e0 sq) fun r s' z => ?_
  match r, z with
  | .error _, z => exact z.elim
  | .ok .next, z => exact False.elim z
  | .ok .brk, z => exact False.elim z
  | .ok .cont, z => exact False.elim z
  | .ok (.ret v), ⟨_, H', os, bare, chg, ok', rv, q⟩ =>
    subst q
    obtain rfl : v = Value.bool true := rv
    refine ⟨rfl, OldK.of_keep fun b o e => ?_, os, bare⟩
    cases c : H b with
    | none => exact chg.keep b o e c (by simp [frs]) (by simp)
    | some v =>
      obtain ⟨rfl, _, rfl⟩ := tr c
      obtain ⟨g, _⟩ := ok' _ _ (chg.frzs _ _ _ c)
      rw [e] at ha
      rw [g, ha]
theorem walk_top {l : PySem.W.OpenLaw} {n : Nat} {q : Program} {loose : List Str} {XP : (Str → Option Value) → Heap → Prop} {YP : World → Heap → Prop} {d : DefRec} {K : Params → PySem.W.Frag}
    (hn : l.most = some n) (hn2 : n ≤ sizeLine) (hdf : d.params.defaults = []) (hY : ∀ (w : World) (h : Heap), YP w h → (K w.params).In h)
    (F : ∀ (w : World) (mg : Str → Option Value) (fa : Addr) (h : Heap), (K w.params).In h → h.Ns mainGlobals mg → mg d.name = some (.ref fa) → ∀ (base : Heap) (s : Shared) (H : Hp) (a : Addr) (ns : List Int), Env0 l.prog w (K w.params) mg base callerA [] s H →
      SqL (K w.params) H a (ns.map V.int) → ns.length ≤ n → (∀ z ∈ ns, Builtin.Int.intBits z ≤ 1048576) → codeAny (model l.prog w) callerA (.call (.ref fa) ⟨[.ref a], []⟩) (CR CX0 [] l.prog w H s (fun v _ => v = .bl true) E0) s) :
    PySem.W.WalkO q loose XP YP l.row.toRowW d [] (fun f vs => PySem.call f vs) :=
  Att.attach_callB hn hdf fun w s₀ s₁ mg mb fa o pm cd doc a vs ns G Y ho hd hcd hmg hobj hints hlen hbits hg =>
    call_top (hY w _ Y) G.T.g G.T.b G.T.builtins G.T.nolimit hg hobj hints (Nat.le_trans hlen hn2) fun base H e0 hS => F w mg fa _ (hY w _ Y) G.T.g hmg base s₁ H a ns e0 hS hlen hbits
end

/-! ### the room's class and the errors' classes -/
structure Gb (mg : Str → Option Value) (x : Str) (c : Addr) : Prop where
  g : mg x = some (.ref c)
abbrev Five (cS cT cB cF cR : Addr) : List Addr := [cS, cT, cB, cF, cR]
structure RmT6 (K : PySem.W.Frag) (mg : Str → Option Value) (C cB cR cT cS cF cE : Addr) : Prop extends RmT K mg C cB cR where
  xBadThing : ExT K mg "BadThing" cT
  xBadSize : ExT K mg "BadSize" cS
  xNoField : ExT K mg "NoField" cF
  xSlideError : Gb mg "SlideError" cE
  own : ∀ D ∈ Five cS cT cB cF cR, ExcC K D
  kit : ∀ D ∈ Five cS cT cB cF cR, ∀ C ∈ Five cS cT cB cF cR, PySem.W.kitOne K (.ref D) (.ref C) = some (decide (D = C))
  slide : ∀ D ∈ Five cS cT cB cF cR, PySem.W.kitOne K (.ref D) (.ref cE) = some true
  val : ∀ D ∈ Five cS cT cB cF cR, PySem.W.kitOne K (.ref D) (.type "ValueError") = some true
  exm : ∀ D ∈ Five cS cT cB cF cR, ∀ C ∈ Five cS cT cB cF cR, PySem.W.exmOne K (.ref D) (.ref C) = some (decide (D = C))
  nd : (Five cS cT cB cF cR).Nodup
end Tw

set_option Elab.async false
set_option linter.all false
set_option maxRecDepth 100000
set_option maxHeartbeats 4000000
namespace Tw
open PySem PySem.Spec PyProof.Rows L2
open Evl (Ex ex_l ex_t fresh_back sz_of sz_lt)
local macro_rules | `(tactic| walk_at "t_hp") => `(tactic| first
  | assumption
  | exact upd_same
  | (refine' hp_ne ?hne ?hrest; (case hne => walk_at "t_ne"); (case hrest => walk_at "t_hp"))
  | (refine' hp_ex ?hx ?hrest; (case hx => assumption); (case hrest => walk_at "t_hp")))
local macro_rules | `(tactic| walk_at "t_ne") => `(tactic| first
  | assumption
  | exact Ne.symm (by assumption)
  | (refine' ne_of_none ?h1 ?h2; (case h2 => assumption); (case h1 => walk_at "t_hp"))
  | (refine' Ne.symm (ne_of_none ?h1 ?h2); (case h2 => assumption); (case h1 => walk_at "t_hp")))
local macro_rules | `(tactic| walk_at "t_none") => `(tactic| first
  | assumption
  | (refine' fresh_back ?e ?n; (case n => assumption); (case e => walk_at "t_ex")))
local macro_rules | `(tactic| walk_at "t_ex") => `(tactic| first
  | assumption
  | exact Evl.Ex.refl _
  | (refine' ex_new ?n ?e; (case n => assumption); (case e => walk_at "t_ex"))
  | (refine' Evl.Ex.mut ?e ?n; (case n => walk_at "t_none"); (case e => walk_at "t_ex"))
  | (refine' Evl.Ex.trans ?a ?b; (case b => assumption); (case a => walk_at "t_ex")))
local macro_rules | `(tactic| walk_at "t_sq") => `(tactic| first
  | assumption
  | (refine' SqL.of ?h; (case h => walk_at "t_hp"))
  | (refine' ex_l ?e ?s; (case s => assumption); (case e => walk_at "t_ex")))
local macro_rules | `(tactic| walk_at "t_sqt") => `(tactic| first
  | assumption
  | (refine' SqT.of ?h; (case h => walk_at "t_hp"))
  | (refine' ex_t ?e ?s; (case s => assumption); (case e => walk_at "t_ex")))
local macro_rules | `(tactic| walk_at "t_mul") => `(tactic| first
  | assumption
  | exact Or.inl (Or.inl ⟨by decide, by decide⟩)
  | exact Or.inl (Or.inr ⟨by decide, by decide⟩)
  | exact Or.inl (Or.inl ⟨by omega, by omega⟩)
  | exact Or.inl (Or.inr ⟨by omega, by omega⟩))
local macro_rules | `(tactic| walk_at "t_c") => `(tactic| first
  | assumption
  | decide
  | (show (0 : Int) < _; decide)
  | (show (0 : Int) < _; omega)
  | exact ⟨by decide, by decide⟩
  | exact ⟨by decide, by decide, by decide⟩
  | exact ⟨by omega, by omega⟩
  | exact ⟨by omega, by omega, by omega, by omega⟩)
local macro_rules | `(tactic| walk_at "t_w") => `(tactic| first
  | (with_reducible refine w_seq ?_)
  | (with_reducible refine w_asg ?_)
  | (with_reducible refine w_gName ?_)
  | (with_reducible refine w_nx ?_)
  | (with_reducible refine w_rt ?_)
  | (with_reducible refine w_ct ?_)
  | (with_reducible refine w_bk ?_)
  | (with_reducible refine w_ret ?_)
  | (with_reducible refine w_retN ?_)
  | (with_reducible refine w_drop ?_)
  | (with_reducible refine w_ifS ?_)
  | (with_reducible refine w_next ?_)
  | (with_reducible refine w_break ?_)
  | (with_reducible refine w_cont ?_)
  | ((with_reducible refine' w_var ?h ?_); (case h => rfl))
  | (with_reducible refine w_c ?_)
  | (with_reducible refine w_op ?_)
  | (with_reducible refine w_un ?_)
  | (with_reducible refine w_I0 ?_)
  | ((with_reducible refine' w_I ?c ?_); (case c => walk_at "t_c"))
  | (with_reducible refine w_U ?_)
  | (with_reducible refine w_addI ?_)
  | ((with_reducible refine' w_addL ?h1 ?h2 ?hz ?_); (case h1 => walk_at "t_hp"); (case h2 => walk_at "t_hp"); (case hz => walk_at "t_z"))
  | ((with_reducible refine' w_mulI ?c ?_); (case c => walk_at "t_mul"))
  | ((with_reducible refine' w_mulL1 ?h1 ?b1 ?b2 ?_); (case h1 => walk_at "t_hp"); (case b1 => walk_at "t_z"); (case b2 => walk_at "t_z"))
  | ((with_reducible refine' w_mulL ?h1 ?b1 ?b2 ?hz ?_); (case h1 => walk_at "t_hp"); (case b1 => walk_at "t_z"); (case b2 => walk_at "t_z"); (case hz => walk_at "t_z"))
  | (with_reducible refine w_notIB ?_)
  | (with_reducible refine w_notBB ?_)
  | (with_reducible refine w_notN ?_)
  | (with_reducible refine w_isBB ?_)
  | (with_reducible refine w_isN ?_)
  | (with_reducible refine w_eqI ?_)
  | (with_reducible refine w_neI ?_)
  | (with_reducible refine w_eqB ?_)
  | (with_reducible refine w_neB ?_)
  | (with_reducible refine w_eqS ?_)
  | (with_reducible refine w_neS ?_)
  | (with_reducible refine w_test ?_)
  | (with_reducible refine w_B ?_)
  | (with_reducible refine w_exB ?_)
  | (with_reducible refine w_and ?_)
  | (with_reducible refine w_or ?_)
  | (with_reducible refine w_not ?_)
  | (with_reducible refine w_andV ?_)
  | (with_reducible refine w_orV ?_)
  | (with_reducible refine w_notV ?_)
  | (with_reducible refine w_bl ?_)
  | (with_reducible refine w_if ?_)
  | (with_reducible refine w_nil ?_)
  | (with_reducible refine w_cons ?_)
  | (with_reducible refine w_cb ?_)
  | (with_reducible refine w_call ?_)
  | (with_reducible refine w_tup ?_)
  | (with_reducible refine w_lst ?_)
  | ((with_reducible refine' w_fin ?hz ?_); (case hz => (simp only [List.length_cons, List.length_nil]; decide)))
  | ((with_reducible refine' w_len ?s ?_); (case s => walk_at "t_sq"))
  | ((with_reducible refine' w_lenT ?s ?_); (case s => walk_at "t_sqt"))
  | (with_reducible refine w_intI ?_)
  | (with_reducible refine w_intB ?_)
  | ((with_reducible refine' w_list ?s ?_); (case s => walk_at "t_sq"))
  | (with_reducible refine w_max ?_)
  | (with_reducible refine w_min ?_)
  | (with_reducible refine w_abs ?_)
  | (with_reducible refine w_sl ?_)
  | (with_reducible refine w_noPart ?_)
  | (with_reducible refine w_part ?_)
  | (with_reducible refine w_exI ?_)
  | ((with_reducible refine' w_slL ?s ?_); (case s => walk_at "t_sq"))
  | ((with_reducible refine' w_ixLI ?s ?b ?_); (case s => walk_at "t_sq"); (case b => walk_at "t_lt"))
  | ((with_reducible refine' w_ixL ?s ?e ?_); (case s => walk_at "t_sq"); (case e => walk_at "t_at"))
  | ((with_reducible refine' w_ixT ?s ?e ?_); (case s => walk_at "t_sqt"); (case e => walk_at "t_at"))
  | (with_reducible refine w_gSub ?_)
  | ((with_reducible refine' w_setLI ?e ?b ?_); (case e => walk_at "t_hp"); (case b => walk_at "t_lt"))
  | ((with_reducible refine' w_setL ?e ?b ?_); (case e => walk_at "t_hp"); (case b => walk_at "t_ixn"))
  | (with_reducible refine w_bm ?_)
  | (with_reducible refine w_bm0 ?_)
  | ((with_reducible refine' w_tyL ?e ?_); (case e => walk_at "t_sq"))
  | ((with_reducible refine' w_app ?e ?hz ?_); (case e => walk_at "t_hp"); (case hz => walk_at "t_z"))
  | (with_reducible refine w_iteT ?_)
  | (with_reducible refine w_iteF ?_)
  | (with_reducible refine w_iteNT ?_)
  | (with_reducible refine w_iteNF ?_)
  | (with_reducible refine w_for ?_)
  | (with_reducible refine w_iList ?_)
  | ((with_reducible refine' w_exL ?s ?_); (case s => walk_at "t_sq"))
  | (with_reducible refine w_iTup ?_)
  | ((with_reducible refine' w_exT ?s ?_); (case s => walk_at "t_sqt"))
  | (with_reducible refine w_iRng1 ?_)
  | ((with_reducible refine w_exR1 ?b ?_); (case b => walk_at "t_c"))
  | (with_reducible refine w_iRng2 ?_)
  | ((with_reducible refine w_exR2 ?b ?_); (case b => walk_at "t_c"))
  | (with_reducible refine w_yes ?_)
  | ((with_reducible refine w_pos ?p ?_); (case p => walk_at "t_p"))
  | ((with_reducible refine w_neg ?p ?_); (case p => walk_at "t_p"))
  | ((with_reducible refine w_posN ?p ?_); (case p => walk_at "t_p"))
  | ((with_reducible refine w_negN ?p ?_); (case p => walk_at "t_p"))
  | ((with_reducible refine' w_notInL ?s ?_); (case s => walk_at "t_sq"))
  | ((with_reducible refine' w_inL ?s ?_); (case s => walk_at "t_sq"))
  | ((with_reducible refine' w_sum ?s ?_); (case s => walk_at "t_sq"))
  | (with_reducible refine w_isiI ?_)
  | ((with_reducible refine' w_isiL ?e ?_); (case e => walk_at "t_ty"))
  | ((with_reducible refine' w_isiT ?e ?_); (case e => walk_at "t_ty"))
  | (with_reducible intro p hp_new))
local macro_rules | `(tactic| walk_at "t_ty") => `(tactic| first | assumption | (refine' tyx_l ?e; (case e => walk_at "t_hp")) | (refine' tyx_t ?e; (case e => walk_at "t_hp")))
local macro_rules | `(tactic| walk_at "t_z") => `(tactic| first | assumption | decide | omega | (simp only [List.length_cons, List.length_nil, List.length_map, List.length_append, List.length_replicate]; first | done | decide | omega))
local macro_rules | `(tactic| walk_at "t_at") => `(tactic| first | assumption | rfl)
local macro_rules | `(tactic| walk_at "t_ixn") => `(tactic| first | assumption | rfl)
local macro_rules | `(tactic| walk_at "t_ev") => `(tactic| (intro H1 e Q q; (repeat walk_at "t_w"); exact q _ (by walk_at "t_ex")))
local macro_rules | `(tactic| walk_at "t_p") => `(tactic| first | assumption | decide | decide +kernel)
local macro_rules | `(tactic| walk_at "t_lt") => `(tactic| first | assumption | omega | (simp only [List.length_set, List.length_map, List.length_append]; first | assumption | omega))
def topS (i : Nat) : Stmt := PySem.Challenge.pw_threadslide_k06_what_is_refused.main.body.getD i (.Pass ⟨0, 0, 0, 0⟩)
structure Txt (K : PySem.W.Frag) (mg : Str → Option Value) : Prop where
  b_ValueError : mg "ValueError" = none
  b_abs : mg "abs" = none
  b_bool : mg "bool" = none
  b_int : mg "int" = none
  b_isinstance : mg "isinstance" = none
  b_len : mg "len" = none
  b_list : mg "list" = none
  b_max : mg "max" = none
  b_range : mg "range" = none
  b_repr : mg "repr" = none
  b_str : mg "str" = none
  b_tuple : mg "tuple" = none
  c_MOST_CELLS : ∃ tk, mg "MOST_CELLS" = some (.int 400 tk)
  c_MOST_DOORS : ∃ tk, mg "MOST_DOORS" = some (.int 20 tk)
  c_TOO_LONG : ∃ tk, mg "TOO_LONG" = some (.int 1000000000000000000000000000000000000000000000000000000000000 tk)

abbrev s_law_at : Stmt := topS 28
theorem sc_law_at : FnScope ["_law_script", "_law_place"] ["_law_script", "_law_place"] (defScope s_law_at) := ⟨rfl, rfl, rfl, by decide +kernel, rfl, by decide +kernel, by decide +kernel⟩

abbrev s_law_is_int : Stmt := topS 29
theorem sc_law_is_int : FnScope ["_law_value"] ["_law_value"] (defScope s_law_is_int) := ⟨rfl, rfl, rfl, by decide +kernel, rfl, by decide +kernel, by decide +kernel⟩

abbrev s_law_words_are : Stmt := topS 30
theorem sc_law_words_are : FnScope ["_law_found", "_law_due", "_law_k"] ["_law_found", "_law_due"] (defScope s_law_words_are) := ⟨rfl, rfl, rfl, by decide +kernel, rfl, by decide +kernel, by decide +kernel⟩

/-! ### the law's own helpers -/
def spAt (K : PySem.W.Frag) : Sp := fun vs H Q _ => ∃ (a : Addr) (i : Int) (ns : List Int), vs = [.ref a, .int i] ∧ SqL K H a (ns.map V.int) ∧ ns.length ≤ 1000 ∧ 0 ≤ i ∧ Evl.RetV (.int (ns.getD i.toNat 0)) H Q
theorem w_at {K : PySem.W.Frag} {H : Hp} {Q : VK} {E : XK} {a : Addr} {i : Int} {ns : List Int} (s : SqL K H a (ns.map V.int)) (hl : ns.length ≤ 1000) (h0 : 0 ≤ i) (h : ∀ H2, Ex H H2 → Q (.int (ns.getD i.toNat 0)) H2) : spAt K ([.ref a, .int i] ++ []) H Q E := ⟨a, i, ns, rfl, s, hl, h0, h⟩
theorem cut_at (ns : List Int) (i : Int) (h0 : 0 ≤ i) : atI (cutV (ns.map V.int) (some i) (some (i + 1)) ++ [V.int 0]) 0 = some (V.int (ns.getD i.toNat 0)) := by
  obtain ⟨n, rfl⟩ : ∃ n : Nat, i = (n : Int) := ⟨i.toNat, by omega⟩
  have e1 : ((n : Int) + 1) = ((n + 1 : Nat) : Int) := by omega
  unfold cutV
  rw [e1, HT.sIx_nat, HT.sIx_nat, Int.toNat_natCast]
  have g : ∀ (l : List V) (x : V), l[0]? = some x → atI l 0 = some x := fun l x h => atI_nat (j := 0) h
  apply g
  by_cases h : n < ns.length
  · have e2 : min n (ns.map V.int).length = n := by rw [List.length_map]; omega
    have e3 : min (n + 1) (ns.map V.int).length = n + 1 := by rw [List.length_map]; omega
    rw [e2, e3, show n + 1 - n = 1 by omega]
    rw [List.getElem?_append_left (by rw [List.length_take, List.length_drop, List.length_map]; omega), List.getElem?_take_of_lt (by omega), List.getElem?_drop, List.getElem?_map]
    simp [h]
  · have e2 : min n (ns.map V.int).length = ns.length := by rw [List.length_map]; omega
    have e3 : min (n + 1) (ns.map V.int).length = ns.length := by rw [List.length_map]; omega
    rw [e2, e3, Nat.sub_self, List.take_zero]
    simp [List.getD, List.getElem?_eq_none (by omega : ns.length ≤ n)]
local macro_rules | `(tactic| walk_at "t_at") => `(tactic| exact cut_at _ _ (by assumption))
section
variable {P : Program} {w : World} {K : PySem.W.Frag} {mg : Str → Option Value} {base : Heap}
theorem c_law_at (T : Txt K mg) (D : DefAt K mg "_law_at" "_law_at" s_law_at) : Cal P w K mg base "_law_at" 1 ["_law_script", "_law_place"] (spAt K) := by
  refine Cal.of D sc_law_at (fun vs H Q E h => ?_) (fun _ _ _ _ _ _ us hl => match us, hl with | [_, _], _ => rfl) (fun f cdv A outer s H vs Q E hr h => ?_)
  · obtain ⟨a, i, ns, rfl, _⟩ := h; rfl
  · obtain ⟨a, i, ns, rfl, hS, hl, h0, k⟩ := h
    have hc := L2.cutV_length (ns.map V.int) (some i) (some (i + 1))
    rw [List.length_map] at hc
    refine ⟨_, (pss_one (ps_ret (pe_ix (ix_seqK (K := K) rfl) (pe_op op_addA (pe_slice (sl_AK (K := K) rfl) (pv 0) (po_some (pv 1)) (po_some (pe_op op_addA (pv 1) pe_int))) (pe_lst (pa_cons pe_int pa_nil))) pe_int (fun _ _ => rfl)))), ?_⟩
    repeat walk_at "t_w"
    refine k _ ?_
    walk_at "t_ex"
end
section
variable {P : Program} {w : World} {K : PySem.W.Frag} {mg : Str → Option Value} {base : Heap}
def spIsInt : Sp := fun vs H Q _ => ∃ i : Int, vs = [.int i] ∧ Evl.RetV (.bl true) H Q
theorem w_isInt {H : Hp} {Q : VK} {E : XK} {i : Int} (h : ∀ H2, Ex H H2 → Q (.bl true) H2) : spIsInt ([.int i] ++ []) H Q E := ⟨i, rfl, h⟩
theorem c_law_is_int (T : Txt K mg) (D : DefAt K mg "_law_is_int" "_law_is_int" s_law_is_int) : Cal P w K mg base "_law_is_int" 1 ["_law_value"] spIsInt := by
  refine Cal.of D sc_law_is_int (fun vs H Q E h => ?_) (fun _ _ _ _ _ _ us hl => match us, hl with | [_], _ => rfl) (fun f cdv A outer s H vs Q E hr h => ?_)
  · obtain ⟨i, rfl, _⟩ := h; rfl
  · obtain ⟨i, rfl, k⟩ := h
    refine ⟨_, (pss_one (ps_ret (pe_and (pe_callB (call_isiK' (K := K) rfl) (by rfl) T.b_isinstance (by decide +kernel) (pa_cons (pv 0) (pa_cons (pe_bltn (v := .ty "int") (by rfl) T.b_int (by decide +kernel) rfl) pa_nil))) (pe_and (pe_cmpR op_notA (pv 0) pe_bl (nomark _)) (pe_one (pe_cmpR op_notA (pv 0) pe_bl (nomark _))))))), ?_⟩
    repeat walk_at "t_w"
    exact k _ (by walk_at "t_ex")
end
local macro_rules | `(tactic| walk_at "t_w") => `(tactic| first
  | ((with_reducible refine' w_at ?s ?hl ?h0 ?_); (case s => walk_at "t_sq"); (case hl => walk_at "t_z"); (case h0 => walk_at "t_z"))
  | (with_reducible refine w_isInt ?_))
section
variable {P : Program} {w : World} {K : PySem.W.Frag} {mg : Str → Option Value} {base : Heap}
def spWordsAre (K : PySem.W.Frag) : Sp := fun vs H Q _ => ∃ (a b : Addr) (xs : List Int), vs = [.ref a, .ref b] ∧ TyX K H (.ref a) (.type "list") ∧ SqL K H a (xs.map V.int) ∧ SqL K H b (xs.map V.int) ∧ xs.length ≤ 1000 ∧ Evl.RetV (.bl true) H Q
theorem c_law_words_are (T : Txt K mg) (D : DefAt K mg "_law_words_are" "_law_words_are" s_law_words_are) (c_law_is_int : Cal P w K mg base "_law_is_int" 1 ["_law_value"] spIsInt) : Cal P w K mg base "_law_words_are" 2 ["_law_found", "_law_due"] (spWordsAre K) := by
  refine Cal.of D sc_law_words_are (fun vs H Q E h => ?_) (fun _ _ _ _ _ _ us hl => match us, hl with | [_, _], _ => rfl) (fun f cdv A outer s H vs Q E hr h => ?_)
  · obtain ⟨a, b, xs, rfl, _⟩ := h; rfl
  · obtain ⟨a, b, xs, rfl, hT, hA, hB, hl, k⟩ := h
    have hu : _ + 64 < cLine := hr.units
    refine ⟨_, (pss_cons (ps_if (PW.pt (pw_or (pt_not (pt_val (pe_callB (call_isiK' (K := K) rfl) (by rfl) T.b_isinstance (by decide +kernel) (pa_cons (pv 0) (pa_cons (pe_bltn (v := .ty "list") (by rfl) T.b_list (by decide +kernel) rfl) pa_nil))))) (pw_or1 (pt_cmpR (op_neK (K := K) rfl hu) (pe_callB (call_lenK (K := K) rfl) (by rfl) T.b_len (by decide +kernel) (pa_cons (pv 0) pa_nil)) (pe_callB (call_lenK (K := K) rfl) (by rfl) T.b_len (by decide +kernel) (pa_cons (pv 1) pa_nil)) (nomark _))))) (pss_one (ps_ret pe_bl)) pss_nil)
      (pss_one (ps_ret (pe_cmpR (op_eqK (K := K) rfl hu) (pe_callB (call_lenK (K := K) rfl) (by rfl) T.b_len (by decide +kernel) (pa_cons (pe_lc (own := [("_law_k", 2)]) (g := (gName 2)) rfl sc_law_words_are.nd (pi_range1 rfl T.b_range (pa_cons (pe_callB (call_lenK (K := K) rfl) (by rfl) T.b_len (by decide +kernel) (pa_cons (pv 1) pa_nil)) pa_nil)) (blkOk_by (own := [("_law_k", 2)]) (N := ["_law_found", "_law_due", "_law_k"]) (sc := defScope s_law_words_are) (by decide +kernel)) (fun _ _ _ _ _ => (pg_name (i := 2) sc_law_words_are.nd rfl (Or.inl rfl))) (fun _ _ _ _ _ => (pts_one (PW.pt (pw_or (pt_not (pt_val (pe_callC c_law_is_int (hr.mono (by decide)) rfl (pa_cons (pe_ix (ix_seqK (K := K) rfl) (pv 0) (pv 2) (fun _ _ => rfl)) pa_nil)))) (pw_or1 (pt_cmpR (op_neK (K := K) rfl hu) (pe_ix (ix_seqK (K := K) rfl) (pv 0) (pv 2) (fun _ _ => rfl)) (pe_ix (ix_seqK (K := K) rfl) (pv 1) (pv 2) (fun _ _ => rfl)) (nomark _))))))) (fun _ _ _ _ _ => (pv 2))) pa_nil)) pe_int (nomark _))))), ?_⟩
    repeat walk_at "t_w"
    refine w_negN rfl ?_
    repeat walk_at "t_w"
    refine w_lcR1 (n := ((xs.map V.int).length : Int)) (fun _ => false) (fun _ => .non) ?ha ?hn ?hw ?ht ?he ?hk
    case ha => walk_at "t_ev"
    case hn => rw [List.length_map]; omega
    case hw => intro x; rfl
    case ht =>
      intro i H1 e hi
      rw [List.length_map] at hi
      have hat := at_map (xs := xs) (i := i) (by omega)
      intro H2 e2 Q q
      repeat walk_at "t_w"
      rw [decide_eq_true rfl]
      exact q _ (by walk_at "t_ex")
    case he => intro i H1 e hi hf; cases hf
    case hk =>
      intro p H2 hp e h2
      rw [given_none] at h2
      repeat walk_at "t_w"
      exact k _ e
end
theorem w_wordsAre {K : PySem.W.Frag} {H : Hp} {Q : VK} {E : XK} {a b : Addr} {xs : List Int} (t : TyX K H (.ref a) (.type "list")) (s1 : SqL K H a (xs.map V.int)) (s2 : SqL K H b (xs.map V.int)) (hl : xs.length ≤ 1000) (h : ∀ H2, Ex H H2 → Q (.bl true) H2) : spWordsAre K ([.ref a, .ref b] ++ []) H Q E := ⟨a, b, xs, rfl, t, s1, s2, hl, h⟩
theorem w_words2 {K : PySem.W.Frag} {H : Hp} {Q : VK} {E : XK} {a b : Addr} {ys zs : List V} (xs : List Int) (e1 : H a = some (.lst ys)) (e2 : SqL K H b zs) (hy : ys = xs.map V.int) (hz : zs = xs.map V.int) (hl : xs.length ≤ 1000) (h : ∀ H2, Ex H H2 → Q (.bl true) H2) : spWordsAre K ([.ref a, .ref b] ++ []) H Q E :=
  ⟨a, b, xs, rfl, tyx_l e1, by rw [← hy]; exact SqL.of e1, by rw [← hz]; exact e2, hl, h⟩
def spLaw (K : PySem.W.Frag) : Sp := fun vs H Q _ => ∃ (a : Addr) (ns : List Int), vs = [.ref a] ∧ SqL K H a (ns.map V.int) ∧ ns.length ≤ 63 ∧ (∀ z ∈ ns, Builtin.Int.intBits z ≤ 1048576) ∧ ∀ H', Q (.bl true) H'
theorem at_bits {ns : List Int} (h : ∀ z ∈ ns, Builtin.Int.intBits z ≤ 1048576) (i : Nat) : Builtin.Int.intBits (ns.getD i 0) ≤ 1048576 := by
  rw [List.getD_eq_getElem?_getD]
  cases e : ns[i]? with
  | none => decide
  | some z => exact h z (List.mem_of_getElem? e)
end Tw

set_option Elab.async false
set_option linter.all false
set_option maxRecDepth 100000
set_option maxHeartbeats 4000000
namespace Tw
open PySem PySem.Spec PyProof.Rows L2
open Evl (Ex ex_l ex_t fresh_back sz_of sz_lt)
local macro_rules | `(tactic| walk_at "t_hp") => `(tactic| first
  | assumption
  | exact upd_same
  | (refine' hp_ne ?hne ?hrest; (case hne => walk_at "t_ne"); (case hrest => walk_at "t_hp"))
  | (refine' hp_ex ?hx ?hrest; (case hx => assumption); (case hrest => walk_at "t_hp")))
local macro_rules | `(tactic| walk_at "t_ne") => `(tactic| first
  | assumption
  | exact Ne.symm (by assumption)
  | (refine' ne_of_none ?h1 ?h2; (case h2 => assumption); (case h1 => walk_at "t_hp"))
  | (refine' Ne.symm (ne_of_none ?h1 ?h2); (case h2 => assumption); (case h1 => walk_at "t_hp")))
local macro_rules | `(tactic| walk_at "t_none") => `(tactic| first
  | assumption
  | (refine' fresh_back ?e ?n; (case n => assumption); (case e => walk_at "t_ex")))
local macro_rules | `(tactic| walk_at "t_ex") => `(tactic| first
  | assumption
  | exact Evl.Ex.refl _
  | (refine' ex_new ?n ?e; (case n => assumption); (case e => walk_at "t_ex"))
  | (refine' Evl.Ex.mut ?e ?n; (case n => walk_at "t_none"); (case e => walk_at "t_ex"))
  | (refine' Evl.Ex.trans ?a ?b; (case b => assumption); (case a => walk_at "t_ex")))
local macro_rules | `(tactic| walk_at "t_sq") => `(tactic| first
  | assumption
  | (refine' SqL.of ?h; (case h => walk_at "t_hp"))
  | (refine' ex_l ?e ?s; (case s => assumption); (case e => walk_at "t_ex")))
local macro_rules | `(tactic| walk_at "t_sqt") => `(tactic| first
  | assumption
  | (refine' SqT.of ?h; (case h => walk_at "t_hp"))
  | (refine' ex_t ?e ?s; (case s => assumption); (case e => walk_at "t_ex")))
local macro_rules | `(tactic| walk_at "t_mul") => `(tactic| first
  | assumption
  | exact Or.inl (Or.inl ⟨by decide, by decide⟩)
  | exact Or.inl (Or.inr ⟨by decide, by decide⟩)
  | exact Or.inl (Or.inl ⟨by omega, by omega⟩)
  | exact Or.inl (Or.inr ⟨by omega, by omega⟩))
local macro_rules | `(tactic| walk_at "t_c") => `(tactic| first
  | assumption
  | decide
  | (show (0 : Int) < _; decide)
  | (show (0 : Int) < _; omega)
  | exact ⟨by decide, by decide⟩
  | exact ⟨by decide, by decide, by decide⟩
  | exact ⟨by omega, by omega⟩
  | exact ⟨by omega, by omega, by omega, by omega⟩)
local macro_rules | `(tactic| walk_at "t_w") => `(tactic| first
  | (with_reducible refine w_seq ?_)
  | (with_reducible refine w_asg ?_)
  | (with_reducible refine w_gName ?_)
  | (with_reducible refine w_nx ?_)
  | (with_reducible refine w_rt ?_)
  | (with_reducible refine w_ct ?_)
  | (with_reducible refine w_bk ?_)
  | (with_reducible refine w_ret ?_)
  | (with_reducible refine w_retN ?_)
  | (with_reducible refine w_drop ?_)
  | (with_reducible refine w_ifS ?_)
  | (with_reducible refine w_next ?_)
  | (with_reducible refine w_break ?_)
  | (with_reducible refine w_cont ?_)
  | ((with_reducible refine' w_var ?h ?_); (case h => rfl))
  | (with_reducible refine w_c ?_)
  | (with_reducible refine w_op ?_)
  | (with_reducible refine w_un ?_)
  | (with_reducible refine w_I0 ?_)
  | ((with_reducible refine' w_I ?c ?_); (case c => walk_at "t_c"))
  | (with_reducible refine w_U ?_)
  | (with_reducible refine w_addI ?_)
  | ((with_reducible refine' w_addL ?h1 ?h2 ?hz ?_); (case h1 => walk_at "t_hp"); (case h2 => walk_at "t_hp"); (case hz => walk_at "t_z"))
  | ((with_reducible refine' w_mulI ?c ?_); (case c => walk_at "t_mul"))
  | ((with_reducible refine' w_mulL1 ?h1 ?b1 ?b2 ?_); (case h1 => walk_at "t_hp"); (case b1 => walk_at "t_z"); (case b2 => walk_at "t_z"))
  | ((with_reducible refine' w_mulL ?h1 ?b1 ?b2 ?hz ?_); (case h1 => walk_at "t_hp"); (case b1 => walk_at "t_z"); (case b2 => walk_at "t_z"); (case hz => walk_at "t_z"))
  | (with_reducible refine w_notIB ?_)
  | (with_reducible refine w_notBB ?_)
  | (with_reducible refine w_notN ?_)
  | (with_reducible refine w_isBB ?_)
  | (with_reducible refine w_isN ?_)
  | (with_reducible refine w_eqI ?_)
  | (with_reducible refine w_neI ?_)
  | (with_reducible refine w_eqB ?_)
  | (with_reducible refine w_neB ?_)
  | (with_reducible refine w_eqS ?_)
  | (with_reducible refine w_neS ?_)
  | (with_reducible refine w_test ?_)
  | (with_reducible refine w_B ?_)
  | (with_reducible refine w_exB ?_)
  | (with_reducible refine w_and ?_)
  | (with_reducible refine w_or ?_)
  | (with_reducible refine w_not ?_)
  | (with_reducible refine w_andV ?_)
  | (with_reducible refine w_orV ?_)
  | (with_reducible refine w_notV ?_)
  | (with_reducible refine w_bl ?_)
  | (with_reducible refine w_if ?_)
  | (with_reducible refine w_nil ?_)
  | (with_reducible refine w_cons ?_)
  | (with_reducible refine w_cb ?_)
  | (with_reducible refine w_call ?_)
  | (with_reducible refine w_tup ?_)
  | (with_reducible refine w_lst ?_)
  | ((with_reducible refine' w_fin ?hz ?_); (case hz => (simp only [List.length_cons, List.length_nil]; decide)))
  | ((with_reducible refine' w_len ?s ?_); (case s => walk_at "t_sq"))
  | ((with_reducible refine' w_lenT ?s ?_); (case s => walk_at "t_sqt"))
  | (with_reducible refine w_intI ?_)
  | (with_reducible refine w_intB ?_)
  | ((with_reducible refine' w_list ?s ?_); (case s => walk_at "t_sq"))
  | (with_reducible refine w_max ?_)
  | (with_reducible refine w_min ?_)
  | (with_reducible refine w_abs ?_)
  | (with_reducible refine w_sl ?_)
  | (with_reducible refine w_noPart ?_)
  | (with_reducible refine w_part ?_)
  | (with_reducible refine w_exI ?_)
  | ((with_reducible refine' w_slL ?s ?_); (case s => walk_at "t_sq"))
  | ((with_reducible refine' w_ixLI ?s ?b ?_); (case s => walk_at "t_sq"); (case b => walk_at "t_lt"))
  | ((with_reducible refine' w_ixL ?s ?e ?_); (case s => walk_at "t_sq"); (case e => walk_at "t_at"))
  | ((with_reducible refine' w_ixT ?s ?e ?_); (case s => walk_at "t_sqt"); (case e => walk_at "t_at"))
  | (with_reducible refine w_gSub ?_)
  | ((with_reducible refine' w_setLI ?e ?b ?_); (case e => walk_at "t_hp"); (case b => walk_at "t_lt"))
  | ((with_reducible refine' w_setL ?e ?b ?_); (case e => walk_at "t_hp"); (case b => walk_at "t_ixn"))
  | (with_reducible refine w_bm ?_)
  | (with_reducible refine w_bm0 ?_)
  | ((with_reducible refine' w_tyL ?e ?_); (case e => walk_at "t_sq"))
  | ((with_reducible refine' w_app ?e ?hz ?_); (case e => walk_at "t_hp"); (case hz => walk_at "t_z"))
  | (with_reducible refine w_iteT ?_)
  | (with_reducible refine w_iteF ?_)
  | (with_reducible refine w_iteNT ?_)
  | (with_reducible refine w_iteNF ?_)
  | (with_reducible refine w_for ?_)
  | (with_reducible refine w_iList ?_)
  | ((with_reducible refine' w_exL ?s ?_); (case s => walk_at "t_sq"))
  | (with_reducible refine w_iTup ?_)
  | ((with_reducible refine' w_exT ?s ?_); (case s => walk_at "t_sqt"))
  | (with_reducible refine w_iRng1 ?_)
  | ((with_reducible refine w_exR1 ?b ?_); (case b => walk_at "t_c"))
  | (with_reducible refine w_iRng2 ?_)
  | ((with_reducible refine w_exR2 ?b ?_); (case b => walk_at "t_c"))
  | (with_reducible refine w_yes ?_)
  | ((with_reducible refine w_pos ?p ?_); (case p => walk_at "t_p"))
  | ((with_reducible refine w_neg ?p ?_); (case p => walk_at "t_p"))
  | ((with_reducible refine w_posN ?p ?_); (case p => walk_at "t_p"))
  | ((with_reducible refine w_negN ?p ?_); (case p => walk_at "t_p"))
  | ((with_reducible refine' w_notInL ?s ?_); (case s => walk_at "t_sq"))
  | ((with_reducible refine' w_inL ?s ?_); (case s => walk_at "t_sq"))
  | ((with_reducible refine' w_sum ?s ?_); (case s => walk_at "t_sq"))
  | (with_reducible refine w_isiI ?_)
  | ((with_reducible refine' w_isiL ?e ?_); (case e => walk_at "t_ty"))
  | ((with_reducible refine' w_isiT ?e ?_); (case e => walk_at "t_ty"))
  | (with_reducible intro p hp_new))
local macro_rules | `(tactic| walk_at "t_ty") => `(tactic| first | assumption | (refine' tyx_l ?e; (case e => walk_at "t_hp")) | (refine' tyx_t ?e; (case e => walk_at "t_hp")))
local macro_rules | `(tactic| walk_at "t_z") => `(tactic| first | assumption | decide | omega | (simp only [List.length_cons, List.length_nil, List.length_map, List.length_append, List.length_replicate]; first | done | decide | omega))
local macro_rules | `(tactic| walk_at "t_at") => `(tactic| first | assumption | rfl)
local macro_rules | `(tactic| walk_at "t_ixn") => `(tactic| first | assumption | rfl)
local macro_rules | `(tactic| walk_at "t_ev") => `(tactic| (intro H1 e Q q; (repeat walk_at "t_w"); exact q _ (by walk_at "t_ex")))
local macro_rules | `(tactic| walk_at "t_p") => `(tactic| first | assumption | decide | decide +kernel)
local macro_rules | `(tactic| walk_at "t_lt") => `(tactic| first | assumption | omega | (simp only [List.length_set, List.length_map, List.length_append]; first | assumption | omega))
abbrev s_number_word : Stmt := topS 9
theorem sc_number_word : FnScope ["n"] ["n"] (defScope s_number_word) := ⟨rfl, rfl, rfl, by decide +kernel, rfl, by decide +kernel, by decide +kernel⟩

abbrev s_link_word : Stmt := topS 10
theorem sc_link_word : FnScope ["place"] ["place"] (defScope s_link_word) := ⟨rfl, rfl, rfl, by decide +kernel, rfl, by decide +kernel, by decide +kernel⟩

abbrev s_head_word : Stmt := topS 11
theorem sc_head_word : FnScope ["many", "marked"] ["many", "marked"] (defScope s_head_word) := ⟨rfl, rfl, rfl, by decide +kernel, rfl, by decide +kernel, by decide +kernel⟩

abbrev s_is_link : Stmt := topS 12
theorem sc_is_link : FnScope ["word"] ["word"] (defScope s_is_link) := ⟨rfl, rfl, rfl, by decide +kernel, rfl, by decide +kernel, by decide +kernel⟩

abbrev s_told_by : Stmt := topS 13
theorem sc_told_by : FnScope ["word"] ["word"] (defScope s_told_by) := ⟨rfl, rfl, rfl, by decide +kernel, rfl, by decide +kernel, by decide +kernel⟩

abbrev s_fields_of : Stmt := topS 14
theorem sc_fields_of : FnScope ["head"] ["head"] (defScope s_fields_of) := ⟨rfl, rfl, rfl, by decide +kernel, rfl, by decide +kernel, by decide +kernel⟩

/-! ### the program's words -/
def spI1 (g : Int → V) : Sp := fun vs H Q _ => ∃ n : Int, vs = [.int n] ∧ Evl.RetV (g n) H Q
theorem w_I1 {g : Int → V} {H : Hp} {Q : VK} {E : XK} {n : Int} (h : ∀ H2, Ex H H2 → Q (g n) H2) : spI1 g ([.int n] ++ []) H Q E := ⟨n, rfl, h⟩
def spHead : Sp := fun vs H Q _ => ∃ (n : Int) (b : Bool), vs = [.int n, .bl b] ∧ Evl.RetV (.int (if b then 4 * n + 2 else 4 * n)) H Q
theorem w_Head {H : Hp} {Q : VK} {E : XK} {n : Int} {b : Bool} (h : ∀ H2, Ex H H2 → Q (.int (if b then 4 * n + 2 else 4 * n)) H2) : spHead ([.int n, .bl b] ++ []) H Q E := ⟨n, b, rfl, h⟩
abbrev gNumber : Int → V := fun n => .int (2 * n)
abbrev gLink : Int → V := fun n => .int (2 * n + 1)
abbrev gIsLink : Int → V := fun n => .bl (decide (n % 2 = 1))
abbrev gTold : Int → V := fun n => .int (n / 2)
abbrev gFields : Int → V := fun n => .int (n / 4)
abbrev gIsMarked : Int → V := fun n => .bl (decide (n % 4 = 2))
section
variable {P : Program} {w : World} {K : PySem.W.Frag} {mg : Str → Option Value} {base : Heap}
theorem c_number_word (T : Txt K mg) (D : DefAt K mg "number_word" "number_word" s_number_word) : Cal P w K mg base "number_word" 1 ["n"] (spI1 gNumber) := by
  refine Cal.of D sc_number_word (fun vs H Q E h => ?_) (fun _ _ _ _ _ _ us hl => match us, hl with | [_], _ => rfl) (fun f cdv A outer s H vs Q E hr h => ?_)
  · obtain ⟨i, rfl, _⟩ := h; rfl
  · obtain ⟨i, rfl, k⟩ := h
    have hu : _ + 64 < cLine := hr.units
    refine ⟨_, (pss_one (ps_ret (pe_op op_mulA pe_int (pv 0)))), ?_⟩
    repeat walk_at "t_w"
    exact k _ (by walk_at "t_ex")
theorem c_link_word (T : Txt K mg) (D : DefAt K mg "link_word" "link_word" s_link_word) : Cal P w K mg base "link_word" 1 ["place"] (spI1 gLink) := by
  refine Cal.of D sc_link_word (fun vs H Q E h => ?_) (fun _ _ _ _ _ _ us hl => match us, hl with | [_], _ => rfl) (fun f cdv A outer s H vs Q E hr h => ?_)
  · obtain ⟨i, rfl, _⟩ := h; rfl
  · obtain ⟨i, rfl, k⟩ := h
    have hu : _ + 64 < cLine := hr.units
    refine ⟨_, (pss_one (ps_ret (pe_op op_addA (pe_op op_mulA pe_int (pv 0)) pe_int))), ?_⟩
    repeat walk_at "t_w"
    exact k _ (by walk_at "t_ex")
theorem c_is_link (T : Txt K mg) (D : DefAt K mg "is_link" "is_link" s_is_link) : Cal P w K mg base "is_link" 1 ["word"] (spI1 gIsLink) := by
  refine Cal.of D sc_is_link (fun vs H Q E h => ?_) (fun _ _ _ _ _ _ us hl => match us, hl with | [_], _ => rfl) (fun f cdv A outer s H vs Q E hr h => ?_)
  · obtain ⟨i, rfl, _⟩ := h; rfl
  · obtain ⟨i, rfl, k⟩ := h
    have hu : _ + 64 < cLine := hr.units
    refine ⟨_, (pss_one (ps_ret (pe_cmpR (op_eqK (K := K) rfl hu) (pe_op op_mod (pv 0) pe_int) pe_int (nomark _)))), ?_⟩
    repeat walk_at "t_w"
    exact k _ (by walk_at "t_ex")
theorem c_told_by (T : Txt K mg) (D : DefAt K mg "told_by" "told_by" s_told_by) : Cal P w K mg base "told_by" 1 ["word"] (spI1 gTold) := by
  refine Cal.of D sc_told_by (fun vs H Q E h => ?_) (fun _ _ _ _ _ _ us hl => match us, hl with | [_], _ => rfl) (fun f cdv A outer s H vs Q E hr h => ?_)
  · obtain ⟨i, rfl, _⟩ := h; rfl
  · obtain ⟨i, rfl, k⟩ := h
    have hu : _ + 64 < cLine := hr.units
    refine ⟨_, (pss_one (ps_ret (pe_op op_fdiv (pv 0) pe_int))), ?_⟩
    repeat walk_at "t_w"
    exact k _ (by walk_at "t_ex")
theorem c_fields_of (T : Txt K mg) (D : DefAt K mg "fields_of" "fields_of" s_fields_of) : Cal P w K mg base "fields_of" 1 ["head"] (spI1 gFields) := by
  refine Cal.of D sc_fields_of (fun vs H Q E h => ?_) (fun _ _ _ _ _ _ us hl => match us, hl with | [_], _ => rfl) (fun f cdv A outer s H vs Q E hr h => ?_)
  · obtain ⟨i, rfl, _⟩ := h; rfl
  · obtain ⟨i, rfl, k⟩ := h
    have hu : _ + 64 < cLine := hr.units
    refine ⟨_, (pss_one (ps_ret (pe_op op_fdiv (pv 0) pe_int))), ?_⟩
    repeat walk_at "t_w"
    exact k _ (by walk_at "t_ex")
theorem c_head_word (T : Txt K mg) (D : DefAt K mg "head_word" "head_word" s_head_word) : Cal P w K mg base "head_word" 1 ["many", "marked"] spHead := by
  refine Cal.of D sc_head_word (fun vs H Q E h => ?_) (fun _ _ _ _ _ _ us hl => match us, hl with | [_, _], _ => rfl) (fun f cdv A outer s H vs Q E hr h => ?_)
  · obtain ⟨i, b, rfl, _⟩ := h; rfl
  · obtain ⟨i, b, rfl, k⟩ := h
    refine ⟨_, (pss_cons (ps_if (pt_val (pv 1)) (pss_one (ps_ret (pe_op op_addA (pe_op op_mulA pe_int (pv 0)) pe_int))) pss_nil)
      (pss_one (ps_ret (pe_op op_mulA pe_int (pv 0))))), ?_⟩
    cases b with
    | true =>
      repeat walk_at "t_w"
      exact k _ (by walk_at "t_ex")
    | false =>
      repeat walk_at "t_w"
      exact k _ (by walk_at "t_ex")
end
end Tw

set_option Elab.async false
set_option linter.all false
set_option maxRecDepth 100000
set_option maxHeartbeats 4000000
namespace Tw
open PySem PySem.Spec PyProof.Rows L2
open Evl (Ex ex_l ex_t fresh_back sz_of sz_lt)
local macro_rules | `(tactic| walk_at "t_hp") => `(tactic| first
  | assumption
  | exact upd_same
  | (refine' hp_ne ?hne ?hrest; (case hne => walk_at "t_ne"); (case hrest => walk_at "t_hp"))
  | (refine' hp_ex ?hx ?hrest; (case hx => assumption); (case hrest => walk_at "t_hp")))
local macro_rules | `(tactic| walk_at "t_ne") => `(tactic| first
  | assumption
  | exact Ne.symm (by assumption)
  | (refine' ne_of_none ?h1 ?h2; (case h2 => assumption); (case h1 => walk_at "t_hp"))
  | (refine' Ne.symm (ne_of_none ?h1 ?h2); (case h2 => assumption); (case h1 => walk_at "t_hp")))
local macro_rules | `(tactic| walk_at "t_none") => `(tactic| first
  | assumption
  | (refine' fresh_back ?e ?n; (case n => assumption); (case e => walk_at "t_ex")))
local macro_rules | `(tactic| walk_at "t_ex") => `(tactic| first
  | assumption
  | exact Evl.Ex.refl _
  | (refine' ex_new ?n ?e; (case n => assumption); (case e => walk_at "t_ex"))
  | (refine' Evl.Ex.mut ?e ?n; (case n => walk_at "t_none"); (case e => walk_at "t_ex"))
  | (refine' Evl.Ex.trans ?a ?b; (case b => assumption); (case a => walk_at "t_ex")))
local macro_rules | `(tactic| walk_at "t_sq") => `(tactic| first
  | assumption
  | (refine' SqL.of ?h; (case h => walk_at "t_hp"))
  | (refine' ex_l ?e ?s; (case s => assumption); (case e => walk_at "t_ex")))
local macro_rules | `(tactic| walk_at "t_sqt") => `(tactic| first
  | assumption
  | (refine' SqT.of ?h; (case h => walk_at "t_hp"))
  | (refine' ex_t ?e ?s; (case s => assumption); (case e => walk_at "t_ex")))
local macro_rules | `(tactic| walk_at "t_mul") => `(tactic| first
  | assumption
  | exact Or.inl (Or.inl ⟨by decide, by decide⟩)
  | exact Or.inl (Or.inr ⟨by decide, by decide⟩)
  | exact Or.inl (Or.inl ⟨by omega, by omega⟩)
  | exact Or.inl (Or.inr ⟨by omega, by omega⟩))
local macro_rules | `(tactic| walk_at "t_c") => `(tactic| first
  | assumption
  | decide
  | (show (0 : Int) < _; decide)
  | (show (0 : Int) < _; omega)
  | exact ⟨by decide, by decide⟩
  | exact ⟨by decide, by decide, by decide⟩
  | exact ⟨by omega, by omega⟩
  | exact ⟨by omega, by omega, by omega, by omega⟩)
local macro_rules | `(tactic| walk_at "t_w") => `(tactic| first
  | (with_reducible refine w_seq ?_)
  | (with_reducible refine w_asg ?_)
  | (with_reducible refine w_gName ?_)
  | (with_reducible refine w_nx ?_)
  | (with_reducible refine w_rt ?_)
  | (with_reducible refine w_ct ?_)
  | (with_reducible refine w_bk ?_)
  | (with_reducible refine w_ret ?_)
  | (with_reducible refine w_retN ?_)
  | (with_reducible refine w_drop ?_)
  | (with_reducible refine w_ifS ?_)
  | (with_reducible refine w_next ?_)
  | (with_reducible refine w_break ?_)
  | (with_reducible refine w_cont ?_)
  | ((with_reducible refine' w_var ?h ?_); (case h => rfl))
  | (with_reducible refine w_c ?_)
  | (with_reducible refine w_op ?_)
  | (with_reducible refine w_un ?_)
  | (with_reducible refine w_I0 ?_)
  | ((with_reducible refine' w_I ?c ?_); (case c => walk_at "t_c"))
  | (with_reducible refine w_U ?_)
  | (with_reducible refine w_addI ?_)
  | ((with_reducible refine' w_addL ?h1 ?h2 ?hz ?_); (case h1 => walk_at "t_hp"); (case h2 => walk_at "t_hp"); (case hz => walk_at "t_z"))
  | ((with_reducible refine' w_mulI ?c ?_); (case c => walk_at "t_mul"))
  | ((with_reducible refine' w_mulL1 ?h1 ?b1 ?b2 ?_); (case h1 => walk_at "t_hp"); (case b1 => walk_at "t_z"); (case b2 => walk_at "t_z"))
  | ((with_reducible refine' w_mulL ?h1 ?b1 ?b2 ?hz ?_); (case h1 => walk_at "t_hp"); (case b1 => walk_at "t_z"); (case b2 => walk_at "t_z"); (case hz => walk_at "t_z"))
  | (with_reducible refine w_notIB ?_)
  | (with_reducible refine w_notBB ?_)
  | (with_reducible refine w_notN ?_)
  | (with_reducible refine w_isBB ?_)
  | (with_reducible refine w_isN ?_)
  | (with_reducible refine w_eqI ?_)
  | (with_reducible refine w_neI ?_)
  | (with_reducible refine w_eqB ?_)
  | (with_reducible refine w_neB ?_)
  | (with_reducible refine w_eqS ?_)
  | (with_reducible refine w_neS ?_)
  | (with_reducible refine w_test ?_)
  | (with_reducible refine w_B ?_)
  | (with_reducible refine w_exB ?_)
  | (with_reducible refine w_and ?_)
  | (with_reducible refine w_or ?_)
  | (with_reducible refine w_not ?_)
  | (with_reducible refine w_andV ?_)
  | (with_reducible refine w_orV ?_)
  | (with_reducible refine w_notV ?_)
  | (with_reducible refine w_bl ?_)
  | (with_reducible refine w_if ?_)
  | (with_reducible refine w_nil ?_)
  | (with_reducible refine w_cons ?_)
  | (with_reducible refine w_cb ?_)
  | (with_reducible refine w_call ?_)
  | (with_reducible refine w_tup ?_)
  | (with_reducible refine w_lst ?_)
  | ((with_reducible refine' w_fin ?hz ?_); (case hz => (simp only [List.length_cons, List.length_nil]; decide)))
  | ((with_reducible refine' w_len ?s ?_); (case s => walk_at "t_sq"))
  | ((with_reducible refine' w_lenT ?s ?_); (case s => walk_at "t_sqt"))
  | (with_reducible refine w_intI ?_)
  | (with_reducible refine w_intB ?_)
  | ((with_reducible refine' w_list ?s ?_); (case s => walk_at "t_sq"))
  | (with_reducible refine w_max ?_)
  | (with_reducible refine w_min ?_)
  | (with_reducible refine w_abs ?_)
  | (with_reducible refine w_sl ?_)
  | (with_reducible refine w_noPart ?_)
  | (with_reducible refine w_part ?_)
  | (with_reducible refine w_exI ?_)
  | ((with_reducible refine' w_slL ?s ?_); (case s => walk_at "t_sq"))
  | ((with_reducible refine' w_ixLI ?s ?b ?_); (case s => walk_at "t_sq"); (case b => walk_at "t_lt"))
  | ((with_reducible refine' w_ixL ?s ?e ?_); (case s => walk_at "t_sq"); (case e => walk_at "t_at"))
  | ((with_reducible refine' w_ixT ?s ?e ?_); (case s => walk_at "t_sqt"); (case e => walk_at "t_at"))
  | (with_reducible refine w_gSub ?_)
  | ((with_reducible refine' w_setLI ?e ?b ?_); (case e => walk_at "t_hp"); (case b => walk_at "t_lt"))
  | ((with_reducible refine' w_setL ?e ?b ?_); (case e => walk_at "t_hp"); (case b => walk_at "t_ixn"))
  | (with_reducible refine w_bm ?_)
  | (with_reducible refine w_bm0 ?_)
  | ((with_reducible refine' w_tyL ?e ?_); (case e => walk_at "t_sq"))
  | ((with_reducible refine' w_app ?e ?hz ?_); (case e => walk_at "t_hp"); (case hz => walk_at "t_z"))
  | (with_reducible refine w_iteT ?_)
  | (with_reducible refine w_iteF ?_)
  | (with_reducible refine w_iteNT ?_)
  | (with_reducible refine w_iteNF ?_)
  | (with_reducible refine w_for ?_)
  | (with_reducible refine w_iList ?_)
  | ((with_reducible refine' w_exL ?s ?_); (case s => walk_at "t_sq"))
  | (with_reducible refine w_iTup ?_)
  | ((with_reducible refine' w_exT ?s ?_); (case s => walk_at "t_sqt"))
  | (with_reducible refine w_iRng1 ?_)
  | ((with_reducible refine w_exR1 ?b ?_); (case b => walk_at "t_c"))
  | (with_reducible refine w_iRng2 ?_)
  | ((with_reducible refine w_exR2 ?b ?_); (case b => walk_at "t_c"))
  | (with_reducible refine w_yes ?_)
  | ((with_reducible refine w_pos ?p ?_); (case p => walk_at "t_p"))
  | ((with_reducible refine w_neg ?p ?_); (case p => walk_at "t_p"))
  | ((with_reducible refine w_posN ?p ?_); (case p => walk_at "t_p"))
  | ((with_reducible refine w_negN ?p ?_); (case p => walk_at "t_p"))
  | ((with_reducible refine' w_notInL ?s ?_); (case s => walk_at "t_sq"))
  | ((with_reducible refine' w_inL ?s ?_); (case s => walk_at "t_sq"))
  | ((with_reducible refine' w_sum ?s ?_); (case s => walk_at "t_sq"))
  | (with_reducible refine w_isiI ?_)
  | ((with_reducible refine' w_isiL ?e ?_); (case e => walk_at "t_ty"))
  | ((with_reducible refine' w_isiT ?e ?_); (case e => walk_at "t_ty"))
  | (with_reducible intro p hp_new))
local macro_rules | `(tactic| walk_at "t_ty") => `(tactic| first | assumption | (refine' tyx_l ?e; (case e => walk_at "t_hp")) | (refine' tyx_t ?e; (case e => walk_at "t_hp")))
local macro_rules | `(tactic| walk_at "t_z") => `(tactic| first | assumption | decide | omega | (simp only [List.length_cons, List.length_nil, List.length_map, List.length_append, List.length_replicate]; first | done | decide | omega))
local macro_rules | `(tactic| walk_at "t_at") => `(tactic| first | assumption | rfl)
local macro_rules | `(tactic| walk_at "t_ixn") => `(tactic| first | assumption | rfl)
local macro_rules | `(tactic| walk_at "t_ev") => `(tactic| (intro H1 e Q q; (repeat walk_at "t_w"); exact q _ (by walk_at "t_ex")))
local macro_rules | `(tactic| walk_at "t_p") => `(tactic| first | assumption | decide | decide +kernel)
local macro_rules | `(tactic| walk_at "t_lt") => `(tactic| first | assumption | omega | (simp only [List.length_set, List.length_map, List.length_append]; first | assumption | omega))
local macro_rules | `(tactic| walk_at "t_w") => `(tactic| first
  | ((with_reducible refine' w_at ?s ?hl ?h0 ?_); (case s => walk_at "t_sq"); (case hl => walk_at "t_z"); (case h0 => walk_at "t_z"))
  | (with_reducible refine w_isInt ?_)
  | (with_reducible refine w_I1 ?_)
  | (with_reducible refine w_Head ?_)
  | ((with_reducible refine' w_number ?hb ?_); (case hb => walk_at "t_bits")))
local macro_rules | `(tactic| walk_at "t_bits") => `(tactic| assumption)
/-! ### cells of a row -/
theorem nat_mod {x : Int} {z : Nat} (h : 0 < z) : ∃ n : Nat, x % (z : Int) = (n : Int) ∧ n < z := by
  have h1 := Int.emod_nonneg x (show (z : Int) ≠ 0 by omega)
  have h2 := Int.emod_lt_of_pos x (show (0 : Int) < (z : Int) by omega)
  exact ⟨(x % (z : Int)).toNat, by omega, by omega⟩
theorem two_cells {h z : Nat} {t : Int} (hh : h < z) (h2 : 2 ≤ z) (t0 : 0 ≤ t) (t1 : t < (z : Int) - 1) : ∃ j : Nat, ((h : Int) + 1 + t) % (z : Int) = (j : Int) ∧ j < z ∧ j ≠ h := by
  by_cases c : (h : Int) + 1 + t < (z : Int)
  · exact ⟨((h : Int) + 1 + t).toNat, by rw [Int.emod_eq_of_lt (by omega) c]; omega, by omega, by omega⟩
  · refine ⟨((h : Int) + 1 + t - z).toNat, ?_, by omega, by omega⟩
    rw [← Int.sub_emod_right, Int.emod_eq_of_lt (by omega) (by omega)]
    omega
/-! ### boxes and their things, and how they lie in the heap -/
inductive Thing where
  | num (n : Int)
  | box (k : Nat)
def Thing.vals : Thing → List V
  | .num n => [.str "number", .int n]
  | .box k => [.str "box", .int (k : Int)]
/-- a number of at most sixty figures; a box of n -/
def Thing.ok (n : Nat) : Thing → Prop
  | .num z => -(10 ^ 60) < z ∧ z < 10 ^ 60
  | .box k => k < n
inductive All2 {α β : Type} (R : α → β → Prop) : List α → List β → Prop where
  | nil : All2 R [] []
  | cons {a : α} {b : β} {as : List α} {bs : List β} : R a b → All2 R as bs → All2 R (a :: as) (b :: bs)
section
variable {α β : Type} {R S : α → β → Prop}
theorem All2.mono (h : ∀ a b, R a b → S a b) : ∀ {as : List α} {bs : List β}, All2 R as bs → All2 S as bs
  | _, _, .nil => .nil
  | _, _, .cons r t => .cons (h _ _ r) (t.mono h)
theorem All2.length : ∀ {as : List α} {bs : List β}, All2 R as bs → as.length = bs.length
  | _, _, .nil => rfl
  | _, _, .cons _ t => congrArg (· + 1) t.length
theorem All2.get : ∀ {as : List α} {bs : List β} {i : Nat} {a : α}, All2 R as bs → as[i]? = some a → ∃ b, bs[i]? = some b ∧ R a b
  | _, _, 0, a, .cons (b := b) r _, h => ⟨b, rfl, by cases h; exact r⟩
  | _, _, i + 1, a, .cons _ t, h => t.get (i := i) h
  | _, _, i, a, .nil, h => by simp at h
theorem All2.getR : ∀ {as : List α} {bs : List β} {i : Nat} {b : β}, All2 R as bs → bs[i]? = some b → ∃ a, as[i]? = some a ∧ R a b
  | _, _, 0, b, .cons (a := a) r _, h => ⟨a, rfl, by cases h; exact r⟩
  | _, _, i + 1, b, .cons _ t, h => t.getR (i := i) h
  | _, _, i, b, .nil, h => by simp at h
theorem All2.of_get : ∀ {as : List α} {bs : List β}, as.length = bs.length → (∀ (i : Nat) a b, as[i]? = some a → bs[i]? = some b → R a b) → All2 R as bs
  | [], [], _, _ => .nil
  | [], _ :: _, h, _ => by simp at h
  | _ :: _, [], h, _ => by simp at h
  | a :: as, b :: bs, h, k => .cons (k 0 a b rfl rfl) (All2.of_get (by simpa using h) fun i x y hx hy => k (i + 1) x y hx hy)
theorem All2.append : ∀ {as cs : List α} {bs ds : List β}, All2 R as bs → All2 R cs ds → All2 R (as ++ cs) (bs ++ ds)
  | _, _, _, _, .nil, h => h
  | _, _, _, _, .cons r t, h => .cons r (t.append h)
theorem All2.snoc {as : List α} {bs : List β} {a : α} {b : β} (h : All2 R as bs) (r : R a b) : All2 R (as ++ [a]) (bs ++ [b]) := h.append (.cons r .nil)
end
/-- a tuple of a thing; the list of a box's things; the list of all boxes -/
def ThingAt (H : Hp) (v : V) (t : Thing) : Prop := ∃ a, v = .ref a ∧ H a = some (.tup t.vals)
def FieldsAt (H : Hp) (v : V) (fs : List Thing) : Prop := ∃ a vs, v = .ref a ∧ H a = some (.lst vs) ∧ All2 (ThingAt H) vs fs
def BoxesAt (H : Hp) (a : Addr) (bs : List (List Thing)) : Prop := ∃ vs, H a = some (.lst vs) ∧ All2 (FieldsAt H) vs bs
section
variable {H H' : Hp}
theorem ThingAt.ex (x : Ex H H') {v : V} {t : Thing} : ThingAt H v t → ThingAt H' v t := fun ⟨a, e, h⟩ => ⟨a, e, x _ _ h⟩
theorem FieldsAt.ex (x : Ex H H') {v : V} {fs : List Thing} : FieldsAt H v fs → FieldsAt H' v fs := fun ⟨a, vs, e, h, t⟩ => ⟨a, vs, e, x _ _ h, t.mono fun _ _ => ThingAt.ex x⟩
theorem BoxesAt.ex (x : Ex H H') {a : Addr} {bs : List (List Thing)} : BoxesAt H a bs → BoxesAt H' a bs := fun ⟨vs, h, t⟩ => ⟨vs, x _ _ h, t.mono fun _ _ => FieldsAt.ex x⟩
end
theorem thing_box {H : Hp} {a : Addr} {z : Int} (h : H a = some (.tup [.str "box", .int z])) (hz : 0 ≤ z) : ThingAt H (.ref a) (.box z.toNat) := ⟨a, rfl, by
  show _ = some (HO.tup [.str "box", .int ((z.toNat : Nat) : Int)])
  rw [show ((z.toNat : Nat) : Int) = z by omega]; exact h⟩
theorem thing_num {H : Hp} {a : Addr} {z : Int} (h : H a = some (.tup [.str "number", .int z])) : ThingAt H (.ref a) (.num z) := ⟨a, rfl, h⟩
theorem ThingAt.put {H : Hp} {l : Addr} {zs : List V} {o : HO} (h : H l = some (.lst zs)) {v : V} {t : Thing} : ThingAt H v t → ThingAt (upd H l o) v t := fun ⟨a, e, q⟩ => ⟨a, e, by
  rw [upd_ne (fun z => by rw [z, h] at q; cases q)]; exact q⟩
theorem ThingAt.del {H : Hp} {l : Addr} {zs : List V} (h : H l = some (.lst zs)) {v : V} {t : Thing} : ThingAt H v t → ThingAt (del H l) v t := fun ⟨a, e, q⟩ => ⟨a, e, by
  rw [del_ne (fun z => by rw [z, h] at q; cases q)]; exact q⟩
/-- how many cells -/
def cells (bs : List (List Thing)) : Nat := (bs.map fun fs => 1 + fs.length).sum
theorem cells_cons (fs : List Thing) (bs : List (List Thing)) : cells (fs :: bs) = 1 + fs.length + cells bs := by
  unfold cells
  rw [List.map_cons, List.sum_cons]
theorem cells_le {m : Nat} : ∀ {bs : List (List Thing)}, (∀ fs ∈ bs, fs.length ≤ m) → cells bs ≤ (m + 1) * bs.length
  | [], _ => Nat.zero_le _
  | fs :: bs, h => by
    have h1 := h fs (List.mem_cons_self ..)
    have h2 := cells_le (bs := bs) fun x hx => h x (List.mem_cons_of_mem _ hx)
    rw [cells_cons, List.length_cons, Nat.mul_succ]
    omega
structure Good (bs : List (List Thing)) : Prop where
  one : 1 ≤ bs.length
  few : bs.length ≤ 110
  small : cells bs ≤ 380
  ok : ∀ fs ∈ bs, ∀ t ∈ fs, t.ok bs.length
theorem cells_snoc (bs : List (List Thing)) (fs : List Thing) : cells (bs ++ [fs]) = cells bs + 1 + fs.length := by
  unfold cells
  rw [List.map_append, List.sum_append]
  simp
  omega
theorem take_sum {js : List Nat} {i n : Nat} (h : js[i]? = some n) : (js.take (i + 1)).sum = (js.take i).sum + n := by
  rw [List.take_add_one, h, List.sum_append]
  simp
theorem take_sum_le (js : List Nat) (i : Nat) : (js.take i).sum ≤ js.sum := by
  conv => rhs; rw [← List.take_append_drop i js]
  rw [List.sum_append]
  omega
/-! ### places, rows, and what can be come to -/
def offs : List (List Thing) → Nat → List Nat
  | [], _ => []
  | fs :: bs, s => s :: offs bs (s + 1 + fs.length)
def places (bs : List (List Thing)) : List Nat := offs bs 0
theorem offs_len : ∀ (bs : List (List Thing)) (s : Nat), (offs bs s).length = bs.length
  | [], _ => rfl
  | _ :: bs, s => congrArg (· + 1) (offs_len bs _)
theorem offs_get : ∀ (bs : List (List Thing)) (s i : Nat), i < bs.length → (offs bs s)[i]? = some (s + cells (bs.take i))
  | [], _, i, h => by simp at h
  | fs :: bs, s, 0, _ => by simp [offs, cells]
  | fs :: bs, s, i + 1, h => by
    show (offs bs (s + 1 + fs.length))[i]? = _
    rw [offs_get bs _ i (by simpa using h), List.take_succ_cons, cells_cons]
    congr 1
    omega
theorem places_get {bs : List (List Thing)} {i : Nat} (h : i < bs.length) : (places bs)[i]? = some (cells (bs.take i)) := by
  unfold places
  rw [offs_get bs 0 i h, Nat.zero_add]
theorem cells_take {bs : List (List Thing)} {i : Nat} {fs : List Thing} (h : bs[i]? = some fs) : cells (bs.take (i + 1)) = cells (bs.take i) + 1 + fs.length := by
  rw [List.take_add_one, h]
  exact cells_snoc _ _
theorem take_places {bs : List (List Thing)} {i : Nat} (h : i < bs.length) : (places bs).take (i + 1) = (places bs).take i ++ [cells (bs.take i)] := by
  rw [List.take_add_one, places_get h]; rfl
/-- the words of a box, its links to the goals gs -/
def word (gs : List Nat) : Thing → Int
  | .num n => 2 * n
  | .box k => 2 * ((gs.getD k 0 : Nat) : Int) + 1
def boxRow (gs : List Nat) (fs : List Thing) : List Int := 4 * (fs.length : Int) :: fs.map (word gs)
def rowOf (gs : List Nat) (bs : List (List Thing)) : List Int := bs.flatMap (boxRow gs)
theorem boxRow_len (gs : List Nat) (fs : List Thing) : (boxRow gs fs).length = 1 + fs.length := by
  unfold boxRow; rw [List.length_cons, List.length_map]; omega
theorem rowOf_len (gs : List Nat) : ∀ bs : List (List Thing), (rowOf gs bs).length = cells bs
  | [] => rfl
  | fs :: bs => by
    unfold rowOf
    rw [List.flatMap_cons, List.length_append, boxRow_len, cells_cons]
    exact congrArg _ (rowOf_len gs bs)
theorem rowOf_take {gs : List Nat} {bs : List (List Thing)} {i : Nat} {fs : List Thing} (h : bs[i]? = some fs) : rowOf gs (bs.take (i + 1)) = rowOf gs (bs.take i) ++ boxRow gs fs := by
  unfold rowOf
  rw [List.take_add_one, h, List.flatMap_append]
  show _ ++ (boxRow gs fs ++ []) = _
  rw [List.append_nil]
def Edge (bs : List (List Thing)) (i k : Nat) : Prop := ∃ fs, bs[i]? = some fs ∧ Thing.box k ∈ fs
inductive Reach (bs : List (List Thing)) : Nat → Prop where
  | door : Reach bs 0
  | step {i k : Nat} : Reach bs i → Edge bs i k → Reach bs k
/-- the places in their order that can be come to -/
structure AliveOk (bs : List (List Thing)) (al : List Nat) : Prop where
  sorted : al.Pairwise (· < ·)
  mem : ∀ k, k ∈ al ↔ Reach bs k
theorem nodup_few : ∀ {n : Nat} {l : List Nat}, l.Nodup → (∀ k ∈ l, k < n) → l.length ≤ n
  | 0, [], _, _ => Nat.le_refl _
  | 0, a :: _, _, h => absurd (h a (List.mem_cons_self ..)) (Nat.not_lt_zero _)
  | n + 1, l, nd, h => by
    have h1 : (l.erase n).length ≤ n := nodup_few (nd.erase n) fun k hk => by
      have q := (List.Nodup.mem_erase_iff nd).mp hk
      have := h k q.2
      have := q.1
      omega
    have h2 : l.length ≤ (l.erase n).length + 1 := by
      by_cases hm : n ∈ l
      · rw [List.length_erase_of_mem hm]; omega
      · rw [List.erase_of_not_mem hm]; omega
    omega
theorem asI_getD (gs : List Nat) (k : Nat) : (asI gs).getD k 0 = ((gs.getD k 0 : Nat) : Int) := by
  unfold asI
  rw [List.getD_eq_getElem?_getD, List.getD_eq_getElem?_getD, List.getElem?_map]
  cases gs[k]? <;> rfl
theorem take_snoc {α : Type} {xs : List α} {j : Nat} {x : α} (h : xs[j]? = some x) : xs.take (j + 1) = xs.take j ++ [x] := by
  rw [List.take_add_one, h]; rfl
/-! ### what rows are handed to the program, and what it promises -/
/-- where the k-th box stands -/
def pl (bs : List (List Thing)) (k : Nat) : Nat := cells (bs.take k)
theorem pl_lt {bs : List (List Thing)} {j k : Nat} (h : j < k) (hk : k ≤ bs.length) : pl bs j < pl bs k := by
  induction k with
  | zero => omega
  | succ k ih =>
    have e : pl bs (k + 1) = pl bs k + 1 + (bs[k]'(by omega)).length := cells_take (List.getElem?_eq_getElem (by omega))
    rcases Nat.lt_or_ge j k with h2 | h2
    · have := ih h2 (by omega); omega
    · have : j = k := by omega
      subst this; omega
theorem pl_inj {bs : List (List Thing)} {j k : Nat} (hj : j ≤ bs.length) (hk : k ≤ bs.length) (e : pl bs j = pl bs k) : j = k := by
  rcases Nat.lt_trichotomy j k with h | h | h
  · have := pl_lt h hk; omega
  · exact h
  · have := pl_lt h hj; omega
theorem pl_all (bs : List (List Thing)) : pl bs bs.length = cells bs := by unfold pl; rw [List.take_length]
theorem places_getD {bs : List (List Thing)} {k : Nat} (h : k < bs.length) : (places bs).getD k 0 = pl bs k := by
  rw [List.getD_eq_getElem?_getD, places_get h]; rfl
theorem places_len (bs : List (List Thing)) : (places bs).length = bs.length := offs_len bs 0
structure RowOk (bs : List (List Thing)) (sp : Nat) : Prop where
  one : 1 ≤ bs.length
  small : cells bs + sp ≤ 400
  ok : ∀ fs ∈ bs, ∀ t ∈ fs, t.ok bs.length
theorem len_le_cells (bs : List (List Thing)) : bs.length ≤ cells bs := by
  induction bs with
  | nil => exact Nat.zero_le _
  | cons fs bs ih => rw [cells_cons, List.length_cons]; omega
theorem RowOk.few {bs : List (List Thing)} {sp : Nat} (h : RowOk bs sp) : bs.length ≤ 400 := by
  have := len_le_cells bs
  have := h.small
  omega
/-- the row of boxes, links leading where they stand -/
def rowAt (bs : List (List Thing)) (sp : Nat) : List Int := rowOf (places bs) bs ++ List.replicate sp 0
theorem rowAt_len (bs : List (List Thing)) (sp : Nat) : (rowAt bs sp).length = cells bs + sp := by
  unfold rowAt; rw [List.length_append, rowOf_len, List.length_replicate]
/-- all that can be come to is marked, all else is as it was -/
structure MarkOk (bs : List (List Thing)) (xs ys : List Int) : Prop where
  len : ys.length = xs.length
  yes : ∀ k, Reach bs k → ys.getD (pl bs k) 0 = xs.getD (pl bs k) 0 + 2
  no : ∀ c, (∀ k, Reach bs k → c ≠ pl bs k) → ys.getD c 0 = xs.getD c 0
theorem ext_getD {xs ys : List Int} (l : xs.length = ys.length) (h : ∀ i, xs.getD i 0 = ys.getD i 0) : xs = ys := by
  apply List.ext_getElem?
  intro i
  have e := h i
  by_cases hi : i < xs.length
  · rw [List.getD_eq_getElem?_getD, List.getD_eq_getElem?_getD, List.getElem?_eq_getElem hi, List.getElem?_eq_getElem (by omega)] at e
    rw [List.getElem?_eq_getElem hi, List.getElem?_eq_getElem (by omega)]
    exact congrArg some e
  · rw [List.getElem?_eq_none (by omega), List.getElem?_eq_none (by omega)]
theorem MarkOk.uniq {bs : List (List Thing)} {xs ys zs : List Int} (a : MarkOk bs xs ys) (b : MarkOk bs xs zs) : ys = zs := by
  refine ext_getD (by rw [a.len, b.len]) fun c => ?_
  by_cases h : ∃ k, Reach bs k ∧ c = pl bs k
  · obtain ⟨k, r, rfl⟩ := h
    rw [a.yes k r, b.yes k r]
  · have h2 : ∀ k, Reach bs k → c ≠ pl bs k := fun k r e => h ⟨k, r, e⟩
    rw [a.no c h2, b.no c h2]
theorem Reach.lt {bs : List (List Thing)} {sp : Nat} (h : RowOk bs sp) {k : Nat} (r : Reach bs k) : k < bs.length := by
  cases r with
  | door => exact h.one
  | step _ e =>
    obtain ⟨fs, hf, ht⟩ := e
    exact h.ok fs (List.mem_of_getElem? hf) _ ht
def spHeads (K : PySem.W.Frag) : Sp := fun vs H Q _ => ∃ (a : Addr) (bs : List (List Thing)) (sp : Nat), vs = [.ref a, .int ((cells bs : Nat) : Int)] ∧ SqL K H a ((rowAt bs sp).map V.int) ∧ RowOk bs sp ∧ Evl.RetL ((asI (places bs)).map V.int) H Q
theorem w_heads {K : PySem.W.Frag} {H : Hp} {Q : VK} {E : XK} {a : Addr} {bs : List (List Thing)} (sp : Nat) (s : SqL K H a ((rowAt bs sp).map V.int)) (r : RowOk bs sp) (k : ∀ p H2, H p = none → Ex H H2 → H2 p = some (.lst ((asI (places bs)).map V.int)) → Q (.ref p) H2) : spHeads K ([.ref a, .int ((cells bs : Nat) : Int)] ++ []) H Q E := ⟨a, bs, sp, rfl, s, r, k⟩
def spMarked (K : PySem.W.Frag) : Sp := fun vs H Q _ => ∃ (a : Addr) (bs : List (List Thing)) (sp : Nat), vs = [.ref a, .int ((cells bs : Nat) : Int)] ∧ SqL K H a ((rowAt bs sp).map V.int) ∧ RowOk bs sp ∧ ∀ ys, MarkOk bs (rowAt bs sp) ys → Evl.RetL (ys.map V.int) H Q
theorem w_marked {K : PySem.W.Frag} {H : Hp} {Q : VK} {E : XK} {a : Addr} {bs : List (List Thing)} (sp : Nat) (s : SqL K H a ((rowAt bs sp).map V.int)) (r : RowOk bs sp) (k : ∀ ys, MarkOk bs (rowAt bs sp) ys → ∀ p H2, H p = none → Ex H H2 → H2 p = some (.lst (ys.map V.int)) → Q (.ref p) H2) : spMarked K ([.ref a, .int ((cells bs : Nat) : Int)] ++ []) H Q E := ⟨a, bs, sp, rfl, s, r, k⟩
/-- how many cells, as the law reckons it -/
theorem given_cells {n : Nat} {bs : List (List Thing)} (hn : n = bs.length) : Evl.given n (fun _ => true) (fun i => V.int (1 + ((bs.getD i []).length : Int))) = (bs.map fun fs => 1 + (fs.length : Int)).map V.int := by
  subst hn
  rw [given_all]
  apply List.ext_getElem?
  intro i
  rw [List.getElem?_map, List.getElem?_map, List.getElem?_map]
  by_cases h : i < bs.length
  · have e : bs.getD i [] = bs[i] := by rw [List.getD_eq_getElem?_getD, List.getElem?_eq_getElem h]; rfl
    rw [List.getElem?_eq_getElem (by simpa using h), List.getElem_range, List.getElem?_eq_getElem h]
    show some (V.int (1 + ((bs.getD i []).length : Int))) = _
    rw [e]; rfl
  · rw [List.getElem?_eq_none (by simpa using h), List.getElem?_eq_none (by omega)]; rfl
theorem sum_cells (bs : List (List Thing)) : (bs.map fun fs => 1 + (fs.length : Int)).sum = ((cells bs : Nat) : Int) := by
  induction bs with
  | nil => rfl
  | cons fs bs ih => rw [List.map_cons, List.sum_cons, ih, cells_cons]; omega
/-- what is due while the law marks: the first ones of al are -/
structure DueOk (bs : List (List Thing)) (xs : List Int) (al : List Nat) (ys : List Int) : Prop where
  len : ys.length = xs.length
  yes : ∀ k ∈ al, ys.getD (pl bs k) 0 = xs.getD (pl bs k) 0 + 2
  no : ∀ c, (∀ k ∈ al, c ≠ pl bs k) → ys.getD c 0 = xs.getD c 0
theorem DueOk.turn {bs : List (List Thing)} {xs : List Int} {al : List Nat} {ys : List Int} (d : DueOk bs xs al ys) {k : Nat} (hk : k < bs.length) (ha : ∀ j ∈ al, j < bs.length ∧ j ≠ k) (hx : cells bs ≤ xs.length) : DueOk bs xs (al ++ [k]) (ys.set (pl bs k) (ys.getD (pl bs k) 0 + 2)) := by
  have hp : pl bs k < ys.length := by
    have := pl_lt hk (Nat.le_refl _)
    rw [pl_all] at this
    rw [d.len]; omega
  have hne : ∀ j ∈ al, pl bs j ≠ pl bs k := fun j hj e => (ha j hj).2 (pl_inj (Nat.le_of_lt (ha j hj).1) (Nat.le_of_lt hk) e)
  refine ⟨by rw [List.length_set]; exact d.len, ?_, ?_⟩
  · intro j hj
    rw [getD_set hp]
    rcases List.mem_append.mp hj with h | h
    · rw [if_neg (hne j h)]; exact d.yes j h
    · rw [List.mem_singleton.mp h, if_pos rfl, d.no _ fun j hj => (hne j hj).symm]
  · intro c hc
    rw [getD_set hp, if_neg (hc k (by simp))]
    exact d.no c fun j hj => hc j (List.mem_append_left _ hj)
/-! ### what stands in the cells of a row -/
theorem getD_append_left {xs ys : List Int} {i : Nat} (h : i < xs.length) : (xs ++ ys).getD i 0 = xs.getD i 0 := by
  rw [List.getD_eq_getElem?_getD, List.getD_eq_getElem?_getD, List.getElem?_append_left h]
theorem getD_append_right {xs ys : List Int} {i : Nat} : (xs ++ ys).getD (xs.length + i) 0 = ys.getD i 0 := by
  rw [List.getD_eq_getElem?_getD, List.getD_eq_getElem?_getD, List.getElem?_append_right (by omega)]
  congr 2
  omega
theorem rowOf_split (gs : List Nat) {bs : List (List Thing)} {i : Nat} {fs : List Thing} (h : bs[i]? = some fs) : ∃ r, rowOf gs bs = rowOf gs (bs.take i) ++ (boxRow gs fs ++ r) := by
  refine ⟨rowOf gs (bs.drop (i + 1)), ?_⟩
  have e : bs = bs.take i ++ fs :: bs.drop (i + 1) := by
    have h1 := (List.getElem?_eq_some_iff.mp h)
    conv => lhs; rw [← List.take_append_drop i bs, List.drop_eq_getElem_cons h1.1, h1.2]
  conv => lhs; rw [e]
  unfold rowOf
  rw [List.flatMap_append, List.flatMap_cons]
/-- the head of the i-th box, its j-th field -/
theorem rowAt_head {bs : List (List Thing)} {sp i : Nat} {fs : List Thing} (h : bs[i]? = some fs) : (rowAt bs sp).getD (pl bs i) 0 = 4 * (fs.length : Int) := by
  obtain ⟨r, e⟩ := rowOf_split (places bs) h
  unfold rowAt
  rw [e, List.append_assoc]
  have l : (rowOf (places bs) (bs.take i)).length = pl bs i := rowOf_len _ _
  have q := getD_append_right (xs := rowOf (places bs) (bs.take i)) (ys := boxRow (places bs) fs ++ r ++ List.replicate sp 0) (i := 0)
  rw [l, Nat.add_zero] at q
  rw [q]; rfl
theorem rowAt_field {bs : List (List Thing)} {sp i j : Nat} {fs : List Thing} {t : Thing} (h : bs[i]? = some fs) (ht : fs[j]? = some t) : (rowAt bs sp).getD (pl bs i + 1 + j) 0 = word (places bs) t := by
  obtain ⟨r, e⟩ := rowOf_split (places bs) h
  unfold rowAt
  rw [e, List.append_assoc]
  have l : (rowOf (places bs) (bs.take i)).length = pl bs i := rowOf_len _ _
  have q := getD_append_right (xs := rowOf (places bs) (bs.take i)) (ys := boxRow (places bs) fs ++ r ++ List.replicate sp 0) (i := 1 + j)
  rw [l, ← Nat.add_assoc] at q
  rw [q, List.append_assoc]
  have hj := (List.getElem?_eq_some_iff.mp ht).1
  rw [getD_append_left (by rw [boxRow_len]; omega), Nat.add_comm]
  unfold boxRow
  rw [List.getD_eq_getElem?_getD, List.getElem?_cons_succ, List.getElem?_map, ht]; rfl
/-- a cell is a head's, or a field's, or stands behind the boxes -/
theorem pl_step {bs : List (List Thing)} {i : Nat} {fs : List Thing} (h : bs[i]? = some fs) : pl bs (i + 1) = pl bs i + 1 + fs.length := cells_take h
theorem cell_of {bs : List (List Thing)} : ∀ {n c : Nat}, n ≤ bs.length → c < pl bs n → ∃ i fs, i < n ∧ bs[i]? = some fs ∧ (c = pl bs i ∨ ∃ j, j < fs.length ∧ c = pl bs i + 1 + j)
  | 0, c, _, h => by simp [pl, cells] at h
  | n + 1, c, hn, h => by
    have hb : bs[n]? = some bs[n] := List.getElem?_eq_getElem (by omega)
    rw [pl_step hb] at h
    by_cases h1 : c < pl bs n
    · obtain ⟨i, fs, hi, r⟩ := cell_of (by omega) h1
      exact ⟨i, fs, by omega, r⟩
    · refine ⟨n, bs[n], by omega, hb, ?_⟩
      by_cases h2 : c = pl bs n
      · exact Or.inl h2
      · exact Or.inr ⟨c - pl bs n - 1, by omega, by omega⟩
/-! ### marking, box by box -/
/-- a head's word while the boxes M are marked -/
theorem DueOk.head {bs : List (List Thing)} {sp : Nat} {M : List Nat} {ys : List Int} (d : DueOk bs (rowAt bs sp) M ys) (hM : ∀ j ∈ M, j < bs.length) {k : Nat} {fs : List Thing} (h : bs[k]? = some fs) :
    ys.getD (pl bs k) 0 = 4 * (fs.length : Int) + (if k ∈ M then 2 else 0) := by
  have hk := (List.getElem?_eq_some_iff.mp h).1
  by_cases hm : k ∈ M
  · rw [d.yes k hm, rowAt_head h, if_pos hm]
  · rw [d.no _ (fun j hj e => hm (by rw [pl_inj (Nat.le_of_lt hk) (Nat.le_of_lt (hM j hj)) e]; exact hj)), rowAt_head h, if_neg hm]; omega
/-- a field's word stays -/
theorem DueOk.field {bs : List (List Thing)} {sp : Nat} {M : List Nat} {ys : List Int} (d : DueOk bs (rowAt bs sp) M ys) (hM : ∀ j ∈ M, j < bs.length) {k j : Nat} {fs : List Thing} {t : Thing} (h : bs[k]? = some fs) (ht : fs[j]? = some t) :
    ys.getD (pl bs k + 1 + j) 0 = word (places bs) t := by
  have hk := (List.getElem?_eq_some_iff.mp h).1
  have hj := (List.getElem?_eq_some_iff.mp ht).1
  rw [d.no _ ?_, rowAt_field h ht]
  intro i hi e
  have h1 := pl_step h
  have hi2 := hM i hi
  rcases Nat.lt_trichotomy i k with q | q | q
  · have := pl_lt q (Nat.le_of_lt hk); omega
  · subst q; omega
  · have : pl bs (k + 1) ≤ pl bs i := by
      rcases Nat.lt_or_ge (k + 1) i with q2 | q2
      · exact Nat.le_of_lt (pl_lt q2 (Nat.le_of_lt hi2))
      · have : i = k + 1 := by omega
        subst this; exact Nat.le_refl _
    omega
/-- marked are M, all to be come to; of all but W (waiting) the boxes that their fields lead to are marked -/
structure Marking (bs : List (List Thing)) (M W : List Nat) : Prop where
  nd : M.Nodup
  lt : ∀ k ∈ M, k < bs.length
  re : ∀ k ∈ M, Reach bs k
  zero : 0 ∈ M
  sub : ∀ k ∈ W, k ∈ M
  cl : ∀ k ∈ M, k ∉ W → ∀ q, Edge bs k q → q ∈ M
theorem Marking.all {bs : List (List Thing)} {M : List Nat} (h : Marking bs M []) {k : Nat} (r : Reach bs k) : k ∈ M := by
  induction r with
  | door => exact h.zero
  | step _ e ih => exact h.cl _ ih (by simp) _ e
theorem Marking.fin {bs : List (List Thing)} {sp : Nat} {M : List Nat} {ys : List Int} (h : Marking bs M []) (d : DueOk bs (rowAt bs sp) M ys) : MarkOk bs (rowAt bs sp) ys :=
  ⟨d.len, fun k r => d.yes k (h.all r), fun c hc => d.no c fun k hk => hc k (h.re k hk)⟩
theorem Marking.start {bs : List (List Thing)} (h : 1 ≤ bs.length) : Marking bs [0] [0] :=
  ⟨by simp, fun k hk => by rw [List.mem_singleton.mp hk]; exact h, fun k hk => by rw [List.mem_singleton.mp hk]; exact .door, by simp, fun k hk => hk, fun k hk hn => absurd hk hn⟩
/-- a box that is led to by one that is marked joins, waiting -/
theorem Marking.join {bs : List (List Thing)} {M W : List Nat} (h : Marking bs M W) {k q : Nat} (hk : k ∈ M) (e : Edge bs k q) (hq : q < bs.length) (hn : q ∉ M) : Marking bs (M ++ [q]) (W ++ [q]) := by
  refine ⟨?_, ?_, ?_, List.mem_append_left _ h.zero, ?_, ?_⟩
  · exact List.nodup_append.mpr ⟨h.nd, by simp, fun a ha b hb e => hn (by rw [List.mem_singleton] at hb; rw [← hb, ← e]; exact ha)⟩
  · intro x hx
    rcases List.mem_append.mp hx with r | r
    · exact h.lt x r
    · rw [List.mem_singleton.mp r]; exact hq
  · intro x hx
    rcases List.mem_append.mp hx with r | r
    · exact h.re x r
    · rw [List.mem_singleton.mp r]; exact .step (h.re k hk) e
  · intro x hx
    rcases List.mem_append.mp hx with r | r
    · exact List.mem_append_left _ (h.sub x r)
    · exact List.mem_append_right _ r
  · intro x hx hw p hp
    rcases List.mem_append.mp hx with r | r
    · exact List.mem_append_left _ (h.cl x r (fun z => hw (List.mem_append_left _ z)) p hp)
    · exact absurd (List.mem_append_right _ r) hw
theorem Marking.same {bs : List (List Thing)} {M W W' : List Nat} (h : Marking bs M W) (e : ∀ k, k ∈ W' ↔ k ∈ W) : Marking bs M W' :=
  ⟨h.nd, h.lt, h.re, h.zero, fun k hk => h.sub k ((e k).mp hk), fun k hk hn => h.cl k hk fun z => hn ((e k).mpr z)⟩
theorem Marking.done {bs : List (List Thing)} {M W : List Nat} {c : Nat} (h : Marking bs M (c :: W)) (hc : ∀ q, Edge bs c q → q ∈ M) : Marking bs M W :=
  ⟨h.nd, h.lt, h.re, h.zero, fun k hk => h.sub k (List.mem_cons_of_mem _ hk), fun k hk hn q e => by
    by_cases z : k = c
    · subst z; exact hc q e
    · exact h.cl k hk (fun y => (List.mem_cons.mp y).elim z hn) q e⟩
end Tw

set_option Elab.async false
set_option linter.all false
set_option maxRecDepth 100000
set_option maxHeartbeats 4000000
namespace Tw
open PySem PySem.Spec PyProof.Rows L2
open Evl (Ex ex_l ex_t fresh_back sz_of sz_lt)
local macro_rules | `(tactic| walk_at "t_hp") => `(tactic| first
  | assumption
  | exact upd_same
  | (refine' hp_ne ?hne ?hrest; (case hne => walk_at "t_ne"); (case hrest => walk_at "t_hp"))
  | (refine' hp_ex ?hx ?hrest; (case hx => assumption); (case hrest => walk_at "t_hp")))
local macro_rules | `(tactic| walk_at "t_ne") => `(tactic| first
  | assumption
  | exact Ne.symm (by assumption)
  | (refine' ne_of_none ?h1 ?h2; (case h2 => assumption); (case h1 => walk_at "t_hp"))
  | (refine' Ne.symm (ne_of_none ?h1 ?h2); (case h2 => assumption); (case h1 => walk_at "t_hp")))
local macro_rules | `(tactic| walk_at "t_none") => `(tactic| first
  | assumption
  | (refine' fresh_back ?e ?n; (case n => assumption); (case e => walk_at "t_ex")))
local macro_rules | `(tactic| walk_at "t_ex") => `(tactic| first
  | assumption
  | exact Evl.Ex.refl _
  | (refine' ex_new ?n ?e; (case n => assumption); (case e => walk_at "t_ex"))
  | (refine' Evl.Ex.mut ?e ?n; (case n => walk_at "t_none"); (case e => walk_at "t_ex"))
  | (refine' Evl.Ex.trans ?a ?b; (case b => assumption); (case a => walk_at "t_ex")))
local macro_rules | `(tactic| walk_at "t_sq") => `(tactic| first
  | assumption
  | (refine' SqL.of ?h; (case h => walk_at "t_hp"))
  | (refine' ex_l ?e ?s; (case s => assumption); (case e => walk_at "t_ex")))
local macro_rules | `(tactic| walk_at "t_sqt") => `(tactic| first
  | assumption
  | (refine' SqT.of ?h; (case h => walk_at "t_hp"))
  | (refine' ex_t ?e ?s; (case s => assumption); (case e => walk_at "t_ex")))
local macro_rules | `(tactic| walk_at "t_mul") => `(tactic| first
  | assumption
  | exact Or.inl (Or.inl ⟨by decide, by decide⟩)
  | exact Or.inl (Or.inr ⟨by decide, by decide⟩)
  | exact Or.inl (Or.inl ⟨by omega, by omega⟩)
  | exact Or.inl (Or.inr ⟨by omega, by omega⟩))
local macro_rules | `(tactic| walk_at "t_c") => `(tactic| first
  | assumption
  | decide
  | (show (0 : Int) < _; decide)
  | (show (0 : Int) < _; omega)
  | exact ⟨by decide, by decide⟩
  | exact ⟨by decide, by decide, by decide⟩
  | exact ⟨by omega, by omega⟩
  | exact ⟨by omega, by omega, by omega, by omega⟩)
local macro_rules | `(tactic| walk_at "t_w") => `(tactic| first
  | (with_reducible refine w_seq ?_)
  | (with_reducible refine w_asg ?_)
  | (with_reducible refine w_gName ?_)
  | (with_reducible refine w_nx ?_)
  | (with_reducible refine w_rt ?_)
  | (with_reducible refine w_ct ?_)
  | (with_reducible refine w_bk ?_)
  | (with_reducible refine w_ret ?_)
  | (with_reducible refine w_retN ?_)
  | (with_reducible refine w_drop ?_)
  | (with_reducible refine w_ifS ?_)
  | (with_reducible refine w_next ?_)
  | (with_reducible refine w_break ?_)
  | (with_reducible refine w_cont ?_)
  | ((with_reducible refine' w_var ?h ?_); (case h => rfl))
  | (with_reducible refine w_c ?_)
  | (with_reducible refine w_op ?_)
  | (with_reducible refine w_un ?_)
  | (with_reducible refine w_I0 ?_)
  | ((with_reducible refine' w_I ?c ?_); (case c => walk_at "t_c"))
  | (with_reducible refine w_U ?_)
  | (with_reducible refine w_addI ?_)
  | ((with_reducible refine' w_addL ?h1 ?h2 ?hz ?_); (case h1 => walk_at "t_hp"); (case h2 => walk_at "t_hp"); (case hz => walk_at "t_z"))
  | ((with_reducible refine' w_mulI ?c ?_); (case c => walk_at "t_mul"))
  | ((with_reducible refine' w_mulL1 ?h1 ?b1 ?b2 ?_); (case h1 => walk_at "t_hp"); (case b1 => walk_at "t_z"); (case b2 => walk_at "t_z"))
  | ((with_reducible refine' w_mulL ?h1 ?b1 ?b2 ?hz ?_); (case h1 => walk_at "t_hp"); (case b1 => walk_at "t_z"); (case b2 => walk_at "t_z"); (case hz => walk_at "t_z"))
  | (with_reducible refine w_notIB ?_)
  | (with_reducible refine w_notBB ?_)
  | (with_reducible refine w_notN ?_)
  | (with_reducible refine w_isBB ?_)
  | (with_reducible refine w_isN ?_)
  | (with_reducible refine w_eqI ?_)
  | (with_reducible refine w_neI ?_)
  | (with_reducible refine w_eqB ?_)
  | (with_reducible refine w_neB ?_)
  | (with_reducible refine w_eqS ?_)
  | (with_reducible refine w_neS ?_)
  | (with_reducible refine w_test ?_)
  | (with_reducible refine w_B ?_)
  | (with_reducible refine w_exB ?_)
  | (with_reducible refine w_and ?_)
  | (with_reducible refine w_or ?_)
  | (with_reducible refine w_not ?_)
  | (with_reducible refine w_andV ?_)
  | (with_reducible refine w_orV ?_)
  | (with_reducible refine w_notV ?_)
  | (with_reducible refine w_bl ?_)
  | (with_reducible refine w_if ?_)
  | (with_reducible refine w_nil ?_)
  | (with_reducible refine w_cons ?_)
  | (with_reducible refine w_cb ?_)
  | (with_reducible refine w_call ?_)
  | (with_reducible refine w_tup ?_)
  | (with_reducible refine w_lst ?_)
  | ((with_reducible refine' w_fin ?hz ?_); (case hz => (simp only [List.length_cons, List.length_nil]; decide)))
  | ((with_reducible refine' w_len ?s ?_); (case s => walk_at "t_sq"))
  | ((with_reducible refine' w_lenT ?s ?_); (case s => walk_at "t_sqt"))
  | (with_reducible refine w_intI ?_)
  | (with_reducible refine w_intB ?_)
  | ((with_reducible refine' w_list ?s ?_); (case s => walk_at "t_sq"))
  | (with_reducible refine w_max ?_)
  | (with_reducible refine w_min ?_)
  | (with_reducible refine w_abs ?_)
  | (with_reducible refine w_sl ?_)
  | (with_reducible refine w_noPart ?_)
  | (with_reducible refine w_part ?_)
  | (with_reducible refine w_exI ?_)
  | ((with_reducible refine' w_slL ?s ?_); (case s => walk_at "t_sq"))
  | ((with_reducible refine' w_ixLI ?s ?b ?_); (case s => walk_at "t_sq"); (case b => walk_at "t_lt"))
  | ((with_reducible refine' w_ixL ?s ?e ?_); (case s => walk_at "t_sq"); (case e => walk_at "t_at"))
  | ((with_reducible refine' w_ixT ?s ?e ?_); (case s => walk_at "t_sqt"); (case e => walk_at "t_at"))
  | (with_reducible refine w_gSub ?_)
  | ((with_reducible refine' w_setLI ?e ?b ?_); (case e => walk_at "t_hp"); (case b => walk_at "t_lt"))
  | ((with_reducible refine' w_setL ?e ?b ?_); (case e => walk_at "t_hp"); (case b => walk_at "t_ixn"))
  | (with_reducible refine w_bm ?_)
  | (with_reducible refine w_bm0 ?_)
  | ((with_reducible refine' w_tyL ?e ?_); (case e => walk_at "t_sq"))
  | ((with_reducible refine' w_app ?e ?hz ?_); (case e => walk_at "t_hp"); (case hz => walk_at "t_z"))
  | (with_reducible refine w_iteT ?_)
  | (with_reducible refine w_iteF ?_)
  | (with_reducible refine w_iteNT ?_)
  | (with_reducible refine w_iteNF ?_)
  | (with_reducible refine w_for ?_)
  | (with_reducible refine w_iList ?_)
  | ((with_reducible refine' w_exL ?s ?_); (case s => walk_at "t_sq"))
  | (with_reducible refine w_iTup ?_)
  | ((with_reducible refine' w_exT ?s ?_); (case s => walk_at "t_sqt"))
  | (with_reducible refine w_iRng1 ?_)
  | ((with_reducible refine w_exR1 ?b ?_); (case b => walk_at "t_c"))
  | (with_reducible refine w_iRng2 ?_)
  | ((with_reducible refine w_exR2 ?b ?_); (case b => walk_at "t_c"))
  | (with_reducible refine w_yes ?_)
  | ((with_reducible refine w_pos ?p ?_); (case p => walk_at "t_p"))
  | ((with_reducible refine w_neg ?p ?_); (case p => walk_at "t_p"))
  | ((with_reducible refine w_posN ?p ?_); (case p => walk_at "t_p"))
  | ((with_reducible refine w_negN ?p ?_); (case p => walk_at "t_p"))
  | ((with_reducible refine' w_notInL ?s ?_); (case s => walk_at "t_sq"))
  | ((with_reducible refine' w_inL ?s ?_); (case s => walk_at "t_sq"))
  | ((with_reducible refine' w_sum ?s ?_); (case s => walk_at "t_sq"))
  | (with_reducible refine w_isiI ?_)
  | ((with_reducible refine' w_isiL ?e ?_); (case e => walk_at "t_ty"))
  | ((with_reducible refine' w_isiT ?e ?_); (case e => walk_at "t_ty"))
  | (with_reducible intro p hp_new))
local macro_rules | `(tactic| walk_at "t_ty") => `(tactic| first | assumption | (refine' tyx_l ?e; (case e => walk_at "t_hp")) | (refine' tyx_t ?e; (case e => walk_at "t_hp")))
local macro_rules | `(tactic| walk_at "t_z") => `(tactic| first | assumption | decide | omega | (simp only [List.length_cons, List.length_nil, List.length_map, List.length_append, List.length_replicate]; first | done | decide | omega))
local macro_rules | `(tactic| walk_at "t_at") => `(tactic| first | assumption | rfl)
local macro_rules | `(tactic| walk_at "t_ixn") => `(tactic| first | assumption | rfl)
local macro_rules | `(tactic| walk_at "t_ev") => `(tactic| (intro H1 e Q q; (repeat walk_at "t_w"); exact q _ (by walk_at "t_ex")))
local macro_rules | `(tactic| walk_at "t_p") => `(tactic| first | assumption | decide | decide +kernel)
local macro_rules | `(tactic| walk_at "t_lt") => `(tactic| first | assumption | omega | (simp only [List.length_set, List.length_map, List.length_append]; first | assumption | omega))
local macro_rules | `(tactic| walk_at "t_w") => `(tactic| first
  | ((with_reducible refine' w_at ?s ?hl ?h0 ?_); (case s => walk_at "t_sq"); (case hl => walk_at "t_z"); (case h0 => walk_at "t_z"))
  | (with_reducible refine w_isInt ?_)
  | (with_reducible refine w_I1 ?_)
  | (with_reducible refine w_Head ?_)
  | ((with_reducible refine' w_number ?hb ?_); (case hb => walk_at "t_bits")))
local macro_rules | `(tactic| walk_at "t_bits") => `(tactic| assumption)
local macro_rules | `(tactic| walk_at "t_w") => `(tactic| first
  | (with_reducible refine w_tru ?_)
  | ((with_reducible refine' w_truL ?s ?_); (case s => walk_at "t_sq"))
  | (with_reducible refine w_dnew ?_)
  | (with_reducible refine w_disp1 ?_)
  | ((with_reducible refine' w_aug ?e ?_); (case e => rfl))
  | (with_reducible refine w_ipI ?_)
  | ((with_reducible refine' w_inD ?e ?_); (case e => walk_at "t_hp"))
  | ((with_reducible refine' w_notInD ?e ?_); (case e => walk_at "t_hp"))
  | (with_reducible refine w_dget ?_)
  | ((with_reducible refine' w_dgetE ?e ?hv ?_); (case e => walk_at "t_hp"); (case hv => walk_at "t_dv"))
  | (with_reducible refine w_dput ?_)
  | ((with_reducible refine' w_dputE ?e ?hl ?_); (case e => walk_at "t_hp"); (case hl => walk_at "t_z"))
  | ((with_reducible refine' w_extend ?e1 ?e2 ?hz ?_); (case e1 => walk_at "t_hp"); (case e2 => walk_at "t_hp"); (case hz => walk_at "t_z")))
local macro_rules | `(tactic| walk_at "t_dv") => `(tactic| assumption)
abbrev s_heads : Stmt := topS 16
theorem sc_heads : FnScope ["row", "used", "places", "place"] ["row", "used"] (defScope s_heads) := ⟨rfl, rfl, rfl, by decide +kernel, rfl, by decide +kernel, by decide +kernel⟩

section
variable {P : Program} {w : World} {K : PySem.W.Frag} {mg : Str → Option Value} {base : Heap}
theorem c_heads (T : Txt K mg) (D : DefAt K mg "heads" "heads" s_heads) (c_fields_of : Cal P w K mg base "fields_of" 1 ["head"] (spI1 gFields)) : Cal P w K mg base "heads" 2 ["row", "used"] (spHeads K) := by
  refine Cal.of D sc_heads (fun vs H Q E h => ?_) (fun _ _ _ _ _ _ us hl => match us, hl with | [_, _], _ => rfl) (fun f cdv A outer s H vs Q E hr h => ?_)
  · obtain ⟨a, bs, sp, rfl, _⟩ := h; rfl
  · obtain ⟨a, bs, sp, rfl, hS, hro, k⟩ := h
    have hu : _ + 64 < cLine := hr.units
    have hfew := hro.few
    have hlr := rowAt_len bs sp
    have hpn := places_len bs
    refine ⟨_, (pss_cons (ps_set (i := 2) sc_heads.nd rfl (Or.inl rfl) (pe_lst pa_nil))
      (pss_cons (ps_set (i := 3) sc_heads.nd rfl (Or.inl rfl) pe_int)
      (pss_cons (ps_while (PassesOwn.never) (pt_cmpR op_lt (pv 3) (pv 1) (nomark _)) (pss_cons (ps_expr (pe_bmK (K := K) rfl PySem.F.plainAttrs_list PySem.F.slot_list_append PySem.F.type_list_append mt_append (pv 2) (pa_cons (pv 3) pa_nil)))
      (pss_one (ps_aug (i := 3) sc_heads.nd rfl (Or.inl rfl) (pe_op op_addA (pe_callC c_fields_of (hr.mono (by decide)) rfl (pa_cons (pe_ix (ix_seqK (K := K) rfl) (pv 0) (pv 3) (fun _ _ => rfl)) pa_nil)) pe_int) ip_add))))
      (pss_one (ps_ret (pv 2)))))), ?_⟩
    repeat walk_at "t_w"
    rename_i l hl
    refine w_while (fun m σ' H' => ∃ i : Nat, i ≤ bs.length ∧ m = bs.length - i ∧ σ' = [some (.ref a), some (.int ((cells bs : Nat) : Int)), some (.ref l), some (.int ((pl bs i : Nat) : Int))] ∧ Ex H H' ∧ H' l = some (.lst ((asI ((places bs).take i)).map V.int))) bs.length ?_ ?_
    · exact ⟨0, Nat.zero_le _, rfl, rfl, by walk_at "t_ex", upd_same⟩
    · rintro m σ' H' ⟨i, hi, em, rfl, hE, hL⟩
      repeat walk_at "t_w"
      rcases Nat.lt_or_ge i bs.length with h | h
      · have hb : bs[i]? = some bs[i] := List.getElem?_eq_getElem h
        have hp := pl_lt h (Nat.le_refl _)
        rw [pl_all] at hp
        refine w_pos (by omega) ?_
        refine w_exN ?_
        have hz2 : ((asI ((places bs).take i)).map V.int).length < 1000000 := by rw [List.length_map, asI_len, List.length_take]; omega
        repeat walk_at "t_w"
        have e1 : ((pl bs i : Nat) : Int) + ((rowAt bs sp).getD (pl bs i) 0 / 4 + 1) = ((pl bs (i + 1) : Nat) : Int) := by rw [rowAt_head hb, pl_step hb]; omega
        refine ⟨bs.length - (i + 1), by omega, i + 1, h, rfl, by rw [← e1]; rfl, by walk_at "t_ex", ?_⟩
        rw [take_places h, ← asI_snoc]
        walk_at "t_hp"
      · have ei : i = bs.length := by omega
        refine w_neg (by rw [ei, pl_all]; omega) ?_
        rw [ei, List.take_of_length_le (by rw [hpn]; exact Nat.le_refl _)] at hL
        repeat walk_at "t_w"
        exact k _ _ (by walk_at "t_none") hE hL
end
end Tw

set_option Elab.async false
set_option linter.all false
set_option maxRecDepth 100000
set_option maxHeartbeats 4000000
namespace Tw
open PySem PySem.Spec PyProof.Rows L2
open Evl (Ex ex_l ex_t fresh_back sz_of sz_lt)
local macro_rules | `(tactic| walk_at "t_hp") => `(tactic| first
  | assumption
  | exact upd_same
  | (refine' hp_ne ?hne ?hrest; (case hne => walk_at "t_ne"); (case hrest => walk_at "t_hp"))
  | (refine' hp_ex ?hx ?hrest; (case hx => assumption); (case hrest => walk_at "t_hp")))
local macro_rules | `(tactic| walk_at "t_ne") => `(tactic| first
  | assumption
  | exact Ne.symm (by assumption)
  | (refine' ne_of_none ?h1 ?h2; (case h2 => assumption); (case h1 => walk_at "t_hp"))
  | (refine' Ne.symm (ne_of_none ?h1 ?h2); (case h2 => assumption); (case h1 => walk_at "t_hp")))
local macro_rules | `(tactic| walk_at "t_none") => `(tactic| first
  | assumption
  | (refine' fresh_back ?e ?n; (case n => assumption); (case e => walk_at "t_ex")))
local macro_rules | `(tactic| walk_at "t_ex") => `(tactic| first
  | assumption
  | exact Evl.Ex.refl _
  | (refine' ex_new ?n ?e; (case n => assumption); (case e => walk_at "t_ex"))
  | (refine' Evl.Ex.mut ?e ?n; (case n => walk_at "t_none"); (case e => walk_at "t_ex"))
  | (refine' Evl.Ex.trans ?a ?b; (case b => assumption); (case a => walk_at "t_ex")))
local macro_rules | `(tactic| walk_at "t_sq") => `(tactic| first
  | assumption
  | (refine' SqL.of ?h; (case h => walk_at "t_hp"))
  | (refine' ex_l ?e ?s; (case s => assumption); (case e => walk_at "t_ex")))
local macro_rules | `(tactic| walk_at "t_sqt") => `(tactic| first
  | assumption
  | (refine' SqT.of ?h; (case h => walk_at "t_hp"))
  | (refine' ex_t ?e ?s; (case s => assumption); (case e => walk_at "t_ex")))
local macro_rules | `(tactic| walk_at "t_mul") => `(tactic| first
  | assumption
  | exact Or.inl (Or.inl ⟨by decide, by decide⟩)
  | exact Or.inl (Or.inr ⟨by decide, by decide⟩)
  | exact Or.inl (Or.inl ⟨by omega, by omega⟩)
  | exact Or.inl (Or.inr ⟨by omega, by omega⟩))
local macro_rules | `(tactic| walk_at "t_c") => `(tactic| first
  | assumption
  | decide
  | (show (0 : Int) < _; decide)
  | (show (0 : Int) < _; omega)
  | exact ⟨by decide, by decide⟩
  | exact ⟨by decide, by decide, by decide⟩
  | exact ⟨by omega, by omega⟩
  | exact ⟨by omega, by omega, by omega, by omega⟩)
local macro_rules | `(tactic| walk_at "t_w") => `(tactic| first
  | (with_reducible refine w_seq ?_)
  | (with_reducible refine w_asg ?_)
  | (with_reducible refine w_gName ?_)
  | (with_reducible refine w_nx ?_)
  | (with_reducible refine w_rt ?_)
  | (with_reducible refine w_ct ?_)
  | (with_reducible refine w_bk ?_)
  | (with_reducible refine w_ret ?_)
  | (with_reducible refine w_retN ?_)
  | (with_reducible refine w_drop ?_)
  | (with_reducible refine w_ifS ?_)
  | (with_reducible refine w_next ?_)
  | (with_reducible refine w_break ?_)
  | (with_reducible refine w_cont ?_)
  | ((with_reducible refine' w_var ?h ?_); (case h => rfl))
  | (with_reducible refine w_c ?_)
  | (with_reducible refine w_op ?_)
  | (with_reducible refine w_un ?_)
  | (with_reducible refine w_I0 ?_)
  | ((with_reducible refine' w_I ?c ?_); (case c => walk_at "t_c"))
  | (with_reducible refine w_U ?_)
  | (with_reducible refine w_addI ?_)
  | ((with_reducible refine' w_addL ?h1 ?h2 ?hz ?_); (case h1 => walk_at "t_hp"); (case h2 => walk_at "t_hp"); (case hz => walk_at "t_z"))
  | ((with_reducible refine' w_mulI ?c ?_); (case c => walk_at "t_mul"))
  | ((with_reducible refine' w_mulL1 ?h1 ?b1 ?b2 ?_); (case h1 => walk_at "t_hp"); (case b1 => walk_at "t_z"); (case b2 => walk_at "t_z"))
  | ((with_reducible refine' w_mulL ?h1 ?b1 ?b2 ?hz ?_); (case h1 => walk_at "t_hp"); (case b1 => walk_at "t_z"); (case b2 => walk_at "t_z"); (case hz => walk_at "t_z"))
  | (with_reducible refine w_notIB ?_)
  | (with_reducible refine w_notBB ?_)
  | (with_reducible refine w_notN ?_)
  | (with_reducible refine w_isBB ?_)
  | (with_reducible refine w_isN ?_)
  | (with_reducible refine w_eqI ?_)
  | (with_reducible refine w_neI ?_)
  | (with_reducible refine w_eqB ?_)
  | (with_reducible refine w_neB ?_)
  | (with_reducible refine w_eqS ?_)
  | (with_reducible refine w_neS ?_)
  | (with_reducible refine w_test ?_)
  | (with_reducible refine w_B ?_)
  | (with_reducible refine w_exB ?_)
  | (with_reducible refine w_and ?_)
  | (with_reducible refine w_or ?_)
  | (with_reducible refine w_not ?_)
  | (with_reducible refine w_andV ?_)
  | (with_reducible refine w_orV ?_)
  | (with_reducible refine w_notV ?_)
  | (with_reducible refine w_bl ?_)
  | (with_reducible refine w_if ?_)
  | (with_reducible refine w_nil ?_)
  | (with_reducible refine w_cons ?_)
  | (with_reducible refine w_cb ?_)
  | (with_reducible refine w_call ?_)
  | (with_reducible refine w_tup ?_)
  | (with_reducible refine w_lst ?_)
  | ((with_reducible refine' w_fin ?hz ?_); (case hz => (simp only [List.length_cons, List.length_nil]; decide)))
  | ((with_reducible refine' w_len ?s ?_); (case s => walk_at "t_sq"))
  | ((with_reducible refine' w_lenT ?s ?_); (case s => walk_at "t_sqt"))
  | (with_reducible refine w_intI ?_)
  | (with_reducible refine w_intB ?_)
  | ((with_reducible refine' w_list ?s ?_); (case s => walk_at "t_sq"))
  | (with_reducible refine w_max ?_)
  | (with_reducible refine w_min ?_)
  | (with_reducible refine w_abs ?_)
  | (with_reducible refine w_sl ?_)
  | (with_reducible refine w_noPart ?_)
  | (with_reducible refine w_part ?_)
  | (with_reducible refine w_exI ?_)
  | ((with_reducible refine' w_slL ?s ?_); (case s => walk_at "t_sq"))
  | ((with_reducible refine' w_ixLI ?s ?b ?_); (case s => walk_at "t_sq"); (case b => walk_at "t_lt"))
  | ((with_reducible refine' w_ixL ?s ?e ?_); (case s => walk_at "t_sq"); (case e => walk_at "t_at"))
  | ((with_reducible refine' w_ixT ?s ?e ?_); (case s => walk_at "t_sqt"); (case e => walk_at "t_at"))
  | (with_reducible refine w_gSub ?_)
  | ((with_reducible refine' w_setLI ?e ?b ?_); (case e => walk_at "t_hp"); (case b => walk_at "t_lt"))
  | ((with_reducible refine' w_setL ?e ?b ?_); (case e => walk_at "t_hp"); (case b => walk_at "t_ixn"))
  | (with_reducible refine w_bm ?_)
  | (with_reducible refine w_bm0 ?_)
  | ((with_reducible refine' w_tyL ?e ?_); (case e => walk_at "t_sq"))
  | ((with_reducible refine' w_app ?e ?hz ?_); (case e => walk_at "t_hp"); (case hz => walk_at "t_z"))
  | (with_reducible refine w_iteT ?_)
  | (with_reducible refine w_iteF ?_)
  | (with_reducible refine w_iteNT ?_)
  | (with_reducible refine w_iteNF ?_)
  | (with_reducible refine w_for ?_)
  | (with_reducible refine w_iList ?_)
  | ((with_reducible refine' w_exL ?s ?_); (case s => walk_at "t_sq"))
  | (with_reducible refine w_iTup ?_)
  | ((with_reducible refine' w_exT ?s ?_); (case s => walk_at "t_sqt"))
  | (with_reducible refine w_iRng1 ?_)
  | ((with_reducible refine w_exR1 ?b ?_); (case b => walk_at "t_c"))
  | (with_reducible refine w_iRng2 ?_)
  | ((with_reducible refine w_exR2 ?b ?_); (case b => walk_at "t_c"))
  | (with_reducible refine w_yes ?_)
  | ((with_reducible refine w_pos ?p ?_); (case p => walk_at "t_p"))
  | ((with_reducible refine w_neg ?p ?_); (case p => walk_at "t_p"))
  | ((with_reducible refine w_posN ?p ?_); (case p => walk_at "t_p"))
  | ((with_reducible refine w_negN ?p ?_); (case p => walk_at "t_p"))
  | ((with_reducible refine' w_notInL ?s ?_); (case s => walk_at "t_sq"))
  | ((with_reducible refine' w_inL ?s ?_); (case s => walk_at "t_sq"))
  | ((with_reducible refine' w_sum ?s ?_); (case s => walk_at "t_sq"))
  | (with_reducible refine w_isiI ?_)
  | ((with_reducible refine' w_isiL ?e ?_); (case e => walk_at "t_ty"))
  | ((with_reducible refine' w_isiT ?e ?_); (case e => walk_at "t_ty"))
  | (with_reducible intro p hp_new))
local macro_rules | `(tactic| walk_at "t_ty") => `(tactic| first | assumption | (refine' tyx_l ?e; (case e => walk_at "t_hp")) | (refine' tyx_t ?e; (case e => walk_at "t_hp")))
local macro_rules | `(tactic| walk_at "t_z") => `(tactic| first | assumption | decide | omega | (simp only [List.length_cons, List.length_nil, List.length_map, List.length_append, List.length_replicate]; first | done | decide | omega))
local macro_rules | `(tactic| walk_at "t_at") => `(tactic| first | assumption | rfl)
local macro_rules | `(tactic| walk_at "t_ixn") => `(tactic| first | assumption | rfl)
local macro_rules | `(tactic| walk_at "t_ev") => `(tactic| (intro H1 e Q q; (repeat walk_at "t_w"); exact q _ (by walk_at "t_ex")))
local macro_rules | `(tactic| walk_at "t_p") => `(tactic| first | assumption | decide | decide +kernel)
local macro_rules | `(tactic| walk_at "t_lt") => `(tactic| first | assumption | omega | (simp only [List.length_set, List.length_map, List.length_append]; first | assumption | omega))
local macro_rules | `(tactic| walk_at "t_w") => `(tactic| first
  | ((with_reducible refine' w_at ?s ?hl ?h0 ?_); (case s => walk_at "t_sq"); (case hl => walk_at "t_z"); (case h0 => walk_at "t_z"))
  | (with_reducible refine w_isInt ?_)
  | (with_reducible refine w_I1 ?_)
  | (with_reducible refine w_Head ?_)
  | ((with_reducible refine' w_number ?hb ?_); (case hb => walk_at "t_bits")))
local macro_rules | `(tactic| walk_at "t_bits") => `(tactic| assumption)
local macro_rules | `(tactic| walk_at "t_w") => `(tactic| first
  | (with_reducible refine w_tru ?_)
  | ((with_reducible refine' w_truL ?s ?_); (case s => walk_at "t_sq"))
  | (with_reducible refine w_dnew ?_)
  | (with_reducible refine w_disp1 ?_)
  | ((with_reducible refine' w_aug ?e ?_); (case e => rfl))
  | (with_reducible refine w_ipI ?_)
  | ((with_reducible refine' w_inD ?e ?_); (case e => walk_at "t_hp"))
  | ((with_reducible refine' w_notInD ?e ?_); (case e => walk_at "t_hp"))
  | (with_reducible refine w_dget ?_)
  | ((with_reducible refine' w_dgetE ?e ?hv ?_); (case e => walk_at "t_hp"); (case hv => walk_at "t_dv"))
  | (with_reducible refine w_dput ?_)
  | ((with_reducible refine' w_dputE ?e ?hl ?_); (case e => walk_at "t_hp"); (case hl => walk_at "t_z"))
  | ((with_reducible refine' w_extend ?e1 ?e2 ?hz ?_); (case e1 => walk_at "t_hp"); (case e2 => walk_at "t_hp"); (case hz => walk_at "t_z")))
local macro_rules | `(tactic| walk_at "t_dv") => `(tactic| assumption)
abbrev s_field_words : Stmt := topS 17
theorem sc_field_words : FnScope ["row", "place"] ["row", "place"] (defScope s_field_words) := ⟨rfl, rfl, rfl, by decide +kernel, rfl, by decide +kernel, by decide +kernel⟩

/-! ### what stands in the fields of a box, as the program reads it -/
theorem rowAt_fields {bs : List (List Thing)} {sp i : Nat} {fs : List Thing} (h : bs[i]? = some fs) : ((rowAt bs sp).drop (pl bs i + 1)).take fs.length = fs.map (word (places bs)) := by
  obtain ⟨r, e⟩ := rowOf_split (places bs) h
  unfold rowAt
  rw [e, List.append_assoc]
  have l : (rowOf (places bs) (bs.take i)).length = pl bs i := rowOf_len _ _
  rw [← l, List.drop_append, List.drop_eq_nil_of_le (by omega), List.nil_append, Nat.add_sub_cancel_left, List.append_assoc]
  unfold boxRow
  rw [List.cons_append, List.drop_succ_cons, List.drop_zero]
  have l2 : fs.length = (fs.map (word (places bs))).length := (List.length_map ..).symm
  rw [l2, List.take_left]
theorem cutV_ints (xs : List Int) (p n : Nat) : cutV (xs.map V.int) (some ((p : Int) + 1)) (some ((p : Int) + 1 + (n : Int))) = ((xs.drop (p + 1)).take n).map V.int := by
  have e1 : (p : Int) + 1 = ((p + 1 : Nat) : Int) := by omega
  have e2 : (p : Int) + 1 + (n : Int) = ((p + 1 + n : Nat) : Int) := by omega
  unfold cutV
  rw [e2, e1, HT.sIx_nat, HT.sIx_nat, List.length_map, List.map_take, List.map_drop]
  by_cases h : p + 1 ≤ xs.length
  · rw [Nat.min_eq_left h]
    by_cases h2 : p + 1 + n ≤ xs.length
    · rw [Nat.min_eq_left h2, Nat.add_sub_cancel_left]
    · rw [Nat.min_eq_right (by omega)]
      rw [List.take_of_length_le (i := xs.length - (p + 1)) (by rw [List.length_drop, List.length_map]; exact Nat.le_refl _), List.take_of_length_le (i := n) (by rw [List.length_drop, List.length_map]; omega)]
  · rw [List.drop_eq_nil_of_le (i := p + 1) (by rw [List.length_map]; omega), List.drop_eq_nil_of_le (i := min (p + 1) xs.length) (by rw [List.length_map, Nat.min_eq_right (by omega)]; exact Nat.le_refl _), List.take_nil, List.take_nil]
def spFields (K : PySem.W.Frag) : Sp := fun vs H Q _ => ∃ (a : Addr) (bs : List (List Thing)) (sp i : Nat) (fs : List Thing), vs = [.ref a, .int ((pl bs i : Nat) : Int)] ∧ SqL K H a ((rowAt bs sp).map V.int) ∧ RowOk bs sp ∧ bs[i]? = some fs ∧ Evl.RetL ((fs.map (word (places bs))).map V.int) H Q
theorem w_fields {K : PySem.W.Frag} {H : Hp} {Q : VK} {E : XK} {a : Addr} {bs : List (List Thing)} {i : Nat} (sp : Nat) (fs : List Thing) (s : SqL K H a ((rowAt bs sp).map V.int)) (r : RowOk bs sp) (hb : bs[i]? = some fs)
    (k : ∀ p H2, H p = none → Ex H H2 → H2 p = some (.lst ((fs.map (word (places bs))).map V.int)) → Q (.ref p) H2) : spFields K ([.ref a, .int ((pl bs i : Nat) : Int)] ++ []) H Q E := ⟨a, bs, sp, i, fs, rfl, s, r, hb, k⟩
section
variable {P : Program} {w : World} {K : PySem.W.Frag} {mg : Str → Option Value} {base : Heap}
theorem c_field_words (T : Txt K mg) (D : DefAt K mg "field_words" "field_words" s_field_words) (c_fields_of : Cal P w K mg base "fields_of" 1 ["head"] (spI1 gFields)) : Cal P w K mg base "field_words" 2 ["row", "place"] (spFields K) := by
  refine Cal.of D sc_field_words (fun vs H Q E h => ?_) (fun _ _ _ _ _ _ us hl => match us, hl with | [_, _], _ => rfl) (fun f cdv A outer s H vs Q E hr h => ?_)
  · obtain ⟨a, bs, sp, i, fs, rfl, _⟩ := h; rfl
  · obtain ⟨a, bs, sp, i, fs, rfl, hS, hro, hb, k⟩ := h
    have hu : _ + 64 < cLine := hr.units
    have hlr := rowAt_len bs sp
    have hi := (List.getElem?_eq_some_iff.mp hb).1
    have hp := pl_lt hi (Nat.le_refl _)
    rw [pl_all] at hp
    have e4 : (rowAt bs sp).getD (pl bs i) 0 / 4 = (fs.length : Int) := by rw [rowAt_head hb]; omega
    refine ⟨_, (pss_one (ps_ret (pe_slice (sl_AK (K := K) rfl) (pv 0) (po_some (pe_op op_addA (pv 1) pe_int)) (po_some (pe_op op_addA (pe_op op_addA (pv 1) pe_int) (pe_callC c_fields_of (hr.mono (by decide)) rfl (pa_cons (pe_ix (ix_seqK (K := K) rfl) (pv 0) (pv 1) (fun _ _ => rfl)) pa_nil))))))), ?_⟩
    repeat walk_at "t_w"
    rename_i p hp2
    refine k _ _ (by walk_at "t_none") (by walk_at "t_ex") ?_
    rw [upd_same, e4, cutV_ints, rowAt_fields hb]
end
end Tw

set_option Elab.async false
set_option linter.all false
set_option maxRecDepth 100000
set_option maxHeartbeats 4000000
namespace Tw
open PySem PySem.Spec PyProof.Rows L2
open Evl (Ex ex_l ex_t fresh_back sz_of sz_lt)
local macro_rules | `(tactic| walk_at "t_hp") => `(tactic| first
  | assumption
  | exact upd_same
  | (refine' hp_ne ?hne ?hrest; (case hne => walk_at "t_ne"); (case hrest => walk_at "t_hp"))
  | (refine' hp_ex ?hx ?hrest; (case hx => assumption); (case hrest => walk_at "t_hp")))
local macro_rules | `(tactic| walk_at "t_ne") => `(tactic| first
  | assumption
  | exact Ne.symm (by assumption)
  | (refine' ne_of_none ?h1 ?h2; (case h2 => assumption); (case h1 => walk_at "t_hp"))
  | (refine' Ne.symm (ne_of_none ?h1 ?h2); (case h2 => assumption); (case h1 => walk_at "t_hp")))
local macro_rules | `(tactic| walk_at "t_none") => `(tactic| first
  | assumption
  | (refine' fresh_back ?e ?n; (case n => assumption); (case e => walk_at "t_ex")))
local macro_rules | `(tactic| walk_at "t_ex") => `(tactic| first
  | assumption
  | exact Evl.Ex.refl _
  | (refine' ex_new ?n ?e; (case n => assumption); (case e => walk_at "t_ex"))
  | (refine' Evl.Ex.mut ?e ?n; (case n => walk_at "t_none"); (case e => walk_at "t_ex"))
  | (refine' Evl.Ex.trans ?a ?b; (case b => assumption); (case a => walk_at "t_ex")))
local macro_rules | `(tactic| walk_at "t_sq") => `(tactic| first
  | assumption
  | (refine' SqL.of ?h; (case h => walk_at "t_hp"))
  | (refine' ex_l ?e ?s; (case s => assumption); (case e => walk_at "t_ex")))
local macro_rules | `(tactic| walk_at "t_sqt") => `(tactic| first
  | assumption
  | (refine' SqT.of ?h; (case h => walk_at "t_hp"))
  | (refine' ex_t ?e ?s; (case s => assumption); (case e => walk_at "t_ex")))
local macro_rules | `(tactic| walk_at "t_mul") => `(tactic| first
  | assumption
  | exact Or.inl (Or.inl ⟨by decide, by decide⟩)
  | exact Or.inl (Or.inr ⟨by decide, by decide⟩)
  | exact Or.inl (Or.inl ⟨by omega, by omega⟩)
  | exact Or.inl (Or.inr ⟨by omega, by omega⟩))
local macro_rules | `(tactic| walk_at "t_c") => `(tactic| first
  | assumption
  | decide
  | (show (0 : Int) < _; decide)
  | (show (0 : Int) < _; omega)
  | exact ⟨by decide, by decide⟩
  | exact ⟨by decide, by decide, by decide⟩
  | exact ⟨by omega, by omega⟩
  | exact ⟨by omega, by omega, by omega, by omega⟩)
local macro_rules | `(tactic| walk_at "t_w") => `(tactic| first
  | (with_reducible refine w_seq ?_)
  | (with_reducible refine w_asg ?_)
  | (with_reducible refine w_gName ?_)
  | (with_reducible refine w_nx ?_)
  | (with_reducible refine w_rt ?_)
  | (with_reducible refine w_ct ?_)
  | (with_reducible refine w_bk ?_)
  | (with_reducible refine w_ret ?_)
  | (with_reducible refine w_retN ?_)
  | (with_reducible refine w_drop ?_)
  | (with_reducible refine w_ifS ?_)
  | (with_reducible refine w_next ?_)
  | (with_reducible refine w_break ?_)
  | (with_reducible refine w_cont ?_)
  | ((with_reducible refine' w_var ?h ?_); (case h => rfl))
  | (with_reducible refine w_c ?_)
  | (with_reducible refine w_op ?_)
  | (with_reducible refine w_un ?_)
  | (with_reducible refine w_I0 ?_)
  | ((with_reducible refine' w_I ?c ?_); (case c => walk_at "t_c"))
  | (with_reducible refine w_U ?_)
  | (with_reducible refine w_addI ?_)
  | ((with_reducible refine' w_addL ?h1 ?h2 ?hz ?_); (case h1 => walk_at "t_hp"); (case h2 => walk_at "t_hp"); (case hz => walk_at "t_z"))
  | ((with_reducible refine' w_mulI ?c ?_); (case c => walk_at "t_mul"))
  | ((with_reducible refine' w_mulL1 ?h1 ?b1 ?b2 ?_); (case h1 => walk_at "t_hp"); (case b1 => walk_at "t_z"); (case b2 => walk_at "t_z"))
  | ((with_reducible refine' w_mulL ?h1 ?b1 ?b2 ?hz ?_); (case h1 => walk_at "t_hp"); (case b1 => walk_at "t_z"); (case b2 => walk_at "t_z"); (case hz => walk_at "t_z"))
  | (with_reducible refine w_notIB ?_)
  | (with_reducible refine w_notBB ?_)
  | (with_reducible refine w_notN ?_)
  | (with_reducible refine w_isBB ?_)
  | (with_reducible refine w_isN ?_)
  | (with_reducible refine w_eqI ?_)
  | (with_reducible refine w_neI ?_)
  | (with_reducible refine w_eqB ?_)
  | (with_reducible refine w_neB ?_)
  | (with_reducible refine w_eqS ?_)
  | (with_reducible refine w_neS ?_)
  | (with_reducible refine w_test ?_)
  | (with_reducible refine w_B ?_)
  | (with_reducible refine w_exB ?_)
  | (with_reducible refine w_and ?_)
  | (with_reducible refine w_or ?_)
  | (with_reducible refine w_not ?_)
  | (with_reducible refine w_andV ?_)
  | (with_reducible refine w_orV ?_)
  | (with_reducible refine w_notV ?_)
  | (with_reducible refine w_bl ?_)
  | (with_reducible refine w_if ?_)
  | (with_reducible refine w_nil ?_)
  | (with_reducible refine w_cons ?_)
  | (with_reducible refine w_cb ?_)
  | (with_reducible refine w_call ?_)
  | (with_reducible refine w_tup ?_)
  | (with_reducible refine w_lst ?_)
  | ((with_reducible refine' w_fin ?hz ?_); (case hz => (simp only [List.length_cons, List.length_nil]; decide)))
  | ((with_reducible refine' w_len ?s ?_); (case s => walk_at "t_sq"))
  | ((with_reducible refine' w_lenT ?s ?_); (case s => walk_at "t_sqt"))
  | (with_reducible refine w_intI ?_)
  | (with_reducible refine w_intB ?_)
  | ((with_reducible refine' w_list ?s ?_); (case s => walk_at "t_sq"))
  | (with_reducible refine w_max ?_)
  | (with_reducible refine w_min ?_)
  | (with_reducible refine w_abs ?_)
  | (with_reducible refine w_sl ?_)
  | (with_reducible refine w_noPart ?_)
  | (with_reducible refine w_part ?_)
  | (with_reducible refine w_exI ?_)
  | ((with_reducible refine' w_slL ?s ?_); (case s => walk_at "t_sq"))
  | ((with_reducible refine' w_ixLI ?s ?b ?_); (case s => walk_at "t_sq"); (case b => walk_at "t_lt"))
  | ((with_reducible refine' w_ixL ?s ?e ?_); (case s => walk_at "t_sq"); (case e => walk_at "t_at"))
  | ((with_reducible refine' w_ixT ?s ?e ?_); (case s => walk_at "t_sqt"); (case e => walk_at "t_at"))
  | (with_reducible refine w_gSub ?_)
  | ((with_reducible refine' w_setLI ?e ?b ?_); (case e => walk_at "t_hp"); (case b => walk_at "t_lt"))
  | ((with_reducible refine' w_setL ?e ?b ?_); (case e => walk_at "t_hp"); (case b => walk_at "t_ixn"))
  | (with_reducible refine w_bm ?_)
  | (with_reducible refine w_bm0 ?_)
  | ((with_reducible refine' w_tyL ?e ?_); (case e => walk_at "t_sq"))
  | ((with_reducible refine' w_app ?e ?hz ?_); (case e => walk_at "t_hp"); (case hz => walk_at "t_z"))
  | (with_reducible refine w_iteT ?_)
  | (with_reducible refine w_iteF ?_)
  | (with_reducible refine w_iteNT ?_)
  | (with_reducible refine w_iteNF ?_)
  | (with_reducible refine w_for ?_)
  | (with_reducible refine w_iList ?_)
  | ((with_reducible refine' w_exL ?s ?_); (case s => walk_at "t_sq"))
  | (with_reducible refine w_iTup ?_)
  | ((with_reducible refine' w_exT ?s ?_); (case s => walk_at "t_sqt"))
  | (with_reducible refine w_iRng1 ?_)
  | ((with_reducible refine w_exR1 ?b ?_); (case b => walk_at "t_c"))
  | (with_reducible refine w_iRng2 ?_)
  | ((with_reducible refine w_exR2 ?b ?_); (case b => walk_at "t_c"))
  | (with_reducible refine w_yes ?_)
  | ((with_reducible refine w_pos ?p ?_); (case p => walk_at "t_p"))
  | ((with_reducible refine w_neg ?p ?_); (case p => walk_at "t_p"))
  | ((with_reducible refine w_posN ?p ?_); (case p => walk_at "t_p"))
  | ((with_reducible refine w_negN ?p ?_); (case p => walk_at "t_p"))
  | ((with_reducible refine' w_notInL ?s ?_); (case s => walk_at "t_sq"))
  | ((with_reducible refine' w_inL ?s ?_); (case s => walk_at "t_sq"))
  | ((with_reducible refine' w_sum ?s ?_); (case s => walk_at "t_sq"))
  | (with_reducible refine w_isiI ?_)
  | ((with_reducible refine' w_isiL ?e ?_); (case e => walk_at "t_ty"))
  | ((with_reducible refine' w_isiT ?e ?_); (case e => walk_at "t_ty"))
  | (with_reducible intro p hp_new))
local macro_rules | `(tactic| walk_at "t_ty") => `(tactic| first | assumption | (refine' tyx_l ?e; (case e => walk_at "t_hp")) | (refine' tyx_t ?e; (case e => walk_at "t_hp")))
local macro_rules | `(tactic| walk_at "t_z") => `(tactic| first | assumption | decide | omega | (simp only [List.length_cons, List.length_nil, List.length_map, List.length_append, List.length_replicate]; first | done | decide | omega))
local macro_rules | `(tactic| walk_at "t_at") => `(tactic| first | assumption | rfl)
local macro_rules | `(tactic| walk_at "t_ixn") => `(tactic| first | assumption | rfl)
local macro_rules | `(tactic| walk_at "t_ev") => `(tactic| (intro H1 e Q q; (repeat walk_at "t_w"); exact q _ (by walk_at "t_ex")))
local macro_rules | `(tactic| walk_at "t_p") => `(tactic| first | assumption | decide | decide +kernel)
local macro_rules | `(tactic| walk_at "t_lt") => `(tactic| first | assumption | omega | (simp only [List.length_set, List.length_map, List.length_append]; first | assumption | omega))
local macro_rules | `(tactic| walk_at "t_w") => `(tactic| first
  | ((with_reducible refine' w_at ?s ?hl ?h0 ?_); (case s => walk_at "t_sq"); (case hl => walk_at "t_z"); (case h0 => walk_at "t_z"))
  | (with_reducible refine w_isInt ?_)
  | (with_reducible refine w_I1 ?_)
  | (with_reducible refine w_Head ?_)
  | ((with_reducible refine' w_number ?hb ?_); (case hb => walk_at "t_bits")))
local macro_rules | `(tactic| walk_at "t_bits") => `(tactic| assumption)
/-! ### pushed together -/
/-- a thing whose box is told by its turn among those that are left -/
def Thing.renum (al : List Nat) : Thing → Thing
  | .num n => .num n
  | .box k => .box (al.idxOf k)
/-- the boxes that are left, in their old order, numbered anew -/
def renum (al : List Nat) (bs : List (List Thing)) : List (List Thing) := al.map fun k => (bs.getD k []).map (Thing.renum al)
def rowPushed (al : List Nat) (bs : List (List Thing)) (sp : Nat) : List Int := rowAt (renum al bs) (cells bs + sp - cells (renum al bs))
theorem renum_len (al : List Nat) (bs : List (List Thing)) : (renum al bs).length = al.length := List.length_map ..
theorem renum_get {al : List Nat} {bs : List (List Thing)} {i k : Nat} (h : al[i]? = some k) : (renum al bs)[i]? = some ((bs.getD k []).map (Thing.renum al)) := by
  unfold renum; rw [List.getElem?_map, h]; rfl
/-- the boxes of rising places take no more cells than all -/
theorem cells_sub : ∀ (bs : List (List Thing)) (s : Nat) (al : List Nat), al.Pairwise (· < ·) → (∀ k ∈ al, s ≤ k ∧ k < s + bs.length) → (al.map fun k => 1 + (bs.getD (k - s) []).length).sum ≤ cells bs
  | [], s, [], _, _ => Nat.le_refl _
  | [], s, k :: al, _, h => by have := h k (List.mem_cons_self ..); simp at this; omega
  | fs :: bs, s, [], _, _ => Nat.zero_le _
  | fs :: bs, s, k :: al, hp, h => by
    have hk := h k (List.mem_cons_self ..)
    rw [List.pairwise_cons] at hp
    have key : ∀ (l : List Nat), l.Pairwise (· < ·) → (∀ j ∈ l, s + 1 ≤ j ∧ j < s + 1 + bs.length) → (l.map fun j => 1 + ((fs :: bs).getD (j - s) []).length).sum ≤ cells bs := by
      intro l hl hb
      have e : (l.map fun j => 1 + ((fs :: bs).getD (j - s) []).length) = l.map fun j => 1 + (bs.getD (j - (s + 1)) []).length := by
        refine List.map_congr_left fun j hj => ?_
        have := hb j hj
        rw [show j - s = (j - (s + 1)) + 1 by omega]
        rfl
      rw [e]
      exact cells_sub bs (s + 1) l hl hb
    rw [cells_cons]
    by_cases e : k = s
    · subst e
      rw [List.map_cons, List.sum_cons, Nat.sub_self]
      have := key al hp.2 fun j hj => by
        have h1 := hp.1 j hj
        have h2 := h j (List.mem_cons_of_mem _ hj)
        rw [List.length_cons] at h2
        omega
      show 1 + fs.length + _ ≤ _
      omega
    · have := key (k :: al) (List.pairwise_cons.mpr hp) fun j hj => by
        have h2 := h j hj
        rw [List.length_cons] at h2
        rcases List.mem_cons.mp hj with rfl | hj
        · omega
        · have := hp.1 j hj
          omega
      omega
theorem renum_cells (al : List Nat) (bs : List (List Thing)) : cells (renum al bs) = (al.map fun k => 1 + (bs.getD k []).length).sum := by
  unfold cells renum
  rw [List.map_map]
  congr 1
  exact List.map_congr_left fun k _ => by show 1 + ((bs.getD k []).map _).length = _; rw [List.length_map]
section
variable {bs : List (List Thing)} {sp : Nat} {al : List Nat}
theorem AliveOk.lt (ha : AliveOk bs al) (h : RowOk bs sp) : ∀ k ∈ al, k < bs.length := fun k hk => ((ha.mem k).mp hk).lt h
theorem AliveOk.nodup (ha : AliveOk bs al) : al.Nodup := ha.sorted.imp fun h => Nat.ne_of_lt h
theorem AliveOk.cells_le (ha : AliveOk bs al) (h : RowOk bs sp) : cells (renum al bs) ≤ cells bs := by
  rw [renum_cells]
  exact cells_sub bs 0 al ha.sorted fun k hk => ⟨Nat.zero_le _, by have := ha.lt h k hk; omega⟩
theorem idx_get (h : ∀ k, k ∈ al → True) {k : Nat} (hk : k ∈ al) : al[al.idxOf k]? = some k := by
  rw [List.getElem?_eq_getElem (List.idxOf_lt_length_iff.mpr hk)]
  exact congrArg some (List.getElem_idxOf (List.idxOf_lt_length_iff.mpr hk))
theorem idx_of_get (nd : al.Nodup) {i k : Nat} (h : al[i]? = some k) : al.idxOf k = i := by
  have hk := List.mem_of_getElem? h
  exact nd_ix nd (idx_get (fun _ _ => trivial) hk) h
theorem AliveOk.rowOk (ha : AliveOk bs al) (h : RowOk bs sp) : RowOk (renum al bs) (cells bs + sp - cells (renum al bs)) := by
  have hc := ha.cells_le h
  refine ⟨?_, by have := h.small; omega, ?_⟩
  · rw [renum_len]
    exact List.length_pos_iff.mpr fun e => by have := (ha.mem 0).mpr .door; rw [e] at this; cases this
  · intro fs hfs t ht
    obtain ⟨k, hk, rfl⟩ := List.mem_map.mp hfs
    obtain ⟨u, hu, rfl⟩ := List.mem_map.mp ht
    have hkl := ha.lt h k hk
    have e : bs[k]? = some (bs.getD k []) := by rw [List.getD_eq_getElem?_getD, List.getElem?_eq_getElem hkl]; rfl
    have ho := h.ok _ (List.mem_of_getElem? e) u hu
    rw [renum_len]
    cases u with
    | num n => exact ho
    | box j => exact List.idxOf_lt_length_iff.mpr ((ha.mem j).mpr (.step ((ha.mem k).mp hk) ⟨_, e, hu⟩))
/-- the door stays the first -/
theorem AliveOk.zero (ha : AliveOk bs al) : al[0]? = some 0 := by
  have h0 := (ha.mem 0).mpr .door
  cases al with
  | nil => cases h0
  | cons a r =>
    rcases List.mem_cons.mp h0 with e | e
    · subst e; rfl
    · have := (List.pairwise_cons.mp ha.sorted).1 0 e; omega
/-- those that are left can all be come to -/
theorem AliveOk.reach (ha : AliveOk bs al) (h : RowOk bs sp) {k : Nat} (r : Reach bs k) : Reach (renum al bs) (al.idxOf k) := by
  induction r with
  | door => rw [idx_of_get ha.nodup ha.zero]; exact .door
  | @step i k r e ih =>
    refine .step ih ?_
    obtain ⟨fs, hf, ht⟩ := e
    refine ⟨_, renum_get (idx_get (fun _ _ => trivial) ((ha.mem i).mpr r)), ?_⟩
    have e : bs.getD i [] = fs := by rw [List.getD_eq_getElem?_getD, hf]; rfl
    rw [e]
    exact List.mem_map.mpr ⟨_, ht, rfl⟩
theorem AliveOk.again (ha : AliveOk bs al) (h : RowOk bs sp) : AliveOk (renum al bs) (List.range al.length) := by
  refine ⟨List.pairwise_lt_range, fun i => ⟨fun hi => ?_, fun r => ?_⟩⟩
  · have hi := List.mem_range.mp hi
    have e := List.getElem?_eq_getElem hi
    have := ha.reach h ((ha.mem _).mp (List.getElem_mem hi))
    rw [idx_of_get ha.nodup e] at this
    exact this
  · have := r.lt (ha.rowOk h)
    rw [renum_len] at this
    exact List.mem_range.mpr this
theorem AliveOk.uniq {al' : List Nat} (a : AliveOk bs al) (b : AliveOk bs al') : al = al' := by
  have hp : al.Perm al' := (List.perm_ext_iff_of_nodup a.nodup b.nodup).mpr fun k => (a.mem k).trans (b.mem k).symm
  exact hp.eq_of_pairwise (le := (· < ·)) (fun x y _ _ h1 h2 => by omega) a.sorted b.sorted
/-- numbered anew where all are left: the same -/
theorem renum_range (h : ∀ fs ∈ bs, ∀ t ∈ fs, t.ok bs.length) : renum (List.range bs.length) bs = bs := by
  apply List.ext_getElem?
  intro i
  by_cases hi : i < bs.length
  · rw [renum_get (k := i) (by rw [List.getElem?_eq_getElem (by simpa using hi), List.getElem_range])]
    have e : bs.getD i [] = bs[i] := by rw [List.getD_eq_getElem?_getD, List.getElem?_eq_getElem hi]; rfl
    rw [e, List.getElem?_eq_getElem hi]
    congr 1
    refine (List.map_congr_left fun t ht => ?_).trans (List.map_id _)
    cases t with
    | num n => rfl
    | box k =>
      have hk : k < bs.length := h _ (List.getElem_mem hi) _ ht
      show Thing.box ((List.range bs.length).idxOf k) = Thing.box k
      rw [idx_of_get List.nodup_range (i := k) (by rw [List.getElem?_eq_getElem (by simpa using hk), List.getElem_range])]
  · rw [List.getElem?_eq_none (by rw [renum_len, List.length_range]; omega), List.getElem?_eq_none (by omega)]
end
theorem asI_set (gs : List Nat) (k m : Nat) : (asI gs).set k ((m : Nat) : Int) = asI (gs.set k m) := by
  unfold asI; rw [List.map_set]
theorem asI_rep (n : Nat) : List.replicate n (V.int 0) = (asI (List.replicate n 0)).map V.int := by
  unfold asI; rw [List.map_replicate, List.map_replicate]; rfl
theorem flatMap_cg {α β : Type} {f g : α → List β} : ∀ {l : List α}, (∀ a ∈ l, f a = g a) → l.flatMap f = l.flatMap g
  | [], _ => rfl
  | a :: l, h => by
    rw [List.flatMap_cons, List.flatMap_cons, h a (List.mem_cons_self ..), flatMap_cg fun x hx => h x (List.mem_cons_of_mem _ hx)]
/-- the boxes as they were, in the row's words by goals that lead where they stand behind it -/
theorem row_renum {bs : List (List Thing)} {al gs : List Nat} (hc : ∀ k ∈ al, ∀ j, Thing.box j ∈ bs.getD k [] → j ∈ al) (hg : ∀ k ∈ al, gs.getD k 0 = pl (renum al bs) (al.idxOf k)) : rowOf gs (al.map fun k => bs.getD k []) = rowOf (places (renum al bs)) (renum al bs) := by
  unfold rowOf
  conv => rhs; arg 2; unfold renum
  rw [List.flatMap_map, List.flatMap_map]
  refine flatMap_cg fun k hk => ?_
  unfold boxRow
  rw [List.length_map, List.map_map]
  congr 1
  refine List.map_congr_left fun t ht => ?_
  cases t with
  | num n => rfl
  | box j =>
    have hj := hc k hk j ht
    show 2 * ((gs.getD j 0 : Nat) : Int) + 1 = 2 * (((places (renum al bs)).getD (al.idxOf j) 0 : Nat) : Int) + 1
    rw [hg j hj, places_getD (by rw [renum_len]; exact List.idxOf_lt_length_iff.mpr hj)]
def spPushed (K : PySem.W.Frag) : Sp := fun vs H Q _ => ∃ (a : Addr) (bs : List (List Thing)) (sp : Nat), vs = [.ref a, .int ((cells bs : Nat) : Int)] ∧ SqL K H a ((rowAt bs sp).map V.int) ∧ RowOk bs sp ∧
  ∀ al, AliveOk bs al → ∀ p q H2, H p = none → H q = none → Ex H H2 → H2 p = some (.lst ((rowPushed al bs sp).map V.int)) → H2 q = some (.tup [.ref p, .int ((cells (renum al bs) : Nat) : Int)]) → Q (.ref q) H2
theorem w_pushed {K : PySem.W.Frag} {H : Hp} {Q : VK} {E : XK} {a : Addr} {bs : List (List Thing)} (sp : Nat) (s : SqL K H a ((rowAt bs sp).map V.int)) (r : RowOk bs sp)
    (k : ∀ al, AliveOk bs al → ∀ p q H2, H p = none → H q = none → Ex H H2 → H2 p = some (.lst ((rowPushed al bs sp).map V.int)) → H2 q = some (.tup [.ref p, .int ((cells (renum al bs) : Nat) : Int)]) → Q (.ref q) H2) : spPushed K ([.ref a, .int ((cells bs : Nat) : Int)] ++ []) H Q E := ⟨a, bs, sp, rfl, s, r, k⟩
end Tw

set_option Elab.async false
set_option linter.all false
set_option maxRecDepth 100000
set_option maxHeartbeats 4000000
namespace Tw
open PySem PySem.Spec PyProof.Rows L2
open Evl (Ex ex_l ex_t fresh_back sz_of sz_lt)
local macro_rules | `(tactic| walk_at "t_hp") => `(tactic| first
  | assumption
  | exact upd_same
  | (refine' hp_ne ?hne ?hrest; (case hne => walk_at "t_ne"); (case hrest => walk_at "t_hp"))
  | (refine' hp_ex ?hx ?hrest; (case hx => assumption); (case hrest => walk_at "t_hp")))
local macro_rules | `(tactic| walk_at "t_ne") => `(tactic| first
  | assumption
  | exact Ne.symm (by assumption)
  | (refine' ne_of_none ?h1 ?h2; (case h2 => assumption); (case h1 => walk_at "t_hp"))
  | (refine' Ne.symm (ne_of_none ?h1 ?h2); (case h2 => assumption); (case h1 => walk_at "t_hp")))
local macro_rules | `(tactic| walk_at "t_none") => `(tactic| first
  | assumption
  | (refine' fresh_back ?e ?n; (case n => assumption); (case e => walk_at "t_ex")))
local macro_rules | `(tactic| walk_at "t_ex") => `(tactic| first
  | assumption
  | exact Evl.Ex.refl _
  | (refine' ex_new ?n ?e; (case n => assumption); (case e => walk_at "t_ex"))
  | (refine' Evl.Ex.mut ?e ?n; (case n => walk_at "t_none"); (case e => walk_at "t_ex"))
  | (refine' Evl.Ex.trans ?a ?b; (case b => assumption); (case a => walk_at "t_ex")))
local macro_rules | `(tactic| walk_at "t_sq") => `(tactic| first
  | assumption
  | (refine' SqL.of ?h; (case h => walk_at "t_hp"))
  | (refine' ex_l ?e ?s; (case s => assumption); (case e => walk_at "t_ex")))
local macro_rules | `(tactic| walk_at "t_sqt") => `(tactic| first
  | assumption
  | (refine' SqT.of ?h; (case h => walk_at "t_hp"))
  | (refine' ex_t ?e ?s; (case s => assumption); (case e => walk_at "t_ex")))
local macro_rules | `(tactic| walk_at "t_mul") => `(tactic| first
  | assumption
  | exact Or.inl (Or.inl ⟨by decide, by decide⟩)
  | exact Or.inl (Or.inr ⟨by decide, by decide⟩)
  | exact Or.inl (Or.inl ⟨by omega, by omega⟩)
  | exact Or.inl (Or.inr ⟨by omega, by omega⟩))
local macro_rules | `(tactic| walk_at "t_c") => `(tactic| first
  | assumption
  | decide
  | (show (0 : Int) < _; decide)
  | (show (0 : Int) < _; omega)
  | exact ⟨by decide, by decide⟩
  | exact ⟨by decide, by decide, by decide⟩
  | exact ⟨by omega, by omega⟩
  | exact ⟨by omega, by omega, by omega, by omega⟩)
local macro_rules | `(tactic| walk_at "t_w") => `(tactic| first
  | (with_reducible refine w_seq ?_)
  | (with_reducible refine w_asg ?_)
  | (with_reducible refine w_gName ?_)
  | (with_reducible refine w_nx ?_)
  | (with_reducible refine w_rt ?_)
  | (with_reducible refine w_ct ?_)
  | (with_reducible refine w_bk ?_)
  | (with_reducible refine w_ret ?_)
  | (with_reducible refine w_retN ?_)
  | (with_reducible refine w_drop ?_)
  | (with_reducible refine w_ifS ?_)
  | (with_reducible refine w_next ?_)
  | (with_reducible refine w_break ?_)
  | (with_reducible refine w_cont ?_)
  | ((with_reducible refine' w_var ?h ?_); (case h => rfl))
  | (with_reducible refine w_c ?_)
  | (with_reducible refine w_op ?_)
  | (with_reducible refine w_un ?_)
  | (with_reducible refine w_I0 ?_)
  | ((with_reducible refine' w_I ?c ?_); (case c => walk_at "t_c"))
  | (with_reducible refine w_U ?_)
  | (with_reducible refine w_addI ?_)
  | ((with_reducible refine' w_addL ?h1 ?h2 ?hz ?_); (case h1 => walk_at "t_hp"); (case h2 => walk_at "t_hp"); (case hz => walk_at "t_z"))
  | ((with_reducible refine' w_mulI ?c ?_); (case c => walk_at "t_mul"))
  | ((with_reducible refine' w_mulL1 ?h1 ?b1 ?b2 ?_); (case h1 => walk_at "t_hp"); (case b1 => walk_at "t_z"); (case b2 => walk_at "t_z"))
  | ((with_reducible refine' w_mulL ?h1 ?b1 ?b2 ?hz ?_); (case h1 => walk_at "t_hp"); (case b1 => walk_at "t_z"); (case b2 => walk_at "t_z"); (case hz => walk_at "t_z"))
  | (with_reducible refine w_notIB ?_)
  | (with_reducible refine w_notBB ?_)
  | (with_reducible refine w_notN ?_)
  | (with_reducible refine w_isBB ?_)
  | (with_reducible refine w_isN ?_)
  | (with_reducible refine w_eqI ?_)
  | (with_reducible refine w_neI ?_)
  | (with_reducible refine w_eqB ?_)
  | (with_reducible refine w_neB ?_)
  | (with_reducible refine w_eqS ?_)
  | (with_reducible refine w_neS ?_)
  | (with_reducible refine w_test ?_)
  | (with_reducible refine w_B ?_)
  | (with_reducible refine w_exB ?_)
  | (with_reducible refine w_and ?_)
  | (with_reducible refine w_or ?_)
  | (with_reducible refine w_not ?_)
  | (with_reducible refine w_andV ?_)
  | (with_reducible refine w_orV ?_)
  | (with_reducible refine w_notV ?_)
  | (with_reducible refine w_bl ?_)
  | (with_reducible refine w_if ?_)
  | (with_reducible refine w_nil ?_)
  | (with_reducible refine w_cons ?_)
  | (with_reducible refine w_cb ?_)
  | (with_reducible refine w_call ?_)
  | (with_reducible refine w_tup ?_)
  | (with_reducible refine w_lst ?_)
  | ((with_reducible refine' w_fin ?hz ?_); (case hz => (simp only [List.length_cons, List.length_nil]; decide)))
  | ((with_reducible refine' w_len ?s ?_); (case s => walk_at "t_sq"))
  | ((with_reducible refine' w_lenT ?s ?_); (case s => walk_at "t_sqt"))
  | (with_reducible refine w_intI ?_)
  | (with_reducible refine w_intB ?_)
  | ((with_reducible refine' w_list ?s ?_); (case s => walk_at "t_sq"))
  | (with_reducible refine w_max ?_)
  | (with_reducible refine w_min ?_)
  | (with_reducible refine w_abs ?_)
  | (with_reducible refine w_sl ?_)
  | (with_reducible refine w_noPart ?_)
  | (with_reducible refine w_part ?_)
  | (with_reducible refine w_exI ?_)
  | ((with_reducible refine' w_slL ?s ?_); (case s => walk_at "t_sq"))
  | ((with_reducible refine' w_ixLI ?s ?b ?_); (case s => walk_at "t_sq"); (case b => walk_at "t_lt"))
  | ((with_reducible refine' w_ixL ?s ?e ?_); (case s => walk_at "t_sq"); (case e => walk_at "t_at"))
  | ((with_reducible refine' w_ixT ?s ?e ?_); (case s => walk_at "t_sqt"); (case e => walk_at "t_at"))
  | (with_reducible refine w_gSub ?_)
  | ((with_reducible refine' w_setLI ?e ?b ?_); (case e => walk_at "t_hp"); (case b => walk_at "t_lt"))
  | ((with_reducible refine' w_setL ?e ?b ?_); (case e => walk_at "t_hp"); (case b => walk_at "t_ixn"))
  | (with_reducible refine w_bm ?_)
  | (with_reducible refine w_bm0 ?_)
  | ((with_reducible refine' w_tyL ?e ?_); (case e => walk_at "t_sq"))
  | ((with_reducible refine' w_app ?e ?hz ?_); (case e => walk_at "t_hp"); (case hz => walk_at "t_z"))
  | (with_reducible refine w_iteT ?_)
  | (with_reducible refine w_iteF ?_)
  | (with_reducible refine w_iteNT ?_)
  | (with_reducible refine w_iteNF ?_)
  | (with_reducible refine w_for ?_)
  | (with_reducible refine w_iList ?_)
  | ((with_reducible refine' w_exL ?s ?_); (case s => walk_at "t_sq"))
  | (with_reducible refine w_iTup ?_)
  | ((with_reducible refine' w_exT ?s ?_); (case s => walk_at "t_sqt"))
  | (with_reducible refine w_iRng1 ?_)
  | ((with_reducible refine w_exR1 ?b ?_); (case b => walk_at "t_c"))
  | (with_reducible refine w_iRng2 ?_)
  | ((with_reducible refine w_exR2 ?b ?_); (case b => walk_at "t_c"))
  | (with_reducible refine w_yes ?_)
  | ((with_reducible refine w_pos ?p ?_); (case p => walk_at "t_p"))
  | ((with_reducible refine w_neg ?p ?_); (case p => walk_at "t_p"))
  | ((with_reducible refine w_posN ?p ?_); (case p => walk_at "t_p"))
  | ((with_reducible refine w_negN ?p ?_); (case p => walk_at "t_p"))
  | ((with_reducible refine' w_notInL ?s ?_); (case s => walk_at "t_sq"))
  | ((with_reducible refine' w_inL ?s ?_); (case s => walk_at "t_sq"))
  | ((with_reducible refine' w_sum ?s ?_); (case s => walk_at "t_sq"))
  | (with_reducible refine w_isiI ?_)
  | ((with_reducible refine' w_isiL ?e ?_); (case e => walk_at "t_ty"))
  | ((with_reducible refine' w_isiT ?e ?_); (case e => walk_at "t_ty"))
  | (with_reducible intro p hp_new))
local macro_rules | `(tactic| walk_at "t_ty") => `(tactic| first | assumption | (refine' tyx_l ?e; (case e => walk_at "t_hp")) | (refine' tyx_t ?e; (case e => walk_at "t_hp")))
local macro_rules | `(tactic| walk_at "t_z") => `(tactic| first | assumption | decide | omega | (simp only [List.length_cons, List.length_nil, List.length_map, List.length_append, List.length_replicate]; first | done | decide | omega))
local macro_rules | `(tactic| walk_at "t_at") => `(tactic| first | assumption | rfl)
local macro_rules | `(tactic| walk_at "t_ixn") => `(tactic| first | assumption | rfl)
local macro_rules | `(tactic| walk_at "t_ev") => `(tactic| (intro H1 e Q q; (repeat walk_at "t_w"); exact q _ (by walk_at "t_ex")))
local macro_rules | `(tactic| walk_at "t_p") => `(tactic| first | assumption | decide | decide +kernel)
local macro_rules | `(tactic| walk_at "t_lt") => `(tactic| first | assumption | omega | (simp only [List.length_set, List.length_map, List.length_append]; first | assumption | omega))
local macro_rules | `(tactic| walk_at "t_w") => `(tactic| first
  | ((with_reducible refine' w_at ?s ?hl ?h0 ?_); (case s => walk_at "t_sq"); (case hl => walk_at "t_z"); (case h0 => walk_at "t_z"))
  | (with_reducible refine w_isInt ?_)
  | (with_reducible refine w_I1 ?_)
  | (with_reducible refine w_Head ?_)
  | ((with_reducible refine' w_number ?hb ?_); (case hb => walk_at "t_bits")))
local macro_rules | `(tactic| walk_at "t_bits") => `(tactic| assumption)
local macro_rules | `(tactic| walk_at "t_w") => `(tactic| first
  | (with_reducible refine w_tru ?_)
  | ((with_reducible refine' w_truL ?s ?_); (case s => walk_at "t_sq"))
  | (with_reducible refine w_dnew ?_)
  | (with_reducible refine w_disp1 ?_)
  | ((with_reducible refine' w_aug ?e ?_); (case e => rfl))
  | (with_reducible refine w_ipI ?_)
  | ((with_reducible refine' w_inD ?e ?_); (case e => walk_at "t_hp"))
  | ((with_reducible refine' w_notInD ?e ?_); (case e => walk_at "t_hp"))
  | (with_reducible refine w_dget ?_)
  | ((with_reducible refine' w_dgetE ?e ?hv ?_); (case e => walk_at "t_hp"); (case hv => walk_at "t_dv"))
  | (with_reducible refine w_dput ?_)
  | ((with_reducible refine' w_dputE ?e ?hl ?_); (case e => walk_at "t_hp"); (case hl => walk_at "t_z"))
  | ((with_reducible refine' w_extend ?e1 ?e2 ?hz ?_); (case e1 => walk_at "t_hp"); (case e2 => walk_at "t_hp"); (case hz => walk_at "t_z")))
local macro_rules | `(tactic| walk_at "t_dv") => `(tactic| assumption)
local macro_rules | `(tactic| walk_at "t_hp") => `(tactic| first
  | (with_reducible refine hp_off0 ?_; walk_at "t_hp")
  | ((with_reducible refine' hp_off1 ?hne ?hrest); (case hne => walk_at "t_ne"); (case hrest => walk_at "t_hp")))
local macro_rules | `(tactic| walk_at "t_w") => `(tactic| first
  | (with_reducible refine w_fld ?_)
  | ((with_reducible refine' w_fldE ?e ?c ?n ?l ?_); (case e => walk_at "t_hp"); (case c => assumption); (case n => assumption); (case l => rfl))
  | (with_reducible refine w_sfld ?_)
  | ((with_reducible refine' w_sfldE ?e ?c ?n ?l ?_); (case e => walk_at "t_hp"); (case c => assumption); (case n => assumption); (case l => first | decide | (show 1 < 1000; decide) | (show 2 < 1000; decide)))
  | (with_reducible refine w_setSl ?_)
  | (with_reducible refine w_make ?_)
  | ((with_reducible refine' w_gfld0 ?hv ?e ?c ?n ?l ?_); (case hv => rfl); (case e => walk_at "t_hp"); (case c => assumption); (case n => assumption); (case l => first | decide | (show 1 < 1000; decide) | (show 2 < 1000; decide)))
  | (with_reducible refine w_meth ?_)
  | (with_reducible refine w_methX ?_)
  | ((with_reducible refine' w_methE ?e ?l ?_); (case e => walk_at "t_hp"); (case l => rfl))
  | (with_reducible refine w_chain ?_)
  | ((with_reducible refine' w_gTup ?s ?l ?_); (case s => walk_at "t_sqt"); (case l => rfl))
  | (with_reducible refine w_gCons ?_)
  | (with_reducible refine w_gNil ?_)
  | (with_reducible refine w_star ?_)
  | ((with_reducible refine' w_starL ?s ?_); (case s => walk_at "t_sq"))
  | (with_reducible refine w_isiIB ?_)
  | (with_reducible refine w_isiS ?_))
/-! ### a room: its row, how much is used -/
structure RoomAt (C : Addr) (H : Hp) (x r : Addr) (bs : List (List Thing)) (sp : Nat) : Prop where
  ins : ∃ dx, H x = some (.ins C dx [("_row", .ref r), ("_used", .int ((cells bs : Nat) : Int))])
  row : H r = some (.lst ((rowAt bs sp).map V.int))
  ok : RowOk bs sp
theorem RoomAt.ne {C : Addr} {H : Hp} {x r : Addr} {bs : List (List Thing)} {sp : Nat} (h : RoomAt C H x r bs sp) : x ≠ r := by
  obtain ⟨dx, e⟩ := h.ins
  exact ne_of e h.row (fun z => nomatch z)
theorem RoomAt.ex {C : Addr} {H H' : Hp} {x r : Addr} {bs : List (List Thing)} {sp : Nat} (h : RoomAt C H x r bs sp) (e : Ex H H') : RoomAt C H' x r bs sp := by
  obtain ⟨dx, e1⟩ := h.ins
  exact ⟨⟨dx, e _ _ e1⟩, e _ _ h.row, h.ok⟩
/-- a thing as it is handed in: a number, or the place of a box -/
def Thing.hand (bs : List (List Thing)) : Thing → List V
  | .num n => [.str "number", .int n]
  | .box k => [.str "box", .int ((pl bs k : Nat) : Int)]
def HandAt (H : Hp) (bs : List (List Thing)) (v : V) (t : Thing) : Prop := ∃ a, v = .ref a ∧ H a = some (.tup (t.hand bs))
theorem HandAt.ex {H H' : Hp} {bs : List (List Thing)} (x : Ex H H') {v : V} {t : Thing} : HandAt H bs v t → HandAt H' bs v t := fun ⟨a, e, h⟩ => ⟨a, e, x _ _ h⟩
/-- a pair as it is handed in, whatever it leads to: of a box or not, the number -/
abbrev PT := Bool × Int
def PT.vals (p : PT) : List V := [.str (if p.1 = true then "box" else "number"), .int p.2]
def PT.word (p : PT) : Int := if p.1 = true then 2 * p.2 + 1 else 2 * p.2
def PT.ok (p : PT) : Prop := -(10 ^ 60) < p.2 ∧ p.2 < 10 ^ 60
def PAt (H : Hp) (v : V) (p : PT) : Prop := ∃ a, v = .ref a ∧ H a = some (.tup p.vals)
theorem PAt.ex {H H' : Hp} (x : Ex H H') {v : V} {p : PT} : PAt H v p → PAt H' v p := fun ⟨a, e, h⟩ => ⟨a, e, x _ _ h⟩
def Thing.pt (bs : List (List Thing)) : Thing → PT
  | .num n => (false, n)
  | .box k => (true, ((pl bs k : Nat) : Int))
theorem hand_pt {H : Hp} {bs : List (List Thing)} {v : V} {t : Thing} (h : HandAt H bs v t) : PAt H v (t.pt bs) := by
  obtain ⟨a, e, h⟩ := h
  refine ⟨a, e, ?_⟩
  rw [h]
  cases t <;> rfl
theorem pt_word {bs : List (List Thing)} {t : Thing} (h : t.ok bs.length) : (t.pt bs).word = word (places bs) t := by
  cases t with
  | num n => rfl
  | box k =>
    have hk : k < bs.length := h
    show 2 * ((pl bs k : Nat) : Int) + 1 = 2 * (((places bs).getD k 0 : Nat) : Int) + 1
    rw [places_getD hk]
theorem p60' : (10 : Int) ^ 60 = 1000000000000000000000000000000000000000000000000000000000000 := by decide +kernel
theorem pt_ok {bs : List (List Thing)} {sp : Nat} (r : RowOk bs sp) {t : Thing} (h : t.ok bs.length) : (t.pt bs).ok := by
  cases t with
  | num n => exact h
  | box k =>
    have hk : k < bs.length := h
    have h1 := pl_lt hk (Nat.le_refl _)
    rw [pl_all] at h1
    have h2 := r.small
    show -(10 ^ 60) < ((pl bs k : Nat) : Int) ∧ ((pl bs k : Nat) : Int) < 10 ^ 60
    rw [p60']; omega
theorem mem_places {bs : List (List Thing)} {z : Int} : z ∈ asI (places bs) ↔ ∃ k, k < bs.length ∧ z = ((pl bs k : Nat) : Int) := by
  constructor
  · intro h
    obtain ⟨n, hn, rfl⟩ := List.mem_map.mp h
    obtain ⟨i, hi⟩ := List.getElem?_of_mem hn
    have hl := (List.getElem?_eq_some_iff.mp hi).1
    rw [places_len] at hl
    rw [places_get hl] at hi
    exact ⟨i, hl, by rw [← Option.some.inj hi]; rfl⟩
  · rintro ⟨k, hk, rfl⟩
    exact asI_mem.mpr (List.mem_of_getElem? (places_get hk))
theorem pt_in {bs : List (List Thing)} {t : Thing} (h : t.ok bs.length) (hb : (t.pt bs).1 = true) : (t.pt bs).2 ∈ asI (places bs) := by
  cases t with
  | num n => cases hb
  | box k => exact mem_places.mpr ⟨k, h, rfl⟩
/-! ### what the program's parts promise -/
abbrev tenK : Int := 1000000000000000000000000000000000000000000000000000000000000
/-- a whole number of at most sixty figures: yes -/
def spWhole : Sp := fun vs H Q _ => ∃ n : Int, vs = [.int n] ∧ -(10 ^ 60) < n ∧ n < 10 ^ 60 ∧ Evl.RetV (.bl true) H Q
theorem w_whole {H : Hp} {Q : VK} {E : XK} {n : Int} (h1 : -(10 ^ 60) < n) (h2 : n < 10 ^ 60) (h : ∀ H2, Ex H H2 → Q (.bl true) H2) : spWhole ([.int n] ++ []) H Q E := ⟨n, rfl, h1, h2, h⟩
def spIsThing : Sp := fun vs H Q _ => ∃ (v : V) (p : PT), vs = [v] ∧ PAt H v p ∧ p.ok ∧ Evl.RetV (.bl true) H Q
theorem w_isThing {H : Hp} {Q : VK} {E : XK} {v : V} (p : PT) (h1 : PAt H v p) (h2 : p.ok) (h : ∀ H2, Ex H H2 → Q (.bl true) H2) : spIsThing ([v] ++ []) H Q E := ⟨v, p, rfl, h1, h2, h⟩
def spWordsOf (K : PySem.W.Frag) (cB : Addr) : Sp := fun vs H Q E => ∃ (l q : Addr) (ws : List V) (ps : List PT) (js : List Int), vs = [.ref l, .ref q] ∧ SqL K H l ws ∧ All2 (PAt H) ws ps ∧ ws.length ≤ 1000 ∧ (∀ p ∈ ps, p.ok) ∧ SqL K H q (js.map V.int) ∧
  ((∃ p ∈ ps, p.1 = true ∧ p.2 ∉ js) → ∀ H', Ex H H' → E (.ref cB) none H') ∧ ((∀ p ∈ ps, p.1 = true → p.2 ∈ js) → Evl.RetL ((ps.map PT.word).map V.int) H Q)
theorem w_wordsOf {K : PySem.W.Frag} {cB : Addr} {H : Hp} {Q : VK} {E : XK} {l q : Addr} {ws : List V} (ps : List PT) (js : List Int) (s1 : SqL K H l ws) (a : All2 (PAt H) ws ps) (hl : ws.length ≤ 1000) (ho : ∀ p ∈ ps, p.ok) (s2 : SqL K H q (js.map V.int))
    (kb : (∃ p ∈ ps, p.1 = true ∧ p.2 ∉ js) → ∀ H', Ex H H' → E (.ref cB) none H') (kr : (∀ p ∈ ps, p.1 = true → p.2 ∈ js) → ∀ p H2, H p = none → Ex H H2 → H2 p = some (.lst ((ps.map PT.word).map V.int)) → Q (.ref p) H2) : spWordsOf K cB ([.ref l, .ref q] ++ []) H Q E :=
  ⟨l, q, ws, ps, js, rfl, s1, a, hl, ho, s2, kb, kr⟩
def spInit (C : Addr) : Sp := fun vs H Q _ => ∃ (x dx : Addr) (z d : Nat), vs = [.ref x, .int (z : Int), .int (d : Int)] ∧ H x = some (.ins C dx []) ∧ 1 ≤ z ∧ z ≤ 400 ∧ d ≤ 20 ∧ d < z ∧
  ∀ r H2, H r = none → Ex (off [x] H) H2 → RoomAt C H2 x r [List.replicate d (.num 0)] (z - d - 1) → Q .non H2
def spMade (C cB cR : Addr) (K : PySem.W.Frag) : Sp := fun vs H Q E => ∃ (x r l : Addr) (bs : List (List Thing)) (sp : Nat) (ws : List V) (ps : List PT), vs = [.ref x, .ref l] ∧ RoomAt C H x r bs sp ∧ H l = some (.lst ws) ∧ All2 (PAt H) ws ps ∧ ws.length ≤ 1000 ∧ (∀ p ∈ ps, p.ok) ∧
  ((∃ p ∈ ps, p.1 = true ∧ p.2 ∉ asI (places bs)) → ∀ H', Ex H H' → E (.ref cB) none H') ∧
  ((∀ p ∈ ps, p.1 = true → p.2 ∈ asI (places bs)) → sp < 1 + ps.length → ∀ H', Ex H H' → E (.ref cR) none H') ∧
  (∀ fs : List Thing, ps = fs.map (Thing.pt bs) → (∀ t ∈ fs, t.ok bs.length) → 1 + fs.length ≤ sp → ∀ H2, Ex (off [x, r] H) H2 → RoomAt C H2 x r (bs ++ [fs]) (sp - (1 + fs.length)) → Q (.int ((cells bs : Nat) : Int)) H2)
def spPut (C cB : Addr) : Sp := fun vs H Q E => ∃ (x r : Addr) (bs : List (List Thing)) (sp : Nat) (p f : Int) (v : V), vs = [.ref x, .int p, .int f, v] ∧ RoomAt C H x r bs sp ∧ -(10 ^ 60) < p ∧ p < 10 ^ 60 ∧
  (p ∉ asI (places bs) → ∀ H', Ex H H' → E (.ref cB) none H') ∧
  (p ∈ asI (places bs) → ∃ (i j : Nat) (fs : List Thing) (t : Thing), p = ((pl bs i : Nat) : Int) ∧ bs[i]? = some fs ∧ f = (j : Int) ∧ j < fs.length ∧ HandAt H bs v t ∧ t.ok bs.length ∧ ∀ H2, Ex (off [x, r] H) H2 → RoomAt C H2 x r (bs.set i (fs.set j t)) sp → Q .non H2)
def spTold (C cB : Addr) : Sp := fun vs H Q E => ∃ (x r : Addr) (bs : List (List Thing)) (sp : Nat) (p : Int), vs = [.ref x, .int p] ∧ RoomAt C H x r bs sp ∧ -(10 ^ 60) < p ∧ p < 10 ^ 60 ∧
  (p ∉ asI (places bs) → ∀ H', Ex H H' → E (.ref cB) none H') ∧
  ∀ (i : Nat) (fs : List Thing), p = ((pl bs i : Nat) : Int) → bs[i]? = some fs → ∀ l ws H2, H l = none → Ex H H2 → H2 l = some (.lst ws) → All2 (HandAt H2 bs) ws fs → Q (.ref l) H2
def spPlacesM (C : Addr) : Sp := fun vs H Q _ => ∃ (x r : Addr) (bs : List (List Thing)) (sp : Nat), vs = [.ref x] ∧ RoomAt C H x r bs sp ∧ Evl.RetL ((asI (places bs)).map V.int) H Q
def spComeTo (C : Addr) : Sp := fun vs H Q _ => ∃ (x r : Addr) (bs : List (List Thing)) (sp : Nat), vs = [.ref x] ∧ RoomAt C H x r bs sp ∧ ∀ al, AliveOk bs al → Evl.RetL ((asI (al.map (pl bs))).map V.int) H Q
def spPushedM (C : Addr) : Sp := fun vs H Q _ => ∃ (x r : Addr) (bs : List (List Thing)) (sp : Nat), vs = [.ref x] ∧ RoomAt C H x r bs sp ∧ ∀ al, AliveOk bs al → ∀ r2 H2, H r2 = none → Ex (off [x] H) H2 → RoomAt C H2 x r2 (renum al bs) (cells bs + sp - cells (renum al bs)) →
  Q (.int (((cells bs : Nat) : Int) - ((cells (renum al bs) : Nat) : Int))) H2
def spUsed (C : Addr) : Sp := fun vs H Q _ => ∃ (x r : Addr) (bs : List (List Thing)) (sp : Nat), vs = [.ref x] ∧ RoomAt C H x r bs sp ∧ Evl.RetV (.int ((cells bs : Nat) : Int)) H Q
def spCells (C : Addr) : Sp := fun vs H Q _ => ∃ (x r : Addr) (bs : List (List Thing)) (sp : Nat), vs = [.ref x] ∧ RoomAt C H x r bs sp ∧ Evl.RetL ((rowAt bs sp).map V.int) H Q
def spReq (C cB : Addr) : Sp := fun vs H Q E => ∃ (x r : Addr) (bs : List (List Thing)) (sp : Nat) (p : Int), vs = [.ref x, .int p] ∧ RoomAt C H x r bs sp ∧ -(10 ^ 60) < p ∧ p < 10 ^ 60 ∧
  (p ∉ asI (places bs) → ∀ H', Ex H H' → E (.ref cB) none H') ∧ (p ∈ asI (places bs) → Evl.RetV .non H Q)
section
variable {C cB cR x r : Addr} {K : PySem.W.Frag} {H : Hp} {Q : VK} {E : XK} {bs : List (List Thing)} {sp : Nat}
theorem w_placesM (R : RoomAt C H x r bs sp) (k : ∀ p H2, H p = none → Ex H H2 → H2 p = some (.lst ((asI (places bs)).map V.int)) → Q (.ref p) H2) : spPlacesM C (.ref x :: ([] ++ [])) H Q E := ⟨x, r, bs, sp, rfl, R, k⟩
theorem w_usedM (R : RoomAt C H x r bs sp) (k : ∀ H2, Ex H H2 → Q (.int ((cells bs : Nat) : Int)) H2) : spUsed C (.ref x :: ([] ++ [])) H Q E := ⟨x, r, bs, sp, rfl, R, k⟩
theorem w_cellsM (R : RoomAt C H x r bs sp) (k : ∀ p H2, H p = none → Ex H H2 → H2 p = some (.lst ((rowAt bs sp).map V.int)) → Q (.ref p) H2) : spCells C (.ref x :: ([] ++ [])) H Q E := ⟨x, r, bs, sp, rfl, R, k⟩
theorem w_comeTo (R : RoomAt C H x r bs sp) (k : ∀ al, AliveOk bs al → ∀ p H2, H p = none → Ex H H2 → H2 p = some (.lst ((asI (al.map (pl bs))).map V.int)) → Q (.ref p) H2) : spComeTo C (.ref x :: ([] ++ [])) H Q E := ⟨x, r, bs, sp, rfl, R, k⟩
theorem w_pushedM (R : RoomAt C H x r bs sp) (k : ∀ al, AliveOk bs al → ∀ r2 H2, H r2 = none → Ex (off [x] H) H2 → RoomAt C H2 x r2 (renum al bs) (cells bs + sp - cells (renum al bs)) → Q (.int (((cells bs : Nat) : Int) - ((cells (renum al bs) : Nat) : Int))) H2) : spPushedM C (.ref x :: ([] ++ [])) H Q E := ⟨x, r, bs, sp, rfl, R, k⟩
end
theorem kit_bool {x : Bool} : (!x) = !x := rfl
theorem rowAt_set {bs : List (List Thing)} {sp i j : Nat} {fs : List Thing} {t : Thing} (h : bs[i]? = some fs) (hj : j < fs.length) : (rowAt bs sp).set (pl bs i + 1 + j) (word (places bs) t) = rowAt (bs.set i (fs.set j t)) sp ∧ places (bs.set i (fs.set j t)) = places bs ∧ cells (bs.set i (fs.set j t)) = cells bs := by
  have hi := (List.getElem?_eq_some_iff.mp h).1
  have hp : ∀ (bs : List (List Thing)) (i s : Nat), bs[i]? = some fs → offs (bs.set i (fs.set j t)) s = offs bs s ∧ cells (bs.set i (fs.set j t)) = cells bs := by
    intro bs
    induction bs with
    | nil => intro i s h; simp at h
    | cons g bs ih =>
      intro i s h
      cases i with
      | zero =>
        have e : g = fs := by simpa using h
        subst e
        refine ⟨?_, ?_⟩
        · show s :: offs bs (s + 1 + (g.set j t).length) = s :: offs bs (s + 1 + g.length)
          rw [List.length_set]
        · show cells (g.set j t :: bs) = _
          rw [cells_cons, cells_cons, List.length_set]
      | succ i =>
        have h2 : bs[i]? = some fs := by simpa using h
        obtain ⟨e1, e2⟩ := ih i (s + 1 + g.length) h2
        refine ⟨?_, ?_⟩
        · show s :: offs (bs.set i (fs.set j t)) (s + 1 + g.length) = s :: offs bs (s + 1 + g.length)
          rw [e1]
        · show cells (g :: bs.set i (fs.set j t)) = _
          rw [cells_cons, cells_cons, e2]
  obtain ⟨e1, e2⟩ := hp bs i 0 h
  have e1' : places (bs.set i (fs.set j t)) = places bs := e1
  refine ⟨?_, e1', e2⟩
  unfold rowAt
  rw [e1']
  generalize places bs = gs
  have key : ∀ (bs : List (List Thing)) (i : Nat), bs[i]? = some fs → (rowOf gs bs).set (pl bs i + 1 + j) (word gs t) = rowOf gs (bs.set i (fs.set j t)) := by
    intro bs
    induction bs with
    | nil => intro i h; simp at h
    | cons g bs ih =>
      intro i h
      have hc : rowOf gs (g :: bs) = boxRow gs g ++ rowOf gs bs := by unfold rowOf; rw [List.flatMap_cons]
      cases i with
      | zero =>
        have e : g = fs := by simpa using h
        subst e
        have hs : rowOf gs ((g :: bs).set 0 (g.set j t)) = boxRow gs (g.set j t) ++ rowOf gs bs := by show rowOf gs (g.set j t :: bs) = _; unfold rowOf; rw [List.flatMap_cons]
        rw [hc, hs]
        have hp0 : pl (g :: bs) 0 + 1 + j = j + 1 := by show cells ([] : List (List Thing)) + 1 + j = _; simp [cells]; omega
        rw [hp0, List.set_append_left _ _ (by rw [boxRow_len]; omega)]
        congr 1
        unfold boxRow
        rw [List.set_cons_succ, List.length_set, List.map_set]
      | succ i =>
        have h2 : bs[i]? = some fs := by simpa using h
        have hs : rowOf gs ((g :: bs).set (i + 1) (fs.set j t)) = boxRow gs g ++ rowOf gs (bs.set i (fs.set j t)) := by show rowOf gs (g :: bs.set i (fs.set j t)) = _; unfold rowOf; rw [List.flatMap_cons]
        rw [hc, hs]
        have hp1 : pl (g :: bs) (i + 1) = 1 + g.length + pl bs i := by unfold pl; rw [List.take_succ_cons, cells_cons]
        rw [hp1, List.set_append_right _ _ (by rw [boxRow_len]; omega), boxRow_len]
        congr 1
        rw [← ih i h2]
        congr 1
        omega
  rw [← key bs i h]
  have hlt : pl bs i + 1 + j < (rowOf gs bs).length := by
    rw [rowOf_len]
    have h1 := pl_step h
    have h2 : pl bs (i + 1) ≤ cells bs := by
      rcases Nat.lt_or_ge (i + 1) bs.length with q | q
      · have := pl_lt q (Nat.le_refl _); rw [pl_all] at this; omega
      · have : i + 1 = bs.length := by omega
        rw [this, pl_all]; exact Nat.le_refl _
    omega
  rw [List.set_append_left _ _ hlt]
theorem places_snoc (bs : List (List Thing)) (fs : List Thing) : places (bs ++ [fs]) = places bs ++ [cells bs] := by
  have key : ∀ (bs : List (List Thing)) (s : Nat), offs (bs ++ [fs]) s = offs bs s ++ [s + cells bs] := by
    intro bs
    induction bs with
    | nil => intro s; simp [offs, cells]
    | cons g bs ih =>
      intro s
      show s :: offs (bs ++ [fs]) (s + 1 + g.length) = (s :: offs bs (s + 1 + g.length)) ++ [s + cells (g :: bs)]
      rw [ih, cells_cons, List.cons_append]
      congr 3
      omega
  have := key bs 0
  rw [Nat.zero_add] at this
  exact this
theorem word_app {gs hs : List Nat} {t : Thing} (h : t.ok gs.length) : word (gs ++ hs) t = word gs t := by
  cases t with
  | num n => rfl
  | box k =>
    have hk : k < gs.length := h
    show 2 * (((gs ++ hs).getD k 0 : Nat) : Int) + 1 = 2 * ((gs.getD k 0 : Nat) : Int) + 1
    rw [List.getD_eq_getElem?_getD, List.getElem?_append_left hk, ← List.getD_eq_getElem?_getD]
theorem rowOf_app {gs hs : List Nat} : ∀ {bs : List (List Thing)}, (∀ fs ∈ bs, ∀ t ∈ fs, t.ok gs.length) → rowOf (gs ++ hs) bs = rowOf gs bs
  | [], _ => rfl
  | fs :: bs, h => by
    unfold rowOf
    rw [List.flatMap_cons, List.flatMap_cons]
    congr 1
    · unfold boxRow
      congr 1
      exact List.map_congr_left fun t ht => word_app (h fs (List.mem_cons_self ..) t ht)
    · exact rowOf_app fun g hg => h g (List.mem_cons_of_mem _ hg)
/-- a box made behind the last one -/
theorem rowAt_made {bs : List (List Thing)} {sp : Nat} {fs : List Thing} (r : RowOk bs sp) (hf : ∀ t ∈ fs, t.ok bs.length) (hs : 1 + fs.length ≤ sp) :
    (rowAt bs sp).take (cells bs) ++ (4 * (fs.length : Int) :: fs.map (word (places bs))) ++ (rowAt bs sp).drop (cells bs + 1 + fs.length) = rowAt (bs ++ [fs]) (sp - (1 + fs.length)) := by
  have hl : (rowOf (places bs) bs).length = cells bs := rowOf_len _ _
  have e1 : (rowAt bs sp).take (cells bs) = rowOf (places bs) bs := by
    unfold rowAt; rw [← hl, List.take_left]
  have e2 : (rowAt bs sp).drop (cells bs + 1 + fs.length) = List.replicate (sp - (1 + fs.length)) 0 := by
    unfold rowAt
    rw [List.drop_append, List.drop_eq_nil_of_le (by omega), List.nil_append, hl, List.drop_replicate]
    congr 1
    omega
  rw [e1, e2]
  unfold rowAt
  rw [places_snoc]
  congr 1
  have e3 : rowOf (places bs ++ [cells bs]) (bs ++ [fs]) = rowOf (places bs ++ [cells bs]) bs ++ boxRow (places bs ++ [cells bs]) fs := by
    unfold rowOf; rw [List.flatMap_append]
    congr 1
    show boxRow _ fs ++ [] = _
    rw [List.append_nil]
  rw [e3, rowOf_app (by rw [places_len]; exact r.ok)]
  congr 1
  unfold boxRow
  congr 1
  exact (List.map_congr_left fun t ht => (word_app (by rw [places_len]; exact hf t ht)).symm)
theorem ok_mono {n m : Nat} (h : n ≤ m) {t : Thing} (k : t.ok n) : t.ok m := by
  cases t with
  | num z => exact k
  | box i => exact Nat.lt_of_lt_of_le k h
theorem RowOk.made {bs : List (List Thing)} {sp : Nat} {fs : List Thing} (r : RowOk bs sp) (hf : ∀ t ∈ fs, t.ok bs.length) (hs : 1 + fs.length ≤ sp) : RowOk (bs ++ [fs]) (sp - (1 + fs.length)) := by
  refine ⟨by rw [List.length_append]; exact Nat.le_trans r.one (Nat.le_add_right ..), ?_, fun gs hg t ht => ?_⟩
  · rw [cells_snoc]; have := r.small; omega
  · rw [List.length_append]
    rcases List.mem_append.mp hg with h | h
    · exact ok_mono (Nat.le_add_right ..) (r.ok gs h t ht)
    · rw [List.mem_singleton.mp h] at ht
      exact ok_mono (Nat.le_add_right ..) (hf t ht)
theorem RowOk.put {bs : List (List Thing)} {sp i j : Nat} {fs : List Thing} {t : Thing} (r : RowOk bs sp) (h : bs[i]? = some fs) (hj : j < fs.length) (ht : t.ok bs.length) : RowOk (bs.set i (fs.set j t)) sp := by
  refine ⟨by rw [List.length_set]; exact r.one, ?_, fun gs hg u hu => ?_⟩
  · rw [(rowAt_set (sp := sp) (t := t) h hj).2.2]; exact r.small
  · rw [List.length_set]
    rcases List.mem_or_eq_of_mem_set hg with q | q
    · exact r.ok gs q u hu
    · rw [q] at hu
      rcases List.mem_or_eq_of_mem_set hu with z | z
      · exact r.ok fs (List.mem_of_getElem? h) u z
      · rw [z]; exact ht
end Tw

set_option Elab.async false
set_option linter.all false
set_option maxRecDepth 100000
set_option maxHeartbeats 4000000
namespace Tw
open PySem PySem.Spec PyProof.Rows L2
open Evl (Ex ex_l ex_t fresh_back sz_of sz_lt)
local macro_rules | `(tactic| walk_at "t_hp") => `(tactic| first
  | assumption
  | exact upd_same
  | (refine' hp_ne ?hne ?hrest; (case hne => walk_at "t_ne"); (case hrest => walk_at "t_hp"))
  | (refine' hp_ex ?hx ?hrest; (case hx => assumption); (case hrest => walk_at "t_hp")))
local macro_rules | `(tactic| walk_at "t_ne") => `(tactic| first
  | assumption
  | exact Ne.symm (by assumption)
  | (refine' ne_of_none ?h1 ?h2; (case h2 => assumption); (case h1 => walk_at "t_hp"))
  | (refine' Ne.symm (ne_of_none ?h1 ?h2); (case h2 => assumption); (case h1 => walk_at "t_hp")))
local macro_rules | `(tactic| walk_at "t_none") => `(tactic| first
  | assumption
  | (refine' fresh_back ?e ?n; (case n => assumption); (case e => walk_at "t_ex")))
local macro_rules | `(tactic| walk_at "t_ex") => `(tactic| first
  | assumption
  | exact Evl.Ex.refl _
  | (refine' ex_new ?n ?e; (case n => assumption); (case e => walk_at "t_ex"))
  | (refine' Evl.Ex.mut ?e ?n; (case n => walk_at "t_none"); (case e => walk_at "t_ex"))
  | (refine' Evl.Ex.trans ?a ?b; (case b => assumption); (case a => walk_at "t_ex")))
local macro_rules | `(tactic| walk_at "t_sq") => `(tactic| first
  | assumption
  | (refine' SqL.of ?h; (case h => walk_at "t_hp"))
  | (refine' ex_l ?e ?s; (case s => assumption); (case e => walk_at "t_ex")))
local macro_rules | `(tactic| walk_at "t_sqt") => `(tactic| first
  | assumption
  | (refine' SqT.of ?h; (case h => walk_at "t_hp"))
  | (refine' ex_t ?e ?s; (case s => assumption); (case e => walk_at "t_ex")))
local macro_rules | `(tactic| walk_at "t_mul") => `(tactic| first
  | assumption
  | exact Or.inl (Or.inl ⟨by decide, by decide⟩)
  | exact Or.inl (Or.inr ⟨by decide, by decide⟩)
  | exact Or.inl (Or.inl ⟨by omega, by omega⟩)
  | exact Or.inl (Or.inr ⟨by omega, by omega⟩))
local macro_rules | `(tactic| walk_at "t_c") => `(tactic| first
  | assumption
  | decide
  | (show (0 : Int) < _; decide)
  | (show (0 : Int) < _; omega)
  | exact ⟨by decide, by decide⟩
  | exact ⟨by decide, by decide, by decide⟩
  | exact ⟨by omega, by omega⟩
  | exact ⟨by omega, by omega, by omega, by omega⟩)
local macro_rules | `(tactic| walk_at "t_w") => `(tactic| first
  | (with_reducible refine w_seq ?_)
  | (with_reducible refine w_asg ?_)
  | (with_reducible refine w_gName ?_)
  | (with_reducible refine w_nx ?_)
  | (with_reducible refine w_rt ?_)
  | (with_reducible refine w_ct ?_)
  | (with_reducible refine w_bk ?_)
  | (with_reducible refine w_ret ?_)
  | (with_reducible refine w_retN ?_)
  | (with_reducible refine w_drop ?_)
  | (with_reducible refine w_ifS ?_)
  | (with_reducible refine w_next ?_)
  | (with_reducible refine w_break ?_)
  | (with_reducible refine w_cont ?_)
  | ((with_reducible refine' w_var ?h ?_); (case h => rfl))
  | (with_reducible refine w_c ?_)
  | (with_reducible refine w_op ?_)
  | (with_reducible refine w_un ?_)
  | (with_reducible refine w_I0 ?_)
  | ((with_reducible refine' w_I ?c ?_); (case c => walk_at "t_c"))
  | (with_reducible refine w_U ?_)
  | (with_reducible refine w_addI ?_)
  | ((with_reducible refine' w_addL ?h1 ?h2 ?hz ?_); (case h1 => walk_at "t_hp"); (case h2 => walk_at "t_hp"); (case hz => walk_at "t_z"))
  | ((with_reducible refine' w_mulI ?c ?_); (case c => walk_at "t_mul"))
  | ((with_reducible refine' w_mulL1 ?h1 ?b1 ?b2 ?_); (case h1 => walk_at "t_hp"); (case b1 => walk_at "t_z"); (case b2 => walk_at "t_z"))
  | ((with_reducible refine' w_mulL ?h1 ?b1 ?b2 ?hz ?_); (case h1 => walk_at "t_hp"); (case b1 => walk_at "t_z"); (case b2 => walk_at "t_z"); (case hz => walk_at "t_z"))
  | (with_reducible refine w_notIB ?_)
  | (with_reducible refine w_notBB ?_)
  | (with_reducible refine w_notN ?_)
  | (with_reducible refine w_isBB ?_)
  | (with_reducible refine w_isN ?_)
  | (with_reducible refine w_eqI ?_)
  | (with_reducible refine w_neI ?_)
  | (with_reducible refine w_eqB ?_)
  | (with_reducible refine w_neB ?_)
  | (with_reducible refine w_eqS ?_)
  | (with_reducible refine w_neS ?_)
  | (with_reducible refine w_test ?_)
  | (with_reducible refine w_B ?_)
  | (with_reducible refine w_exB ?_)
  | (with_reducible refine w_and ?_)
  | (with_reducible refine w_or ?_)
  | (with_reducible refine w_not ?_)
  | (with_reducible refine w_andV ?_)
  | (with_reducible refine w_orV ?_)
  | (with_reducible refine w_notV ?_)
  | (with_reducible refine w_bl ?_)
  | (with_reducible refine w_if ?_)
  | (with_reducible refine w_nil ?_)
  | (with_reducible refine w_cons ?_)
  | (with_reducible refine w_cb ?_)
  | (with_reducible refine w_call ?_)
  | (with_reducible refine w_tup ?_)
  | (with_reducible refine w_lst ?_)
  | ((with_reducible refine' w_fin ?hz ?_); (case hz => (simp only [List.length_cons, List.length_nil]; decide)))
  | ((with_reducible refine' w_len ?s ?_); (case s => walk_at "t_sq"))
  | ((with_reducible refine' w_lenT ?s ?_); (case s => walk_at "t_sqt"))
  | (with_reducible refine w_intI ?_)
  | (with_reducible refine w_intB ?_)
  | ((with_reducible refine' w_list ?s ?_); (case s => walk_at "t_sq"))
  | (with_reducible refine w_max ?_)
  | (with_reducible refine w_min ?_)
  | (with_reducible refine w_abs ?_)
  | (with_reducible refine w_sl ?_)
  | (with_reducible refine w_noPart ?_)
  | (with_reducible refine w_part ?_)
  | (with_reducible refine w_exI ?_)
  | ((with_reducible refine' w_slL ?s ?_); (case s => walk_at "t_sq"))
  | ((with_reducible refine' w_ixLI ?s ?b ?_); (case s => walk_at "t_sq"); (case b => walk_at "t_lt"))
  | ((with_reducible refine' w_ixL ?s ?e ?_); (case s => walk_at "t_sq"); (case e => walk_at "t_at"))
  | ((with_reducible refine' w_ixT ?s ?e ?_); (case s => walk_at "t_sqt"); (case e => walk_at "t_at"))
  | (with_reducible refine w_gSub ?_)
  | ((with_reducible refine' w_setLI ?e ?b ?_); (case e => walk_at "t_hp"); (case b => walk_at "t_lt"))
  | ((with_reducible refine' w_setL ?e ?b ?_); (case e => walk_at "t_hp"); (case b => walk_at "t_ixn"))
  | (with_reducible refine w_bm ?_)
  | (with_reducible refine w_bm0 ?_)
  | ((with_reducible refine' w_tyL ?e ?_); (case e => walk_at "t_sq"))
  | ((with_reducible refine' w_app ?e ?hz ?_); (case e => walk_at "t_hp"); (case hz => walk_at "t_z"))
  | (with_reducible refine w_iteT ?_)
  | (with_reducible refine w_iteF ?_)
  | (with_reducible refine w_iteNT ?_)
  | (with_reducible refine w_iteNF ?_)
  | (with_reducible refine w_for ?_)
  | (with_reducible refine w_iList ?_)
  | ((with_reducible refine' w_exL ?s ?_); (case s => walk_at "t_sq"))
  | (with_reducible refine w_iTup ?_)
  | ((with_reducible refine' w_exT ?s ?_); (case s => walk_at "t_sqt"))
  | (with_reducible refine w_iRng1 ?_)
  | ((with_reducible refine w_exR1 ?b ?_); (case b => walk_at "t_c"))
  | (with_reducible refine w_iRng2 ?_)
  | ((with_reducible refine w_exR2 ?b ?_); (case b => walk_at "t_c"))
  | (with_reducible refine w_yes ?_)
  | ((with_reducible refine w_pos ?p ?_); (case p => walk_at "t_p"))
  | ((with_reducible refine w_neg ?p ?_); (case p => walk_at "t_p"))
  | ((with_reducible refine w_posN ?p ?_); (case p => walk_at "t_p"))
  | ((with_reducible refine w_negN ?p ?_); (case p => walk_at "t_p"))
  | ((with_reducible refine' w_notInL ?s ?_); (case s => walk_at "t_sq"))
  | ((with_reducible refine' w_inL ?s ?_); (case s => walk_at "t_sq"))
  | ((with_reducible refine' w_sum ?s ?_); (case s => walk_at "t_sq"))
  | (with_reducible refine w_isiI ?_)
  | ((with_reducible refine' w_isiL ?e ?_); (case e => walk_at "t_ty"))
  | ((with_reducible refine' w_isiT ?e ?_); (case e => walk_at "t_ty"))
  | (with_reducible intro p hp_new))
local macro_rules | `(tactic| walk_at "t_ty") => `(tactic| first | assumption | (refine' tyx_l ?e; (case e => walk_at "t_hp")) | (refine' tyx_t ?e; (case e => walk_at "t_hp")))
local macro_rules | `(tactic| walk_at "t_z") => `(tactic| first | assumption | decide | omega | (simp only [List.length_cons, List.length_nil, List.length_map, List.length_append, List.length_replicate]; first | done | decide | omega))
local macro_rules | `(tactic| walk_at "t_at") => `(tactic| first | assumption | rfl)
local macro_rules | `(tactic| walk_at "t_ixn") => `(tactic| first | assumption | rfl)
local macro_rules | `(tactic| walk_at "t_ev") => `(tactic| (intro H1 e Q q; (repeat walk_at "t_w"); exact q _ (by walk_at "t_ex")))
local macro_rules | `(tactic| walk_at "t_p") => `(tactic| first | assumption | decide | decide +kernel)
local macro_rules | `(tactic| walk_at "t_lt") => `(tactic| first | assumption | omega | (simp only [List.length_set, List.length_map, List.length_append]; first | assumption | omega))
local macro_rules | `(tactic| walk_at "t_w") => `(tactic| first
  | ((with_reducible refine' w_at ?s ?hl ?h0 ?_); (case s => walk_at "t_sq"); (case hl => walk_at "t_z"); (case h0 => walk_at "t_z"))
  | (with_reducible refine w_isInt ?_)
  | (with_reducible refine w_I1 ?_)
  | (with_reducible refine w_Head ?_)
  | ((with_reducible refine' w_number ?hb ?_); (case hb => walk_at "t_bits")))
local macro_rules | `(tactic| walk_at "t_bits") => `(tactic| assumption)
local macro_rules | `(tactic| walk_at "t_w") => `(tactic| first
  | (with_reducible refine w_tru ?_)
  | ((with_reducible refine' w_truL ?s ?_); (case s => walk_at "t_sq"))
  | (with_reducible refine w_dnew ?_)
  | (with_reducible refine w_disp1 ?_)
  | ((with_reducible refine' w_aug ?e ?_); (case e => rfl))
  | (with_reducible refine w_ipI ?_)
  | ((with_reducible refine' w_inD ?e ?_); (case e => walk_at "t_hp"))
  | ((with_reducible refine' w_notInD ?e ?_); (case e => walk_at "t_hp"))
  | (with_reducible refine w_dget ?_)
  | ((with_reducible refine' w_dgetE ?e ?hv ?_); (case e => walk_at "t_hp"); (case hv => walk_at "t_dv"))
  | (with_reducible refine w_dput ?_)
  | ((with_reducible refine' w_dputE ?e ?hl ?_); (case e => walk_at "t_hp"); (case hl => walk_at "t_z"))
  | ((with_reducible refine' w_extend ?e1 ?e2 ?hz ?_); (case e1 => walk_at "t_hp"); (case e2 => walk_at "t_hp"); (case hz => walk_at "t_z")))
local macro_rules | `(tactic| walk_at "t_dv") => `(tactic| assumption)
local macro_rules | `(tactic| walk_at "t_hp") => `(tactic| first
  | (with_reducible refine hp_off0 ?_; walk_at "t_hp")
  | ((with_reducible refine' hp_off1 ?hne ?hrest); (case hne => walk_at "t_ne"); (case hrest => walk_at "t_hp")))
local macro_rules | `(tactic| walk_at "t_w") => `(tactic| first
  | (with_reducible refine w_fld ?_)
  | ((with_reducible refine' w_fldE ?e ?c ?n ?l ?_); (case e => walk_at "t_hp"); (case c => assumption); (case n => assumption); (case l => rfl))
  | (with_reducible refine w_sfld ?_)
  | ((with_reducible refine' w_sfldE ?e ?c ?n ?l ?_); (case e => walk_at "t_hp"); (case c => assumption); (case n => assumption); (case l => first | decide | (show 1 < 1000; decide) | (show 2 < 1000; decide)))
  | (with_reducible refine w_setSl ?_)
  | (with_reducible refine w_make ?_)
  | ((with_reducible refine' w_gfld0 ?hv ?e ?c ?n ?l ?_); (case hv => rfl); (case e => walk_at "t_hp"); (case c => assumption); (case n => assumption); (case l => first | decide | (show 1 < 1000; decide) | (show 2 < 1000; decide)))
  | (with_reducible refine w_meth ?_)
  | (with_reducible refine w_methX ?_)
  | ((with_reducible refine' w_methE ?e ?l ?_); (case e => walk_at "t_hp"); (case l => rfl))
  | (with_reducible refine w_chain ?_)
  | ((with_reducible refine' w_gTup ?s ?l ?_); (case s => walk_at "t_sqt"); (case l => rfl))
  | (with_reducible refine w_gCons ?_)
  | (with_reducible refine w_gNil ?_)
  | (with_reducible refine w_star ?_)
  | ((with_reducible refine' w_starL ?s ?_); (case s => walk_at "t_sq"))
  | (with_reducible refine w_isiIB ?_)
  | (with_reducible refine w_isiS ?_))
abbrev s_is_whole : Stmt := topS 22
theorem sc_is_whole : FnScope ["n"] ["n"] (defScope s_is_whole) := ⟨rfl, rfl, rfl, by decide +kernel, rfl, by decide +kernel, by decide +kernel⟩

abbrev s_is_thing : Stmt := topS 23
theorem sc_is_thing : FnScope ["thing", "kind", "n"] ["thing"] (defScope s_is_thing) := ⟨rfl, rfl, rfl, by decide +kernel, rfl, by decide +kernel, by decide +kernel⟩

abbrev s_words_of : Stmt := topS 24
theorem sc_words_of : FnScope ["things", "places", "thing", "kind", "n"] ["things", "places"] (defScope s_words_of) := ⟨rfl, rfl, rfl, by decide +kernel, rfl, by decide +kernel, by decide +kernel⟩

/-! ### data of any kind: whole numbers, things -/
def wholeD : PyData → Bool
  | .int n => decide (-(10 ^ 60) < n) && decide (n < 10 ^ 60)
  | _ => false
def thingD : PyData → Bool
  | .tuple [.str k, d] => (decide (k = "number") || decide (k = "box")) && wholeD d
  | _ => false
def PT.data (p : PT) : PyData := .tuple [.str (if p.1 = true then "box" else "number"), .int p.2]
theorem wholeD_int {d : PyData} (h : wholeD d = true) : ∃ n, d = .int n ∧ -(10 ^ 60) < n ∧ n < 10 ^ 60 := by
  cases d with
  | int n =>
    have h2 : (decide (-(10 ^ 60) < n) && decide (n < 10 ^ 60)) = true := h
    rw [Bool.and_eq_true, decide_eq_true_eq, decide_eq_true_eq] at h2
    exact ⟨n, rfl, h2.1, h2.2⟩
  | _ => cases h
theorem wholeD_of {n : Int} (h1 : -(10 ^ 60) < n) (h2 : n < 10 ^ 60) : wholeD (.int n) = true := by
  show (decide (-(10 ^ 60) < n) && decide (n < 10 ^ 60)) = true
  rw [decide_eq_true h1, decide_eq_true h2]; rfl
theorem thingD_pt {d : PyData} (h : thingD d = true) : ∃ p : PT, d = p.data ∧ p.ok := by
  unfold thingD at h
  split at h
  · rename_i k d2
    rw [Bool.and_eq_true, Bool.or_eq_true, decide_eq_true_eq, decide_eq_true_eq] at h
    obtain ⟨n, rfl, h1, h2⟩ := wholeD_int h.2
    rcases h.1 with rfl | rfl
    · exact ⟨(false, n), rfl, h1, h2⟩
    · exact ⟨(true, n), rfl, h1, h2⟩
  · cases h
theorem pt_thingD {p : PT} (h : p.ok) : thingD p.data = true := by
  obtain ⟨b, n⟩ := p
  have hw : wholeD (.int n) = true := wholeD_of h.1 h.2
  show ((decide ((if b = true then "box" else "number" : Str) = "number") || decide ((if b = true then "box" else "number" : Str) = "box")) && wholeD (.int n)) = true
  rw [hw]
  cases b <;> decide +kernel
theorem things_pt : ∀ {ds : List PyData}, ds.all thingD = true → ∃ ps : List PT, ds = ps.map PT.data ∧ ∀ p ∈ ps, p.ok
  | [], _ => ⟨[], rfl, fun _ h => by cases h⟩
  | d :: ds, h => by
    rw [List.all_cons, Bool.and_eq_true] at h
    obtain ⟨p, rfl, hp⟩ := thingD_pt h.1
    obtain ⟨ps, rfl, hps⟩ := things_pt h.2
    exact ⟨p :: ps, rfl, fun q hq => (List.mem_cons.mp hq).elim (fun e => e ▸ hp) (hps q)⟩
theorem dp_pt {K : PySem.W.Frag} {H : Hp} {v : V} {p : PT} (h : Dp K H v p.data) : ∃ a, v = .ref a ∧ SqT K H a p.vals := by
  cases h with
  | tup s h =>
    cases h with
    | cons h1 h =>
      cases h with
      | cons h2 h =>
        cases h; cases h1; cases h2
        exact ⟨_, rfl, s⟩
theorem dpAll_len {K : PySem.W.Frag} {H : Hp} : ∀ {vs : List V} {ds : List PyData}, DpAll K H vs ds → vs.length = ds.length
  | _, _, .nil => rfl
  | _, _, .cons _ t => congrArg (· + 1) (dpAll_len t)
theorem dpAll_get {K : PySem.W.Frag} {H : Hp} : ∀ {vs : List V} {ds : List PyData} {i : Nat} {v : V}, DpAll K H vs ds → vs[i]? = some v → ∃ d, ds[i]? = some d ∧ Dp K H v d
  | _, _, 0, _, .cons h _, e => by cases e; exact ⟨_, rfl, h⟩
  | _, _, i + 1, _, .cons _ t, e => by rw [List.getElem?_cons_succ] at e ⊢; exact dpAll_get t e
theorem dpAll_getD {K : PySem.W.Frag} {H : Hp} : ∀ {vs : List V} {ds : List PyData} {i : Nat} {d : PyData}, DpAll K H vs ds → ds[i]? = some d → ∃ v, vs[i]? = some v ∧ Dp K H v d
  | _, _, 0, _, .cons h _, e => by cases e; exact ⟨_, rfl, h⟩
  | _, _, i + 1, _, .cons _ t, e => by rw [List.getElem?_cons_succ] at e ⊢; exact dpAll_getD t e
/-! the type of data -/
def tyD : PyData → String
  | .none => "NoneType"
  | .bool _ => "bool"
  | .int _ => "int"
  | .str _ => "str"
  | .list _ => "list"
  | .tuple _ => "tuple"
  | .dict _ => "dict"
theorem tyx_dp {K : PySem.W.Frag} {H : Hp} {v : V} {d : PyData} (h : Dp K H v d) : TyX K H v (.type (tyD d)) := by
  cases h with
  | non => exact .base .non
  | bl b => exact .base (.bl b)
  | int i => exact .base (.int i)
  | str x => exact .base (.str x)
  | lst s _ =>
    rcases s with (s | ⟨o, s⟩) | ⟨o, vs, n, h1, h2, _⟩
    · exact .base (.lst s)
    · exact .base (.frz s)
    · exact .kList h1 h2
  | tup s _ =>
    rcases s with (s | ⟨o, s⟩) | ⟨o, vs, n, h1, h2, _⟩
    · exact .base (.tup s)
    · exact .fTuple s
    · exact .kTuple h1 h2
theorem w_isiD {K : PySem.W.Frag} {H : Hp} {Q : VK} {v : V} {d : PyData} {T : String} {b : Bool} (h : Dp K H v d) (e : kitB (tyD d) T = some b) (q : Q (.bl b) H) : rIsi K [v, .ty T] H Q := ⟨_, _, _, _, _, rfl, .ty T, tyx_dp h, kit_ty e, q⟩
theorem kd_non_int : kitB (tyD (.none)) "int" = some false := by show kitB "NoneType" "int" = _; decide +kernel
theorem kd_bl_int {x : Bool} : kitB (tyD (.bool x)) "int" = some true := by show kitB "bool" "int" = _; decide +kernel
theorem kd_int_int {x : Int} : kitB (tyD (.int x)) "int" = some true := by show kitB "int" "int" = _; decide +kernel
theorem kd_str_int {x : Str} : kitB (tyD (.str x)) "int" = some false := by show kitB "str" "int" = _; decide +kernel
theorem kd_lst_int {x : List PyData} : kitB (tyD (.list x)) "int" = some false := by show kitB "list" "int" = _; decide +kernel
theorem kd_tup_int {x : List PyData} : kitB (tyD (.tuple x)) "int" = some false := by show kitB "tuple" "int" = _; decide +kernel
theorem kd_non_bool : kitB (tyD (.none)) "bool" = some false := by show kitB "NoneType" "bool" = _; decide +kernel
theorem kd_bl_bool {x : Bool} : kitB (tyD (.bool x)) "bool" = some true := by show kitB "bool" "bool" = _; decide +kernel
theorem kd_int_bool {x : Int} : kitB (tyD (.int x)) "bool" = some false := by show kitB "int" "bool" = _; decide +kernel
theorem kd_str_bool {x : Str} : kitB (tyD (.str x)) "bool" = some false := by show kitB "str" "bool" = _; decide +kernel
theorem kd_lst_bool {x : List PyData} : kitB (tyD (.list x)) "bool" = some false := by show kitB "list" "bool" = _; decide +kernel
theorem kd_tup_bool {x : List PyData} : kitB (tyD (.tuple x)) "bool" = some false := by show kitB "tuple" "bool" = _; decide +kernel
theorem kd_non_str : kitB (tyD (.none)) "str" = some false := by show kitB "NoneType" "str" = _; decide +kernel
theorem kd_bl_str {x : Bool} : kitB (tyD (.bool x)) "str" = some false := by show kitB "bool" "str" = _; decide +kernel
theorem kd_int_str {x : Int} : kitB (tyD (.int x)) "str" = some false := by show kitB "int" "str" = _; decide +kernel
theorem kd_str_str {x : Str} : kitB (tyD (.str x)) "str" = some true := by show kitB "str" "str" = _; decide +kernel
theorem kd_lst_str {x : List PyData} : kitB (tyD (.list x)) "str" = some false := by show kitB "list" "str" = _; decide +kernel
theorem kd_tup_str {x : List PyData} : kitB (tyD (.tuple x)) "str" = some false := by show kitB "tuple" "str" = _; decide +kernel
theorem kd_non_tuple : kitB (tyD (.none)) "tuple" = some false := by show kitB "NoneType" "tuple" = _; decide +kernel
theorem kd_bl_tuple {x : Bool} : kitB (tyD (.bool x)) "tuple" = some false := by show kitB "bool" "tuple" = _; decide +kernel
theorem kd_int_tuple {x : Int} : kitB (tyD (.int x)) "tuple" = some false := by show kitB "int" "tuple" = _; decide +kernel
theorem kd_str_tuple {x : Str} : kitB (tyD (.str x)) "tuple" = some false := by show kitB "str" "tuple" = _; decide +kernel
theorem kd_lst_tuple {x : List PyData} : kitB (tyD (.list x)) "tuple" = some false := by show kitB "list" "tuple" = _; decide +kernel
theorem kd_tup_tuple {x : List PyData} : kitB (tyD (.tuple x)) "tuple" = some true := by show kitB "tuple" "tuple" = _; decide +kernel
/-! ### what the program's parts promise -/
def spWholeD (K : PySem.W.Frag) : Sp := fun vs H Q _ => ∃ (v : V) (d : PyData), vs = [v] ∧ Dp K H v d ∧ Evl.RetV (.bl (wholeD d)) H Q
theorem w_wholeD {K : PySem.W.Frag} {H : Hp} {Q : VK} {E : XK} {v : V} {d : PyData} (h : Dp K H v d) (k : ∀ H2, Ex H H2 → Q (.bl (wholeD d)) H2) : spWholeD K ([v] ++ []) H Q E := ⟨v, d, rfl, h, k⟩
def spThingD (K : PySem.W.Frag) : Sp := fun vs H Q _ => ∃ (v : V) (d : PyData), vs = [v] ∧ Dp K H v d ∧ Evl.RetV (.bl (thingD d)) H Q
theorem w_thingD {K : PySem.W.Frag} {H : Hp} {Q : VK} {E : XK} {v : V} {d : PyData} (h : Dp K H v d) (k : ∀ H2, Ex H H2 → Q (.bl (thingD d)) H2) : spThingD K ([v] ++ []) H Q E := ⟨v, d, rfl, h, k⟩
def spWordsD (K : PySem.W.Frag) (cB cT : Addr) : Sp := fun vs H Q E => ∃ (l q : Addr) (ws : List V) (ds : List PyData) (js : List Int), vs = [.ref l, .ref q] ∧ SqL K H l ws ∧ DpAll K H ws ds ∧ ds.length ≤ 1000 ∧ SqL K H q (js.map V.int) ∧
  (ds.all thingD = false → ∀ H', Ex H H' → E (.ref cT) none H') ∧
  ∀ ps : List PT, ds = ps.map PT.data → (∀ p ∈ ps, p.ok) → ((∃ p ∈ ps, p.1 = true ∧ p.2 ∉ js) → ∀ H', Ex H H' → E (.ref cB) none H') ∧ ((∀ p ∈ ps, p.1 = true → p.2 ∈ js) → Evl.RetL ((ps.map PT.word).map V.int) H Q)
theorem w_wordsD {K : PySem.W.Frag} {cB cT : Addr} {H : Hp} {Q : VK} {E : XK} {l q : Addr} {ws : List V} (ds : List PyData) (js : List Int) (s1 : SqL K H l ws) (a : DpAll K H ws ds) (hl : ds.length ≤ 1000) (s2 : SqL K H q (js.map V.int))
    (kt : ds.all thingD = false → ∀ H', Ex H H' → E (.ref cT) none H')
    (kk : ∀ ps : List PT, ds = ps.map PT.data → (∀ p ∈ ps, p.ok) → ((∃ p ∈ ps, p.1 = true ∧ p.2 ∉ js) → ∀ H', Ex H H' → E (.ref cB) none H') ∧ ((∀ p ∈ ps, p.1 = true → p.2 ∈ js) → ∀ p H2, H p = none → Ex H H2 → H2 p = some (.lst ((ps.map PT.word).map V.int)) → Q (.ref p) H2)) :
    spWordsD K cB cT ([.ref l, .ref q] ++ []) H Q E := ⟨l, q, ws, ds, js, rfl, s1, a, hl, s2, kt, kk⟩
local macro_rules | `(tactic| walk_at "t_kd") => `(tactic| with_reducible first | exact kd_non_int | exact kd_bl_int | exact kd_int_int | exact kd_str_int | exact kd_lst_int | exact kd_tup_int | exact kd_non_bool | exact kd_bl_bool | exact kd_int_bool | exact kd_str_bool | exact kd_lst_bool | exact kd_tup_bool | exact kd_non_str | exact kd_bl_str | exact kd_int_str | exact kd_str_str | exact kd_lst_str | exact kd_tup_str | exact kd_non_tuple | exact kd_bl_tuple | exact kd_int_tuple | exact kd_str_tuple | exact kd_lst_tuple | exact kd_tup_tuple)
local macro_rules | `(tactic| walk_at "t_dp") => `(tactic| first | assumption | exact Dp.int _ | exact Dp.bl _ | exact Dp.non | exact Dp.str _ | (refine' Dp.mono ?e ?h; (case h => assumption); (case e => walk_at "t_ex")))
local macro_rules | `(tactic| walk_at "t_w") => `(tactic| first
  | ((with_reducible refine' w_isiD ?h ?e ?_); (case h => walk_at "t_dp"); (case e => walk_at "t_kd"))
  | ((with_reducible refine' w_wholeD ?h ?_); (case h => walk_at "t_dp")))
section
variable {P : Program} {w : World} {K : PySem.W.Frag} {mg : Str → Option Value} {base : Heap} {C cB cR cT cS cF cE : Addr}
theorem c_is_whole (T : Txt K mg) (D : DefAt K mg "is_whole" "is_whole" s_is_whole) : Cal P w K mg base "is_whole" 1 ["n"] (spWholeD K) := by
  refine Cal.of D sc_is_whole (fun vs H Q E h => ?_) (fun _ _ _ _ _ _ us hl => match us, hl with | [_], _ => rfl) (fun f cdv A outer s H vs Q E hr h => ?_)
  · obtain ⟨v, d, rfl, _⟩ := h; rfl
  · obtain ⟨v, d, rfl, h, k⟩ := h
    have hu : _ + 64 < cLine := hr.units
    refine ⟨_, (pss_one (ps_ret (pe_and (pe_callB (call_isiK' (K := K) rfl) (by rfl) T.b_isinstance (by decide +kernel) (pa_cons (pv 0) (pa_cons (pe_bltn (v := .ty "int") (by rfl) T.b_int (by decide +kernel) rfl) pa_nil))) (pe_and (pe_not (pe_callB (call_isiK' (K := K) rfl) (by rfl) T.b_isinstance (by decide +kernel) (pa_cons (pv 0) (pa_cons (pe_bltn (v := .ty "bool") (by rfl) T.b_bool (by decide +kernel) rfl) pa_nil)))) (pe_one (pe_chain op_lt op_lt (pe_un un_neg (pe_globI rfl T.c_TOO_LONG)) (pv 0) (pe_globI rfl T.c_TOO_LONG))))))), ?_⟩
    cases h with
    | int n =>
      have e : wholeD (.int n) = (decide (-tenK < n) && decide (n < tenK)) := by show (decide (-(10 ^ 60) < n) && decide (n < 10 ^ 60)) = _; rw [p60']
      rw [e] at k
      repeat walk_at "t_w"
      by_cases h1 : -tenK < n
      · rw [decide_eq_true h1] at k ⊢
        repeat walk_at "t_w"
        exact k _ (by walk_at "t_ex")
      · rw [decide_eq_false h1] at k ⊢
        repeat walk_at "t_w"
        exact k _ (by walk_at "t_ex")
    | non => repeat walk_at "t_w"
             exact k _ (by walk_at "t_ex")
    | bl b => repeat walk_at "t_w"
              exact k _ (by walk_at "t_ex")
    | str x => repeat walk_at "t_w"
               exact k _ (by walk_at "t_ex")
    | lst s a =>
      have hd := Dp.lst s a
      repeat walk_at "t_w"
      exact k _ (by walk_at "t_ex")
    | tup s a =>
      have hd := Dp.tup s a
      repeat walk_at "t_w"
      exact k _ (by walk_at "t_ex")
end
section
variable {P : Program} {w : World} {K : PySem.W.Frag} {mg : Str → Option Value} {base : Heap} {C cB cR cT cS cF cE : Addr}
theorem in_kinds (k : Str) : (if false = true then !inV (V.str k) [V.str "number", V.str "box"] else inV (V.str k) [V.str "number", V.str "box"]) = (decide (k = "number") || decide (k = "box")) := by
  rw [if_neg (by decide)]
  show (eqV (V.str "number") (V.str k) || (eqV (V.str "box") (V.str k) || false)) = _
  rw [Bool.or_false]
  have e : ∀ z : Str, eqV (V.str z) (V.str k) = decide (k = z) := fun z => by
    show (z == k) = _
    by_cases h : k = z
    · rw [h, decide_eq_true rfl]; simp
    · rw [decide_eq_false h]; simpa using fun q : z = k => h q.symm
  rw [e, e]
theorem c_is_thing (T : Txt K mg) (D : DefAt K mg "is_thing" "is_thing" s_is_thing) (c_is_whole : Cal P w K mg base "is_whole" 1 ["n"] (spWholeD K)) : Cal P w K mg base "is_thing" 2 ["thing"] (spThingD K) := by
  refine Cal.of D sc_is_thing (fun vs H Q E h => ?_) (fun _ _ _ _ _ _ us hl => match us, hl with | [_], _ => rfl) (fun f cdv A outer s H vs Q E hr h => ?_)
  · obtain ⟨v, d, rfl, _⟩ := h; rfl
  · obtain ⟨v, d, rfl, h, k⟩ := h
    have hu : _ + 64 < cLine := hr.units
    refine ⟨_, (pss_cons (ps_if (PW.pt (pw_or (pt_not (pt_val (pe_callB (call_isiK' (K := K) rfl) (by rfl) T.b_isinstance (by decide +kernel) (pa_cons (pv 0) (pa_cons (pe_bltn (v := .ty "tuple") (by rfl) T.b_tuple (by decide +kernel) rfl) pa_nil))))) (pw_or1 (pt_cmpR (op_neK (K := K) rfl hu) (pe_callB (call_lenK (K := K) rfl) (by rfl) T.b_len (by decide +kernel) (pa_cons (pv 0) pa_nil)) pe_int (nomark _))))) (pss_one (ps_ret pe_bl)) pss_nil)
      (pss_cons (ps_asg (pv 0) (pg_tupK (K := K) rfl rfl (pgs_cons (pg_name (i := 1) sc_is_thing.nd rfl (Or.inl rfl)) (pgs_cons (pg_name (i := 2) sc_is_thing.nd rfl (Or.inl rfl)) pgs_nil))))
      (pss_one (ps_ret (pe_and (pe_callB (call_isiK' (K := K) rfl) (by rfl) T.b_isinstance (by decide +kernel) (pa_cons (pv 1) (pa_cons (pe_bltn (v := .ty "str") (by rfl) T.b_str (by decide +kernel) rfl) pa_nil))) (pe_and (pe_cmpR (op_inK (K := K) rfl) (pv 1) (pe_tup (pa_cons pe_str (pa_cons pe_str pa_nil))) (by rfl)) (pe_one (pe_callC c_is_whole (hr.mono (by decide)) rfl (pa_cons (pv 2) pa_nil))))))))), ?_⟩
    cases h with
    | int n => repeat walk_at "t_w"
               exact k _ (by walk_at "t_ex")
    | non => repeat walk_at "t_w"
             exact k _ (by walk_at "t_ex")
    | bl b => repeat walk_at "t_w"
              exact k _ (by walk_at "t_ex")
    | str x => repeat walk_at "t_w"
               exact k _ (by walk_at "t_ex")
    | lst s a =>
      have hd := Dp.lst s a
      repeat walk_at "t_w"
      exact k _ (by walk_at "t_ex")
    | tup s a =>
      have hd := Dp.tup s a
      cases a with
      | nil =>
        repeat walk_at "t_w"
        exact k _ (by walk_at "t_ex")
      | cons h1 a =>
        cases a with
        | nil =>
          rename_i v1 d1
          have hl : ¬ ((([v1].length : Nat) : Int) = 2) := by simp only [List.length_cons, List.length_nil]; omega
          have e : thingD (.tuple [d1]) = false := by cases d1 <;> rfl
          rw [e] at k
          repeat walk_at "t_w"
          exact k _ (by walk_at "t_ex")
        | cons h2 a =>
          cases a with
          | cons h3 a =>
            rename_i v1 d1 v2 d2 v3 vs3 d3 ds3
            have hl : ¬ ((((v1 :: v2 :: v3 :: vs3).length : Nat) : Int) = 2) := by simp only [List.length_cons]; omega
            have e : thingD (.tuple (d1 :: d2 :: d3 :: ds3)) = false := by cases d1 <;> rfl
            rw [e] at k
            repeat walk_at "t_w"
            exact k _ (by walk_at "t_ex")
          | nil =>
            rename_i v1 d1 v2 d2
            repeat walk_at "t_w"
            refine w_negN rfl ?_
            repeat walk_at "t_w"
            cases h1 with
            | str z =>
              repeat walk_at "t_w"
              rename_i q hq
              refine w_inTup (SqT.of upd_same) rfl rfl ?_
              rw [in_kinds]
              have e : thingD (.tuple [.str z, d2]) = ((decide (z = "number") || decide (z = "box")) && wholeD d2) := rfl
              rw [e] at k
              cases hz : (decide (z = "number") || decide (z = "box")) with
              | false =>
                rw [hz] at k
                repeat walk_at "t_w"
                exact k _ (by walk_at "t_ex")
              | true =>
                rw [hz] at k
                repeat walk_at "t_w"
                exact k _ (by walk_at "t_ex")
            | int n => repeat walk_at "t_w"
                       exact k _ (by walk_at "t_ex")
            | non => repeat walk_at "t_w"
                     exact k _ (by walk_at "t_ex")
            | bl b => repeat walk_at "t_w"
                      exact k _ (by walk_at "t_ex")
            | lst s1 a1 =>
              have hd1 := Dp.lst s1 a1
              repeat walk_at "t_w"
              exact k _ (by walk_at "t_ex")
            | tup s1 a1 =>
              have hd1 := Dp.tup s1 a1
              repeat walk_at "t_w"
              exact k _ (by walk_at "t_ex")
end
section
variable {P : Program} {w : World} {K : PySem.W.Frag} {mg : Str → Option Value} {base : Heap} {C cB cR cT cS cF cE : Addr}
theorem not_all_thing {ds : List PyData} {j : Nat} {d : PyData} (h : ds[j]? = some d) (e : thingD d = false) : ds.all thingD = false := by
  cases q : ds.all thingD with
  | false => rfl
  | true => rw [List.all_eq_true.mp q d (List.mem_of_getElem? h)] at e; cases e
theorem c_words_of (T : Txt K mg) (R : RmT6 K mg C cB cR cT cS cF cE) (D : DefAt K mg "words_of" "words_of" s_words_of) (c_is_thing : Cal P w K mg base "is_thing" 2 ["thing"] (spThingD K)) (c_link_word : Cal P w K mg base "link_word" 1 ["place"] (spI1 gLink)) (c_number_word : Cal P w K mg base "number_word" 1 ["n"] (spI1 gNumber)) :
    CalX P w K mg base "words_of" 3 ["things", "places"] (spWordsD K cB cT) := by
  refine CalX.of D sc_words_of (fun vs H Q E h => ?_) (fun _ _ _ _ _ _ us hl => match us, hl with | [_, _], _ => rfl) (fun f cdv A outer s H vs Q E hr h => ?_)
  · obtain ⟨l, q, ws, ds, js, rfl, _⟩ := h; rfl
  · obtain ⟨l, q, ws, ds, js, rfl, hL, hA, hl, hQ, kt, kk⟩ := h
    have hu : _ + 64 < cLine := hr.units
    have hwl := dpAll_len hA
    refine ⟨_, (pss_cons (ps_for (passes_of rfl) rfl (pi_listK (K := K) rfl (pv 0)) (pg_name (i := 2) sc_words_of.nd rfl (Or.inl rfl)) (pss_one (ps_if (pt_not (pt_val (pe_callC c_is_thing (hr.mono (by decide)) rfl (pa_cons (pv 2) pa_nil)))) (pss_one (ps_raise rfl (takes_of rfl rfl rfl rfl) (pmk_own PySem.F.excBase_ValueError R.xBadThing.xc R.xBadThing.g R.xBadThing.k (raises_own R.xBadThing.b R.xBadThing.t) rfl))) pss_nil)))
      (pss_cons (ps_for (passes_of rfl) rfl (pi_listK (K := K) rfl (pv 0)) (pg_tupK (K := K) rfl rfl (pgs_cons (pg_name (i := 3) sc_words_of.nd rfl (Or.inl rfl)) (pgs_cons (pg_name (i := 4) sc_words_of.nd rfl (Or.inl rfl)) pgs_nil))) (pss_one (ps_if (PW.pt (pw_and (pt_cmpR (op_eqK (K := K) rfl hu) (pv 3) pe_str (nomark _)) (pw_and1 (pt_cmpR (op_notInK (K := K) rfl) (pv 4) (pv 1) (by rfl))))) (pss_one (ps_raise rfl (takes_of rfl rfl rfl rfl) (pmk_own PySem.F.excBase_ValueError R.xNoBox.xc R.xNoBox.g R.xNoBox.k (raises_own R.xNoBox.b R.xNoBox.t) rfl))) pss_nil)))
      (pss_one (ps_ret (pe_lc (own := [("kind", 3), ("n", 4)]) (g := (gTup K 2 (gCons (gName 3) (gCons (gName 4) gNil)))) rfl sc_words_of.nd (pi_listK (K := K) rfl (pv 0)) (blkOk_by (own := [("kind", 3), ("n", 4)]) (N := ["things", "places", "thing", "kind", "n"]) (sc := defScope s_words_of) (by decide +kernel)) (fun _ _ _ _ _ => (pg_tupK (K := K) rfl rfl (pgs_cons (pg_name (i := 3) sc_words_of.nd rfl (Or.inl rfl)) (pgs_cons (pg_name (i := 4) sc_words_of.nd rfl (Or.inl rfl)) pgs_nil)))) (fun _ _ _ _ _ => pts_nil) (fun _ _ _ _ _ => (pe_ifExp (pt_cmpR (op_eqK (K := K) rfl hu) (pv 3) pe_str (nomark _)) (pe_callC c_link_word (hr.mono (by decide)) rfl (pa_cons (pv 4) pa_nil)) (pe_callC c_number_word (hr.mono (by decide)) rfl (pa_cons (pv 4) pa_nil))))))))), ?_⟩
    repeat walk_at "t_w"
    refine loopL (xs := ws) (fun j σ' H' => ∃ (y : Option V), σ' = [some (.ref l), some (.ref q), y, none, none] ∧ Ex H H' ∧ (ds.take j).all thingD = true) ?_ ?_ ?_ ?_
    · exact ⟨none, rfl, Evl.Ex.refl _, rfl⟩
    · rintro j σ' H' _ ⟨y, rfl, hE, _⟩
      exact ex_l hE hL
    · rintro j x σ' H' hj ⟨y, rfl, hE, hall⟩
      obtain ⟨d, hd, hp⟩ := dpAll_get hA hj
      repeat walk_at "t_w"
      refine w_thingD (Dp.mono hE hp) fun H2 e2 => ?_
      cases ht : thingD d with
      | false =>
        repeat walk_at "t_w"
        exact kt (not_all_thing hd ht) _ (by walk_at "t_ex")
      | true =>
        repeat walk_at "t_w"
        refine ⟨_, rfl, by walk_at "t_ex", ?_⟩
        rw [take_snoc hd, List.all_append, hall]
        simp [ht]
    · rintro σ' H' ⟨y, rfl, hE, hall⟩
      rw [hwl, List.take_length] at hall
      obtain ⟨ps, rfl, hok⟩ := things_pt hall
      obtain ⟨kb, kr⟩ := kk ps rfl hok
      rw [List.length_map] at hl hwl
      have hget : ∀ {j : Nat} {x : V}, ws[j]? = some x → ∃ p, ps[j]? = some p ∧ ∃ a, x = .ref a ∧ SqT K H a p.vals := fun {j x} hj => by
        obtain ⟨d, hd, hp⟩ := dpAll_get hA hj
        rw [List.getElem?_map] at hd
        cases e : ps[j]? with
        | none => rw [e] at hd; cases hd
        | some p => rw [e] at hd; cases hd; exact ⟨p, rfl, dp_pt hp⟩
      repeat walk_at "t_w"
      refine loopL (xs := ws) (fun j σ' H' => ∃ (y3 y4 : Option V), σ' = [some (.ref l), some (.ref q), y, y3, y4] ∧ Ex H H' ∧ ∀ p ∈ ps.take j, p.1 = true → p.2 ∈ js) ?_ ?_ ?_ ?_
      · exact ⟨none, none, rfl, hE, fun p hp => by simp at hp⟩
      · rintro j σ' H' _ ⟨y3, y4, rfl, hE2, _⟩
        exact ex_l hE2 hL
      · rintro j x σ' H2 hj ⟨y3, y4, rfl, hE2, hall2⟩
        obtain ⟨⟨b, n⟩, hp, a, rfl, ha⟩ := hget hj
        have ha : SqT K H a [.str (if b = true then "box" else "number"), .int n] := ha
        have hps : ∀ (h : b = true → n ∈ js), ∀ p ∈ ps.take (j + 1), p.1 = true → p.2 ∈ js := by
          intro h p hpm hb
          rw [take_snoc hp] at hpm
          rcases List.mem_append.mp hpm with e | e
          · exact hall2 p e hb
          · rw [List.mem_singleton.mp e] at hb ⊢
            exact h hb
        cases b with
        | false =>
          rw [if_neg (by decide)] at ha
          repeat walk_at "t_w"
          exact ⟨_, _, rfl, hE2, hps fun z => by cases z⟩
        | true =>
          rw [if_pos rfl] at ha
          repeat walk_at "t_w"
          refine w_iteN (fun hn => ?_) (fun hn => ?_)
          · repeat walk_at "t_w"
            exact kb ⟨(true, n), List.mem_of_getElem? hp, rfl, hn⟩ _ hE2
          · repeat walk_at "t_w"
            exact ⟨_, _, rfl, hE2, hps fun _ => hn⟩
      · rintro σ' H2 ⟨y3, y4, rfl, hE2, hall2⟩
        rw [hwl, List.take_length] at hall2
        repeat walk_at "t_w"
        refine w_lc ?_
        repeat walk_at "t_w"
        refine lcjL (xs := ws) (Evl.Cw H2 (fun _ => true) (fun i => V.int ((ps.getD i (false, 0)).word))) ?_ ?_ ?_ ?_
        · exact fun Dl hD => ⟨hD, Evl.Ex.new hD, upd_same⟩
        · exact fun Dl i H' _ p => ex_l (hE2.trans p.2.1) hL
        · intro Dl i x H6 hDl hx pp
          obtain ⟨⟨b, n⟩, hp, a, rfl, ha⟩ := hget hx
          have ha : SqT K H a [.str (if b = true then "box" else "number"), .int n] := ha
          have hil := (List.getElem?_eq_some_iff.mp hx).1
          have ew : (ps.getD i (false, 0)).word = PT.word (b, n) := by rw [List.getD_eq_getElem?_getD, hp]; rfl
          have ha6 : SqT K H6 a [.str (if b = true then "box" else "number"), .int n] := ex_t (hE2.trans pp.2.1) ha
          refine w_gTup ha6 rfl ?_
          repeat walk_at "t_w"
          refine ⟨rfl, Evl.cw_turn pp (by omega) ?_ ?_⟩
          · walk_at "t_ev"
          · intro _ H7 e7 Q7 q7
            rw [ew] at q7
            cases b with
            | false =>
              repeat walk_at "t_w"
              exact q7 _ (by walk_at "t_ex")
            | true =>
              repeat walk_at "t_w"
              exact q7 _ (by walk_at "t_ex")
        · intro Dl H6 hDl pp
          obtain ⟨p1, p2, p3⟩ := pp
          have eg : Evl.given ws.length (fun _ => true) (fun i => V.int ((ps.getD i (false, 0)).word)) = (ps.map PT.word).map V.int := by
            rw [given_all, hwl]
            apply List.ext_getElem?
            intro i
            rw [List.getElem?_map, List.getElem?_map, List.getElem?_map]
            by_cases hi : i < ps.length
            · rw [List.getElem?_eq_getElem (by simpa using hi), List.getElem_range, List.getElem?_eq_getElem hi]
              show some (V.int _) = some (V.int _)
              rw [List.getD_eq_getElem?_getD, List.getElem?_eq_getElem hi]; rfl
            · rw [List.getElem?_eq_none (by simpa using hi), List.getElem?_eq_none (by omega)]; rfl
          rw [eg] at p3
          exact kr hall2 _ _ (by walk_at "t_none") (hE2.trans p2) p3
end
end Tw

set_option Elab.async false
set_option linter.all false
set_option maxRecDepth 100000
set_option maxHeartbeats 4000000
namespace Tw
open PySem PySem.Spec PyProof.Rows L2
open Evl (Ex ex_l ex_t fresh_back sz_of sz_lt)
local macro_rules | `(tactic| walk_at "t_hp") => `(tactic| first
  | assumption
  | exact upd_same
  | (refine' hp_ne ?hne ?hrest; (case hne => walk_at "t_ne"); (case hrest => walk_at "t_hp"))
  | (refine' hp_ex ?hx ?hrest; (case hx => assumption); (case hrest => walk_at "t_hp")))
local macro_rules | `(tactic| walk_at "t_ne") => `(tactic| first
  | assumption
  | exact Ne.symm (by assumption)
  | (refine' ne_of_none ?h1 ?h2; (case h2 => assumption); (case h1 => walk_at "t_hp"))
  | (refine' Ne.symm (ne_of_none ?h1 ?h2); (case h2 => assumption); (case h1 => walk_at "t_hp")))
local macro_rules | `(tactic| walk_at "t_none") => `(tactic| first
  | assumption
  | (refine' fresh_back ?e ?n; (case n => assumption); (case e => walk_at "t_ex")))
local macro_rules | `(tactic| walk_at "t_ex") => `(tactic| first
  | assumption
  | exact Evl.Ex.refl _
  | (refine' ex_new ?n ?e; (case n => assumption); (case e => walk_at "t_ex"))
  | (refine' Evl.Ex.mut ?e ?n; (case n => walk_at "t_none"); (case e => walk_at "t_ex"))
  | (refine' Evl.Ex.trans ?a ?b; (case b => assumption); (case a => walk_at "t_ex")))
local macro_rules | `(tactic| walk_at "t_sq") => `(tactic| first
  | assumption
  | (refine' SqL.of ?h; (case h => walk_at "t_hp"))
  | (refine' ex_l ?e ?s; (case s => assumption); (case e => walk_at "t_ex")))
local macro_rules | `(tactic| walk_at "t_sqt") => `(tactic| first
  | assumption
  | (refine' SqT.of ?h; (case h => walk_at "t_hp"))
  | (refine' ex_t ?e ?s; (case s => assumption); (case e => walk_at "t_ex")))
local macro_rules | `(tactic| walk_at "t_mul") => `(tactic| first
  | assumption
  | exact Or.inl (Or.inl ⟨by decide, by decide⟩)
  | exact Or.inl (Or.inr ⟨by decide, by decide⟩)
  | exact Or.inl (Or.inl ⟨by omega, by omega⟩)
  | exact Or.inl (Or.inr ⟨by omega, by omega⟩))
local macro_rules | `(tactic| walk_at "t_c") => `(tactic| first
  | assumption
  | decide
  | (show (0 : Int) < _; decide)
  | (show (0 : Int) < _; omega)
  | exact ⟨by decide, by decide⟩
  | exact ⟨by decide, by decide, by decide⟩
  | exact ⟨by omega, by omega⟩
  | exact ⟨by omega, by omega, by omega, by omega⟩)
local macro_rules | `(tactic| walk_at "t_w") => `(tactic| first
  | (with_reducible refine w_seq ?_)
  | (with_reducible refine w_asg ?_)
  | (with_reducible refine w_gName ?_)
  | (with_reducible refine w_nx ?_)
  | (with_reducible refine w_rt ?_)
  | (with_reducible refine w_ct ?_)
  | (with_reducible refine w_bk ?_)
  | (with_reducible refine w_ret ?_)
  | (with_reducible refine w_retN ?_)
  | (with_reducible refine w_drop ?_)
  | (with_reducible refine w_ifS ?_)
  | (with_reducible refine w_next ?_)
  | (with_reducible refine w_break ?_)
  | (with_reducible refine w_cont ?_)
  | ((with_reducible refine' w_var ?h ?_); (case h => rfl))
  | (with_reducible refine w_c ?_)
  | (with_reducible refine w_op ?_)
  | (with_reducible refine w_un ?_)
  | (with_reducible refine w_I0 ?_)
  | ((with_reducible refine' w_I ?c ?_); (case c => walk_at "t_c"))
  | (with_reducible refine w_U ?_)
  | (with_reducible refine w_addI ?_)
  | ((with_reducible refine' w_addL ?h1 ?h2 ?hz ?_); (case h1 => walk_at "t_hp"); (case h2 => walk_at "t_hp"); (case hz => walk_at "t_z"))
  | ((with_reducible refine' w_mulI ?c ?_); (case c => walk_at "t_mul"))
  | ((with_reducible refine' w_mulL1 ?h1 ?b1 ?b2 ?_); (case h1 => walk_at "t_hp"); (case b1 => walk_at "t_z"); (case b2 => walk_at "t_z"))
  | ((with_reducible refine' w_mulL ?h1 ?b1 ?b2 ?hz ?_); (case h1 => walk_at "t_hp"); (case b1 => walk_at "t_z"); (case b2 => walk_at "t_z"); (case hz => walk_at "t_z"))
  | (with_reducible refine w_notIB ?_)
  | (with_reducible refine w_notBB ?_)
  | (with_reducible refine w_notN ?_)
  | (with_reducible refine w_isBB ?_)
  | (with_reducible refine w_isN ?_)
  | (with_reducible refine w_eqI ?_)
  | (with_reducible refine w_neI ?_)
  | (with_reducible refine w_eqB ?_)
  | (with_reducible refine w_neB ?_)
  | (with_reducible refine w_eqS ?_)
  | (with_reducible refine w_neS ?_)
  | (with_reducible refine w_test ?_)
  | (with_reducible refine w_B ?_)
  | (with_reducible refine w_exB ?_)
  | (with_reducible refine w_and ?_)
  | (with_reducible refine w_or ?_)
  | (with_reducible refine w_not ?_)
  | (with_reducible refine w_andV ?_)
  | (with_reducible refine w_orV ?_)
  | (with_reducible refine w_notV ?_)
  | (with_reducible refine w_bl ?_)
  | (with_reducible refine w_if ?_)
  | (with_reducible refine w_nil ?_)
  | (with_reducible refine w_cons ?_)
  | (with_reducible refine w_cb ?_)
  | (with_reducible refine w_call ?_)
  | (with_reducible refine w_tup ?_)
  | (with_reducible refine w_lst ?_)
  | ((with_reducible refine' w_fin ?hz ?_); (case hz => (simp only [List.length_cons, List.length_nil]; decide)))
  | ((with_reducible refine' w_len ?s ?_); (case s => walk_at "t_sq"))
  | ((with_reducible refine' w_lenT ?s ?_); (case s => walk_at "t_sqt"))
  | (with_reducible refine w_intI ?_)
  | (with_reducible refine w_intB ?_)
  | ((with_reducible refine' w_list ?s ?_); (case s => walk_at "t_sq"))
  | (with_reducible refine w_max ?_)
  | (with_reducible refine w_min ?_)
  | (with_reducible refine w_abs ?_)
  | (with_reducible refine w_sl ?_)
  | (with_reducible refine w_noPart ?_)
  | (with_reducible refine w_part ?_)
  | (with_reducible refine w_exI ?_)
  | ((with_reducible refine' w_slL ?s ?_); (case s => walk_at "t_sq"))
  | ((with_reducible refine' w_ixLI ?s ?b ?_); (case s => walk_at "t_sq"); (case b => walk_at "t_lt"))
  | ((with_reducible refine' w_ixL ?s ?e ?_); (case s => walk_at "t_sq"); (case e => walk_at "t_at"))
  | ((with_reducible refine' w_ixT ?s ?e ?_); (case s => walk_at "t_sqt"); (case e => walk_at "t_at"))
  | (with_reducible refine w_gSub ?_)
  | ((with_reducible refine' w_setLI ?e ?b ?_); (case e => walk_at "t_hp"); (case b => walk_at "t_lt"))
  | ((with_reducible refine' w_setL ?e ?b ?_); (case e => walk_at "t_hp"); (case b => walk_at "t_ixn"))
  | (with_reducible refine w_bm ?_)
  | (with_reducible refine w_bm0 ?_)
  | ((with_reducible refine' w_tyL ?e ?_); (case e => walk_at "t_sq"))
  | ((with_reducible refine' w_app ?e ?hz ?_); (case e => walk_at "t_hp"); (case hz => walk_at "t_z"))
  | (with_reducible refine w_iteT ?_)
  | (with_reducible refine w_iteF ?_)
  | (with_reducible refine w_iteNT ?_)
  | (with_reducible refine w_iteNF ?_)
  | (with_reducible refine w_for ?_)
  | (with_reducible refine w_iList ?_)
  | ((with_reducible refine' w_exL ?s ?_); (case s => walk_at "t_sq"))
  | (with_reducible refine w_iTup ?_)
  | ((with_reducible refine' w_exT ?s ?_); (case s => walk_at "t_sqt"))
  | (with_reducible refine w_iRng1 ?_)
  | ((with_reducible refine w_exR1 ?b ?_); (case b => walk_at "t_c"))
  | (with_reducible refine w_iRng2 ?_)
  | ((with_reducible refine w_exR2 ?b ?_); (case b => walk_at "t_c"))
  | (with_reducible refine w_yes ?_)
  | ((with_reducible refine w_pos ?p ?_); (case p => walk_at "t_p"))
  | ((with_reducible refine w_neg ?p ?_); (case p => walk_at "t_p"))
  | ((with_reducible refine w_posN ?p ?_); (case p => walk_at "t_p"))
  | ((with_reducible refine w_negN ?p ?_); (case p => walk_at "t_p"))
  | ((with_reducible refine' w_notInL ?s ?_); (case s => walk_at "t_sq"))
  | ((with_reducible refine' w_inL ?s ?_); (case s => walk_at "t_sq"))
  | ((with_reducible refine' w_sum ?s ?_); (case s => walk_at "t_sq"))
  | (with_reducible refine w_isiI ?_)
  | ((with_reducible refine' w_isiL ?e ?_); (case e => walk_at "t_ty"))
  | ((with_reducible refine' w_isiT ?e ?_); (case e => walk_at "t_ty"))
  | (with_reducible intro p hp_new))
local macro_rules | `(tactic| walk_at "t_ty") => `(tactic| first | assumption | (refine' tyx_l ?e; (case e => walk_at "t_hp")) | (refine' tyx_t ?e; (case e => walk_at "t_hp")))
local macro_rules | `(tactic| walk_at "t_z") => `(tactic| first | assumption | decide | omega | (simp only [List.length_cons, List.length_nil, List.length_map, List.length_append, List.length_replicate]; first | done | decide | omega))
local macro_rules | `(tactic| walk_at "t_at") => `(tactic| first | assumption | rfl)
local macro_rules | `(tactic| walk_at "t_ixn") => `(tactic| first | assumption | rfl)
local macro_rules | `(tactic| walk_at "t_ev") => `(tactic| (intro H1 e Q q; (repeat walk_at "t_w"); exact q _ (by walk_at "t_ex")))
local macro_rules | `(tactic| walk_at "t_p") => `(tactic| first | assumption | decide | decide +kernel)
local macro_rules | `(tactic| walk_at "t_lt") => `(tactic| first | assumption | omega | (simp only [List.length_set, List.length_map, List.length_append]; first | assumption | omega))
local macro_rules | `(tactic| walk_at "t_w") => `(tactic| first
  | ((with_reducible refine' w_at ?s ?hl ?h0 ?_); (case s => walk_at "t_sq"); (case hl => walk_at "t_z"); (case h0 => walk_at "t_z"))
  | (with_reducible refine w_isInt ?_)
  | (with_reducible refine w_I1 ?_)
  | (with_reducible refine w_Head ?_)
  | ((with_reducible refine' w_number ?hb ?_); (case hb => walk_at "t_bits")))
local macro_rules | `(tactic| walk_at "t_bits") => `(tactic| assumption)
local macro_rules | `(tactic| walk_at "t_w") => `(tactic| first
  | (with_reducible refine w_tru ?_)
  | ((with_reducible refine' w_truL ?s ?_); (case s => walk_at "t_sq"))
  | (with_reducible refine w_dnew ?_)
  | (with_reducible refine w_disp1 ?_)
  | ((with_reducible refine' w_aug ?e ?_); (case e => rfl))
  | (with_reducible refine w_ipI ?_)
  | ((with_reducible refine' w_inD ?e ?_); (case e => walk_at "t_hp"))
  | ((with_reducible refine' w_notInD ?e ?_); (case e => walk_at "t_hp"))
  | (with_reducible refine w_dget ?_)
  | ((with_reducible refine' w_dgetE ?e ?hv ?_); (case e => walk_at "t_hp"); (case hv => walk_at "t_dv"))
  | (with_reducible refine w_dput ?_)
  | ((with_reducible refine' w_dputE ?e ?hl ?_); (case e => walk_at "t_hp"); (case hl => walk_at "t_z"))
  | ((with_reducible refine' w_extend ?e1 ?e2 ?hz ?_); (case e1 => walk_at "t_hp"); (case e2 => walk_at "t_hp"); (case hz => walk_at "t_z")))
local macro_rules | `(tactic| walk_at "t_dv") => `(tactic| assumption)
local macro_rules | `(tactic| walk_at "t_hp") => `(tactic| first
  | (with_reducible refine hp_off0 ?_; walk_at "t_hp")
  | ((with_reducible refine' hp_off1 ?hne ?hrest); (case hne => walk_at "t_ne"); (case hrest => walk_at "t_hp")))
local macro_rules | `(tactic| walk_at "t_w") => `(tactic| first
  | (with_reducible refine w_fld ?_)
  | ((with_reducible refine' w_fldE ?e ?c ?n ?l ?_); (case e => walk_at "t_hp"); (case c => assumption); (case n => assumption); (case l => rfl))
  | (with_reducible refine w_sfld ?_)
  | ((with_reducible refine' w_sfldE ?e ?c ?n ?l ?_); (case e => walk_at "t_hp"); (case c => assumption); (case n => assumption); (case l => first | decide | (show 1 < 1000; decide) | (show 2 < 1000; decide)))
  | (with_reducible refine w_setSl ?_)
  | (with_reducible refine w_make ?_)
  | ((with_reducible refine' w_gfld0 ?hv ?e ?c ?n ?l ?_); (case hv => rfl); (case e => walk_at "t_hp"); (case c => assumption); (case n => assumption); (case l => first | decide | (show 1 < 1000; decide) | (show 2 < 1000; decide)))
  | (with_reducible refine w_meth ?_)
  | (with_reducible refine w_methX ?_)
  | ((with_reducible refine' w_methE ?e ?l ?_); (case e => walk_at "t_hp"); (case l => rfl))
  | (with_reducible refine w_chain ?_)
  | ((with_reducible refine' w_gTup ?s ?l ?_); (case s => walk_at "t_sqt"); (case l => rfl))
  | (with_reducible refine w_gCons ?_)
  | (with_reducible refine w_gNil ?_)
  | (with_reducible refine w_star ?_)
  | ((with_reducible refine' w_starL ?s ?_); (case s => walk_at "t_sq"))
  | (with_reducible refine w_isiIB ?_)
  | (with_reducible refine w_isiS ?_))
abbrev s_thing_of : Stmt := topS 25
theorem sc_thing_of : FnScope ["word"] ["word"] (defScope s_thing_of) := ⟨rfl, rfl, rfl, by decide +kernel, rfl, by decide +kernel, by decide +kernel⟩

abbrev s_Room___init : Stmt := inClass (topS 26) 0
theorem sc_Room___init : FnScope ["self", "size", "doors"] ["self", "size", "doors"] (defScope s_Room___init) := ⟨rfl, rfl, rfl, by decide +kernel, rfl, by decide +kernel, by decide +kernel⟩

abbrev s_Room_made : Stmt := inClass (topS 26) 1
theorem sc_Room_made : FnScope ["self", "things", "words", "place", "behind"] ["self", "things"] (defScope s_Room_made) := ⟨rfl, rfl, rfl, by decide +kernel, rfl, by decide +kernel, by decide +kernel⟩

abbrev s_Room_put : Stmt := inClass (topS 26) 2
theorem sc_Room_put : FnScope ["self", "place", "field", "thing", "words"] ["self", "place", "field", "thing"] (defScope s_Room_put) := ⟨rfl, rfl, rfl, by decide +kernel, rfl, by decide +kernel, by decide +kernel⟩

abbrev s_Room_told : Stmt := inClass (topS 26) 3
theorem sc_Room_told : FnScope ["self", "place", "word"] ["self", "place"] (defScope s_Room_told) := ⟨rfl, rfl, rfl, by decide +kernel, rfl, by decide +kernel, by decide +kernel⟩

abbrev s_Room_places : Stmt := inClass (topS 26) 4
theorem sc_Room_places : FnScope ["self"] ["self"] (defScope s_Room_places) := ⟨rfl, rfl, rfl, by decide +kernel, rfl, by decide +kernel, by decide +kernel⟩

abbrev s_Room_used : Stmt := inClass (topS 26) 7
theorem sc_Room_used : FnScope ["self"] ["self"] (defScope s_Room_used) := ⟨rfl, rfl, rfl, by decide +kernel, rfl, by decide +kernel, by decide +kernel⟩

abbrev s_Room_cells : Stmt := inClass (topS 26) 8
theorem sc_Room_cells : FnScope ["self"] ["self"] (defScope s_Room_cells) := ⟨rfl, rfl, rfl, by decide +kernel, rfl, by decide +kernel, by decide +kernel⟩

abbrev s_Room__require_box : Stmt := inClass (topS 26) 9
theorem sc_Room__require_box : FnScope ["self", "place"] ["self", "place"] (defScope s_Room__require_box) := ⟨rfl, rfl, rfl, by decide +kernel, rfl, by decide +kernel, by decide +kernel⟩

local macro_rules | `(tactic| walk_at "t_kd") => `(tactic| with_reducible first | exact kd_non_int | exact kd_bl_int | exact kd_int_int | exact kd_str_int | exact kd_lst_int | exact kd_tup_int | exact kd_non_bool | exact kd_bl_bool | exact kd_int_bool | exact kd_str_bool | exact kd_lst_bool | exact kd_tup_bool | exact kd_non_str | exact kd_bl_str | exact kd_int_str | exact kd_str_str | exact kd_lst_str | exact kd_tup_str | exact kd_non_tuple | exact kd_bl_tuple | exact kd_int_tuple | exact kd_str_tuple | exact kd_lst_tuple | exact kd_tup_tuple)
local macro_rules | `(tactic| walk_at "t_dp") => `(tactic| first | assumption | exact Dp.int _ | exact Dp.bl _ | exact Dp.non | exact Dp.str _ | (refine' Dp.mono ?e ?h; (case h => assumption); (case e => walk_at "t_ex")))
local macro_rules | `(tactic| walk_at "t_w") => `(tactic| first
  | ((with_reducible refine' w_isiD ?h ?e ?_); (case h => walk_at "t_dp"); (case e => walk_at "t_kd"))
  | ((with_reducible refine' w_wholeD ?h ?_); (case h => walk_at "t_dp")))
def spThingOf : Sp := fun vs H Q _ => ∃ z : Int, vs = [.int z] ∧ ∀ a H2, H a = none → Ex H H2 → H2 a = some (.tup [.str (if z % 2 = 1 then "box" else "number"), .int (z / 2)]) → Q (.ref a) H2
theorem w_thingOf {H : Hp} {Q : VK} {E : XK} {z : Int} (k : ∀ a H2, H a = none → Ex H H2 → H2 a = some (.tup [.str (if z % 2 = 1 then "box" else "number"), .int (z / 2)]) → Q (.ref a) H2) : spThingOf ([.int z] ++ []) H Q E := ⟨z, rfl, k⟩

def boxD (bs : List (List Thing)) (d : PyData) : Prop := ∃ n, d = .int n ∧ n ∈ asI (places bs)
def spReqD (C cB : Addr) (K : PySem.W.Frag) : Sp := fun vs H Q E => ∃ (x r : Addr) (bs : List (List Thing)) (sp : Nat) (v : V) (d : PyData), vs = [.ref x, v] ∧ RoomAt C H x r bs sp ∧ Dp K H v d ∧
  (¬ boxD bs d → ∀ H', Ex H H' → E (.ref cB) none H') ∧ (boxD bs d → Evl.RetV .non H Q)
def spToldD (C cB : Addr) (K : PySem.W.Frag) : Sp := fun vs H Q E => ∃ (x r : Addr) (bs : List (List Thing)) (sp : Nat) (v : V) (d : PyData), vs = [.ref x, v] ∧ RoomAt C H x r bs sp ∧ Dp K H v d ∧
  (¬ boxD bs d → ∀ H', Ex H H' → E (.ref cB) none H') ∧
  ∀ (i : Nat) (fs : List Thing), d = .int ((pl bs i : Nat) : Int) → bs[i]? = some fs → ∀ l ws H2, H l = none → Ex H H2 → H2 l = some (.lst ws) → All2 (HandAt H2 bs) ws fs → Q (.ref l) H2
def spPutD (C cB cT cF : Addr) (K : PySem.W.Frag) : Sp := fun vs H Q E => ∃ (x r : Addr) (bs : List (List Thing)) (sp : Nat) (vp vf vt : V) (dp df dt : PyData), vs = [.ref x, vp, vf, vt] ∧ RoomAt C H x r bs sp ∧ Dp K H vp dp ∧ Dp K H vf df ∧ Dp K H vt dt ∧
  (¬ boxD bs dp → ∀ H', Ex H H' → E (.ref cB) none H') ∧
  ∀ (i : Nat) (fs : List Thing), dp = .int ((pl bs i : Nat) : Int) → bs[i]? = some fs →
    ((¬ ∃ j : Nat, df = .int (j : Int) ∧ j < fs.length) → ∀ H', Ex H H' → E (.ref cF) none H') ∧
    ∀ j : Nat, df = .int (j : Int) → j < fs.length →
      (thingD dt = false → ∀ H', Ex H H' → E (.ref cT) none H') ∧
      ∀ p : PT, dt = p.data → p.ok → (p.1 = true → p.2 ∉ asI (places bs) → ∀ H', Ex H H' → E (.ref cB) none H') ∧
        ∀ t : Thing, p = t.pt bs → t.ok bs.length → ∀ H2, Ex (off [x, r] H) H2 → RoomAt C H2 x r (bs.set i (fs.set j t)) sp → Q .non H2
def spMadeD (C cB cR cT : Addr) (K : PySem.W.Frag) : Sp := fun vs H Q E => ∃ (x r l : Addr) (bs : List (List Thing)) (sp : Nat) (ws : List V) (ds : List PyData), vs = [.ref x, .ref l] ∧ RoomAt C H x r bs sp ∧ SqL K H l ws ∧ DpAll K H ws ds ∧ ds.length ≤ 1000 ∧
  (ds.all thingD = false → ∀ H', Ex H H' → E (.ref cT) none H') ∧
  ∀ ps : List PT, ds = ps.map PT.data → (∀ p ∈ ps, p.ok) → ((∃ p ∈ ps, p.1 = true ∧ p.2 ∉ asI (places bs)) → ∀ H', Ex H H' → E (.ref cB) none H') ∧
    ((∀ p ∈ ps, p.1 = true → p.2 ∈ asI (places bs)) → sp < 1 + ps.length → ∀ H', Ex H H' → E (.ref cR) none H') ∧
    (∀ fs : List Thing, ps = fs.map (Thing.pt bs) → (∀ t ∈ fs, t.ok bs.length) → 1 + fs.length ≤ sp → ∀ H2, Ex (off [x, r] H) H2 → RoomAt C H2 x r (bs ++ [fs]) (sp - (1 + fs.length)) → Q (.int ((cells bs : Nat) : Int)) H2)
def sizedD : PyData → PyData → Bool
  | .int z, .int d => decide (1 ≤ z ∧ z ≤ 400 ∧ 0 ≤ d ∧ d ≤ 20 ∧ d < z)
  | _, _ => false
theorem sized_int {d1 d2 : PyData} (h : sizedD d1 d2 = true) : ∃ z d : Nat, d1 = .int (z : Int) ∧ d2 = .int (d : Int) ∧ 1 ≤ z ∧ z ≤ 400 ∧ d ≤ 20 ∧ d < z := by
  unfold sizedD at h
  split at h
  · rename_i z d
    have h := of_decide_eq_true h
    exact ⟨z.toNat, d.toNat, by rw [Int.toNat_of_nonneg (by omega)], by rw [Int.toNat_of_nonneg (by omega)], by omega, by omega, by omega, by omega⟩
  · cases h
theorem sized_no {d1 d2 : PyData} (h : ∀ z d : Int, d1 = .int z → d2 = .int d → ¬ (1 ≤ z ∧ z ≤ 400 ∧ 0 ≤ d ∧ d ≤ 20 ∧ d < z)) : sizedD d1 d2 = false := by
  unfold sizedD
  split
  · rename_i z d
    exact decide_eq_false (h z d rfl rfl)
  · rfl
def spInitD (C cS : Addr) (K : PySem.W.Frag) : Sp := fun vs H Q E => ∃ (x dx : Addr) (v1 v2 : V) (d1 d2 : PyData), vs = [.ref x, v1, v2] ∧ H x = some (.ins C dx []) ∧ Dp K H v1 d1 ∧ Dp K H v2 d2 ∧
  (sizedD d1 d2 = false → ∀ H', Ex H H' → E (.ref cS) none H') ∧
  ∀ z d : Nat, d1 = .int (z : Int) → d2 = .int (d : Int) → 1 ≤ z → z ≤ 400 → d ≤ 20 → d < z → ∀ r H2, H r = none → Ex (off [x] H) H2 → RoomAt C H2 x r [List.replicate d (.num 0)] (z - d - 1) → Q .non H2
theorem w_js3 {σ : L2.St} {H : Hp} {s1 s2 : Str} {i : Int} {F : Hp → Prop} (h1 : (Str.empty ++ s1).length ≤ 100000) (hi : i.natAbs.log2 < 1920) (h2 : ((Str.empty ++ s1) ++ Str.ofString (toString i)).length ≤ 100000)
    (h3 : (((Str.empty ++ s1) ++ Str.ofString (toString i)) ++ s2).length ≤ 100000) (h : F H) : tJs [tC (.str s1), tFmt (tC (.int i)), tC (.str s2)] Str.empty σ H fun _ H1 => F H1 :=
  ⟨s1, rfl, sz_of h1, Or.inr ⟨i, rfl, hi, _, rfl, sz_of h2, s2, rfl, sz_of h3, h⟩⟩
theorem w_reqD {C cB x r : Addr} {K : PySem.W.Frag} {H : Hp} {Q : VK} {E : XK} {bs : List (List Thing)} {sp : Nat} {v : V} {d : PyData} (R : RoomAt C H x r bs sp) (h : Dp K H v d) (kb : ¬ boxD bs d → ∀ H', Ex H H' → E (.ref cB) none H') (k : boxD bs d → ∀ H2, Ex H H2 → Q .non H2) :
    spReqD C cB K (.ref x :: ([v] ++ [])) H Q E := ⟨x, r, bs, sp, v, d, rfl, R, h, kb, k⟩
section
variable {P : Program} {w : World} {K : PySem.W.Frag} {mg : Str → Option Value} {base : Heap} {C cB cR cT cS cF cE : Addr}
theorem row_new {z d : Nat} (h : d < z) : [V.int (4 * (d : Int))] ++ List.replicate (z - 1) (V.int 0) = (rowAt [List.replicate d (Thing.num 0)] (z - d - 1)).map V.int := by
  have e : rowAt [List.replicate d (Thing.num 0)] (z - d - 1) = (4 * (d : Int)) :: List.replicate (z - 1) 0 := by
    unfold rowAt rowOf
    rw [List.flatMap_cons, List.flatMap_nil, List.append_nil]
    unfold boxRow
    rw [List.length_replicate, List.map_replicate, List.cons_append]
    congr 1
    show List.replicate d (2 * 0) ++ List.replicate (z - d - 1) 0 = _
    rw [show (2 * 0 : Int) = 0 from rfl, List.replicate_append_replicate]
    congr 1
    omega
  rw [e, List.map_cons, List.map_replicate]; rfl
theorem RowOk.new {z d : Nat} (h : d < z) (hz : z ≤ 400) : RowOk [List.replicate d (Thing.num 0)] (z - d - 1) := by
  refine ⟨Nat.le_refl _, ?_, fun fs hf t ht => ?_⟩
  · rw [cells_cons, List.length_replicate]; show 1 + d + 0 + _ ≤ _; omega
  · rw [List.mem_singleton.mp hf] at ht
    rw [List.eq_of_mem_replicate ht]
    show -(10 ^ 60) < (0 : Int) ∧ (0 : Int) < 10 ^ 60
    rw [p60']; decide
theorem pt_things {bs : List (List Thing)} : ∀ {ps : List PT}, (∀ p ∈ ps, p.ok) → (∀ p ∈ ps, p.1 = true → p.2 ∈ asI (places bs)) → ∃ fs : List Thing, ps = fs.map (Thing.pt bs) ∧ ∀ t ∈ fs, t.ok bs.length
  | [], _, _ => ⟨[], rfl, fun t h => nomatch h⟩
  | (b, n) :: ps, ho, ha => by
    obtain ⟨fs, e, hf⟩ := pt_things (ps := ps) (fun p hp => ho p (List.mem_cons_of_mem _ hp)) (fun p hp => ha p (List.mem_cons_of_mem _ hp))
    cases b with
    | false =>
      refine ⟨.num n :: fs, by rw [List.map_cons, ← e]; rfl, fun t ht => ?_⟩
      rcases List.mem_cons.mp ht with rfl | ht
      · exact ho (false, n) (List.mem_cons_self ..)
      · exact hf t ht
    | true =>
      obtain ⟨k, hk, ek⟩ := mem_places.mp (ha (true, n) (List.mem_cons_self ..) rfl)
      refine ⟨.box k :: fs, by rw [List.map_cons, ← e]; show (true, n) :: ps = (true, ((pl bs k : Nat) : Int)) :: ps; rw [← ek], fun t ht => ?_⟩
      rcases List.mem_cons.mp ht with rfl | ht
      · exact hk
      · exact hf t ht
theorem pts_words {bs : List (List Thing)} {fs : List Thing} (h : ∀ t ∈ fs, t.ok bs.length) : (fs.map (Thing.pt bs)).map PT.word = fs.map (word (places bs)) := by
  rw [List.map_map]
  exact List.map_congr_left fun t ht => pt_word (h t ht)
theorem c_thing_of (T : Txt K mg) (D : DefAt K mg "thing_of" "thing_of" s_thing_of) (c_is_link : Cal P w K mg base "is_link" 1 ["word"] (spI1 gIsLink)) (c_told_by : Cal P w K mg base "told_by" 1 ["word"] (spI1 gTold)) : Cal P w K mg base "thing_of" 2 ["word"] spThingOf := by
  refine Cal.of D sc_thing_of (fun vs H Q E h => ?_) (fun _ _ _ _ _ _ us hl => match us, hl with | [_], _ => rfl) (fun f cdv A outer s H vs Q E hr h => ?_)
  · obtain ⟨z, rfl, _⟩ := h; rfl
  · obtain ⟨z, rfl, k⟩ := h
    have hu : _ + 64 < cLine := hr.units
    refine ⟨_, (pss_cons (ps_if (pt_val (pe_callC c_is_link (hr.mono (by decide)) rfl (pa_cons (pv 0) pa_nil))) (pss_one (ps_ret (pe_tup (pa_cons pe_str (pa_cons (pe_callC c_told_by (hr.mono (by decide)) rfl (pa_cons (pv 0) pa_nil)) pa_nil))))) pss_nil)
      (pss_one (ps_ret (pe_tup (pa_cons pe_str (pa_cons (pe_callC c_told_by (hr.mono (by decide)) rfl (pa_cons (pv 0) pa_nil)) pa_nil)))))), ?_⟩
    repeat walk_at "t_w"
    refine w_ite (fun h1 => ?_) (fun h1 => ?_)
    · repeat walk_at "t_w"
      rw [if_pos h1] at k
      exact k _ _ (by walk_at "t_none") (by walk_at "t_ex") upd_same
    · repeat walk_at "t_w"
      rw [if_neg h1] at k
      exact k _ _ (by walk_at "t_none") (by walk_at "t_ex") upd_same
theorem c_Room_places (T : Txt K mg) (R : RmT K mg C cB cR) (D : DefM K C "places" "Room.places" s_Room_places) (c_heads : Cal P w K mg base "heads" 2 ["row", "used"] (spHeads K)) : CalM P w K mg base C "places" 3 ["self"] (spPlacesM C) := by
  refine CalM.of D sc_Room_places (fun vs H Q E h => ?_) (fun _ _ _ _ _ _ us hl => match us, hl with | [_], _ => rfl) (fun f cdv A outer s H vs Q E hr h => ?_)
  · obtain ⟨x, r, bs, sp, rfl, _⟩ := h; rfl
  · obtain ⟨x, r, bs, sp, rfl, ⟨⟨dx, hX⟩, hR, hro⟩, k⟩ := h
    have hu : _ + 64 < cLine := hr.units
    have hCl := R.cl
    have hNr := R.nr
    have hNu := R.nu
    refine ⟨_, (pss_one (ps_ret (pe_callC c_heads (hr.mono (by decide)) rfl (pa_cons (pe_fldK (K := K) rfl (pv 0) rfl) (pa_cons (pe_fldK (K := K) rfl (pv 0) rfl) pa_nil))))), ?_⟩
    repeat walk_at "t_w"
    exact w_heads sp (by walk_at "t_sq") hro k
theorem c_Room_used (T : Txt K mg) (R : RmT K mg C cB cR) (D : DefM K C "used" "Room.used" s_Room_used) : CalM P w K mg base C "used" 1 ["self"] (spUsed C) := by
  refine CalM.of D sc_Room_used (fun vs H Q E h => ?_) (fun _ _ _ _ _ _ us hl => match us, hl with | [_], _ => rfl) (fun f cdv A outer s H vs Q E hr h => ?_)
  · obtain ⟨x, r, bs, sp, rfl, _⟩ := h; rfl
  · obtain ⟨x, r, bs, sp, rfl, ⟨⟨dx, hX⟩, hR, hro⟩, k⟩ := h
    have hu : _ + 64 < cLine := hr.units
    have hCl := R.cl
    have hNr := R.nr
    have hNu := R.nu
    refine ⟨_, (pss_one (ps_ret (pe_fldK (K := K) rfl (pv 0) rfl))), ?_⟩
    repeat walk_at "t_w"
    exact k _ (by walk_at "t_ex")
theorem c_Room_cells (T : Txt K mg) (R : RmT K mg C cB cR) (D : DefM K C "cells" "Room.cells" s_Room_cells) : CalM P w K mg base C "cells" 1 ["self"] (spCells C) := by
  refine CalM.of D sc_Room_cells (fun vs H Q E h => ?_) (fun _ _ _ _ _ _ us hl => match us, hl with | [_], _ => rfl) (fun f cdv A outer s H vs Q E hr h => ?_)
  · obtain ⟨x, r, bs, sp, rfl, _⟩ := h; rfl
  · obtain ⟨x, r, bs, sp, rfl, ⟨⟨dx, hX⟩, hR, hro⟩, k⟩ := h
    have hu : _ + 64 < cLine := hr.units
    have hCl := R.cl
    have hNr := R.nr
    have hNu := R.nu
    refine ⟨_, (pss_one (ps_ret (pe_callTy (call_listK (K := K) rfl) (by rfl) T.b_list (by decide +kernel) (pa_cons (pe_fldK (K := K) rfl (pv 0) rfl) pa_nil)))), ?_⟩
    repeat walk_at "t_w"
    exact k _ _ (by walk_at "t_none") (by walk_at "t_ex") upd_same

theorem c_Room__require_box (T : Txt K mg) (R : RmT6 K mg C cB cR cT cS cF cE) (D : DefM K C "_require_box" "Room._require_box" s_Room__require_box) (c_is_whole : Cal P w K mg base "is_whole" 1 ["n"] (spWholeD K)) (c_Room_places : CalM P w K mg base C "places" 3 ["self"] (spPlacesM C)) : CalM P w K mg base C "_require_box" 4 ["self", "place"] (spReqD C cB K) := by
  refine CalM.of D sc_Room__require_box (fun vs H Q E h => ?_) (fun _ _ _ _ _ _ us hl => match us, hl with | [_, _], _ => rfl) (fun f cdv A outer s H vs Q E hr h => ?_)
  · obtain ⟨x, r, bs, sp, v, d, rfl, _⟩ := h; rfl
  · obtain ⟨x, r, bs, sp, v, d, rfl, Rm, hD, kb, k⟩ := h
    have hu : _ + 64 < cLine := hr.units
    have hCl := R.cl
    have hNr := R.nr
    have hNu := R.nu
    obtain ⟨⟨dx, hX⟩, hR, hro⟩ := id Rm
    refine ⟨_, (pss_one (ps_if (PW.pt (pw_or (pt_not (pt_val (pe_callC c_is_whole (hr.mono (by decide)) rfl (pa_cons (pv 1) pa_nil)))) (pw_or1 (pt_cmpR (op_notInK (K := K) rfl) (pv 1) (pe_methC0 R.cl c_Room_places (hr.mono (by decide)) (passes_call (takes_of rfl rfl rfl rfl) (fun _ _ _ _ h => h)) (pv 0)) (by rfl))))) (pss_one (ps_raise rfl (takes_of rfl rfl rfl rfl) (pmk_own PySem.F.excBase_ValueError R.xNoBox.xc R.xNoBox.g R.xNoBox.k (raises_own R.xNoBox.b R.xNoBox.t) rfl))) pss_nil)), ?_⟩
    repeat walk_at "t_w"
    rename_i H2 e2
    cases hw : wholeD d with
    | false =>
      repeat walk_at "t_w"
      refine kb ?_ _ (by walk_at "t_ex")
      rintro ⟨n, rfl, hn⟩
      obtain ⟨q, hq, rfl⟩ := mem_places.mp hn
      have h1 := pl_lt hq (Nat.le_refl _)
      rw [pl_all] at h1
      have h2 := hro.small
      rw [wholeD_of (by rw [p60']; omega) (by rw [p60']; omega)] at hw
      cases hw
    | true =>
      obtain ⟨n, rfl, h1, h2⟩ := wholeD_int hw
      cases hD
      repeat walk_at "t_w"
      refine w_placesM (Rm.ex e2) fun q H3 hq e3 hq3 => ?_
      repeat walk_at "t_w"
      refine w_iteN (fun hn => ?_) (fun hn => ?_)
      · repeat walk_at "t_w"
        exact kb (by rintro ⟨m, e, hm⟩; cases e; exact hn hm) _ (by walk_at "t_ex")
      · repeat walk_at "t_w"
        exact k ⟨n, rfl, hn⟩ _ (by walk_at "t_ex")
theorem c_Room_told (T : Txt K mg) (R : RmT6 K mg C cB cR cT cS cF cE) (D : DefM K C "told" "Room.told" s_Room_told) (c_field_words : Cal P w K mg base "field_words" 2 ["row", "place"] (spFields K)) (c_thing_of : Cal P w K mg base "thing_of" 2 ["word"] spThingOf) (c_Room__require_box : CalM P w K mg base C "_require_box" 4 ["self", "place"] (spReqD C cB K)) :
    CalM P w K mg base C "told" 5 ["self", "place"] (spToldD C cB K) := by
  refine CalM.of D sc_Room_told (fun vs H Q E h => ?_) (fun _ _ _ _ _ _ us hl => match us, hl with | [_, _], _ => rfl) (fun f cdv A outer s H vs Q E hr h => ?_)
  · obtain ⟨x, r, bs, sp, v, d, rfl, _⟩ := h; rfl
  · obtain ⟨x, r, bs, sp, v, d, rfl, Rm, hD, kb, k⟩ := h
    have hu : _ + 64 < cLine := hr.units
    have hCl := R.cl
    have hNr := R.nr
    have hNu := R.nu
    refine ⟨_, (pss_cons (ps_expr (pe_methC R.cl c_Room__require_box (hr.mono (by decide)) (passes_call (takes_of rfl rfl rfl rfl) (fun _ _ _ _ h => h)) (pv 0) (pa_cons (pv 1) pa_nil)))
      (pss_one (ps_ret (pe_lc (own := [("word", 2)]) (g := (gName 2)) rfl sc_Room_told.nd (pi_listK (K := K) rfl (pe_callC c_field_words (hr.mono (by decide)) rfl (pa_cons (pe_fldK (K := K) rfl (pv 0) rfl) (pa_cons (pv 1) pa_nil)))) (blkOk_by (own := [("word", 2)]) (N := ["self", "place", "word"]) (sc := defScope s_Room_told) (by decide +kernel)) (fun _ _ _ _ _ => (pg_name (i := 2) sc_Room_told.nd rfl (Or.inl rfl))) (fun _ _ _ _ _ => pts_nil) (fun _ _ _ _ _ => (pe_callC c_thing_of (hr.mono (by decide)) rfl (pa_cons (pv 2) pa_nil))))))), ?_⟩
    obtain ⟨⟨dx, hX⟩, hR, hro⟩ := id Rm
    repeat walk_at "t_w"
    refine w_reqD Rm hD kb fun hin H2 e2 => ?_
    obtain ⟨n, rfl, hn⟩ := hin
    obtain ⟨i, hi, rfl⟩ := mem_places.mp hn
    cases hD
    have hbi : bs[i]? = some bs[i] := List.getElem?_eq_getElem hi
    have hlr := rowAt_len bs sp
    have hst := pl_step hbi
    have hsm := hro.small
    have hfl : bs[i].length ≤ 400 := by
      have h2 : pl bs (i + 1) ≤ cells bs := by
        rcases Nat.lt_or_ge (i + 1) bs.length with q | q
        · have := pl_lt q (Nat.le_refl _); rw [pl_all] at this; omega
        · have : i + 1 = bs.length := by omega
          rw [this, pl_all]; exact Nat.le_refl _
      omega
    repeat walk_at "t_w"
    refine w_lc ?_
    repeat walk_at "t_w"
    refine w_fields sp bs[i] (by walk_at "t_sq") hro hbi fun lf H5 hlf e5 hlf5 => ?_
    have hE5 : Ex H H5 := by walk_at "t_ex"
    repeat walk_at "t_w"
    refine lcjLM (xs := (bs[i].map (word (places bs))).map V.int) (fun j v H => ∃ t, bs[i][j]? = some t ∧ HandAt H bs v t) (fun j v H H' e ⟨t, h1, h2⟩ => ⟨t, h1, h2.ex e⟩) (SqL.of hlf5) ?_ ?_ ?_ ?_
    · intro Dl j y H6 acc hDl hacc e6 hy Q6 k6
      rw [List.getElem?_map, List.getElem?_map] at hy
      cases ht : bs[i][j]? with
      | none => rw [ht] at hy; cases hy
      | some t =>
        rw [ht] at hy
        cases hy
        repeat walk_at "t_w"
        refine w_thingOf fun a H7 ha e7 ha7 => ?_
        have nad : a ≠ Dl := fun z => by rw [z, hacc] at ha; cases ha
        refine k6 _ _ e7 ⟨t, ht, a, rfl, ?_⟩
        rw [del_ne nad, ha7]
        cases t with
        | num z =>
          have hw : word (places bs) (.num z) = 2 * z := rfl
          rw [hw, if_neg (by omega), show 2 * z / 2 = z by omega]; rfl
        | box q =>
          have hql : q < bs.length := hro.ok _ (List.getElem_mem hi) _ (List.mem_of_getElem? ht)
          have hw : word (places bs) (.box q) = 2 * ((pl bs q : Nat) : Int) + 1 := by
            show 2 * (((places bs).getD q 0 : Nat) : Int) + 1 = _
            rw [places_getD hql]
          rw [hw, if_pos (by omega), show (2 * ((pl bs q : Nat) : Int) + 1) / 2 = ((pl bs q : Nat) : Int) by omega]; rfl
    · exact fun x => rfl
    · rw [List.length_map, List.length_map]; omega
    · intro Dl H6 ys hDl e6 hD6 hyl hys
      rw [List.length_map, List.length_map] at hyl
      refine k i bs[i] rfl hbi Dl ys H6 (by walk_at "t_none") (by walk_at "t_ex") hD6 (All2.of_get hyl fun j v t hv ht => ?_)
      obtain ⟨t', h1, h2⟩ := hys j v hv
      rw [ht] at h1
      cases h1
      exact h2.ex del_ex
theorem c_Room___init (T : Txt K mg) (R : RmT6 K mg C cB cR cT cS cF cE) (D : DefK K C "Room.__init__" s_Room___init) (c_is_whole : Cal P w K mg base "is_whole" 1 ["n"] (spWholeD K)) (c_head_word : Cal P w K mg base "head_word" 1 ["many", "marked"] spHead) : CalK P w K mg base C 2 ["self", "size", "doors"] (spInitD C cS K) := by
  refine CalK.of D sc_Room___init (fun vs H Q E h => ?_) (fun _ _ _ _ _ _ us hl => match us, hl with | [_, _, _], _ => rfl) (fun f cdv A outer s H vs Q E hr h => ?_)
  · obtain ⟨x, dx, v1, v2, d1, d2, rfl, _⟩ := h; rfl
  · obtain ⟨x, dx, v1, v2, d1, d2, rfl, hX, hD1, hD2, kS, k⟩ := h
    have hu : _ + 64 < cLine := hr.units
    have hCl := R.cl
    have hNr := R.nr
    have hNu := R.nu
    refine ⟨_, (pss_cons (ps_if (PW.pt (pw_or (pt_not (pt_val (pe_callC c_is_whole (hr.mono (by decide)) rfl (pa_cons (pv 1) pa_nil)))) (pw_or1 (pt_not (pt_chain op_le op_le pe_int (pv 1) (pe_globI rfl T.c_MOST_CELLS)))))) (pss_one (ps_raise rfl (takes_of rfl rfl rfl rfl) (SkE.pmk_own1 PySem.F.excBase_ValueError R.xBadSize.xc R.xBadSize.g R.xBadSize.k (raises_own R.xBadSize.b R.xBadSize.t) rfl (pe_joined (.cons pe_str (.cons (pe_fmt (pe_globI rfl T.c_MOST_CELLS)) (.cons pe_str .nil))))))) pss_nil)
      (pss_cons (ps_if (PW.pt (pw_or (pt_not (pt_val (pe_callC c_is_whole (hr.mono (by decide)) rfl (pa_cons (pv 2) pa_nil)))) (pw_or1 (pt_not (pt_chain op_le op_le pe_int (pv 2) (pe_globI rfl T.c_MOST_DOORS)))))) (pss_one (ps_raise rfl (takes_of rfl rfl rfl rfl) (SkE.pmk_own1 PySem.F.excBase_ValueError R.xBadSize.xc R.xBadSize.g R.xBadSize.k (raises_own R.xBadSize.b R.xBadSize.t) rfl (pe_joined (.cons pe_str (.cons (pe_fmt (pe_globI rfl T.c_MOST_DOORS)) (.cons pe_str .nil))))))) pss_nil)
      (pss_cons (ps_if (pt_cmpR op_gt (pe_op op_addA (pv 2) pe_int) (pv 1) (nomark _)) (pss_one (ps_raise rfl (takes_of rfl rfl rfl rfl) (pmk_own PySem.F.excBase_ValueError R.xBadSize.xc R.xBadSize.g R.xBadSize.k (raises_own R.xBadSize.b R.xBadSize.t) rfl))) pss_nil)
      (pss_cons (ps_fldK (K := K) rfl (pv 0) (pe_op op_addA (pe_lst (pa_cons (pe_callC c_head_word (hr.mono (by decide)) rfl (pa_cons (pv 2) (pa_cons pe_bl pa_nil))) pa_nil)) (pe_op op_mulA (pe_lst (pa_cons pe_int pa_nil)) (pe_op op_sub (pv 1) pe_int))) rfl)
      (pss_one (ps_fldK (K := K) rfl (pv 0) (pe_op op_addA (pv 2) pe_int) rfl)))))), ?_⟩
    repeat walk_at "t_w"
    rename_i H2 e2
    cases hw : wholeD d1 with
    | false =>
      have hs : sizedD d1 d2 = false := sized_no fun z d e1 e2 ⟨h1, h2, _⟩ => by
        rw [e1, wholeD_of (by rw [p60']; omega) (by rw [p60']; omega)] at hw; cases hw
      repeat walk_at "t_w"
      exact w_js3 (F := fun H' => E (.ref cS) none H') (by decide +kernel) (by decide +kernel) (by decide +kernel) (by decide +kernel) (kS hs _ (by walk_at "t_ex"))
    | true =>
      obtain ⟨z, rfl, _, _⟩ := wholeD_int hw
      cases hD1
      by_cases h1 : 1 ≤ z
      case neg =>
        have hs : sizedD (.int z) d2 = false := sized_no fun z' d e1 e2 ⟨q, _⟩ => by cases e1; exact h1 q
        repeat walk_at "t_w"
        exact w_js3 (F := fun H' => E (.ref cS) none H') (by decide +kernel) (by decide +kernel) (by decide +kernel) (by decide +kernel) (kS hs _ (by walk_at "t_ex"))
      repeat walk_at "t_w"
      by_cases h4 : z ≤ 400
      case neg =>
        have hs : sizedD (.int z) d2 = false := sized_no fun z' d e1 e2 ⟨_, q, _⟩ => by cases e1; exact h4 q
        rw [decide_eq_false h4]
        repeat walk_at "t_w"
        exact w_js3 (F := fun H' => E (.ref cS) none H') (by decide +kernel) (by decide +kernel) (by decide +kernel) (by decide +kernel) (kS hs _ (by walk_at "t_ex"))
      rw [decide_eq_true h4]
      repeat walk_at "t_w"
      rename_i H3 e3
      cases hw2 : wholeD d2 with
      | false =>
        have hs : sizedD (.int z) d2 = false := sized_no fun z' d e1 e2 ⟨_, _, h1, h2, _⟩ => by
          rw [e2, wholeD_of (by rw [p60']; omega) (by rw [p60']; omega)] at hw2; cases hw2
        repeat walk_at "t_w"
        exact w_js3 (F := fun H' => E (.ref cS) none H') (by decide +kernel) (by decide +kernel) (by decide +kernel) (by decide +kernel) (kS hs _ (by walk_at "t_ex"))
      | true =>
        obtain ⟨d, rfl, _, _⟩ := wholeD_int hw2
        cases hD2
        by_cases h0 : 0 ≤ d
        case neg =>
          have hs : sizedD (.int z) (.int d) = false := sized_no fun z' d' e1 e2 ⟨_, _, q, _⟩ => by cases e2; exact h0 q
          repeat walk_at "t_w"
          exact w_js3 (F := fun H' => E (.ref cS) none H') (by decide +kernel) (by decide +kernel) (by decide +kernel) (by decide +kernel) (kS hs _ (by walk_at "t_ex"))
        repeat walk_at "t_w"
        by_cases h20 : d ≤ 20
        case neg =>
          have hs : sizedD (.int z) (.int d) = false := sized_no fun z' d' e1 e2 ⟨_, _, _, q, _⟩ => by cases e2; exact h20 q
          rw [decide_eq_false h20]
          repeat walk_at "t_w"
          exact w_js3 (F := fun H' => E (.ref cS) none H') (by decide +kernel) (by decide +kernel) (by decide +kernel) (by decide +kernel) (kS hs _ (by walk_at "t_ex"))
        rw [decide_eq_true h20]
        repeat walk_at "t_w"
        by_cases hdz' : d < z
        case neg =>
          have hs : sizedD (.int z) (.int d) = false := sized_no fun z' d' e1 e2 ⟨_, _, _, _, q⟩ => by cases e1; cases e2; exact hdz' q
          refine w_pos (by omega) ?_
          repeat walk_at "t_w"
          exact kS hs _ (by walk_at "t_ex")
        refine w_neg (by omega) ?_
        obtain ⟨z, rfl⟩ : ∃ n : Nat, z = (n : Int) := ⟨z.toNat, (Int.toNat_of_nonneg (by omega)).symm⟩
        obtain ⟨d, rfl⟩ : ∃ n : Nat, d = (n : Int) := ⟨d.toNat, (Int.toNat_of_nonneg (by omega)).symm⟩
        have hdz : d < z := by omega
        have hz4 : z ≤ 400 := by omega
        have hd2 : d ≤ 20 := by omega
        have k := k z d rfl rfl (by omega) hz4 hd2 hdz
        have hcd : cells [List.replicate d (Thing.num 0)] = d + 1 := by rw [cells_cons, List.length_replicate]; show 1 + d + 0 = _; omega
        have hlen : ((z : Int) - 1).toNat = z - 1 := by omega
        have b1 : -1000000 ≤ (z : Int) - 1 := by omega
        have b2 : (z : Int) - 1 ≤ 1000000 := by omega
        clear hw hw2
        repeat walk_at "t_w"
        rename_i q4 e4 p3 hp3 p2 hp2 p1 hp1 r hrr
        have hE4 : Ex H q4 := (e2.trans e3).trans e4
        have hEr := ex_new hp1 (o := HO.lst (List.replicate ((z : Int) - 1).toNat (V.int 0))) (ex_new hp2 (o := HO.lst [V.int 0]) (ex_new hp3 (o := HO.lst [V.int (if false = true then 4 * (d : Int) + 2 else 4 * (d : Int))]) hE4))
        have hr0 : H r = none := fresh_back hEr hrr
        have nrx : r ≠ x := fun e => by rw [e, hX] at hr0; cases hr0
        refine k r _ hr0 (Evl.Ex.mut (Evl.Ex.mut (off_ex.trans (hEr.trans (Evl.Ex.new hrr))) (off_in (by simp))) (off_in (by simp))) ⟨⟨dx, ?_⟩, ?_, RowOk.new hdz hz4⟩
        · rw [upd_same, hcd]; rfl
        · rw [upd_ne nrx, upd_ne nrx, upd_same, hlen, if_neg (by decide), row_new hdz]
theorem c_Room_made (T : Txt K mg) (R : RmT6 K mg C cB cR cT cS cF cE) (D : DefM K C "made" "Room.made" s_Room_made) (c_words_of : CalX P w K mg base "words_of" 3 ["things", "places"] (spWordsD K cB cT)) (c_head_word : Cal P w K mg base "head_word" 1 ["many", "marked"] spHead) (c_Room_places : CalM P w K mg base C "places" 3 ["self"] (spPlacesM C)) :
    CalM P w K mg base C "made" 4 ["self", "things"] (spMadeD C cB cR cT K) := by
  refine CalM.of D sc_Room_made (fun vs H Q E h => ?_) (fun _ _ _ _ _ _ us hl => match us, hl with | [_, _], _ => rfl) (fun f cdv A outer s H vs Q E hr h => ?_)
  · obtain ⟨x, r, l, bs, sp, ws, ds, rfl, _⟩ := h; rfl
  · obtain ⟨x, r, l, bs, sp, ws, ds, rfl, Rm, hL, hA, hl, kt, kk⟩ := h
    have hu : _ + 64 < cLine := hr.units
    have hCl := R.cl
    have hNr := R.nr
    have hNu := R.nu
    obtain ⟨⟨dx, hX⟩, hR, hro⟩ := id Rm
    have hlr := rowAt_len bs sp
    have hsm := hro.small
    refine ⟨_, (pss_cons (ps_set (i := 2) sc_Room_made.nd rfl (Or.inl rfl) (pe_callCX c_words_of (hr.mono (by decide)) (passes_call (takes_of rfl rfl rfl rfl) (fun _ _ _ _ h => h)) rfl (pa_cons (pv 1) (pa_cons (pe_methC0 R.cl c_Room_places (hr.mono (by decide)) (passes_call (takes_of rfl rfl rfl rfl) (fun _ _ _ _ h => h)) (pv 0)) pa_nil))))
      (pss_cons (ps_set (i := 3) sc_Room_made.nd rfl (Or.inl rfl) (pe_fldK (K := K) rfl (pv 0) rfl))
      (pss_cons (ps_set (i := 4) sc_Room_made.nd rfl (Or.inl rfl) (pe_op op_addA (pe_op op_addA (pv 3) pe_int) (pe_callB (call_lenK (K := K) rfl) (by rfl) T.b_len (by decide +kernel) (pa_cons (pv 2) pa_nil))))
      (pss_cons (ps_if (pt_cmpR op_gt (pv 4) (pe_callB (call_lenK (K := K) rfl) (by rfl) T.b_len (by decide +kernel) (pa_cons (pe_fldK (K := K) rfl (pv 0) rfl) pa_nil)) (nomark _)) (pss_one (ps_raise rfl (takes_of rfl rfl rfl rfl) (pmk_own PySem.F.excBase_ValueError R.xNoRoom.xc R.xNoRoom.g R.xNoRoom.k (raises_own R.xNoRoom.b R.xNoRoom.t) rfl))) pss_nil)
      (pss_cons (ps_setSl (pe_fldK (K := K) rfl (pv 0) rfl) (po_some (pv 3)) (po_some (pv 4)) (pe_lst (pa_cons (pe_callC c_head_word (hr.mono (by decide)) rfl (pa_cons (pe_callB (call_lenK (K := K) rfl) (by rfl) T.b_len (by decide +kernel) (pa_cons (pv 2) pa_nil)) (pa_cons pe_bl pa_nil))) (pa_starK (K := K) rfl (pv 2) pa_nil))) rfl)
      (pss_cons (ps_fldK (K := K) rfl (pv 0) (pv 4) rfl)
      (pss_one (ps_ret (pv 3))))))))), ?_⟩
    repeat walk_at "t_w"
    refine w_placesM Rm fun q H2 hq e2 hq2 => ?_
    repeat walk_at "t_w"
    refine w_wordsD ds (asI (places bs)) (ex_l e2 hL) (DpAll.mono e2 hA) hl (by walk_at "t_sq") (fun hb H' e' => kt hb _ (by walk_at "t_ex")) fun ps eps ho => ?_
    obtain ⟨kb, kr, kq⟩ := kk ps eps ho
    refine ⟨fun hb H' e' => kb hb _ (by walk_at "t_ex"), fun hall lw H3 hlw e3 hlw3 => ?_⟩
    have hpl : ps.length ≤ 1000 := by rw [eps, List.length_map] at hl; exact hl
    repeat walk_at "t_w"
    refine w_ite (fun hn => ?_) (fun hn => ?_)
    · repeat walk_at "t_w"
      refine kr hall ?_ _ (by walk_at "t_ex")
      simp only [List.length_map, hlr] at hn
      omega
    · simp only [List.length_map, hlr] at hn
      obtain ⟨fs, efs, hfs⟩ := pt_things ho hall
      have hfl : ps.length = fs.length := by rw [efs, List.length_map]
      have hwl : ((ps.map PT.word).map V.int).length = fs.length := by rw [List.length_map, List.length_map, hfl]
      repeat walk_at "t_w"
      rename_i H4 e4
      refine ⟨sz_of (by simp only [List.length_cons, List.length_append, List.length_nil, hwl]; omega), fun b hb => ?_⟩
      repeat walk_at "t_w"
      have hX4 : H4 x = some (.ins C dx [("_row", .ref r), ("_used", .int ((cells bs : Nat) : Int))]) := by walk_at "t_hp"
      have hR4 : H4 r = some (.lst ((rowAt bs sp).map V.int)) := by walk_at "t_hp"
      have nrb : r ≠ b := ne_of_none hR4 hb
      have nxb : x ≠ b := ne_of_none hX4 hb
      have nxr : x ≠ r := Rm.ne
      have hE4 : Ex H H4 := by walk_at "t_ex"
      rw [hwl]
      refine w_setSlE (hp_ne nrb hR4) upd_same nrb (by omega) (by omega) (by rw [List.length_map, hlr]; omega) (by simp only [List.length_map, List.length_append, List.length_singleton, List.length_nil, hlr, List.length_cons]; omega) ?_
      repeat walk_at "t_w"
      refine kq fs efs hfs (by omega) _ (Evl.Ex.mut (Evl.Ex.mut (off_ex.trans (hE4.trans (Evl.Ex.new hb))) (off_in (by simp))) (off_in (by simp))) ⟨⟨dx, ?_⟩, ?_, hro.made hfs (by omega)⟩
      · rw [upd_same, cells_snoc]
        show some (HO.ins C dx [("_row", V.ref r), ("_used", V.int (((cells bs : Nat) : Int) + 1 + (fs.length : Int)))]) = _
        rw [show ((cells bs + 1 + fs.length : Nat) : Int) = ((cells bs : Nat) : Int) + 1 + (fs.length : Int) by omega]
      · rw [upd_ne (Ne.symm nxr), upd_same, ← rowAt_made hro hfs (by omega), if_neg (by decide), efs, pts_words hfs, Int.toNat_natCast, show (((cells bs : Nat) : Int) + 1 + (fs.length : Int)).toNat = cells bs + 1 + fs.length by omega]
        rw [List.map_append, List.map_append, List.map_take, List.map_drop, List.append_nil]; rfl
theorem c_Room_put (T : Txt K mg) (R : RmT6 K mg C cB cR cT cS cF cE) (D : DefM K C "put" "Room.put" s_Room_put) (c_fields_of : Cal P w K mg base "fields_of" 1 ["head"] (spI1 gFields)) (c_is_whole : Cal P w K mg base "is_whole" 1 ["n"] (spWholeD K)) (c_words_of : CalX P w K mg base "words_of" 3 ["things", "places"] (spWordsD K cB cT)) (c_Room_places : CalM P w K mg base C "places" 3 ["self"] (spPlacesM C)) (c_Room__require_box : CalM P w K mg base C "_require_box" 4 ["self", "place"] (spReqD C cB K)) :
    CalM P w K mg base C "put" 5 ["self", "place", "field", "thing"] (spPutD C cB cT cF K) := by
  refine CalM.of D sc_Room_put (fun vs H Q E h => ?_) (fun _ _ _ _ _ _ us hl => match us, hl with | [_, _, _, _], _ => rfl) (fun f cdv A outer s H vs Q E hr h => ?_)
  · obtain ⟨x, r, bs, sp, vp, vf, vt, dp, df, dt, rfl, _⟩ := h; rfl
  · obtain ⟨x, r, bs, sp, vp, vf, vt, dp, df, dt, rfl, Rm, hP, hF, hT, kb, kk⟩ := h
    have hu : _ + 64 < cLine := hr.units
    have hCl := R.cl
    have hNr := R.nr
    have hNu := R.nu
    obtain ⟨⟨dx, hX⟩, hR, hro⟩ := id Rm
    have hlr := rowAt_len bs sp
    have hsm := hro.small
    refine ⟨_, (pss_cons (ps_expr (pe_methC R.cl c_Room__require_box (hr.mono (by decide)) (passes_call (takes_of rfl rfl rfl rfl) (fun _ _ _ _ h => h)) (pv 0) (pa_cons (pv 1) pa_nil)))
      (pss_cons (ps_if (PW.pt (pw_or (pt_not (pt_val (pe_callC c_is_whole (hr.mono (by decide)) rfl (pa_cons (pv 2) pa_nil)))) (pw_or1 (pt_not (pt_chain op_le op_lt pe_int (pv 2) (pe_callC c_fields_of (hr.mono (by decide)) rfl (pa_cons (pe_ix (ix_seqK (K := K) rfl) (pe_fldK (K := K) rfl (pv 0) rfl) (pv 1) (fun _ _ => rfl)) pa_nil))))))) (pss_one (ps_raise rfl (takes_of rfl rfl rfl rfl) (pmk_own PySem.F.excBase_ValueError R.xNoField.xc R.xNoField.g R.xNoField.k (raises_own R.xNoField.b R.xNoField.t) rfl))) pss_nil)
      (pss_cons (ps_set (i := 4) sc_Room_put.nd rfl (Or.inl rfl) (pe_callCX c_words_of (hr.mono (by decide)) (passes_call (takes_of rfl rfl rfl rfl) (fun _ _ _ _ h => h)) rfl (pa_cons (pe_lst (pa_cons (pv 3) pa_nil)) (pa_cons (pe_methC0 R.cl c_Room_places (hr.mono (by decide)) (passes_call (takes_of rfl rfl rfl rfl) (fun _ _ _ _ h => h)) (pv 0)) pa_nil))))
      (pss_one (ps_asg (pe_ix (ix_seqK (K := K) rfl) (pv 4) pe_int (fun _ _ => rfl)) (pg_sub (pe_fldK (K := K) rfl (pv 0) rfl) (pe_op op_addA (pe_op op_addA (pv 1) pe_int) (pv 2)) set_list)))))), ?_⟩
    repeat walk_at "t_w"
    refine w_reqD Rm hP kb fun hin H2 e2 => ?_
    obtain ⟨n, rfl, hn⟩ := hin
    obtain ⟨i, hi, rfl⟩ := mem_places.mp hn
    have hbi : bs[i]? = some bs[i] := List.getElem?_eq_getElem hi
    generalize hfs : bs[i] = fs at hbi
    obtain ⟨kF, kj⟩ := kk i fs rfl hbi
    cases hP
    have hpl := pl_lt hi (Nat.le_refl _)
    rw [pl_all] at hpl
    have hst := pl_step hbi
    have hst2 : pl bs (i + 1) ≤ cells bs := by
      rcases Nat.lt_or_ge (i + 1) bs.length with q | q
      · have := pl_lt q (Nat.le_refl _); rw [pl_all] at this; omega
      · have : i + 1 = bs.length := by omega
        rw [this, pl_all]; exact Nat.le_refl _
    have hpr : pl bs i < (rowAt bs sp).length := by omega
    have hhd := rowAt_head (sp := sp) hbi
    repeat walk_at "t_w"
    rename_i H3 e3
    cases hw : wholeD df with
    | false =>
      repeat walk_at "t_w"
      refine kF ?_ _ (by walk_at "t_ex")
      rintro ⟨j, rfl, hj⟩
      rw [wholeD_of (by rw [p60']; omega) (by rw [p60']; omega)] at hw
      cases hw
    | true =>
      obtain ⟨fz, rfl, hz1, hz2⟩ := wholeD_int hw
      clear hw hz1 hz2
      cases hF
      repeat walk_at "t_w"
      by_cases h0 : 0 ≤ fz
      case neg =>
        repeat walk_at "t_w"
        refine kF ?_ _ (by walk_at "t_ex")
        rintro ⟨j, e, hj⟩
        cases e
        omega
      repeat walk_at "t_w"
      rename_i H4 e4
      by_cases h1 : fz < (rowAt bs sp).getD (pl bs i) 0 / 4
      case neg =>
        rw [decide_eq_false h1]
        repeat walk_at "t_w"
        refine kF ?_ _ (by walk_at "t_ex")
        rintro ⟨j, e, hj⟩
        cases e
        rw [hhd] at h1
        omega
      rw [decide_eq_true h1]
      rw [hhd] at h1
      obtain ⟨j, rfl⟩ : ∃ n : Nat, fz = (n : Int) := ⟨fz.toNat, (Int.toNat_of_nonneg h0).symm⟩
      have hj : j < fs.length := by omega
      obtain ⟨kT, kp⟩ := kj j rfl hj
      repeat walk_at "t_w"
      rename_i q hq
      have hE4 : Ex H H4 := by walk_at "t_ex"
      have Rm4 : RoomAt C (upd H4 q (.lst [vt])) x r bs sp := Rm.ex (by walk_at "t_ex")
      have hT4 : Dp K (upd H4 q (.lst [vt])) vt dt := Dp.mono (by walk_at "t_ex") hT
      refine w_placesM Rm4 fun lp H5 hlp e5 hlp5 => ?_
      repeat walk_at "t_w"
      refine w_wordsD [dt] (asI (places bs)) (SqL.of (e5 _ _ upd_same)) (.cons (Dp.mono e5 hT4) .nil) (by simp) (by walk_at "t_sq") (fun hb H' e' => kT (by simpa using hb) _ (by walk_at "t_ex")) fun ps eps ho => ?_
      obtain ⟨p, rfl, rfl⟩ : ∃ p, ps = [p] ∧ dt = p.data := by
        match ps, eps with
        | [p], eps => exact ⟨p, rfl, (List.cons.inj eps).1⟩
        | [], eps => cases eps
        | _ :: _ :: _, eps => cases (List.cons.inj eps).2
      obtain ⟨kb2, kq⟩ := kp p rfl (ho p (List.mem_singleton.mpr rfl))
      refine ⟨fun ⟨p', hp', h3, h4⟩ H' e' => ?_, fun hall lw H6 hlw e6 hlw6 => ?_⟩
      · rw [List.mem_singleton.mp hp'] at h3 h4
        exact kb2 h3 h4 _ (by walk_at "t_ex")
      obtain ⟨t, rfl, ht⟩ : ∃ t : Thing, p = t.pt bs ∧ t.ok bs.length := by
        obtain ⟨ts, efs, hts⟩ := pt_things ho hall
        match ts, efs, hts with
        | [t], efs, hts => exact ⟨t, (List.cons.inj efs).1, hts t (List.mem_singleton.mpr rfl)⟩
        | [], efs, _ => cases efs
        | _ :: _ :: _, efs, _ => cases (List.cons.inj efs).2
      have kq := kq t rfl ht
      have hX6 : H6 x = some (.ins C dx [("_row", .ref r), ("_used", .int ((cells bs : Nat) : Int))]) := by walk_at "t_hp"
      have hR6 : H6 r = some (.lst ((rowAt bs sp).map V.int)) := by walk_at "t_hp"
      have hE6 : Ex H H6 := by walk_at "t_ex"
      have hlw7 : H6 lw = some (.lst [V.int (t.pt bs).word]) := hlw6
      clear hlw6
      have hix : ixN ((rowAt bs sp).map V.int).length (((pl bs i : Nat) : Int) + 1 + (j : Int)) = some (pl bs i + 1 + j) := by
        rw [show ((pl bs i : Nat) : Int) + 1 + (j : Int) = ((pl bs i + 1 + j : Nat) : Int) by omega]
        exact ixn_map (by omega)
      repeat walk_at "t_w"
      obtain ⟨s1, s2, s3⟩ := rowAt_set (sp := sp) (t := t) hbi hj
      refine kq _ (Evl.Ex.mut (off_ex.trans hE6) (off_in (by simp))) ⟨⟨dx, ?_⟩, ?_, hro.put hbi hj ht⟩
      · rw [upd_ne Rm.ne, s3]; exact hX6
      · rw [upd_same, map_set, pt_word ht, s1]
end
end Tw

set_option Elab.async false
set_option linter.all false
set_option maxRecDepth 100000
set_option maxHeartbeats 4000000
namespace Tw
open PySem PySem.Spec PyProof.Rows L2
open Evl (Ex ex_l ex_t fresh_back sz_of sz_lt)
local macro_rules | `(tactic| walk_at "t_hp") => `(tactic| first
  | assumption
  | exact upd_same
  | (refine' hp_ne ?hne ?hrest; (case hne => walk_at "t_ne"); (case hrest => walk_at "t_hp"))
  | (refine' hp_ex ?hx ?hrest; (case hx => assumption); (case hrest => walk_at "t_hp")))
local macro_rules | `(tactic| walk_at "t_ne") => `(tactic| first
  | assumption
  | exact Ne.symm (by assumption)
  | (refine' ne_of_none ?h1 ?h2; (case h2 => assumption); (case h1 => walk_at "t_hp"))
  | (refine' Ne.symm (ne_of_none ?h1 ?h2); (case h2 => assumption); (case h1 => walk_at "t_hp")))
local macro_rules | `(tactic| walk_at "t_none") => `(tactic| first
  | assumption
  | (refine' fresh_back ?e ?n; (case n => assumption); (case e => walk_at "t_ex")))
local macro_rules | `(tactic| walk_at "t_ex") => `(tactic| first
  | assumption
  | exact Evl.Ex.refl _
  | (refine' ex_new ?n ?e; (case n => assumption); (case e => walk_at "t_ex"))
  | (refine' Evl.Ex.mut ?e ?n; (case n => walk_at "t_none"); (case e => walk_at "t_ex"))
  | (refine' Evl.Ex.trans ?a ?b; (case b => assumption); (case a => walk_at "t_ex")))
local macro_rules | `(tactic| walk_at "t_sq") => `(tactic| first
  | assumption
  | (refine' SqL.of ?h; (case h => walk_at "t_hp"))
  | (refine' ex_l ?e ?s; (case s => assumption); (case e => walk_at "t_ex")))
local macro_rules | `(tactic| walk_at "t_sqt") => `(tactic| first
  | assumption
  | (refine' SqT.of ?h; (case h => walk_at "t_hp"))
  | (refine' ex_t ?e ?s; (case s => assumption); (case e => walk_at "t_ex")))
local macro_rules | `(tactic| walk_at "t_mul") => `(tactic| first
  | assumption
  | exact Or.inl (Or.inl ⟨by decide, by decide⟩)
  | exact Or.inl (Or.inr ⟨by decide, by decide⟩)
  | exact Or.inl (Or.inl ⟨by omega, by omega⟩)
  | exact Or.inl (Or.inr ⟨by omega, by omega⟩))
local macro_rules | `(tactic| walk_at "t_c") => `(tactic| first
  | assumption
  | decide
  | (show (0 : Int) < _; decide)
  | (show (0 : Int) < _; omega)
  | exact ⟨by decide, by decide⟩
  | exact ⟨by decide, by decide, by decide⟩
  | exact ⟨by omega, by omega⟩
  | exact ⟨by omega, by omega, by omega, by omega⟩)
local macro_rules | `(tactic| walk_at "t_w") => `(tactic| first
  | (with_reducible refine w_seq ?_)
  | (with_reducible refine w_asg ?_)
  | (with_reducible refine w_gName ?_)
  | (with_reducible refine w_nx ?_)
  | (with_reducible refine w_rt ?_)
  | (with_reducible refine w_ct ?_)
  | (with_reducible refine w_bk ?_)
  | (with_reducible refine w_ret ?_)
  | (with_reducible refine w_retN ?_)
  | (with_reducible refine w_drop ?_)
  | (with_reducible refine w_ifS ?_)
  | (with_reducible refine w_next ?_)
  | (with_reducible refine w_break ?_)
  | (with_reducible refine w_cont ?_)
  | ((with_reducible refine' w_var ?h ?_); (case h => rfl))
  | (with_reducible refine w_c ?_)
  | (with_reducible refine w_op ?_)
  | (with_reducible refine w_un ?_)
  | (with_reducible refine w_I0 ?_)
  | ((with_reducible refine' w_I ?c ?_); (case c => walk_at "t_c"))
  | (with_reducible refine w_U ?_)
  | (with_reducible refine w_addI ?_)
  | ((with_reducible refine' w_addL ?h1 ?h2 ?hz ?_); (case h1 => walk_at "t_hp"); (case h2 => walk_at "t_hp"); (case hz => walk_at "t_z"))
  | ((with_reducible refine' w_mulI ?c ?_); (case c => walk_at "t_mul"))
  | ((with_reducible refine' w_mulL1 ?h1 ?b1 ?b2 ?_); (case h1 => walk_at "t_hp"); (case b1 => walk_at "t_z"); (case b2 => walk_at "t_z"))
  | ((with_reducible refine' w_mulL ?h1 ?b1 ?b2 ?hz ?_); (case h1 => walk_at "t_hp"); (case b1 => walk_at "t_z"); (case b2 => walk_at "t_z"); (case hz => walk_at "t_z"))
  | (with_reducible refine w_notIB ?_)
  | (with_reducible refine w_notBB ?_)
  | (with_reducible refine w_notN ?_)
  | (with_reducible refine w_isBB ?_)
  | (with_reducible refine w_isN ?_)
  | (with_reducible refine w_eqI ?_)
  | (with_reducible refine w_neI ?_)
  | (with_reducible refine w_eqB ?_)
  | (with_reducible refine w_neB ?_)
  | (with_reducible refine w_eqS ?_)
  | (with_reducible refine w_neS ?_)
  | (with_reducible refine w_test ?_)
  | (with_reducible refine w_B ?_)
  | (with_reducible refine w_exB ?_)
  | (with_reducible refine w_and ?_)
  | (with_reducible refine w_or ?_)
  | (with_reducible refine w_not ?_)
  | (with_reducible refine w_andV ?_)
  | (with_reducible refine w_orV ?_)
  | (with_reducible refine w_notV ?_)
  | (with_reducible refine w_bl ?_)
  | (with_reducible refine w_if ?_)
  | (with_reducible refine w_nil ?_)
  | (with_reducible refine w_cons ?_)
  | (with_reducible refine w_cb ?_)
  | (with_reducible refine w_call ?_)
  | (with_reducible refine w_tup ?_)
  | (with_reducible refine w_lst ?_)
  | ((with_reducible refine' w_fin ?hz ?_); (case hz => (simp only [List.length_cons, List.length_nil]; decide)))
  | ((with_reducible refine' w_len ?s ?_); (case s => walk_at "t_sq"))
  | ((with_reducible refine' w_lenT ?s ?_); (case s => walk_at "t_sqt"))
  | (with_reducible refine w_intI ?_)
  | (with_reducible refine w_intB ?_)
  | ((with_reducible refine' w_list ?s ?_); (case s => walk_at "t_sq"))
  | (with_reducible refine w_max ?_)
  | (with_reducible refine w_min ?_)
  | (with_reducible refine w_abs ?_)
  | (with_reducible refine w_sl ?_)
  | (with_reducible refine w_noPart ?_)
  | (with_reducible refine w_part ?_)
  | (with_reducible refine w_exI ?_)
  | ((with_reducible refine' w_slL ?s ?_); (case s => walk_at "t_sq"))
  | ((with_reducible refine' w_ixLI ?s ?b ?_); (case s => walk_at "t_sq"); (case b => walk_at "t_lt"))
  | ((with_reducible refine' w_ixL ?s ?e ?_); (case s => walk_at "t_sq"); (case e => walk_at "t_at"))
  | ((with_reducible refine' w_ixT ?s ?e ?_); (case s => walk_at "t_sqt"); (case e => walk_at "t_at"))
  | (with_reducible refine w_gSub ?_)
  | ((with_reducible refine' w_setLI ?e ?b ?_); (case e => walk_at "t_hp"); (case b => walk_at "t_lt"))
  | ((with_reducible refine' w_setL ?e ?b ?_); (case e => walk_at "t_hp"); (case b => walk_at "t_ixn"))
  | (with_reducible refine w_bm ?_)
  | (with_reducible refine w_bm0 ?_)
  | ((with_reducible refine' w_tyL ?e ?_); (case e => walk_at "t_sq"))
  | ((with_reducible refine' w_app ?e ?hz ?_); (case e => walk_at "t_hp"); (case hz => walk_at "t_z"))
  | (with_reducible refine w_iteT ?_)
  | (with_reducible refine w_iteF ?_)
  | (with_reducible refine w_iteNT ?_)
  | (with_reducible refine w_iteNF ?_)
  | (with_reducible refine w_for ?_)
  | (with_reducible refine w_iList ?_)
  | ((with_reducible refine' w_exL ?s ?_); (case s => walk_at "t_sq"))
  | (with_reducible refine w_iTup ?_)
  | ((with_reducible refine' w_exT ?s ?_); (case s => walk_at "t_sqt"))
  | (with_reducible refine w_iRng1 ?_)
  | ((with_reducible refine w_exR1 ?b ?_); (case b => walk_at "t_c"))
  | (with_reducible refine w_iRng2 ?_)
  | ((with_reducible refine w_exR2 ?b ?_); (case b => walk_at "t_c"))
  | (with_reducible refine w_yes ?_)
  | ((with_reducible refine w_pos ?p ?_); (case p => walk_at "t_p"))
  | ((with_reducible refine w_neg ?p ?_); (case p => walk_at "t_p"))
  | ((with_reducible refine w_posN ?p ?_); (case p => walk_at "t_p"))
  | ((with_reducible refine w_negN ?p ?_); (case p => walk_at "t_p"))
  | ((with_reducible refine' w_notInL ?s ?_); (case s => walk_at "t_sq"))
  | ((with_reducible refine' w_inL ?s ?_); (case s => walk_at "t_sq"))
  | ((with_reducible refine' w_sum ?s ?_); (case s => walk_at "t_sq"))
  | (with_reducible refine w_isiI ?_)
  | ((with_reducible refine' w_isiL ?e ?_); (case e => walk_at "t_ty"))
  | ((with_reducible refine' w_isiT ?e ?_); (case e => walk_at "t_ty"))
  | (with_reducible intro p hp_new))
local macro_rules | `(tactic| walk_at "t_ty") => `(tactic| first | assumption | (refine' tyx_l ?e; (case e => walk_at "t_hp")) | (refine' tyx_t ?e; (case e => walk_at "t_hp")))
local macro_rules | `(tactic| walk_at "t_z") => `(tactic| first | assumption | decide | omega | (simp only [List.length_cons, List.length_nil, List.length_map, List.length_append, List.length_replicate]; first | done | decide | omega))
local macro_rules | `(tactic| walk_at "t_at") => `(tactic| first | assumption | rfl)
local macro_rules | `(tactic| walk_at "t_ixn") => `(tactic| first | assumption | rfl)
local macro_rules | `(tactic| walk_at "t_ev") => `(tactic| (intro H1 e Q q; (repeat walk_at "t_w"); exact q _ (by walk_at "t_ex")))
local macro_rules | `(tactic| walk_at "t_p") => `(tactic| first | assumption | decide | decide +kernel)
local macro_rules | `(tactic| walk_at "t_lt") => `(tactic| first | assumption | omega | (simp only [List.length_set, List.length_map, List.length_append]; first | assumption | omega))
local macro_rules | `(tactic| walk_at "t_w") => `(tactic| first
  | ((with_reducible refine' w_at ?s ?hl ?h0 ?_); (case s => walk_at "t_sq"); (case hl => walk_at "t_z"); (case h0 => walk_at "t_z"))
  | (with_reducible refine w_isInt ?_)
  | (with_reducible refine w_I1 ?_)
  | (with_reducible refine w_Head ?_)
  | ((with_reducible refine' w_number ?hb ?_); (case hb => walk_at "t_bits")))
local macro_rules | `(tactic| walk_at "t_bits") => `(tactic| assumption)
local macro_rules | `(tactic| walk_at "t_w") => `(tactic| first
  | (with_reducible refine w_tru ?_)
  | ((with_reducible refine' w_truL ?s ?_); (case s => walk_at "t_sq"))
  | (with_reducible refine w_dnew ?_)
  | (with_reducible refine w_disp1 ?_)
  | ((with_reducible refine' w_aug ?e ?_); (case e => rfl))
  | (with_reducible refine w_ipI ?_)
  | ((with_reducible refine' w_inD ?e ?_); (case e => walk_at "t_hp"))
  | ((with_reducible refine' w_notInD ?e ?_); (case e => walk_at "t_hp"))
  | (with_reducible refine w_dget ?_)
  | ((with_reducible refine' w_dgetE ?e ?hv ?_); (case e => walk_at "t_hp"); (case hv => walk_at "t_dv"))
  | (with_reducible refine w_dput ?_)
  | ((with_reducible refine' w_dputE ?e ?hl ?_); (case e => walk_at "t_hp"); (case hl => walk_at "t_z"))
  | ((with_reducible refine' w_extend ?e1 ?e2 ?hz ?_); (case e1 => walk_at "t_hp"); (case e2 => walk_at "t_hp"); (case hz => walk_at "t_z")))
local macro_rules | `(tactic| walk_at "t_dv") => `(tactic| assumption)
local macro_rules | `(tactic| walk_at "t_hp") => `(tactic| first
  | (with_reducible refine hp_off0 ?_; walk_at "t_hp")
  | ((with_reducible refine' hp_off1 ?hne ?hrest); (case hne => walk_at "t_ne"); (case hrest => walk_at "t_hp")))
local macro_rules | `(tactic| walk_at "t_w") => `(tactic| first
  | (with_reducible refine w_fld ?_)
  | ((with_reducible refine' w_fldE ?e ?c ?n ?l ?_); (case e => walk_at "t_hp"); (case c => assumption); (case n => assumption); (case l => rfl))
  | (with_reducible refine w_sfld ?_)
  | ((with_reducible refine' w_sfldE ?e ?c ?n ?l ?_); (case e => walk_at "t_hp"); (case c => assumption); (case n => assumption); (case l => first | decide | (show 1 < 1000; decide) | (show 2 < 1000; decide)))
  | (with_reducible refine w_setSl ?_)
  | (with_reducible refine w_make ?_)
  | ((with_reducible refine' w_gfld0 ?hv ?e ?c ?n ?l ?_); (case hv => rfl); (case e => walk_at "t_hp"); (case c => assumption); (case n => assumption); (case l => first | decide | (show 1 < 1000; decide) | (show 2 < 1000; decide)))
  | (with_reducible refine w_meth ?_)
  | (with_reducible refine w_methX ?_)
  | ((with_reducible refine' w_methE ?e ?l ?_); (case e => walk_at "t_hp"); (case l => rfl))
  | (with_reducible refine w_chain ?_)
  | ((with_reducible refine' w_gTup ?s ?l ?_); (case s => walk_at "t_sqt"); (case l => rfl))
  | (with_reducible refine w_gCons ?_)
  | (with_reducible refine w_gNil ?_)
  | (with_reducible refine w_star ?_)
  | ((with_reducible refine' w_starL ?s ?_); (case s => walk_at "t_sq"))
  | (with_reducible refine w_isiIB ?_)
  | (with_reducible refine w_isiS ?_))
abbrev s_law_class : Stmt := topS 31
theorem sc_law_class : FnScope ["_law_error", "_law_word_here", "_law_many"] ["_law_error", "_law_word_here"] (defScope s_law_class) := ⟨rfl, rfl, rfl, by decide +kernel, rfl, by decide +kernel, by decide +kernel⟩

abbrev s_law_number : Stmt := topS 32
theorem sc_law_number : FnScope ["_law_value"] ["_law_value"] (defScope s_law_number) := ⟨rfl, rfl, rfl, by decide +kernel, rfl, by decide +kernel, by decide +kernel⟩

abbrev s_law_sized : Stmt := topS 33
theorem sc_law_sized : FnScope ["_law_size", "_law_doors"] ["_law_size", "_law_doors"] (defScope s_law_sized) := ⟨rfl, rfl, rfl, by decide +kernel, rfl, by decide +kernel, by decide +kernel⟩

abbrev s_law_new : Stmt := topS 34
theorem sc_law_new : FnScope ["_law_size", "_law_doors", "_law_room", "_law_error", "_law_due"] ["_law_size", "_law_doors"] (defScope s_law_new) := ⟨rfl, rfl, rfl, by decide +kernel, rfl, by decide +kernel, by decide +kernel⟩

local macro_rules | `(tactic| walk_at "t_kd") => `(tactic| with_reducible first | exact kd_non_int | exact kd_bl_int | exact kd_int_int | exact kd_str_int | exact kd_lst_int | exact kd_tup_int | exact kd_non_bool | exact kd_bl_bool | exact kd_int_bool | exact kd_str_bool | exact kd_lst_bool | exact kd_tup_bool | exact kd_non_str | exact kd_bl_str | exact kd_int_str | exact kd_str_str | exact kd_lst_str | exact kd_tup_str | exact kd_non_tuple | exact kd_bl_tuple | exact kd_int_tuple | exact kd_str_tuple | exact kd_lst_tuple | exact kd_tup_tuple)
local macro_rules | `(tactic| walk_at "t_dp") => `(tactic| first | assumption | exact Dp.int _ | exact Dp.bl _ | exact Dp.non | exact Dp.str _ | (refine' Dp.mono ?e ?h; (case h => assumption); (case e => walk_at "t_ex")))
local macro_rules | `(tactic| walk_at "t_w") => `(tactic| first
  | ((with_reducible refine' w_isiD ?h ?e ?_); (case h => walk_at "t_dp"); (case e => walk_at "t_kd"))
  | ((with_reducible refine' w_wholeD ?h ?_); (case h => walk_at "t_dp")))
/-! ### the law's helpers on data -/
def spClass (L : List Addr) : Addr → Value → Sp := fun a cls vs H Q _ => ∃ (D : Addr) (z : Str), cls = .ref D ∧ D ∈ L ∧ vs = [.ref a, .str z] ∧ Evl.RetV (.str z) H Q
theorem w_callP {sp : Addr → Value → Sp} {a : Addr} {cls : Value} {d : Option Addr} {t : TA} {σ : L2.St} {H : Hp} {Q : VK} (hd : d = none) (h : t σ H fun vs H1 => sp a cls vs H1 Q E0) : tCallP sp a cls d t σ H Q := ⟨hd, h⟩
theorem w_isE {K : PySem.W.Frag} {D a c : Addr} {H : Hp} {Q : VK} {b : Bool} (k : PySem.W.kitOne K (.ref D) (.ref c) = some b) (q : Q (.bl b) H) : rIsE K D a [.ref a, .ref c] H Q := ⟨.ref c, .ref c, b, rfl, fun _ h => h, k, q⟩
theorem w_isET {K : PySem.W.Frag} {D a : Addr} {T : String} {H : Hp} {Q : VK} {b : Bool} (k : PySem.W.kitOne K (.ref D) (.type T) = some b) (q : Q (.bl b) H) : rIsE K D a [.ref a, .ty T] H Q := ⟨.ty T, .type T, b, rfl, fun _ h => h, k, q⟩
theorem w_mulS {z : Str} {k : Bool} {H : Hp} {Q : VK} (h : Q (.str (if k = true then z else Str.empty)) H) : rMulS (.str z) (.int (if k = true then 1 else 0)) H Q := ⟨z, k, rfl, rfl, h⟩
def spNumberD (K : PySem.W.Frag) : Sp := fun vs H Q _ => ∃ (v : V) (d : PyData), vs = [v] ∧ Dp K H v d ∧ Evl.RetV (.bl (wholeD d)) H Q
theorem w_numberD {K : PySem.W.Frag} {H : Hp} {Q : VK} {E : XK} {v : V} {d : PyData} (h : Dp K H v d) (k : ∀ H2, Ex H H2 → Q (.bl (wholeD d)) H2) : spNumberD K ([v] ++ []) H Q E := ⟨v, d, rfl, h, k⟩
def spSized (K : PySem.W.Frag) : Sp := fun vs H Q _ => ∃ (v1 v2 : V) (d1 d2 : PyData), vs = [v1, v2] ∧ Dp K H v1 d1 ∧ Dp K H v2 d2 ∧ Evl.RetV (.bl (sizedD d1 d2)) H Q
theorem w_sized {K : PySem.W.Frag} {H : Hp} {Q : VK} {E : XK} {v1 v2 : V} {d1 d2 : PyData} (h1 : Dp K H v1 d1) (h2 : Dp K H v2 d2) (k : ∀ H2, Ex H H2 → Q (.bl (sizedD d1 d2)) H2) : spSized K ([v1, v2] ++ []) H Q E := ⟨v1, v2, d1, d2, rfl, h1, h2, k⟩
def newWord (b : Bool) : Str := if b = true then "made" else "size"
def spNew (K : PySem.W.Frag) : Sp := fun vs H Q _ => ∃ (v1 v2 : V) (d1 d2 : PyData), vs = [v1, v2] ∧ Dp K H v1 d1 ∧ Dp K H v2 d2 ∧ Evl.RetV (.str (newWord (sizedD d1 d2))) H Q
theorem w_new {K : PySem.W.Frag} {H : Hp} {Q : VK} {E : XK} {v1 v2 : V} {d1 d2 : PyData} (h1 : Dp K H v1 d1) (h2 : Dp K H v2 d2) (k : ∀ H2, Ex H H2 → Q (.str (newWord (sizedD d1 d2))) H2) : spNew K ([v1, v2] ++ []) H Q E := ⟨v1, v2, d1, d2, rfl, h1, h2, k⟩
local macro_rules | `(tactic| walk_at "t_w") => `(tactic| first
  | ((with_reducible refine' w_callP ?hd ?_); (case hd => rfl))
  | ((with_reducible refine' w_isE ?k ?_); (case k => assumption))
  | ((with_reducible refine' w_isET ?k ?_); (case k => assumption))
  | (with_reducible refine w_mulS ?_)
  | ((with_reducible refine' w_numberD ?h ?_); (case h => walk_at "t_dp")))
section
variable {P : Program} {w : World} {K : PySem.W.Frag} {mg : Str → Option Value} {base : Heap} {C cB cR cT cS cF cE : Addr}
theorem one_class (R : RmT6 K mg C cB cR cT cS cF cE) {D : Addr} (hD : D ∈ Five cS cT cB cF cR) : ∃ b1 b2 b3 b4 b5 : Bool, PySem.W.kitOne K (.ref D) (.ref cS) = some b1 ∧ PySem.W.kitOne K (.ref D) (.ref cT) = some b2 ∧ PySem.W.kitOne K (.ref D) (.ref cB) = some b3 ∧
    PySem.W.kitOne K (.ref D) (.ref cF) = some b4 ∧ PySem.W.kitOne K (.ref D) (.ref cR) = some b5 ∧ (((((if b1 = true then (1 : Int) else 0) + (if b2 = true then 1 else 0)) + (if b3 = true then 1 else 0)) + (if b4 = true then 1 else 0)) + (if b5 = true then 1 else 0)) = 1 := by
  refine ⟨_, _, _, _, _, R.kit D hD cS (by simp), R.kit D hD cT (by simp), R.kit D hD cB (by simp), R.kit D hD cF (by simp), R.kit D hD cR (by simp), ?_⟩
  have nd := R.nd
  simp only [Five, List.nodup_cons, List.mem_cons, List.not_mem_nil, or_false, not_or, List.nodup_nil, and_true, not_false_eq_true] at nd
  obtain ⟨⟨n1, n2, n3, n4⟩, ⟨n5, n6, n7⟩, ⟨n8, n9⟩, n10⟩ := nd
  simp only [Five, List.mem_cons, List.not_mem_nil, or_false] at hD
  rcases hD with rfl | rfl | rfl | rfl | rfl
  · simp [n1, n2, n3, n4]
  · simp [Ne.symm n1, n5, n6, n7]
  · simp [Ne.symm n2, Ne.symm n5, n8, n9]
  · simp [Ne.symm n3, Ne.symm n6, Ne.symm n8, n10]
  · simp [Ne.symm n4, Ne.symm n7, Ne.symm n9, Ne.symm n10]
theorem c_law_class (T : Txt K mg) (R : RmT6 K mg C cB cR cT cS cF cE) (D : DefAt K mg "_law_class" "_law_class" s_law_class) : CalP P w K mg base "_law_class" 1 ["_law_error", "_law_word_here"] (spClass (Five cS cT cB cF cR)) := by
  refine CalP.of D sc_law_class (fun a cls vs H Q E h => ?_) (fun _ _ _ _ _ _ us hl => match us, hl with | [_, _], _ => rfl) (fun f cdv A outer s H vs Q p cls hr hz hf h => ?_)
  · obtain ⟨D, z, rfl, _, rfl, _⟩ := h; rfl
  · obtain ⟨D0, z, rfl, hD, rfl, k⟩ := h
    have hu := (fun u (h : u + 16 * 0 + 200 < cLine) => (by omega : u + 64 < cLine)) _ hr.un
    have hC := R.own D0 hD
    obtain ⟨b1, b2, b3, b4, b5, k1, k2, k3, k4, k5, hs⟩ := one_class R hD
    have k6 := R.slide D0 hD
    have k7 := R.val D0 hD
    refine ⟨_, (pss_cons (ps_set (i := 2) sc_law_class.nd rfl (Or.inl rfl) (pe_op op_addA (pe_op op_addA (pe_callTy call_intA (by rfl) T.b_int (by decide +kernel) (pa_cons (pe_callB (call_isP (p := p) (K := K) rfl (List.mem_singleton.mpr rfl) hC hz hf) (by rfl) T.b_isinstance (by decide +kernel) (pa_cons (pv 0) (pa_cons (pe_glob (v := .ref _) rfl R.xBadSize.g rfl) pa_nil))) pa_nil)) (pe_callTy call_intA (by rfl) T.b_int (by decide +kernel) (pa_cons (pe_callB (call_isP (p := p) (K := K) rfl (List.mem_singleton.mpr rfl) hC hz hf) (by rfl) T.b_isinstance (by decide +kernel) (pa_cons (pv 0) (pa_cons (pe_glob (v := .ref _) rfl R.xBadThing.g rfl) pa_nil))) pa_nil))) (pe_callTy call_intA (by rfl) T.b_int (by decide +kernel) (pa_cons (pe_callB (call_isP (p := p) (K := K) rfl (List.mem_singleton.mpr rfl) hC hz hf) (by rfl) T.b_isinstance (by decide +kernel) (pa_cons (pv 0) (pa_cons (pe_glob (v := .ref _) rfl R.xNoBox.g rfl) pa_nil))) pa_nil))))
      (pss_cons (ps_set (i := 2) sc_law_class.nd rfl (Or.inl rfl) (pe_op op_addA (pe_op op_addA (pv 2) (pe_callTy call_intA (by rfl) T.b_int (by decide +kernel) (pa_cons (pe_callB (call_isP (p := p) (K := K) rfl (List.mem_singleton.mpr rfl) hC hz hf) (by rfl) T.b_isinstance (by decide +kernel) (pa_cons (pv 0) (pa_cons (pe_glob (v := .ref _) rfl R.xNoField.g rfl) pa_nil))) pa_nil))) (pe_callTy call_intA (by rfl) T.b_int (by decide +kernel) (pa_cons (pe_callB (call_isP (p := p) (K := K) rfl (List.mem_singleton.mpr rfl) hC hz hf) (by rfl) T.b_isinstance (by decide +kernel) (pa_cons (pv 0) (pa_cons (pe_glob (v := .ref _) rfl R.xNoRoom.g rfl) pa_nil))) pa_nil))))
      (pss_cons (ps_if (PW.pt (pw_and (pt_cmpR (op_eqK (K := K) rfl hu) (pv 2) pe_int (nomark _)) (pw_and (pt_val (pe_callB (call_isP (p := p) (K := K) rfl (List.mem_singleton.mpr rfl) hC hz hf) (by rfl) T.b_isinstance (by decide +kernel) (pa_cons (pv 0) (pa_cons (pe_glob (v := .ref _) rfl R.xSlideError.g rfl) pa_nil)))) (pw_and1 (pt_val (pe_callB (call_isP (p := p) (K := K) rfl (List.mem_singleton.mpr rfl) hC hz hf) (by rfl) T.b_isinstance (by decide +kernel) (pa_cons (pv 0) (pa_cons (pe_bltn (v := .ty "ValueError") (by rfl) T.b_ValueError (by decide +kernel) rfl) pa_nil)))))))) (pss_one (ps_ret (pv 1))) pss_nil)
      (pss_one (ps_ret pe_str))))), ?_⟩
    repeat walk_at "t_w"
    exact k _ (by walk_at "t_ex")
theorem c_law_number (T : Txt K mg) (D : DefAt K mg "_law_number" "_law_number" s_law_number) : Cal P w K mg base "_law_number" 1 ["_law_value"] (spNumberD K) := by
  refine Cal.of D sc_law_number (fun vs H Q E h => ?_) (fun _ _ _ _ _ _ us hl => match us, hl with | [_], _ => rfl) (fun f cdv A outer s H vs Q E hr h => ?_)
  · obtain ⟨v, d, rfl, _⟩ := h; rfl
  · obtain ⟨v, d, rfl, h, k⟩ := h
    have hu : _ + 64 < cLine := hr.units
    refine ⟨_, (pss_one (ps_ret (pe_and (pe_callB (call_isiK' (K := K) rfl) (by rfl) T.b_isinstance (by decide +kernel) (pa_cons (pv 0) (pa_cons (pe_bltn (v := .ty "int") (by rfl) T.b_int (by decide +kernel) rfl) pa_nil))) (pe_and (pe_cmpR op_notA (pv 0) pe_bl (nomark _)) (pe_and (pe_cmpR op_notA (pv 0) pe_bl (nomark _)) (pe_one (pe_chain op_lt op_lt (pe_op op_sub pe_int (pe_op op_pow pe_int pe_int)) (pv 0) (pe_op op_pow pe_int pe_int)))))))), ?_⟩
    cases h with
    | int n =>
      repeat walk_at "t_w"
      have e : wholeD (.int n) = (decide (0 - (10 : Int) ^ Int.toNat 60 < n) && decide (n < (10 : Int) ^ Int.toNat 60)) := by
        rw [show (0 - (10 : Int) ^ Int.toNat 60) = -(10 ^ 60) by decide +kernel]
        rfl
      rw [e] at k
      clear e
      cases hb : decide (0 - (10 : Int) ^ Int.toNat 60 < n) with
      | false =>
        rw [hb] at k
        clear hb
        repeat walk_at "t_w"
        exact k _ (by walk_at "t_ex")
      | true =>
        rw [hb] at k
        clear hb
        repeat walk_at "t_w"
        exact k _ (by walk_at "t_ex")
    | non => repeat walk_at "t_w"
             exact k _ (by walk_at "t_ex")
    | bl b =>
      cases b with
      | true =>
        repeat walk_at "t_w"
        exact k _ (by walk_at "t_ex")
      | false =>
        repeat walk_at "t_w"
        exact k _ (by walk_at "t_ex")
    | str x => repeat walk_at "t_w"
               exact k _ (by walk_at "t_ex")
    | lst s a =>
      have hd := Dp.lst s a
      repeat walk_at "t_w"
      exact k _ (by walk_at "t_ex")
    | tup s a =>
      have hd := Dp.tup s a
      repeat walk_at "t_w"
      exact k _ (by walk_at "t_ex")
theorem c_law_sized (T : Txt K mg) (D : DefAt K mg "_law_sized" "_law_sized" s_law_sized) (c_law_number : Cal P w K mg base "_law_number" 1 ["_law_value"] (spNumberD K)) : Cal P w K mg base "_law_sized" 2 ["_law_size", "_law_doors"] (spSized K) := by
  refine Cal.of D sc_law_sized (fun vs H Q E h => ?_) (fun _ _ _ _ _ _ us hl => match us, hl with | [_, _], _ => rfl) (fun f cdv A outer s H vs Q E hr h => ?_)
  · obtain ⟨v1, v2, d1, d2, rfl, _⟩ := h; rfl
  · obtain ⟨v1, v2, d1, d2, rfl, hD1, hD2, k⟩ := h
    have hu : _ + 64 < cLine := hr.units
    refine ⟨_, (pss_cons (ps_if (PW.pt (pw_or (pt_not (pt_val (pe_callC c_law_number (hr.mono (by decide)) rfl (pa_cons (pv 0) pa_nil)))) (pw_or1 (pt_not (pt_val (pe_callC c_law_number (hr.mono (by decide)) rfl (pa_cons (pv 1) pa_nil))))))) (pss_one (ps_ret pe_bl)) pss_nil)
      (pss_one (ps_ret (pe_and (pe_chain op_le op_le pe_int (pv 0) pe_int) (pe_and (pe_chain op_le op_le pe_int (pv 1) pe_int) (pe_one (pe_cmpR op_lt (pv 1) (pv 0) (nomark _)))))))), ?_⟩
    repeat walk_at "t_w"
    cases hw : wholeD d1 with
    | false =>
      have hs : sizedD d1 d2 = false := sized_no fun z d e1 e2 ⟨h1, h2, _⟩ => by
        rw [e1, wholeD_of (by rw [p60']; omega) (by rw [p60']; omega)] at hw; cases hw
      clear hw
      rw [hs] at k
      repeat walk_at "t_w"
      exact k _ (by walk_at "t_ex")
    | true =>
      obtain ⟨z, rfl, h1, h2⟩ := wholeD_int hw
      clear hw h1 h2
      cases hD1
      repeat walk_at "t_w"
      cases hw : wholeD d2 with
      | false =>
        have hs : sizedD (.int z) d2 = false := sized_no fun z' d e1 e2 ⟨_, _, h1, h2, _⟩ => by
          rw [e2, wholeD_of (by rw [p60']; omega) (by rw [p60']; omega)] at hw; cases hw
        clear hw
        rw [hs] at k
        repeat walk_at "t_w"
        exact k _ (by walk_at "t_ex")
      | true =>
        obtain ⟨d, rfl, h1, h2⟩ := wholeD_int hw
        clear hw h1 h2
        cases hD2
        have e : sizedD (.int z) (.int d) = (decide (1 ≤ z) && decide (z ≤ 400) && (decide (0 ≤ d) && decide (d ≤ 20)) && decide (d < z)) := by
          show decide (1 ≤ z ∧ z ≤ 400 ∧ 0 ≤ d ∧ d ≤ 20 ∧ d < z) = _
          rw [Bool.eq_iff_iff]
          simp only [Bool.and_eq_true, decide_eq_true_eq]
          constructor
          · rintro ⟨a, b, c, d, e⟩; exact ⟨⟨⟨a, b⟩, c, d⟩, e⟩
          · rintro ⟨⟨⟨a, b⟩, c, d⟩, e⟩; exact ⟨a, b, c, d, e⟩
        rw [e] at k
        clear e
        repeat walk_at "t_w"
        by_cases a1 : 1 ≤ z
        case neg =>
          rw [decide_eq_false a1] at k
          repeat walk_at "t_w"
          exact k _ (by walk_at "t_ex")
        rw [decide_eq_true a1] at k
        repeat walk_at "t_w"
        by_cases a2 : z ≤ 400
        case neg =>
          rw [decide_eq_false a2] at k
          rw [decide_eq_false a2]
          repeat walk_at "t_w"
          exact k _ (by walk_at "t_ex")
        rw [decide_eq_true a2] at k
        rw [decide_eq_true a2]
        repeat walk_at "t_w"
        by_cases a3 : 0 ≤ d
        case neg =>
          rw [decide_eq_false a3] at k
          repeat walk_at "t_w"
          exact k _ (by walk_at "t_ex")
        rw [decide_eq_true a3] at k
        repeat walk_at "t_w"
        by_cases a4 : d ≤ 20
        case neg =>
          rw [decide_eq_false a4] at k
          rw [decide_eq_false a4]
          repeat walk_at "t_w"
          exact k _ (by walk_at "t_ex")
        rw [decide_eq_true a4] at k
        rw [decide_eq_true a4]
        repeat walk_at "t_w"
        exact k _ (by walk_at "t_ex")
theorem c_law_new (T : Txt K mg) (R : RmT6 K mg C cB cR cT cS cF cE) (D : DefAt K mg "_law_new" "_law_new" s_law_new) (c_Room___init : CalK P w K mg base C 2 ["self", "size", "doors"] (spInitD C cS K)) (c_law_class : CalP P w K mg base "_law_class" 1 ["_law_error", "_law_word_here"] (spClass (Five cS cT cB cF cR)))
    (c_law_words_are : Cal P w K mg base "_law_words_are" 2 ["_law_found", "_law_due"] (spWordsAre K)) (c_Room_cells : CalM P w K mg base C "cells" 1 ["self"] (spCells C)) (c_Room_used : CalM P w K mg base C "used" 1 ["self"] (spUsed C)) : Cal P w K mg base "_law_new" 4 ["_law_size", "_law_doors"] (spNew K) := by
  refine Cal.of D sc_law_new (fun vs H Q E h => ?_) (fun _ _ _ _ _ _ us hl => match us, hl with | [_, _], _ => rfl) (fun f cdv A outer s H vs Q E hr h => ?_)
  · obtain ⟨v1, v2, d1, d2, rfl, _⟩ := h; rfl
  · obtain ⟨v1, v2, d1, d2, rfl, hD1, hD2, k⟩ := h
    have hu : _ + 64 < cLine := hr.units
    have hCl := R.cl
    have hNr := R.nr
    have hNu := R.nu
    refine ⟨_, (pss_cons (ps_try_named (K := K) (i := 3) rfl rfl rfl sc_law_new.nd rfl rfl (fun W pn xe tk => (pss_one (ps_set (i := 2) sc_law_new.nd rfl (Or.inl rfl) (pe_makeC c_Room___init (hr.mono (by decide)) rfl R.gR (passes_len 5 tk rfl) (pa_cons (pv 0) (pa_cons (pv 1) pa_nil))))))
        (.more (ts := fun a cls d => tRet (tCallP (spClass (Five cS cT cB cF cR)) a cls d (tCons (tVar 3) (tCons (tC (.str "size")) tNil)))) rfl R.xBadSize.g (by decide) (fun a oe cls d pn hz hf => (pss_one (ps_ret (pe_callP (p := (a, oe)) List.mem_cons_self hz hf c_law_class (roomH_mark (hr.mono (by decide))) rfl (pa_cons (pv 3) (pa_cons pe_str pa_nil))))))
        .none))
      (pss_cons (ps_set (i := 4) sc_law_new.nd rfl (Or.inl rfl) (pe_op op_addA (pe_lst (pa_cons (pe_op op_mulA pe_int (pv 1)) pa_nil)) (pe_op op_mulA (pe_lst (pa_cons pe_int pa_nil)) (pe_op op_sub (pv 0) pe_int))))
      (pss_one (ps_ret (pe_op op_mulS pe_str (pe_callTy call_intA (by rfl) T.b_int (by decide +kernel) (pa_cons (pe_and (pe_callC c_law_words_are (hr.mono (by decide)) rfl (pa_cons (pe_methC0 R.cl c_Room_cells (hr.mono (by decide)) passL (pv 2)) (pa_cons (pv 4) pa_nil))) (pe_one (pe_cmpR (op_eqK (K := K) rfl hu) (pe_methC0 R.cl c_Room_used (hr.mono (by decide)) passL (pv 2)) (pe_op op_addA pe_int (pv 1)) (nomark _)))) pa_nil))))))), ?_⟩
    repeat walk_at "t_w"
    rename_i x dx hx hdx
    intro hne
    have hE : Ex H (upd (upd H dx (.own x)) x (.ins C dx [])) := Evl.Ex.mut (Evl.Ex.new hdx) hx
    refine ⟨x, dx, v1, v2, d1, d2, rfl, upd_same, Dp.mono hE hD1, Dp.mono hE hD2, fun hs H' e' σ' hl => ?_, fun z d e1 e2 h1 h4 h20 hdz r H2 hr0 e' Rm => ?_⟩
    · match σ', hl with
      | [y0, y1, y2, y3, y4], _ =>
        refine ⟨true, R.xBadSize.e, fun _ a ha => ?_, fun z => by cases z⟩
        repeat walk_at "t_w"
        refine ⟨cS, "size", rfl, by simp, rfl, fun H3 e3 => ?_⟩
        rw [hs] at k
        exact k _ ((hE.trans e').trans e3)
    · subst e1 e2
      cases hD1
      cases hD2
      have hs : sizedD (.int (z : Int)) (.int (d : Int)) = true := decide_eq_true ⟨by omega, by omega, by omega, by omega, by omega⟩
      rw [hs] at k
      have hE2 : Ex H H2 := fun a o e => e' a o (by
        rw [off_upd (by simp), off_out (by simpa using ne_of_none e hx), upd_ne (ne_of_none e hdx)]
        exact e)
      refine ⟨rfl, ?_⟩
      have b1 : -1000000 ≤ (z : Int) - 1 := by omega
      have b2 : (z : Int) - 1 ≤ 1000000 := by omega
      obtain ⟨⟨dx2, hX⟩, hR, hro⟩ := id Rm
      have hlr := rowAt_len [List.replicate d (Thing.num 0)] (z - d - 1)
      have hcd : cells [List.replicate d (Thing.num 0)] = d + 1 := by rw [cells_cons, List.length_replicate]; show 1 + d + 0 = _; omega
      have hdue : [V.int (4 * (d : Int))] ++ List.replicate ((z : Int) - 1).toNat (V.int 0) = (rowAt [List.replicate d (Thing.num 0)] (z - d - 1)).map V.int := by
        rw [show ((z : Int) - 1).toNat = z - 1 by omega, row_new hdz]
      repeat walk_at "t_w"
      rename_i p1 hp1 p2 hp2 p3 hp3 p4 hp4
      rw [hdue]
      have hE4 := ex_new hp4 (o := HO.lst ((rowAt [List.replicate d (Thing.num 0)] (z - d - 1)).map V.int)) (ex_new hp3 (o := HO.lst (List.replicate ((z : Int) - 1).toNat (V.int 0))) (ex_new hp2 (o := HO.lst [V.int 0]) (ex_new hp1 (o := HO.lst [V.int (4 * (d : Int))]) (Evl.Ex.refl H2))))
      have h4 := upd_same (H := upd (upd (upd H2 p1 (HO.lst [V.int (4 * (d : Int))])) p2 (HO.lst [V.int 0])) p3 (HO.lst (List.replicate ((z : Int) - 1).toNat (V.int 0)))) (a := p4) (o := HO.lst ((rowAt [List.replicate d (Thing.num 0)] (z - d - 1)).map V.int))
      generalize upd (upd (upd (upd H2 p1 (HO.lst [V.int (4 * (d : Int))])) p2 (HO.lst [V.int 0])) p3 (HO.lst (List.replicate ((z : Int) - 1).toNat (V.int 0)))) p4 (HO.lst ((rowAt [List.replicate d (Thing.num 0)] (z - d - 1)).map V.int)) = H4 at hE4 h4 ⊢
      clear hp1 hp2 hp3 hp4
      have hX4 := hE4 _ _ hX
      repeat walk_at "t_w"
      refine w_cellsM (Rm.ex hE4) fun lc H5 hlc e5 h5 => ?_
      repeat walk_at "t_w"
      refine w_words2 (rowAt [List.replicate d (Thing.num 0)] (z - d - 1)) h5 (SqL.of (e5 _ _ h4)) rfl rfl (by omega) fun H6 e6 => ?_
      repeat walk_at "t_w"
      refine w_usedM (Rm.ex ((hE4.trans e5).trans e6)) fun H7 e7 => ?_
      repeat walk_at "t_w"
      rw [hcd, decide_eq_true (show (((d + 1 : Nat) : Int) = 1 + (d : Int)) by omega)]
      exact k _ ((((hE2.trans hE4).trans e5).trans e6).trans e7)
end
end Tw

set_option Elab.async false
set_option linter.all false
set_option maxRecDepth 100000
set_option maxHeartbeats 4000000
namespace Tw
open PySem PySem.Spec PyProof.Rows L2
open Evl (Ex ex_l ex_t fresh_back sz_of sz_lt)
local macro_rules | `(tactic| walk_at "t_hp") => `(tactic| first
  | assumption
  | exact upd_same
  | (refine' hp_ne ?hne ?hrest; (case hne => walk_at "t_ne"); (case hrest => walk_at "t_hp"))
  | (refine' hp_ex ?hx ?hrest; (case hx => assumption); (case hrest => walk_at "t_hp")))
local macro_rules | `(tactic| walk_at "t_ne") => `(tactic| first
  | assumption
  | exact Ne.symm (by assumption)
  | (refine' ne_of_none ?h1 ?h2; (case h2 => assumption); (case h1 => walk_at "t_hp"))
  | (refine' Ne.symm (ne_of_none ?h1 ?h2); (case h2 => assumption); (case h1 => walk_at "t_hp")))
local macro_rules | `(tactic| walk_at "t_none") => `(tactic| first
  | assumption
  | (refine' fresh_back ?e ?n; (case n => assumption); (case e => walk_at "t_ex")))
local macro_rules | `(tactic| walk_at "t_ex") => `(tactic| first
  | assumption
  | exact Evl.Ex.refl _
  | (refine' ex_new ?n ?e; (case n => assumption); (case e => walk_at "t_ex"))
  | (refine' Evl.Ex.mut ?e ?n; (case n => walk_at "t_none"); (case e => walk_at "t_ex"))
  | (refine' Evl.Ex.trans ?a ?b; (case b => assumption); (case a => walk_at "t_ex")))
local macro_rules | `(tactic| walk_at "t_sq") => `(tactic| first
  | assumption
  | (refine' SqL.of ?h; (case h => walk_at "t_hp"))
  | (refine' ex_l ?e ?s; (case s => assumption); (case e => walk_at "t_ex")))
local macro_rules | `(tactic| walk_at "t_sqt") => `(tactic| first
  | assumption
  | (refine' SqT.of ?h; (case h => walk_at "t_hp"))
  | (refine' ex_t ?e ?s; (case s => assumption); (case e => walk_at "t_ex")))
local macro_rules | `(tactic| walk_at "t_mul") => `(tactic| first
  | assumption
  | exact Or.inl (Or.inl ⟨by decide, by decide⟩)
  | exact Or.inl (Or.inr ⟨by decide, by decide⟩)
  | exact Or.inl (Or.inl ⟨by omega, by omega⟩)
  | exact Or.inl (Or.inr ⟨by omega, by omega⟩))
local macro_rules | `(tactic| walk_at "t_c") => `(tactic| first
  | assumption
  | decide
  | (show (0 : Int) < _; decide)
  | (show (0 : Int) < _; omega)
  | exact ⟨by decide, by decide⟩
  | exact ⟨by decide, by decide, by decide⟩
  | exact ⟨by omega, by omega⟩
  | exact ⟨by omega, by omega, by omega, by omega⟩)
local macro_rules | `(tactic| walk_at "t_w") => `(tactic| first
  | (with_reducible refine w_seq ?_)
  | (with_reducible refine w_asg ?_)
  | (with_reducible refine w_gName ?_)
  | (with_reducible refine w_nx ?_)
  | (with_reducible refine w_rt ?_)
  | (with_reducible refine w_ct ?_)
  | (with_reducible refine w_bk ?_)
  | (with_reducible refine w_ret ?_)
  | (with_reducible refine w_retN ?_)
  | (with_reducible refine w_drop ?_)
  | (with_reducible refine w_ifS ?_)
  | (with_reducible refine w_next ?_)
  | (with_reducible refine w_break ?_)
  | (with_reducible refine w_cont ?_)
  | ((with_reducible refine' w_var ?h ?_); (case h => rfl))
  | (with_reducible refine w_c ?_)
  | (with_reducible refine w_op ?_)
  | (with_reducible refine w_un ?_)
  | (with_reducible refine w_I0 ?_)
  | ((with_reducible refine' w_I ?c ?_); (case c => walk_at "t_c"))
  | (with_reducible refine w_U ?_)
  | (with_reducible refine w_addI ?_)
  | ((with_reducible refine' w_addL ?h1 ?h2 ?hz ?_); (case h1 => walk_at "t_hp"); (case h2 => walk_at "t_hp"); (case hz => walk_at "t_z"))
  | ((with_reducible refine' w_mulI ?c ?_); (case c => walk_at "t_mul"))
  | ((with_reducible refine' w_mulL1 ?h1 ?b1 ?b2 ?_); (case h1 => walk_at "t_hp"); (case b1 => walk_at "t_z"); (case b2 => walk_at "t_z"))
  | ((with_reducible refine' w_mulL ?h1 ?b1 ?b2 ?hz ?_); (case h1 => walk_at "t_hp"); (case b1 => walk_at "t_z"); (case b2 => walk_at "t_z"); (case hz => walk_at "t_z"))
  | (with_reducible refine w_notIB ?_)
  | (with_reducible refine w_notBB ?_)
  | (with_reducible refine w_notN ?_)
  | (with_reducible refine w_isBB ?_)
  | (with_reducible refine w_isN ?_)
  | (with_reducible refine w_eqI ?_)
  | (with_reducible refine w_neI ?_)
  | (with_reducible refine w_eqB ?_)
  | (with_reducible refine w_neB ?_)
  | (with_reducible refine w_eqS ?_)
  | (with_reducible refine w_neS ?_)
  | (with_reducible refine w_test ?_)
  | (with_reducible refine w_B ?_)
  | (with_reducible refine w_exB ?_)
  | (with_reducible refine w_and ?_)
  | (with_reducible refine w_or ?_)
  | (with_reducible refine w_not ?_)
  | (with_reducible refine w_andV ?_)
  | (with_reducible refine w_orV ?_)
  | (with_reducible refine w_notV ?_)
  | (with_reducible refine w_bl ?_)
  | (with_reducible refine w_if ?_)
  | (with_reducible refine w_nil ?_)
  | (with_reducible refine w_cons ?_)
  | (with_reducible refine w_cb ?_)
  | (with_reducible refine w_call ?_)
  | (with_reducible refine w_tup ?_)
  | (with_reducible refine w_lst ?_)
  | ((with_reducible refine' w_fin ?hz ?_); (case hz => (simp only [List.length_cons, List.length_nil]; decide)))
  | ((with_reducible refine' w_len ?s ?_); (case s => walk_at "t_sq"))
  | ((with_reducible refine' w_lenT ?s ?_); (case s => walk_at "t_sqt"))
  | (with_reducible refine w_intI ?_)
  | (with_reducible refine w_intB ?_)
  | ((with_reducible refine' w_list ?s ?_); (case s => walk_at "t_sq"))
  | (with_reducible refine w_max ?_)
  | (with_reducible refine w_min ?_)
  | (with_reducible refine w_abs ?_)
  | (with_reducible refine w_sl ?_)
  | (with_reducible refine w_noPart ?_)
  | (with_reducible refine w_part ?_)
  | (with_reducible refine w_exI ?_)
  | ((with_reducible refine' w_slL ?s ?_); (case s => walk_at "t_sq"))
  | ((with_reducible refine' w_ixLI ?s ?b ?_); (case s => walk_at "t_sq"); (case b => walk_at "t_lt"))
  | ((with_reducible refine' w_ixL ?s ?e ?_); (case s => walk_at "t_sq"); (case e => walk_at "t_at"))
  | ((with_reducible refine' w_ixT ?s ?e ?_); (case s => walk_at "t_sqt"); (case e => walk_at "t_at"))
  | (with_reducible refine w_gSub ?_)
  | ((with_reducible refine' w_setLI ?e ?b ?_); (case e => walk_at "t_hp"); (case b => walk_at "t_lt"))
  | ((with_reducible refine' w_setL ?e ?b ?_); (case e => walk_at "t_hp"); (case b => walk_at "t_ixn"))
  | (with_reducible refine w_bm ?_)
  | (with_reducible refine w_bm0 ?_)
  | ((with_reducible refine' w_tyL ?e ?_); (case e => walk_at "t_sq"))
  | ((with_reducible refine' w_app ?e ?hz ?_); (case e => walk_at "t_hp"); (case hz => walk_at "t_z"))
  | (with_reducible refine w_iteT ?_)
  | (with_reducible refine w_iteF ?_)
  | (with_reducible refine w_iteNT ?_)
  | (with_reducible refine w_iteNF ?_)
  | (with_reducible refine w_for ?_)
  | (with_reducible refine w_iList ?_)
  | ((with_reducible refine' w_exL ?s ?_); (case s => walk_at "t_sq"))
  | (with_reducible refine w_iTup ?_)
  | ((with_reducible refine' w_exT ?s ?_); (case s => walk_at "t_sqt"))
  | (with_reducible refine w_iRng1 ?_)
  | ((with_reducible refine w_exR1 ?b ?_); (case b => walk_at "t_c"))
  | (with_reducible refine w_iRng2 ?_)
  | ((with_reducible refine w_exR2 ?b ?_); (case b => walk_at "t_c"))
  | (with_reducible refine w_yes ?_)
  | ((with_reducible refine w_pos ?p ?_); (case p => walk_at "t_p"))
  | ((with_reducible refine w_neg ?p ?_); (case p => walk_at "t_p"))
  | ((with_reducible refine w_posN ?p ?_); (case p => walk_at "t_p"))
  | ((with_reducible refine w_negN ?p ?_); (case p => walk_at "t_p"))
  | ((with_reducible refine' w_notInL ?s ?_); (case s => walk_at "t_sq"))
  | ((with_reducible refine' w_inL ?s ?_); (case s => walk_at "t_sq"))
  | ((with_reducible refine' w_sum ?s ?_); (case s => walk_at "t_sq"))
  | (with_reducible refine w_isiI ?_)
  | ((with_reducible refine' w_isiL ?e ?_); (case e => walk_at "t_ty"))
  | ((with_reducible refine' w_isiT ?e ?_); (case e => walk_at "t_ty"))
  | (with_reducible intro p hp_new))
local macro_rules | `(tactic| walk_at "t_ty") => `(tactic| first | assumption | (refine' tyx_l ?e; (case e => walk_at "t_hp")) | (refine' tyx_t ?e; (case e => walk_at "t_hp")))
local macro_rules | `(tactic| walk_at "t_z") => `(tactic| first | assumption | decide | omega | (simp only [List.length_cons, List.length_nil, List.length_map, List.length_append, List.length_replicate]; first | done | decide | omega))
local macro_rules | `(tactic| walk_at "t_at") => `(tactic| first | assumption | rfl)
local macro_rules | `(tactic| walk_at "t_ixn") => `(tactic| first | assumption | rfl)
local macro_rules | `(tactic| walk_at "t_ev") => `(tactic| (intro H1 e Q q; (repeat walk_at "t_w"); exact q _ (by walk_at "t_ex")))
local macro_rules | `(tactic| walk_at "t_p") => `(tactic| first | assumption | decide | decide +kernel)
local macro_rules | `(tactic| walk_at "t_lt") => `(tactic| first | assumption | omega | (simp only [List.length_set, List.length_map, List.length_append]; first | assumption | omega))
local macro_rules | `(tactic| walk_at "t_w") => `(tactic| first
  | ((with_reducible refine' w_at ?s ?hl ?h0 ?_); (case s => walk_at "t_sq"); (case hl => walk_at "t_z"); (case h0 => walk_at "t_z"))
  | (with_reducible refine w_isInt ?_)
  | (with_reducible refine w_I1 ?_)
  | (with_reducible refine w_Head ?_)
  | ((with_reducible refine' w_number ?hb ?_); (case hb => walk_at "t_bits")))
local macro_rules | `(tactic| walk_at "t_bits") => `(tactic| assumption)
local macro_rules | `(tactic| walk_at "t_w") => `(tactic| first
  | (with_reducible refine w_tru ?_)
  | ((with_reducible refine' w_truL ?s ?_); (case s => walk_at "t_sq"))
  | (with_reducible refine w_dnew ?_)
  | (with_reducible refine w_disp1 ?_)
  | ((with_reducible refine' w_aug ?e ?_); (case e => rfl))
  | (with_reducible refine w_ipI ?_)
  | ((with_reducible refine' w_inD ?e ?_); (case e => walk_at "t_hp"))
  | ((with_reducible refine' w_notInD ?e ?_); (case e => walk_at "t_hp"))
  | (with_reducible refine w_dget ?_)
  | ((with_reducible refine' w_dgetE ?e ?hv ?_); (case e => walk_at "t_hp"); (case hv => walk_at "t_dv"))
  | (with_reducible refine w_dput ?_)
  | ((with_reducible refine' w_dputE ?e ?hl ?_); (case e => walk_at "t_hp"); (case hl => walk_at "t_z"))
  | ((with_reducible refine' w_extend ?e1 ?e2 ?hz ?_); (case e1 => walk_at "t_hp"); (case e2 => walk_at "t_hp"); (case hz => walk_at "t_z")))
local macro_rules | `(tactic| walk_at "t_dv") => `(tactic| assumption)
local macro_rules | `(tactic| walk_at "t_hp") => `(tactic| first
  | (with_reducible refine hp_off0 ?_; walk_at "t_hp")
  | ((with_reducible refine' hp_off1 ?hne ?hrest); (case hne => walk_at "t_ne"); (case hrest => walk_at "t_hp")))
local macro_rules | `(tactic| walk_at "t_w") => `(tactic| first
  | (with_reducible refine w_fld ?_)
  | ((with_reducible refine' w_fldE ?e ?c ?n ?l ?_); (case e => walk_at "t_hp"); (case c => assumption); (case n => assumption); (case l => rfl))
  | (with_reducible refine w_sfld ?_)
  | ((with_reducible refine' w_sfldE ?e ?c ?n ?l ?_); (case e => walk_at "t_hp"); (case c => assumption); (case n => assumption); (case l => first | decide | (show 1 < 1000; decide) | (show 2 < 1000; decide)))
  | (with_reducible refine w_setSl ?_)
  | (with_reducible refine w_make ?_)
  | ((with_reducible refine' w_gfld0 ?hv ?e ?c ?n ?l ?_); (case hv => rfl); (case e => walk_at "t_hp"); (case c => assumption); (case n => assumption); (case l => first | decide | (show 1 < 1000; decide) | (show 2 < 1000; decide)))
  | (with_reducible refine w_meth ?_)
  | (with_reducible refine w_methX ?_)
  | ((with_reducible refine' w_methE ?e ?l ?_); (case e => walk_at "t_hp"); (case l => rfl))
  | (with_reducible refine w_chain ?_)
  | ((with_reducible refine' w_gTup ?s ?l ?_); (case s => walk_at "t_sqt"); (case l => rfl))
  | (with_reducible refine w_gCons ?_)
  | (with_reducible refine w_gNil ?_)
  | (with_reducible refine w_star ?_)
  | ((with_reducible refine' w_starL ?s ?_); (case s => walk_at "t_sq"))
  | (with_reducible refine w_isiIB ?_)
  | (with_reducible refine w_isiS ?_))
abbrev s_law_things : Stmt := topS 35
theorem sc_law_things : FnScope ["_law_some"] [] (defScope s_law_things) := ⟨rfl, rfl, rfl, by decide +kernel, rfl, by decide +kernel, by decide +kernel⟩

abbrev s_law_word : Stmt := topS 36
theorem sc_law_word : FnScope ["_law_pick"] ["_law_pick"] (defScope s_law_word) := ⟨rfl, rfl, rfl, by decide +kernel, rfl, by decide +kernel, by decide +kernel⟩

abbrev s_law_made_due : Stmt := topS 37
theorem sc_law_made_due : FnScope ["_law_many", "_law_picks", "_law_words", "_law_pick", "_law_word_here"] ["_law_many", "_law_picks"] (defScope s_law_made_due) := ⟨rfl, rfl, rfl, by decide +kernel, rfl, by decide +kernel, by decide +kernel⟩

abbrev s_law_put_due : Stmt := topS 38
theorem sc_law_put_due : FnScope ["_law_call", "_law_place", "_law_field", "_law_pick"] ["_law_call", "_law_place", "_law_field", "_law_pick"] (defScope s_law_put_due) := ⟨rfl, rfl, rfl, by decide +kernel, rfl, by decide +kernel, by decide +kernel⟩

abbrev s_law_drawn_place : Stmt := topS 43
theorem sc_law_drawn_place : FnScope ["_law_cell"] ["_law_cell"] (defScope s_law_drawn_place) := ⟨rfl, rfl, rfl, by decide +kernel, rfl, by decide +kernel, by decide +kernel⟩

abbrev s_law_drawn_field : Stmt := topS 44
theorem sc_law_drawn_field : FnScope ["_law_cell"] ["_law_cell"] (defScope s_law_drawn_field) := ⟨rfl, rfl, rfl, by decide +kernel, rfl, by decide +kernel, by decide +kernel⟩

local macro_rules | `(tactic| walk_at "t_kd") => `(tactic| with_reducible first | exact kd_non_int | exact kd_bl_int | exact kd_int_int | exact kd_str_int | exact kd_lst_int | exact kd_tup_int | exact kd_non_bool | exact kd_bl_bool | exact kd_int_bool | exact kd_str_bool | exact kd_lst_bool | exact kd_tup_bool | exact kd_non_str | exact kd_bl_str | exact kd_int_str | exact kd_str_str | exact kd_lst_str | exact kd_tup_str | exact kd_non_tuple | exact kd_bl_tuple | exact kd_int_tuple | exact kd_str_tuple | exact kd_lst_tuple | exact kd_tup_tuple)
local macro_rules | `(tactic| walk_at "t_dp") => `(tactic| first | assumption | exact Dp.int _ | exact Dp.bl _ | exact Dp.non | exact Dp.str _ | (refine' Dp.mono ?e ?h; (case h => assumption); (case e => walk_at "t_ex")))
local macro_rules | `(tactic| walk_at "t_w") => `(tactic| first
  | ((with_reducible refine' w_isiD ?h ?e ?_); (case h => walk_at "t_dp"); (case e => walk_at "t_kd"))
  | ((with_reducible refine' w_wholeD ?h ?_); (case h => walk_at "t_dp")))
local macro_rules | `(tactic| walk_at "t_w") => `(tactic| first
  | ((with_reducible refine' w_callP ?hd ?_); (case hd => rfl))
  | ((with_reducible refine' w_isE ?k ?_); (case k => assumption))
  | ((with_reducible refine' w_isET ?k ?_); (case k => assumption))
  | (with_reducible refine w_mulS ?_)
  | ((with_reducible refine' w_numberD ?h ?_); (case h => walk_at "t_dp")))
/-! ### what is written out: lists and tuples of constants -/
/-- the heap itself, or it without one of what stood -/
def Sub (H H2 G : Hp) : Prop := G = H2 ∨ ∃ l, H l ≠ none ∧ G = del H2 l
def NewD (K : PySem.W.Frag) (H H2 : Hp) (v : V) (d : PyData) : Prop := ∀ G, Sub H H2 G → Dp K G v d
def NewDs (K : PySem.W.Frag) (H H2 : Hp) (vs : List V) (ds : List PyData) : Prop := ∀ G, Sub H H2 G → DpAll K G vs ds
section
variable {K : PySem.W.Frag} {H0 H H2 H3 : Hp} {v : V} {d : PyData} {vs : List V} {ds : List PyData}
theorem Sub.all : Sub H H2 H2 := .inl rfl
theorem Sub.up (e : Ex H0 H) {G : Hp} (s : Sub H0 H2 G) : Sub H H2 G := s.imp id fun ⟨l, h, q⟩ => ⟨l, fun n => h (fresh_back e n), q⟩
theorem Sub.back (e : Ex H2 H3) {G : Hp} (s : Sub H H3 G) : ∃ G', Sub H H2 G' ∧ Ex G' G := by
  rcases s with rfl | ⟨l, h, rfl⟩
  · exact ⟨H2, .inl rfl, e⟩
  · exact ⟨del H2 l, .inr ⟨l, h, rfl⟩, del_mono e⟩
theorem NewD.mono (e0 : Ex H0 H) (e : Ex H2 H3) (n : NewD K H H2 v d) : NewD K H0 H3 v d := fun G s => by
  obtain ⟨G', s', x⟩ := (s.up e0).back e
  exact Dp.mono x (n G' s')
theorem NewDs.mono (e0 : Ex H0 H) (e : Ex H2 H3) (n : NewDs K H H2 vs ds) : NewDs K H0 H3 vs ds := fun G s => by
  obtain ⟨G', s', x⟩ := (s.up e0).back e
  exact DpAll.mono x (n G' s')
theorem NewDs.all (n : NewDs K H H2 vs ds) : DpAll K H2 vs ds := n _ .all
/-- what is laid new stands in each of them -/
theorem Sub.laid {p : Addr} {o : HO} (e : Ex H H2) (hp : H2 p = none) {G : Hp} (s : Sub H (upd H2 p o) G) : G p = some o ∧ ∃ G', Sub H H2 G' ∧ Ex G' G := by
  refine ⟨?_, s.back (Ex.new hp)⟩
  rcases s with rfl | ⟨l, h, rfl⟩
  · exact upd_same
  · have ne : p ≠ l := fun q => h (fresh_back e (by rw [← q]; exact hp))
    rw [del_ne ne, upd_same]
end
def EvD1 (K : PySem.W.Frag) (t : TE) (σ : L2.St) (d : PyData) : Prop := ∀ (H : Hp) (Q : VK), (∀ v H2, Ex H H2 → NewD K H H2 v d → Q v H2) → t σ H Q
def EvDs (K : PySem.W.Frag) (t : TA) (σ : L2.St) (ds : List PyData) : Prop := ∀ (H : Hp) (F : List V → Hp → Prop), (∀ vs H2, Ex H H2 → NewDs K H H2 vs ds → F vs H2) → t σ H F
section
variable {K : PySem.W.Frag} {σ : L2.St} {te : TE} {t : TA} {d : PyData} {ds : List PyData} {H : Hp} {Q : VK}
theorem evd_i {i : Int} : EvD1 K (tC (.int i)) σ (.int i) := fun H _ k => k _ H (Ex.refl H) fun _ _ => .int i
theorem evd_s {z : Str} : EvD1 K (tC (.str z)) σ (.str z) := fun H _ k => k _ H (Ex.refl H) fun _ _ => .str z
theorem evd_b {b : Bool} : EvD1 K (tC (.bl b)) σ (.bool b) := fun H _ k => k _ H (Ex.refl H) fun _ _ => .bl b
theorem evd_n : EvD1 K (tC .non) σ .none := fun H _ k => k _ H (Ex.refl H) fun _ _ => .non
theorem evds_nil : EvDs K tNil σ [] := fun H _ k => k [] H (Ex.refl H) fun _ _ => .nil
theorem evds_cons (h1 : EvD1 K te σ d) (h2 : EvDs K t σ ds) : EvDs K (tCons te t) σ (d :: ds) := fun H _ k => h1 H _ fun v H1 e1 a1 => h2 H1 _ fun vs H2 e2 a2 =>
  k (v :: vs) H2 (e1.trans e2) fun G s => .cons (NewD.mono (Ex.refl H) e2 a1 G s) (NewDs.mono e1 (Ex.refl H2) a2 G s)
theorem evd_tup (h : EvDs K t σ ds) (hl : ds.length ≤ 1000 := by decide) : EvD1 K (tTup t) σ (.tuple ds) := fun H _ k => h H _ fun vs H2 e a =>
  ⟨sz_of (by rw [dpAll_len a.all]; omega), fun p hp => k _ _ (e.trans (Ex.new hp)) fun G s => by
    obtain ⟨g, G', s', x⟩ := s.laid e hp
    exact .tup (SqT.of g) (DpAll.mono x (a G' s'))⟩
theorem evd_lst (h : EvDs K t σ ds) (hl : ds.length ≤ 1000 := by decide) : EvD1 K (tLst t) σ (.list ds) := fun H _ k => h H _ fun vs H2 e a =>
  ⟨sz_of (by rw [dpAll_len a.all]; omega), fun p hp => k _ _ (e.trans (Ex.new hp)) fun G s => by
    obtain ⟨g, G', s', x⟩ := s.laid e hp
    exact .lst (SqL.of g) (DpAll.mono x (a G' s'))⟩
theorem evd_neg {i : Int} : EvD1 K (tUn (rU fun i => V.int (-i)) (tC (.int i))) σ (.int (-i)) := fun H _ k => ⟨i, rfl, k _ H (Ex.refl H) fun _ _ => .int _⟩
theorem evd_pow {i j : Int} (c : CPow i j) : EvD1 K (tOp (rI CPow fun i j => V.int (i ^ j.toNat)) (tC (.int i)) (tC (.int j))) σ (.int (i ^ j.toNat)) := fun H _ k => ⟨i, j, rfl, rfl, c, k _ H (Ex.refl H) fun _ _ => .int _⟩
theorem evd_pow1 {i j m : Int} (c : CPow i j) : EvD1 K (tOp (rI0 fun i j => V.int (i - j)) (tOp (rI CPow fun i j => V.int (i ^ j.toNat)) (tC (.int i)) (tC (.int j))) (tC (.int m))) σ (.int (i ^ j.toNat - m)) := fun H _ k => ⟨i, j, rfl, rfl, c, _, m, rfl, rfl, k _ H (Ex.refl H) fun _ _ => .int _⟩
theorem evd_1pow {i j m : Int} (c : CPow i j) : EvD1 K (tOp (rI0 fun i j => V.int (i - j)) (tC (.int m)) (tOp (rI CPow fun i j => V.int (i ^ j.toNat)) (tC (.int i)) (tC (.int j)))) σ (.int (m - i ^ j.toNat)) := fun H _ k => ⟨i, j, rfl, rfl, c, m, _, rfl, rfl, k _ H (Ex.refl H) fun _ _ => .int _⟩
theorem w_lstD (h : EvDs K t σ ds) (hl : ds.length ≤ 1000) (k : ∀ p vs H2, H p = none → Ex H H2 → H2 p = some (.lst vs) → NewDs K H H2 vs ds → Q (.ref p) H2) : tLst t σ H Q := h H _ fun vs H2 e a =>
  ⟨sz_of (by rw [dpAll_len a.all]; omega), fun p hp => k _ vs _ (fresh_back e hp) (e.trans (Ex.new hp)) upd_same (NewDs.mono (Ex.refl H) (Ex.new hp) a)⟩
theorem dpAll_app {H : Hp} : ∀ {vs ws : List V} {ds es : List PyData}, DpAll K H vs ds → DpAll K H ws es → DpAll K H (vs ++ ws) (ds ++ es)
  | _, _, _, _, .nil, b => b
  | _, _, _, _, .cons h t, b => .cons h (dpAll_app t b)
end
local macro_rules | `(tactic| walk_at "t_evd") => `(tactic| first
  | exact evd_i | exact evd_s | exact evd_b | exact evd_n | exact evd_neg
  | exact evd_pow ⟨by decide, by decide⟩ | exact evd_pow1 ⟨by decide, by decide⟩ | exact evd_1pow ⟨by decide, by decide⟩
  | (refine evd_tup ?_; walk_at "t_evds") | (refine evd_lst ?_; walk_at "t_evds"))
local macro_rules | `(tactic| walk_at "t_evds") => `(tactic| first
  | exact evds_nil
  | (refine evds_cons ?_ ?_; walk_at "t_evd"; walk_at "t_evds"))
local macro_rules | `(tactic| walk_at "t_q") => `(tactic| first
  | (with_reducible refine w_gName ?_) | (with_reducible refine w_nx ?_) | (with_reducible refine w_seq ?_) | (with_reducible refine w_asg ?_) | (with_reducible refine w_op ?_) | (with_reducible refine w_ret ?_) | (with_reducible refine w_rt ?_)
  | ((with_reducible refine' w_var ?h ?_); (case h => rfl)))
abbrev numD (d : PyData) : PyData := .tuple [.str "number", d]
abbrev boxT (d : PyData) : PyData := .tuple [.str "box", d]
def things1 : List PyData := [numD (.int 5), numD (.int (10 ^ Int.toNat 60 - 1)), numD (.int (1 - 10 ^ Int.toNat 60)), boxT (.int 0), boxT (.int 3), boxT (.int 1)]
def things2 : List PyData := [boxT (.int 6), boxT (.int (-1)), boxT (.int 12), numD (.bool true), numD (.str "5"), numD .none]
def things3 : List PyData := [boxT (.bool false), .tuple [.str "box"], .list [.str "number", .int 1], .str "number", .tuple [.str "word", .int 1], .tuple [.int 1, .int 2], .none]
def things4 : List PyData := [.tuple [.str "number", .int 1, .int 2], .tuple [.str "box", .int 0, .int 0], boxT .none, boxT (.str "3"), numD (.list [.int 5]), boxT (.tuple [.int 3])]
def thingsL : List PyData := things1 ++ things2 ++ things3 ++ things4
def placesL : List PyData := [.int 0, .int 3, .int 3, .int 0, .int 3, .int 3, .int 0, .int 1, .int 6, .int (-3), .bool true, .bool false, .none, .str "3", .int (10 ^ Int.toNat 64), .list [.int 3], .tuple [.int 0]]
def fieldsL : List PyData := [.int 0, .int 1, .int 0, .int 1, .int 0, .int 2, .int (-1), .bool true, .bool false, .none, .str "0", .int (10 ^ Int.toNat 64), .list [.int 0], .tuple [.int 1]]
def spThings (K : PySem.W.Frag) : Sp := fun vs H Q _ => vs = [] ∧ ∀ p ws H2, H p = none → Ex H H2 → H2 p = some (.lst ws) → NewDs K H H2 ws thingsL → Q (.ref p) H2
def spDrawn (K : PySem.W.Frag) (l : List PyData) : Sp := fun vs H Q _ => ∃ c : Int, vs = [.int c] ∧ ∀ v d H2, Ex H H2 → l[(c % (l.length : Int)).toNat]? = some d → Dp K H2 v d → Q v H2
theorem at_dp {K : PySem.W.Frag} {H : Hp} {vs : List V} {ds : List PyData} (a : DpAll K H vs ds) {i : Int} (h0 : 0 ≤ i) (h1 : i < (ds.length : Int)) : ∃ v d, atI vs i = some v ∧ ds[i.toNat]? = some d ∧ Dp K H v d := by
  obtain ⟨n, rfl⟩ : ∃ n : Nat, i = (n : Int) := ⟨i.toNat, (Int.toNat_of_nonneg h0).symm⟩
  have hn : n < ds.length := by omega
  obtain ⟨v, hv, hd⟩ := dpAll_getD a (List.getElem?_eq_getElem hn)
  exact ⟨v, _, atI_nat hv, List.getElem?_eq_getElem hn, hd⟩
/-! what is due -/
def lawWord (i : Int) : Str := if i < 5 then "" else if i > 8 then "thing" else "box"
def dueMade (many : Int) (ws : List Str) : Str := if ("thing" : Str) ∈ ws then "thing" else if ("box" : Str) ∈ ws then "box" else if many > 5 then "room" else ""
def isI : PyData → Int → Bool
  | .int m, n => decide (m = n)
  | _, _ => false
def duePutW (call : Int) (dp df : PyData) (z : Str) : Str :=
  if (isI dp 0 || isI dp 3) = true then (if call = 2 then "" else if (isI df 0 || isI df 1) = true then z else "field") else "box"
def duePut (call : Int) (dp df : PyData) (pick : Int) : Str := duePutW call dp df (lawWord pick)
def spWord : Sp := fun vs H Q _ => ∃ i : Int, vs = [.int i] ∧ Evl.RetV (.str (lawWord i)) H Q
def spMadeDue (K : PySem.W.Frag) : Sp := fun vs H Q _ => ∃ (m : Int) (p : Addr) (js : List Int), vs = [.int m, .ref p] ∧ SqL K H p (js.map V.int) ∧ js.length ≤ 100 ∧ Evl.RetV (.str (dueMade m (js.map lawWord))) H Q
def spPutDue (K : PySem.W.Frag) : Sp := fun vs H Q _ => ∃ (c i : Int) (vp vf : V) (dp df : PyData), vs = [.int c, vp, vf, .int i] ∧ Dp K H vp dp ∧ Dp K H vf df ∧ SeqAt.shaped dp = true ∧ Evl.RetV (.str (duePut c dp df i)) H Q
section
variable {P : Program} {w : World} {K : PySem.W.Frag} {mg : Str → Option Value} {base : Heap} {C cB cR cT cS cF cE : Addr}
theorem c_law_things (T : Txt K mg) (D : DefAt K mg "_law_things" "_law_things" s_law_things) : Cal P w K mg base "_law_things" 1 [] (spThings K) := by
  refine Cal.of D sc_law_things (fun vs H Q E h => ?_) (fun _ _ _ _ _ _ us hl => match us, hl with | [], _ => rfl) (fun f cdv A outer s H vs Q E hr h => ?_)
  · obtain ⟨rfl, _⟩ := h; rfl
  · obtain ⟨rfl, k⟩ := h
    have hu : _ + 64 < cLine := hr.units
    refine ⟨_, (pss_cons (ps_set (i := 0) sc_law_things.nd rfl (Or.inl rfl) (pe_lst (pa_cons (pe_tup (pa_cons pe_str (pa_cons pe_int pa_nil))) (pa_cons (pe_tup (pa_cons pe_str (pa_cons (pe_op op_sub (pe_op op_pow pe_int pe_int) pe_int) pa_nil))) (pa_cons (pe_tup (pa_cons pe_str (pa_cons (pe_op op_sub pe_int (pe_op op_pow pe_int pe_int)) pa_nil))) (pa_cons (pe_tup (pa_cons pe_str (pa_cons pe_int pa_nil))) (pa_cons (pe_tup (pa_cons pe_str (pa_cons pe_int pa_nil))) (pa_cons (pe_tup (pa_cons pe_str (pa_cons pe_int pa_nil))) pa_nil))))))))
      (pss_cons (ps_set (i := 0) sc_law_things.nd rfl (Or.inl rfl) (pe_op op_addA (pv 0) (pe_lst (pa_cons (pe_tup (pa_cons pe_str (pa_cons pe_int pa_nil))) (pa_cons (pe_tup (pa_cons pe_str (pa_cons (pe_un un_neg pe_int) pa_nil))) (pa_cons (pe_tup (pa_cons pe_str (pa_cons pe_int pa_nil))) (pa_cons (pe_tup (pa_cons pe_str (pa_cons pe_bl pa_nil))) (pa_cons (pe_tup (pa_cons pe_str (pa_cons pe_str pa_nil))) (pa_cons (pe_tup (pa_cons pe_str (pa_cons pe_non pa_nil))) pa_nil)))))))))
      (pss_cons (ps_set (i := 0) sc_law_things.nd rfl (Or.inl rfl) (pe_op op_addA (pv 0) (pe_lst (pa_cons (pe_tup (pa_cons pe_str (pa_cons pe_bl pa_nil))) (pa_cons (pe_tup (pa_cons pe_str pa_nil)) (pa_cons (pe_lst (pa_cons pe_str (pa_cons pe_int pa_nil))) (pa_cons pe_str (pa_cons (pe_tup (pa_cons pe_str (pa_cons pe_int pa_nil))) (pa_cons (pe_tup (pa_cons pe_int (pa_cons pe_int pa_nil))) (pa_cons pe_non pa_nil))))))))))
      (pss_one (ps_ret (pe_op op_addA (pv 0) (pe_lst (pa_cons (pe_tup (pa_cons pe_str (pa_cons pe_int (pa_cons pe_int pa_nil)))) (pa_cons (pe_tup (pa_cons pe_str (pa_cons pe_int (pa_cons pe_int pa_nil)))) (pa_cons (pe_tup (pa_cons pe_str (pa_cons pe_non pa_nil))) (pa_cons (pe_tup (pa_cons pe_str (pa_cons pe_str pa_nil))) (pa_cons (pe_tup (pa_cons pe_str (pa_cons (pe_lst (pa_cons pe_int pa_nil)) pa_nil))) (pa_cons (pe_tup (pa_cons pe_str (pa_cons (pe_tup (pa_cons pe_int pa_nil)) pa_nil))) pa_nil))))))))))))), ?_⟩
    repeat walk_at "t_q"
    refine w_lstD (K := K) (ds := things1) (by unfold things1; walk_at "t_evds") (by decide) fun p1 v1 H1 hp1 e1 h1 a1 => ?_
    repeat walk_at "t_q"
    refine w_lstD (K := K) (ds := things2) (by unfold things2; walk_at "t_evds") (by decide) fun p2 v2 H2 hp2 e2 h2 a2 => ?_
    have l1 := dpAll_len a1.all
    have l2 := dpAll_len a2.all
    have z1 : things1.length = 6 := rfl
    have z2 : things2.length = 6 := rfl
    refine w_addL (e2 _ _ h1) h2 (by omega) fun p3 hp3 => ?_
    repeat walk_at "t_q"
    refine w_lstD (K := K) (ds := things3) (by unfold things3; walk_at "t_evds") (by decide) fun p4 v4 H4 hp4 e4 h4 a4 => ?_
    have l4 := dpAll_len a4.all
    have z4 : things3.length = 7 := rfl
    refine w_addL (e4 _ _ upd_same) h4 (by rw [List.length_append]; omega) fun p5 hp5 => ?_
    repeat walk_at "t_q"
    refine w_lstD (K := K) (ds := things4) (by unfold things4; walk_at "t_evds") (by decide) fun p6 v6 H6 hp6 e6 h6 a6 => ?_
    have l6 := dpAll_len a6.all
    have z6 : things4.length = 6 := rfl
    refine w_addL (e6 _ _ upd_same) h6 (by rw [List.length_append, List.length_append]; omega) fun p7 hp7 => ?_
    have e23 : Ex H2 H4 := (Evl.Ex.new hp3).trans e4
    have e45 : Ex H4 H6 := (Evl.Ex.new hp5).trans e6
    have e67 := Evl.Ex.new hp7 (o := HO.lst (((v1 ++ v2) ++ v4) ++ v6))
    have eA : Ex H H6 := ((e1.trans e2).trans e23).trans e45
    refine k p7 _ _ (fresh_back eA hp7) (eA.trans e67) upd_same ?_
    intro G s
    exact dpAll_app (dpAll_app (dpAll_app (NewDs.mono (Ex.refl H) (((e2.trans e23).trans e45).trans e67) a1 G s) (NewDs.mono e1 ((e23.trans e45).trans e67) a2 G s)) (NewDs.mono ((e1.trans e2).trans (Ex.new hp3)) (e45.trans e67) a4 G s)) (NewDs.mono (((e1.trans e2).trans e23).trans (Ex.new hp5)) e67 a6 G s)
theorem c_law_drawn_place (T : Txt K mg) (D : DefAt K mg "_law_drawn_place" "_law_drawn_place" s_law_drawn_place) : Cal P w K mg base "_law_drawn_place" 1 ["_law_cell"] (spDrawn K placesL) := by
  refine Cal.of D sc_law_drawn_place (fun vs H Q E h => ?_) (fun _ _ _ _ _ _ us hl => match us, hl with | [_], _ => rfl) (fun f cdv A outer s H vs Q E hr h => ?_)
  · obtain ⟨c, rfl, _⟩ := h; rfl
  · obtain ⟨c, rfl, k⟩ := h
    refine ⟨_, (pss_one (ps_ret (pe_ix (ix_seqK (K := K) rfl) (pe_lst (pa_cons pe_int (pa_cons pe_int (pa_cons pe_int (pa_cons pe_int (pa_cons pe_int (pa_cons pe_int (pa_cons pe_int (pa_cons pe_int (pa_cons pe_int (pa_cons (pe_un un_neg pe_int) (pa_cons pe_bl (pa_cons pe_bl (pa_cons pe_non (pa_cons pe_str (pa_cons (pe_op op_pow pe_int pe_int) (pa_cons (pe_lst (pa_cons pe_int pa_nil)) (pa_cons (pe_tup (pa_cons pe_int pa_nil)) pa_nil)))))))))))))))))) (pe_op op_mod (pv 0) pe_int) (fun _ _ => rfl)))), ?_⟩
    refine w_ret (w_op ?_)
    refine w_lstD (K := K) (ds := placesL) (by unfold placesL; walk_at "t_evds") (by decide) fun p1 v1 H1 hp1 e1 h1 a1 => ?_
    repeat walk_at "t_w"
    obtain ⟨v, d, h2, h3, h4⟩ := at_dp a1.all (i := c % 17) (by omega) (by show c % 17 < 17; omega)
    exact w_ixL (SqL.of h1) h2 (k v d _ e1 h3 h4)
theorem c_law_drawn_field (T : Txt K mg) (D : DefAt K mg "_law_drawn_field" "_law_drawn_field" s_law_drawn_field) : Cal P w K mg base "_law_drawn_field" 1 ["_law_cell"] (spDrawn K fieldsL) := by
  refine Cal.of D sc_law_drawn_field (fun vs H Q E h => ?_) (fun _ _ _ _ _ _ us hl => match us, hl with | [_], _ => rfl) (fun f cdv A outer s H vs Q E hr h => ?_)
  · obtain ⟨c, rfl, _⟩ := h; rfl
  · obtain ⟨c, rfl, k⟩ := h
    refine ⟨_, (pss_one (ps_ret (pe_ix (ix_seqK (K := K) rfl) (pe_lst (pa_cons pe_int (pa_cons pe_int (pa_cons pe_int (pa_cons pe_int (pa_cons pe_int (pa_cons pe_int (pa_cons (pe_un un_neg pe_int) (pa_cons pe_bl (pa_cons pe_bl (pa_cons pe_non (pa_cons pe_str (pa_cons (pe_op op_pow pe_int pe_int) (pa_cons (pe_lst (pa_cons pe_int pa_nil)) (pa_cons (pe_tup (pa_cons pe_int pa_nil)) pa_nil))))))))))))))) (pe_op op_mod (pv 0) pe_int) (fun _ _ => rfl)))), ?_⟩
    refine w_ret (w_op ?_)
    refine w_lstD (K := K) (ds := fieldsL) (by unfold fieldsL; walk_at "t_evds") (by decide) fun p1 v1 H1 hp1 e1 h1 a1 => ?_
    repeat walk_at "t_w"
    obtain ⟨v, d, h2, h3, h4⟩ := at_dp a1.all (i := c % 14) (by omega) (by show c % 14 < 14; omega)
    exact w_ixL (SqL.of h1) h2 (k v d _ e1 h3 h4)
theorem c_law_word (T : Txt K mg) (D : DefAt K mg "_law_word" "_law_word" s_law_word) : Cal P w K mg base "_law_word" 1 ["_law_pick"] spWord := by
  refine Cal.of D sc_law_word (fun vs H Q E h => ?_) (fun _ _ _ _ _ _ us hl => match us, hl with | [_], _ => rfl) (fun f cdv A outer s H vs Q E hr h => ?_)
  · obtain ⟨c, rfl, _⟩ := h; rfl
  · obtain ⟨i, rfl, k⟩ := h
    refine ⟨_, (pss_cons (ps_if (pt_cmpR op_lt (pv 0) pe_int (nomark _)) (pss_one (ps_ret pe_str)) pss_nil)
      (pss_one (ps_ret (pe_ix (ix_seqK (K := K) rfl) (pe_lst (pa_cons pe_str (pa_cons pe_str pa_nil))) (pe_callTy call_intA (by rfl) T.b_int (by decide +kernel) (pa_cons (pe_cmpR op_gt (pv 0) pe_int (nomark _)) pa_nil)) (fun _ _ => rfl))))), ?_⟩
    repeat walk_at "t_w"
    unfold lawWord at k
    by_cases h5 : i < 5
    · rw [if_pos h5] at k
      repeat walk_at "t_w"
      exact k _ (by walk_at "t_ex")
    · rw [if_neg h5] at k
      repeat walk_at "t_w"
      by_cases h8 : i > 8
      · rw [if_pos h8] at k
        rw [decide_eq_true h8]
        refine w_ixL (SqL.of upd_same) (v := .str "thing") rfl ?_
        exact k _ (by walk_at "t_ex")
      · rw [if_neg h8] at k
        rw [decide_eq_false h8]
        refine w_ixL (SqL.of upd_same) (v := .str "box") rfl ?_
        exact k _ (by walk_at "t_ex")
end
theorem inV_strs (z : Str) (ws : List Str) : inV (V.str z) (ws.map V.str) = decide (z ∈ ws) := by
  have e : ∀ y : Str, eqV (V.str y) (V.str z) = decide (z = y) := fun y => by
    show (y == z) = _
    by_cases h : z = y
    · rw [h, decide_eq_true rfl]; simp
    · rw [decide_eq_false h]; simpa using fun q : y = z => h q.symm
  show (ws.map V.str).any (fun y => eqV y (V.str z)) = _
  rw [List.any_map]
  induction ws with
  | nil => rfl
  | cons y ws ih =>
    rw [List.any_cons, ih]
    show (eqV (V.str y) (V.str z) || _) = _
    rw [e, Bool.eq_iff_iff]
    simp
theorem flat_strs (ws : List Str) : (ws.map V.str).all flatV = true := by
  rw [List.all_eq_true]
  intro x hx
  obtain ⟨y, _, rfl⟩ := List.mem_map.mp hx
  rfl
theorem w_inStrs {K : PySem.W.Frag} {H : Hp} {Q : VK} {z : Str} {p : Addr} {ws : List Str} (s : SqL K H p (ws.map V.str)) (h : Q (.bl (decide (z ∈ ws))) H) : rIn K false (.str z) (.ref p) H Q :=
  ⟨p, _, rfl, .inl s, rfl, flat_strs ws, by rw [if_neg (by decide), inV_strs]; exact h⟩
theorem w_word {H : Hp} {Q : VK} {E : XK} {i : Int} (k : ∀ H2, Ex H H2 → Q (.str (lawWord i)) H2) : spWord ([.int i] ++ []) H Q E := ⟨i, rfl, k⟩
theorem isI_no {d : PyData} {n : Int} (h : ∀ m, d ≠ .int m) : isI d n = false := by
  cases d with
  | int m => exact absurd rfl (h m)
  | _ => rfl
theorem w_isDB {a b : Bool} {H : Hp} {Q : VK} (h : Q (.bl (decide (a = b))) H) : rIsD (.bl a) (.bl b) H Q := Or.inr ⟨a, b, rfl, rfl, h⟩
theorem w_notInDT {K : PySem.W.Frag} {x y : V} {d : PyData} {ds : List PyData} {H : Hp} {Q : VK} (h1 : Dp K H x d) (h2 : Dp K H y (.tuple ds)) (s1 : SeqAt.shaped d = true) (s2 : SeqAt.shaped (.tuple ds) = true) (h : Q (.bl (!ds.any fun z => PyData.eqv z d)) H) : rNotInDT K x y H Q := ⟨d, ds, h1, h2, s1, s2, h⟩
section
variable {P : Program} {w : World} {K : PySem.W.Frag} {mg : Str → Option Value} {base : Heap} {C cB cR cT cS cF cE : Addr}
theorem c_law_made_due (T : Txt K mg) (D : DefAt K mg "_law_made_due" "_law_made_due" s_law_made_due) (c_law_word : Cal P w K mg base "_law_word" 1 ["_law_pick"] spWord) : Cal P w K mg base "_law_made_due" 2 ["_law_many", "_law_picks"] (spMadeDue K) := by
  refine Cal.of D sc_law_made_due (fun vs H Q E h => ?_) (fun _ _ _ _ _ _ us hl => match us, hl with | [_, _], _ => rfl) (fun f cdv A outer s H vs Q E hr h => ?_)
  · obtain ⟨m, p, js, rfl, _⟩ := h; rfl
  · obtain ⟨m, p, js, rfl, hP, hl, k⟩ := h
    have hu : _ + 64 < cLine := hr.units
    refine ⟨_, (pss_cons (ps_setLc (i := 2) (own := [("_law_pick", 3)]) (g := (gName 3)) rfl sc_law_made_due.nd rfl rfl (sw_true rfl rfl rfl (by decide +kernel)) (pi_listK (K := K) rfl (pv 1)) (blkOk_by (own := [("_law_pick", 3)]) (N := ["_law_many", "_law_picks", "_law_words", "_law_pick", "_law_word_here"]) (sc := defScope s_law_made_due) (by decide +kernel)) (fun _ _ _ _ _ => (pg_name (i := 3) sc_law_made_due.nd rfl (Or.inl rfl))) (fun _ _ _ _ _ => pts_nil) (fun _ _ _ _ _ => (pe_callC c_law_word (hr.mono (by decide)) rfl (pa_cons (pv 3) pa_nil))))
      (pss_cons (ps_for (PassesOwn.never) rfl (pi_listK (K := K) rfl (pe_lst (pa_cons pe_str (pa_cons pe_str pa_nil)))) (pg_name (i := 4) sc_law_made_due.nd rfl (Or.inl rfl)) (pss_one (ps_if (pt_cmpR (op_inK (K := K) rfl) (pv 4) (pv 2) (by rfl)) (pss_one (ps_ret (pv 4))) pss_nil)))
      (pss_one (ps_ret (pe_op op_mulS pe_str (pe_callTy call_intA (by rfl) T.b_int (by decide +kernel) (pa_cons (pe_cmpR op_gt (pv 0) pe_int (nomark _)) pa_nil))))))), ?_⟩
    refine w_seq ?_
    refine w_lcL (xs := js.map V.int) (fun _ => true) (fun i => V.str (lawWord (js.getD i 0))) ?ha hP (by rw [List.length_map]; omega) ?hw ?ht ?he ?hk
    case ha => walk_at "t_ev"
    case hw => intro x; rfl
    case ht => intro i x H1 e hx; walk_at "t_ev"
    case he =>
      intro i x H1 e hx _ H2 e2 Q2 q2
      rw [List.getElem?_map] at hx
      cases hj : js[i]? with
      | none => rw [hj] at hx; cases hx
      | some j =>
        rw [hj] at hx
        cases hx
        have ej : js.getD i 0 = j := by rw [List.getD_eq_getElem?_getD, hj]; rfl
        rw [ej] at q2
        repeat walk_at "t_w"
        exact w_word fun H3 e3 => q2 _ e3
    case hk =>
      intro p2 H2 hp2 e2 h2
      have eg : Evl.given (js.map V.int).length (fun _ => true) (fun i => V.str (lawWord (js.getD i 0))) = (js.map lawWord).map V.str := by
        rw [given_all, List.length_map]
        apply List.ext_getElem?
        intro i
        rw [List.getElem?_map, List.getElem?_map, List.getElem?_map]
        by_cases hi : i < js.length
        · rw [List.getElem?_eq_getElem (by simpa using hi), List.getElem_range, List.getElem?_eq_getElem hi]
          show some (V.str _) = some (V.str _)
          rw [List.getD_eq_getElem?_getD, List.getElem?_eq_getElem hi]; rfl
        · rw [List.getElem?_eq_none (by simpa using hi), List.getElem?_eq_none (by omega)]; rfl
      rw [eg] at h2
      generalize js.map lawWord = ws at h2 k
      unfold dueMade at k
      repeat walk_at "t_w"
      rename_i q hq
      refine loopL (xs := [.str "thing", .str "box"]) (fun j σ' H' => ∃ y, σ' = [some (.int m), some (.ref p), some (.ref p2), none, y] ∧ Ex (upd H2 q (.lst [.str "thing", .str "box"])) H' ∧ (1 ≤ j → ("thing" : Str) ∉ ws) ∧ (2 ≤ j → ("box" : Str) ∉ ws)) ?_ ?_ ?_ ?_
      · exact ⟨none, rfl, Evl.Ex.refl _, fun h => by omega, fun h => by omega⟩
      · rintro j σ' H' _ ⟨y, rfl, hE, _⟩
        exact ex_l hE (SqL.of upd_same)
      · rintro j x σ' H' hj ⟨y, rfl, hE, n1, n2⟩
        have h2' := hE _ _ (hp_ne (ne_of_none h2 hq) h2)
        match j, hj with
        | 0, hj =>
          cases hj
          repeat walk_at "t_w"
          refine w_inStrs (SqL.of h2') ?_
          by_cases ht : ("thing" : Str) ∈ ws
          · rw [if_pos ht] at k
            rw [decide_eq_true ht]
            repeat walk_at "t_w"
            exact k _ ((e2.trans (Evl.Ex.new hq)).trans hE)
          · rw [decide_eq_false ht]
            repeat walk_at "t_w"
            exact ⟨_, rfl, hE, fun _ => ht, fun h => by omega⟩
        | 1, hj =>
          cases hj
          rw [if_neg (n1 (by omega))] at k
          repeat walk_at "t_w"
          refine w_inStrs (SqL.of h2') ?_
          by_cases ht : ("box" : Str) ∈ ws
          · rw [if_pos ht] at k
            rw [decide_eq_true ht]
            repeat walk_at "t_w"
            exact k _ ((e2.trans (Evl.Ex.new hq)).trans hE)
          · rw [decide_eq_false ht]
            repeat walk_at "t_w"
            exact ⟨_, rfl, hE, fun _ => n1 (by omega), fun _ => ht⟩
      · rintro σ' H' ⟨y, rfl, hE, n1, n2⟩
        rw [if_neg (n1 (by decide)), if_neg (n2 (by decide))] at k
        repeat walk_at "t_w"
        have e3 := (e2.trans (Evl.Ex.new hq)).trans hE
        by_cases h5 : m > 5
        · rw [if_pos h5] at k
          rw [decide_eq_true h5]
          exact k _ e3
        · rw [if_neg h5] at k
          rw [decide_eq_false h5]
          exact k _ e3
theorem c_law_put_due (T : Txt K mg) (D : DefAt K mg "_law_put_due" "_law_put_due" s_law_put_due) (c_law_word : Cal P w K mg base "_law_word" 1 ["_law_pick"] spWord) (c_law_number : Cal P w K mg base "_law_number" 1 ["_law_value"] (spNumberD K)) : Cal P w K mg base "_law_put_due" 2 ["_law_call", "_law_place", "_law_field", "_law_pick"] (spPutDue K) := by
  refine Cal.of D sc_law_put_due (fun vs H Q E h => ?_) (fun _ _ _ _ _ _ us hl => match us, hl with | [_, _, _, _], _ => rfl) (fun f cdv A outer s H vs Q E hr h => ?_)
  · obtain ⟨c, i, vp, vf, dp, df, rfl, _⟩ := h; rfl
  · obtain ⟨c, i, vp, vf, dp, df, rfl, hP, hF, sh, k⟩ := h
    have hu : _ + 64 < cLine := hr.units
    have hu6 := (fun u (h : u + 16 * 1 + 200 < cLine) => (by omega : u + 66 < cLine)) _ hr.un
    refine ⟨_, (pss_cons (ps_if (PW.pt (pw_or (pt_cmpR (op_notInDT (K := K) rfl hu6) (pv 1) (pe_tup (pa_cons pe_int (pa_cons pe_int pa_nil))) (by rfl)) (pw_or1 (pt_cmpR op_isD (pv 1) pe_bl (nomark _))))) (pss_one (ps_ret pe_str)) pss_nil)
      (pss_cons (ps_if (pt_cmpR (op_eqK (K := K) rfl hu) (pv 0) pe_int (nomark _)) (pss_one (ps_ret pe_str)) pss_nil)
      (pss_cons (ps_if (PW.pt (pw_or (pt_not (pt_val (pe_callC c_law_number (hr.mono (by decide)) rfl (pa_cons (pv 2) pa_nil)))) (pw_or1 (pt_not (pt_chain op_le op_lt pe_int (pv 2) pe_int))))) (pss_one (ps_ret pe_str)) pss_nil)
      (pss_one (ps_ret (pe_callC c_law_word (hr.mono (by decide)) rfl (pa_cons (pv 3) pa_nil))))))), ?_⟩
    repeat walk_at "t_w"
    rename_i q hq
    have hq1 : Dp K (upd H q (.tup [.int 0, .int 3])) (.ref q) (.tuple [.int 0, .int 3]) := .tup (SqT.of upd_same) (.cons (.int 0) (.cons (.int 3) .nil))
    have e1 := Evl.Ex.new hq (o := HO.tup [.int 0, .int 3])
    refine w_notInDT (Dp.mono e1 hP) hq1 sh (by decide) ?_
    unfold duePut duePutW at k
    cases hP with
    | non =>
      repeat walk_at "t_w"
      exact k _ e1
    | str z =>
      repeat walk_at "t_w"
      exact k _ e1
    | lst s a =>
      repeat walk_at "t_w"
      exact k _ e1
    | tup s a =>
      repeat walk_at "t_w"
      exact k _ e1
    | bl b =>
      cases b with
      | true =>
        repeat walk_at "t_w"
        exact k _ e1
      | false =>
        rw [show ([PyData.int 0, PyData.int 3].any fun z => z.eqv (PyData.bool false)) = true from rfl]
        repeat walk_at "t_w"
        refine w_isDB ?_
        repeat walk_at "t_w"
        exact k _ e1
    | int n =>
      have ea : ([PyData.int 0, PyData.int 3].any fun z => z.eqv (.int n)) = (decide (n = 0) || decide (n = 3)) := by
        show ((0 == n) || ((3 == n) || false)) = _
        rw [Bool.or_false, Bool.eq_iff_iff]
        simp only [Bool.or_eq_true, beq_iff_eq, decide_eq_true_eq]
        omega
      have ek : (isI (.int n) 0 || isI (.int n) 3) = (decide (n = 0) || decide (n = 3)) := rfl
      rw [ea]
      rw [ek] at k
      clear ea ek
      cases hb : (decide (n = 0) || decide (n = 3)) with
      | false =>
        rw [hb, if_neg (by decide)] at k
        repeat walk_at "t_w"
        exact k _ e1
      | true =>
        rw [hb, if_pos rfl] at k
        repeat walk_at "t_w"
        refine Or.inl ⟨n, false, rfl, rfl, ?_⟩
        repeat walk_at "t_w"
        by_cases hc : c = 2
        · rw [if_pos hc] at k
          repeat walk_at "t_w"
          exact k _ e1
        rw [if_neg hc] at k
        repeat walk_at "t_w"
        rename_i H3 e3
        have eA := e1.trans e3
        cases hw : wholeD df with
        | false =>
          have ef : (isI df 0 || isI df 1) = false := by
            cases df with
            | int m =>
              have n0 : m ≠ 0 := fun e => by rw [e, wholeD_of (by rw [p60']; omega) (by rw [p60']; omega)] at hw; cases hw
              have n1 : m ≠ 1 := fun e => by rw [e, wholeD_of (by rw [p60']; omega) (by rw [p60']; omega)] at hw; cases hw
              show (decide (m = 0) || decide (m = 1)) = false
              rw [decide_eq_false n0, decide_eq_false n1]; rfl
            | _ => rfl
          clear hw
          rw [ef, if_neg (by decide)] at k
          repeat walk_at "t_w"
          exact k _ eA
        | true =>
          obtain ⟨m, rfl, w1, w2⟩ := wholeD_int hw
          clear hw w1 w2
          cases hF
          have ef : (isI (.int m) 0 || isI (.int m) 1) = (decide (0 ≤ m) && decide (m < 2)) := by
            show (decide (m = 0) || decide (m = 1)) = _
            rw [Bool.eq_iff_iff]
            simp only [Bool.or_eq_true, Bool.and_eq_true, decide_eq_true_eq]
            omega
          rw [ef] at k
          clear ef
          repeat walk_at "t_w"
          by_cases h0 : 0 ≤ m
          case neg =>
            rw [decide_eq_false h0] at k
            repeat walk_at "t_w"
            exact k _ eA
          repeat walk_at "t_w"
          by_cases h2 : m < 2
          case neg =>
            rw [decide_eq_true h0, decide_eq_false h2] at k
            rw [decide_eq_false h2]
            repeat walk_at "t_w"
            exact k _ eA
          rw [decide_eq_true h0, decide_eq_true h2] at k
          rw [decide_eq_true h2]
          repeat walk_at "t_w"
          exact w_word fun H4 e4 => k _ (eA.trans e4)
end
end Tw

set_option Elab.async false
set_option linter.all false
set_option maxRecDepth 100000
set_option maxHeartbeats 4000000
namespace Tw
open PySem PySem.Spec PyProof.Rows L2
open Evl (Ex ex_l ex_t fresh_back sz_of sz_lt)
local macro_rules | `(tactic| walk_at "t_hp") => `(tactic| first
  | assumption
  | exact upd_same
  | (refine' hp_ne ?hne ?hrest; (case hne => walk_at "t_ne"); (case hrest => walk_at "t_hp"))
  | (refine' hp_ex ?hx ?hrest; (case hx => assumption); (case hrest => walk_at "t_hp")))
local macro_rules | `(tactic| walk_at "t_ne") => `(tactic| first
  | assumption
  | exact Ne.symm (by assumption)
  | (refine' ne_of_none ?h1 ?h2; (case h2 => assumption); (case h1 => walk_at "t_hp"))
  | (refine' Ne.symm (ne_of_none ?h1 ?h2); (case h2 => assumption); (case h1 => walk_at "t_hp")))
local macro_rules | `(tactic| walk_at "t_none") => `(tactic| first
  | assumption
  | (refine' fresh_back ?e ?n; (case n => assumption); (case e => walk_at "t_ex")))
local macro_rules | `(tactic| walk_at "t_ex") => `(tactic| first
  | assumption
  | exact Evl.Ex.refl _
  | (refine' ex_new ?n ?e; (case n => assumption); (case e => walk_at "t_ex"))
  | (refine' Evl.Ex.mut ?e ?n; (case n => walk_at "t_none"); (case e => walk_at "t_ex"))
  | (refine' Evl.Ex.trans ?a ?b; (case b => assumption); (case a => walk_at "t_ex")))
local macro_rules | `(tactic| walk_at "t_sq") => `(tactic| first
  | assumption
  | (refine' SqL.of ?h; (case h => walk_at "t_hp"))
  | (refine' ex_l ?e ?s; (case s => assumption); (case e => walk_at "t_ex")))
local macro_rules | `(tactic| walk_at "t_sqt") => `(tactic| first
  | assumption
  | (refine' SqT.of ?h; (case h => walk_at "t_hp"))
  | (refine' ex_t ?e ?s; (case s => assumption); (case e => walk_at "t_ex")))
local macro_rules | `(tactic| walk_at "t_mul") => `(tactic| first
  | assumption
  | exact Or.inl (Or.inl ⟨by decide, by decide⟩)
  | exact Or.inl (Or.inr ⟨by decide, by decide⟩)
  | exact Or.inl (Or.inl ⟨by omega, by omega⟩)
  | exact Or.inl (Or.inr ⟨by omega, by omega⟩))
local macro_rules | `(tactic| walk_at "t_c") => `(tactic| first
  | assumption
  | decide
  | (show (0 : Int) < _; decide)
  | (show (0 : Int) < _; omega)
  | exact ⟨by decide, by decide⟩
  | exact ⟨by decide, by decide, by decide⟩
  | exact ⟨by omega, by omega⟩
  | exact ⟨by omega, by omega, by omega, by omega⟩)
local macro_rules | `(tactic| walk_at "t_w") => `(tactic| first
  | (with_reducible refine w_seq ?_)
  | (with_reducible refine w_asg ?_)
  | (with_reducible refine w_gName ?_)
  | (with_reducible refine w_nx ?_)
  | (with_reducible refine w_rt ?_)
  | (with_reducible refine w_ct ?_)
  | (with_reducible refine w_bk ?_)
  | (with_reducible refine w_ret ?_)
  | (with_reducible refine w_retN ?_)
  | (with_reducible refine w_drop ?_)
  | (with_reducible refine w_ifS ?_)
  | (with_reducible refine w_next ?_)
  | (with_reducible refine w_break ?_)
  | (with_reducible refine w_cont ?_)
  | ((with_reducible refine' w_var ?h ?_); (case h => rfl))
  | (with_reducible refine w_c ?_)
  | (with_reducible refine w_op ?_)
  | (with_reducible refine w_un ?_)
  | (with_reducible refine w_I0 ?_)
  | ((with_reducible refine' w_I ?c ?_); (case c => walk_at "t_c"))
  | (with_reducible refine w_U ?_)
  | (with_reducible refine w_addI ?_)
  | ((with_reducible refine' w_addL ?h1 ?h2 ?hz ?_); (case h1 => walk_at "t_hp"); (case h2 => walk_at "t_hp"); (case hz => walk_at "t_z"))
  | ((with_reducible refine' w_mulI ?c ?_); (case c => walk_at "t_mul"))
  | ((with_reducible refine' w_mulL1 ?h1 ?b1 ?b2 ?_); (case h1 => walk_at "t_hp"); (case b1 => walk_at "t_z"); (case b2 => walk_at "t_z"))
  | ((with_reducible refine' w_mulL ?h1 ?b1 ?b2 ?hz ?_); (case h1 => walk_at "t_hp"); (case b1 => walk_at "t_z"); (case b2 => walk_at "t_z"); (case hz => walk_at "t_z"))
  | (with_reducible refine w_notIB ?_)
  | (with_reducible refine w_notBB ?_)
  | (with_reducible refine w_notN ?_)
  | (with_reducible refine w_isBB ?_)
  | (with_reducible refine w_isN ?_)
  | (with_reducible refine w_eqI ?_)
  | (with_reducible refine w_neI ?_)
  | (with_reducible refine w_eqB ?_)
  | (with_reducible refine w_neB ?_)
  | (with_reducible refine w_eqS ?_)
  | (with_reducible refine w_neS ?_)
  | (with_reducible refine w_test ?_)
  | (with_reducible refine w_B ?_)
  | (with_reducible refine w_exB ?_)
  | (with_reducible refine w_and ?_)
  | (with_reducible refine w_or ?_)
  | (with_reducible refine w_not ?_)
  | (with_reducible refine w_andV ?_)
  | (with_reducible refine w_orV ?_)
  | (with_reducible refine w_notV ?_)
  | (with_reducible refine w_bl ?_)
  | (with_reducible refine w_if ?_)
  | (with_reducible refine w_nil ?_)
  | (with_reducible refine w_cons ?_)
  | (with_reducible refine w_cb ?_)
  | (with_reducible refine w_call ?_)
  | (with_reducible refine w_tup ?_)
  | (with_reducible refine w_lst ?_)
  | ((with_reducible refine' w_fin ?hz ?_); (case hz => (simp only [List.length_cons, List.length_nil]; decide)))
  | ((with_reducible refine' w_len ?s ?_); (case s => walk_at "t_sq"))
  | ((with_reducible refine' w_lenT ?s ?_); (case s => walk_at "t_sqt"))
  | (with_reducible refine w_intI ?_)
  | (with_reducible refine w_intB ?_)
  | ((with_reducible refine' w_list ?s ?_); (case s => walk_at "t_sq"))
  | (with_reducible refine w_max ?_)
  | (with_reducible refine w_min ?_)
  | (with_reducible refine w_abs ?_)
  | (with_reducible refine w_sl ?_)
  | (with_reducible refine w_noPart ?_)
  | (with_reducible refine w_part ?_)
  | (with_reducible refine w_exI ?_)
  | ((with_reducible refine' w_slL ?s ?_); (case s => walk_at "t_sq"))
  | ((with_reducible refine' w_ixLI ?s ?b ?_); (case s => walk_at "t_sq"); (case b => walk_at "t_lt"))
  | ((with_reducible refine' w_ixL ?s ?e ?_); (case s => walk_at "t_sq"); (case e => walk_at "t_at"))
  | ((with_reducible refine' w_ixT ?s ?e ?_); (case s => walk_at "t_sqt"); (case e => walk_at "t_at"))
  | (with_reducible refine w_gSub ?_)
  | ((with_reducible refine' w_setLI ?e ?b ?_); (case e => walk_at "t_hp"); (case b => walk_at "t_lt"))
  | ((with_reducible refine' w_setL ?e ?b ?_); (case e => walk_at "t_hp"); (case b => walk_at "t_ixn"))
  | (with_reducible refine w_bm ?_)
  | (with_reducible refine w_bm0 ?_)
  | ((with_reducible refine' w_tyL ?e ?_); (case e => walk_at "t_sq"))
  | ((with_reducible refine' w_app ?e ?hz ?_); (case e => walk_at "t_hp"); (case hz => walk_at "t_z"))
  | (with_reducible refine w_iteT ?_)
  | (with_reducible refine w_iteF ?_)
  | (with_reducible refine w_iteNT ?_)
  | (with_reducible refine w_iteNF ?_)
  | (with_reducible refine w_for ?_)
  | (with_reducible refine w_iList ?_)
  | ((with_reducible refine' w_exL ?s ?_); (case s => walk_at "t_sq"))
  | (with_reducible refine w_iTup ?_)
  | ((with_reducible refine' w_exT ?s ?_); (case s => walk_at "t_sqt"))
  | (with_reducible refine w_iRng1 ?_)
  | ((with_reducible refine w_exR1 ?b ?_); (case b => walk_at "t_c"))
  | (with_reducible refine w_iRng2 ?_)
  | ((with_reducible refine w_exR2 ?b ?_); (case b => walk_at "t_c"))
  | (with_reducible refine w_yes ?_)
  | ((with_reducible refine w_pos ?p ?_); (case p => walk_at "t_p"))
  | ((with_reducible refine w_neg ?p ?_); (case p => walk_at "t_p"))
  | ((with_reducible refine w_posN ?p ?_); (case p => walk_at "t_p"))
  | ((with_reducible refine w_negN ?p ?_); (case p => walk_at "t_p"))
  | ((with_reducible refine' w_notInL ?s ?_); (case s => walk_at "t_sq"))
  | ((with_reducible refine' w_inL ?s ?_); (case s => walk_at "t_sq"))
  | ((with_reducible refine' w_sum ?s ?_); (case s => walk_at "t_sq"))
  | (with_reducible refine w_isiI ?_)
  | ((with_reducible refine' w_isiL ?e ?_); (case e => walk_at "t_ty"))
  | ((with_reducible refine' w_isiT ?e ?_); (case e => walk_at "t_ty"))
  | (with_reducible intro p hp_new))
local macro_rules | `(tactic| walk_at "t_ty") => `(tactic| first | assumption | (refine' tyx_l ?e; (case e => walk_at "t_hp")) | (refine' tyx_t ?e; (case e => walk_at "t_hp")))
local macro_rules | `(tactic| walk_at "t_z") => `(tactic| first | assumption | decide | omega | (simp only [List.length_cons, List.length_nil, List.length_map, List.length_append, List.length_replicate]; first | done | decide | omega))
local macro_rules | `(tactic| walk_at "t_at") => `(tactic| first | assumption | rfl)
local macro_rules | `(tactic| walk_at "t_ixn") => `(tactic| first | assumption | rfl)
local macro_rules | `(tactic| walk_at "t_ev") => `(tactic| (intro H1 e Q q; (repeat walk_at "t_w"); exact q _ (by walk_at "t_ex")))
local macro_rules | `(tactic| walk_at "t_p") => `(tactic| first | assumption | decide | decide +kernel)
local macro_rules | `(tactic| walk_at "t_lt") => `(tactic| first | assumption | omega | (simp only [List.length_set, List.length_map, List.length_append]; first | assumption | omega))
local macro_rules | `(tactic| walk_at "t_w") => `(tactic| first
  | ((with_reducible refine' w_at ?s ?hl ?h0 ?_); (case s => walk_at "t_sq"); (case hl => walk_at "t_z"); (case h0 => walk_at "t_z"))
  | (with_reducible refine w_isInt ?_)
  | (with_reducible refine w_I1 ?_)
  | (with_reducible refine w_Head ?_)
  | ((with_reducible refine' w_number ?hb ?_); (case hb => walk_at "t_bits")))
local macro_rules | `(tactic| walk_at "t_bits") => `(tactic| assumption)
local macro_rules | `(tactic| walk_at "t_w") => `(tactic| first
  | (with_reducible refine w_tru ?_)
  | ((with_reducible refine' w_truL ?s ?_); (case s => walk_at "t_sq"))
  | (with_reducible refine w_dnew ?_)
  | (with_reducible refine w_disp1 ?_)
  | ((with_reducible refine' w_aug ?e ?_); (case e => rfl))
  | (with_reducible refine w_ipI ?_)
  | ((with_reducible refine' w_inD ?e ?_); (case e => walk_at "t_hp"))
  | ((with_reducible refine' w_notInD ?e ?_); (case e => walk_at "t_hp"))
  | (with_reducible refine w_dget ?_)
  | ((with_reducible refine' w_dgetE ?e ?hv ?_); (case e => walk_at "t_hp"); (case hv => walk_at "t_dv"))
  | (with_reducible refine w_dput ?_)
  | ((with_reducible refine' w_dputE ?e ?hl ?_); (case e => walk_at "t_hp"); (case hl => walk_at "t_z"))
  | ((with_reducible refine' w_extend ?e1 ?e2 ?hz ?_); (case e1 => walk_at "t_hp"); (case e2 => walk_at "t_hp"); (case hz => walk_at "t_z")))
local macro_rules | `(tactic| walk_at "t_dv") => `(tactic| assumption)
local macro_rules | `(tactic| walk_at "t_hp") => `(tactic| first
  | (with_reducible refine hp_off0 ?_; walk_at "t_hp")
  | ((with_reducible refine' hp_off1 ?hne ?hrest); (case hne => walk_at "t_ne"); (case hrest => walk_at "t_hp")))
local macro_rules | `(tactic| walk_at "t_w") => `(tactic| first
  | (with_reducible refine w_fld ?_)
  | ((with_reducible refine' w_fldE ?e ?c ?n ?l ?_); (case e => walk_at "t_hp"); (case c => assumption); (case n => assumption); (case l => rfl))
  | (with_reducible refine w_sfld ?_)
  | ((with_reducible refine' w_sfldE ?e ?c ?n ?l ?_); (case e => walk_at "t_hp"); (case c => assumption); (case n => assumption); (case l => first | decide | (show 1 < 1000; decide) | (show 2 < 1000; decide)))
  | (with_reducible refine w_setSl ?_)
  | (with_reducible refine w_make ?_)
  | ((with_reducible refine' w_gfld0 ?hv ?e ?c ?n ?l ?_); (case hv => rfl); (case e => walk_at "t_hp"); (case c => assumption); (case n => assumption); (case l => first | decide | (show 1 < 1000; decide) | (show 2 < 1000; decide)))
  | (with_reducible refine w_meth ?_)
  | (with_reducible refine w_methX ?_)
  | ((with_reducible refine' w_methE ?e ?l ?_); (case e => walk_at "t_hp"); (case l => rfl))
  | (with_reducible refine w_chain ?_)
  | ((with_reducible refine' w_gTup ?s ?l ?_); (case s => walk_at "t_sqt"); (case l => rfl))
  | (with_reducible refine w_gCons ?_)
  | (with_reducible refine w_gNil ?_)
  | (with_reducible refine w_star ?_)
  | ((with_reducible refine' w_starL ?s ?_); (case s => walk_at "t_sq"))
  | (with_reducible refine w_isiIB ?_)
  | (with_reducible refine w_isiS ?_))
abbrev s_law_called : Stmt := topS 39
theorem sc_law_called : FnScope ["_law_room", "_law_call", "_law_things_here", "_law_place", "_law_field", "_law_found", "_law_error"] ["_law_room", "_law_call", "_law_things_here", "_law_place", "_law_field"] (defScope s_law_called) := ⟨rfl, rfl, rfl, by decide +kernel, rfl, by decide +kernel, by decide +kernel⟩

abbrev s_law_behind : Stmt := topS 40
theorem sc_law_behind : FnScope ["_law_call", "_law_things_here", "_law_place", "_law_field", "_law_cells", "_law_words", "_law_thing"] ["_law_call", "_law_things_here", "_law_place", "_law_field"] (defScope s_law_behind) := ⟨rfl, rfl, rfl, by decide +kernel, rfl, by decide +kernel, by decide +kernel⟩

local macro_rules | `(tactic| walk_at "t_kd") => `(tactic| with_reducible first | exact kd_non_int | exact kd_bl_int | exact kd_int_int | exact kd_str_int | exact kd_lst_int | exact kd_tup_int | exact kd_non_bool | exact kd_bl_bool | exact kd_int_bool | exact kd_str_bool | exact kd_lst_bool | exact kd_tup_bool | exact kd_non_str | exact kd_bl_str | exact kd_int_str | exact kd_str_str | exact kd_lst_str | exact kd_tup_str | exact kd_non_tuple | exact kd_bl_tuple | exact kd_int_tuple | exact kd_str_tuple | exact kd_lst_tuple | exact kd_tup_tuple)
local macro_rules | `(tactic| walk_at "t_dp") => `(tactic| first | assumption | exact Dp.int _ | exact Dp.bl _ | exact Dp.non | exact Dp.str _ | (refine' Dp.mono ?e ?h; (case h => assumption); (case e => walk_at "t_ex")))
local macro_rules | `(tactic| walk_at "t_w") => `(tactic| first
  | ((with_reducible refine' w_isiD ?h ?e ?_); (case h => walk_at "t_dp"); (case e => walk_at "t_kd"))
  | ((with_reducible refine' w_wholeD ?h ?_); (case h => walk_at "t_dp")))
local macro_rules | `(tactic| walk_at "t_w") => `(tactic| first
  | ((with_reducible refine' w_callP ?hd ?_); (case hd => rfl))
  | ((with_reducible refine' w_isE ?k ?_); (case k => assumption))
  | ((with_reducible refine' w_isET ?k ?_); (case k => assumption))
  | (with_reducible refine w_mulS ?_)
  | ((with_reducible refine' w_numberD ?h ?_); (case h => walk_at "t_dp")))
/-! ### the room that the law calls -/
def bs0 : List (List Thing) := [[.num 0, .num 0], [.num 5, .box 0]]
theorem bs0_places : places bs0 = [0, 3] := rfl
theorem bs0_cells : cells bs0 = 6 := rfl
theorem bs0_asI : asI (places bs0) = [0, 3] := rfl
def boxBad : PyData → Bool
  | .tuple [.str k, .int n] => decide (k = "box") && !(decide (n = 0) || decide (n = 3))
  | _ => false
def wordD (d : PyData) : Str := if thingD d = true then (if boxBad d = true then "box" else "") else "thing"
theorem boxD_iff (d : PyData) : boxD bs0 d ↔ (isI d 0 || isI d 3) = true := by
  constructor
  · rintro ⟨n, rfl, hn⟩
    rw [bs0_asI] at hn
    show (decide (n = 0) || decide (n = 3)) = true
    rw [Bool.or_eq_true, decide_eq_true_eq, decide_eq_true_eq]
    simpa using hn
  · intro h
    cases d with
    | int n =>
      have h2 : (decide (n = 0) || decide (n = 3)) = true := h
      rw [Bool.or_eq_true, decide_eq_true_eq, decide_eq_true_eq] at h2
      exact ⟨n, rfl, by rw [bs0_asI]; simpa using h2⟩
    | _ => cases h
theorem boxBad_pt {p : PT} : boxBad p.data = true ↔ (p.1 = true ∧ p.2 ∉ asI (places bs0)) := by
  obtain ⟨b, n⟩ := p
  rw [bs0_asI]
  show (decide ((if b = true then "box" else "number" : Str) = "box") && !(decide (n = 0) || decide (n = 3))) = true ↔ _
  cases b with
  | false =>
    rw [show decide ((if false = true then "box" else "number" : Str) = "box") = false by decide +kernel]
    simp
  | true =>
    rw [show decide ((if true = true then "box" else "number" : Str) = "box") = true by decide +kernel]
    simp
theorem wordD_pt {p : PT} (h : p.ok) : wordD p.data = (if boxBad p.data = true then ("box" : Str) else "") := by
  unfold wordD
  rw [if_pos (pt_thingD h)]
theorem wordD_thing (d : PyData) : wordD d = "thing" ↔ thingD d = false := by
  unfold wordD
  cases thingD d with
  | false => rw [if_neg (by decide)]; exact ⟨fun _ => rfl, fun _ => rfl⟩
  | true =>
    rw [if_pos rfl]
    split
    · exact ⟨fun h => absurd h (by decide), fun h => by cases h⟩
    · exact ⟨fun h => absurd h (by decide), fun h => by cases h⟩
/-- the word that a call ends with -/
def calledDue (call : Int) (ds : List PyData) (dp df : PyData) : Str := if call = 0 then dueMade (ds.length : Int) (ds.map wordD) else duePutW call dp df (wordD (ds.headD .none))
def handD (t : Thing) : PyData := (t.pt bs0).data
def spCalled (C : Addr) (K : PySem.W.Frag) : Sp := fun vs H Q _ => ∃ (x r l : Addr) (call : Int) (ws : List V) (ds : List PyData) (vp vf : V) (dp df : PyData), vs = [.ref x, .int call, .ref l, vp, vf] ∧ RoomAt C H x r bs0 6 ∧ SqL K H l ws ∧ DpAll K H ws ds ∧ ds.length ≤ 20 ∧
  Dp K H vp dp ∧ Dp K H vf df ∧ (call = 0 ∨ (call = 1 ∧ ds.length = 1) ∨ call = 2) ∧
  (calledDue call ds dp df ≠ "" → ∀ q H2, Ex H H2 → H2 q = some (.tup [.str (calledDue call ds dp df), .non]) → Q (.ref q) H2) ∧
  (call = 0 → ∀ fs : List Thing, ds = fs.map handD → (∀ t ∈ fs, t.ok 2) → 1 + fs.length ≤ 6 → ∀ q H2, Ex (off [x, r] H) H2 → RoomAt C H2 x r (bs0 ++ [fs]) (6 - (1 + fs.length)) → H2 q = some (.tup [.str "", .int 6]) → Q (.ref q) H2) ∧
  (call = 1 → ∀ (i j : Nat) (t : Thing), i < 2 → j < 2 → dp = .int (3 * (i : Int)) → df = .int (j : Int) → ds = [handD t] → t.ok 2 → ∀ q H2, Ex (off [x, r] H) H2 → RoomAt C H2 x r (bs0.set i ((bs0.getD i []).set j t)) 6 → H2 q = some (.tup [.str "", .non]) → Q (.ref q) H2) ∧
  (call = 2 → ∀ i : Nat, i < 2 → dp = .int (3 * (i : Int)) → ∀ q l2 ws2 H2, Ex H H2 → H2 l2 = some (.lst ws2) → All2 (HandAt H2 bs0) ws2 (bs0.getD i []) → H2 q = some (.tup [.str "", .ref l2]) → Q (.ref q) H2)
section
variable {K : PySem.W.Frag} {i : Nat} {r : VK} {l : Suites} {C D : Addr} {ts : Addr → Value → Option Addr → TS} {σ : L2.St} {H : Hp} {dx : Option Addr}
theorem named_hit (e : PySem.W.exmOne K (.ref D) (.ref C) = some true) (h : ∀ a, H a = none → ts a (.ref D) dx (justRt r) (σ.set i (some (.ref a))) H) : wNamed K i r ((.ref C, ts) :: l) (.ref D) dx σ H := ⟨true, e, fun _ => h, fun z => by cases z⟩
theorem named_miss (e : PySem.W.exmOne K (.ref D) (.ref C) = some false) (h : wNamed K i r l (.ref D) dx σ H) : wNamed K i r ((.ref C, ts) :: l) (.ref D) dx σ H := ⟨false, e, (fun z => by cases z), fun _ => h⟩
theorem suite_ok {L : List Addr} (hD : D ∈ L) {z : Str} {a : Addr} {j : Nat} (hj : σ[j]? = some (some (.ref a))) (k : ∀ q H2, Ex H H2 → H2 q = some (.tup [.str z, .non]) → r (.ref q) H2) :
    tRet (tTup (tCons (tCallP (spClass L) a (.ref D) none (tCons (tVar j) (tCons (tC (.str z)) tNil))) (tCons (tC .non) tNil))) (justRt r) σ H := by
  refine w_ret (w_tup (w_cons (w_callP rfl (w_cons (w_var hj (w_cons (w_c (w_nil ?_)))))))) 
  refine ⟨D, z, rfl, hD, rfl, fun H2 e2 => ?_⟩
  refine w_cons (w_c (w_nil ⟨sz_of (by simp), fun p hp => k p _ (e2.trans (Ex.new hp)) upd_same⟩))
end
section
variable {P : Program} {w : World} {K : PySem.W.Frag} {mg : Str → Option Value} {base : Heap} {C cB cR cT cS cF cE : Addr}
theorem RmT6.ne (R : RmT6 K mg C cB cR cT cS cF cE) {D E : Addr} (hD : D ∈ Five cS cT cB cF cR) (hE : E ∈ Five cS cT cB cF cR) (n : D ≠ E) : PySem.W.exmOne K (.ref D) (.ref E) = some false := by
  rw [R.exm D hD E hE, decide_eq_false n]
abbrev sWord (L : List Addr) (z : Str) : Addr → Value → Option Addr → TS := fun a cls d => tRet (tTup (tCons (tCallP (spClass L) a cls d (tCons (tVar 6) (tCons (tC (.str z)) tNil))) (tCons (tC .non) tNil)))
abbrev fourS (L : List Addr) (cT cB cF cR : Addr) : Suites := [(.ref cT, sWord L "thing"), (.ref cB, sWord L "box"), (.ref cF, sWord L "field"), (.ref cR, sWord L "room")]
section
variable {σ : L2.St} {H : Hp} {r : VK}
theorem suite6 {L : List Addr} {D : Addr} (hD : D ∈ L) (hl : σ.length = 7) {z : Str} (k : ∀ q H2, Ex H H2 → H2 q = some (.tup [.str z, .non]) → r (.ref q) H2) : ∀ a, H a = none → sWord L z a (.ref D) none (justRt r) (σ.set 6 (some (.ref a))) H := fun a _ =>
  suite_ok hD (by rw [List.getElem?_set_self (by omega)]) k
theorem four_T (R : RmT6 K mg C cB cR cT cS cF cE) (hl : σ.length = 7) (k : ∀ q H2, Ex H H2 → H2 q = some (.tup [.str "thing", .non]) → r (.ref q) H2) : wNamed K 6 r (fourS (Five cS cT cB cF cR) cT cB cF cR) (.ref cT) none σ H :=
  named_hit R.xBadThing.e (suite6 (by simp) hl k)
theorem four_B (R : RmT6 K mg C cB cR cT cS cF cE) (n : cB ≠ cT) (hl : σ.length = 7) (k : ∀ q H2, Ex H H2 → H2 q = some (.tup [.str "box", .non]) → r (.ref q) H2) : wNamed K 6 r (fourS (Five cS cT cB cF cR) cT cB cF cR) (.ref cB) none σ H :=
  named_miss (R.ne (by simp) (by simp) n) (named_hit R.xNoBox.e (suite6 (by simp) hl k))
theorem four_F (R : RmT6 K mg C cB cR cT cS cF cE) (n : cF ≠ cT) (n2 : cF ≠ cB) (hl : σ.length = 7) (k : ∀ q H2, Ex H H2 → H2 q = some (.tup [.str "field", .non]) → r (.ref q) H2) : wNamed K 6 r (fourS (Five cS cT cB cF cR) cT cB cF cR) (.ref cF) none σ H :=
  named_miss (R.ne (by simp) (by simp) n) (named_miss (R.ne (by simp) (by simp) n2) (named_hit R.xNoField.e (suite6 (by simp) hl k)))
theorem four_R (R : RmT6 K mg C cB cR cT cS cF cE) (n : cR ≠ cT) (n2 : cR ≠ cB) (n3 : cR ≠ cF) (hl : σ.length = 7) (k : ∀ q H2, Ex H H2 → H2 q = some (.tup [.str "room", .non]) → r (.ref q) H2) : wNamed K 6 r (fourS (Five cS cT cB cF cR) cT cB cF cR) (.ref cR) none σ H :=
  named_miss (R.ne (by simp) (by simp) n) (named_miss (R.ne (by simp) (by simp) n2) (named_miss (R.ne (by simp) (by simp) n3) (named_hit R.xNoRoom.e (suite6 (by simp) hl k))))
end
theorem due_thing {n : Int} {ds : List PyData} (h : ds.all thingD = false) : dueMade n (ds.map wordD) = "thing" := by
  unfold dueMade
  rw [if_pos]
  apply Classical.byContradiction
  intro hn
  have : ds.all thingD = true := List.all_eq_true.mpr fun d hd => by
    cases e : thingD d with
    | true => rfl
    | false => exact absurd (List.mem_map.mpr ⟨d, hd, (wordD_thing d).mpr e⟩) hn
  rw [h] at this; cases this
theorem no_thing {ps : List PT} (ho : ∀ p ∈ ps, p.ok) : ("thing" : Str) ∉ (ps.map PT.data).map wordD := by
  intro h
  obtain ⟨d, hd, e⟩ := List.mem_map.mp h
  obtain ⟨p, hp, rfl⟩ := List.mem_map.mp hd
  rw [wordD_thing, pt_thingD (ho p hp)] at e
  cases e
theorem due_box {n : Int} {ps : List PT} (ho : ∀ p ∈ ps, p.ok) (hb : ∃ p ∈ ps, p.1 = true ∧ p.2 ∉ asI (places bs0)) : dueMade n ((ps.map PT.data).map wordD) = "box" := by
  unfold dueMade
  rw [if_neg (no_thing ho), if_pos]
  obtain ⟨p, hp, h⟩ := hb
  exact List.mem_map.mpr ⟨p.data, List.mem_map.mpr ⟨p, hp, rfl⟩, by rw [wordD_pt (ho p hp), if_pos (boxBad_pt.mpr h)]⟩
theorem due_good {n : Int} {ps : List PT} (ho : ∀ p ∈ ps, p.ok) (ha : ∀ p ∈ ps, p.1 = true → p.2 ∈ asI (places bs0)) : dueMade n ((ps.map PT.data).map wordD) = (if n > 5 then ("room" : Str) else "") := by
  unfold dueMade
  rw [if_neg (no_thing ho), if_neg]
  intro h
  obtain ⟨d, hd, e⟩ := List.mem_map.mp h
  obtain ⟨p, hp, rfl⟩ := List.mem_map.mp hd
  rw [wordD_pt (ho p hp)] at e
  split at e
  · rename_i hb
    obtain ⟨h1, h2⟩ := boxBad_pt.mp hb
    exact h2 (ha p hp h1)
  · exact absurd e (by decide)
theorem bs0_at {i : Nat} {fs : List Thing} (h : bs0[i]? = some fs) : i < 2 ∧ fs = bs0.getD i [] ∧ fs.length = 2 ∧ pl bs0 i = 3 * i := by
  match i, h with
  | 0, h => cases h; exact ⟨by decide, rfl, rfl, rfl⟩
  | 1, h => cases h; exact ⟨by decide, rfl, rfl, rfl⟩
  | n + 2, h => cases h
theorem not_box {d : PyData} (h : ¬ boxD bs0 d) : (isI d 0 || isI d 3) = false := by
  cases e : (isI d 0 || isI d 3) with
  | false => rfl
  | true => exact absurd ((boxD_iff d).mpr e) h
theorem is_box {i : Nat} (h : i < 2) : (isI (.int (3 * (i : Int))) 0 || isI (.int (3 * (i : Int))) 3) = true := by
  show (decide (3 * (i : Int) = 0) || decide (3 * (i : Int) = 3)) = true
  rw [Bool.or_eq_true, decide_eq_true_eq, decide_eq_true_eq]
  omega
theorem is_field {j : Nat} (h : j < 2) : (isI (.int (j : Int)) 0 || isI (.int (j : Int)) 1) = true := by
  show (decide ((j : Int) = 0) || decide ((j : Int) = 1)) = true
  rw [Bool.or_eq_true, decide_eq_true_eq, decide_eq_true_eq]
  omega
theorem not_field {d : PyData} (h : ¬ ∃ j : Nat, d = .int (j : Int) ∧ j < 2) : (isI d 0 || isI d 1) = false := by
  cases d with
  | int m =>
    show (decide (m = 0) || decide (m = 1)) = false
    rw [decide_eq_false (fun e => h ⟨0, by rw [e]; rfl, by decide⟩), decide_eq_false (fun e => h ⟨1, by rw [e]; rfl, by decide⟩)]; rfl
  | _ => rfl
theorem c_law_called (T : Txt K mg) (R : RmT6 K mg C cB cR cT cS cF cE) (D : DefAt K mg "_law_called" "_law_called" s_law_called) (c_Room_made : CalM P w K mg base C "made" 4 ["self", "things"] (spMadeD C cB cR cT K)) (c_Room_put : CalM P w K mg base C "put" 5 ["self", "place", "field", "thing"] (spPutD C cB cT cF K)) (c_Room_told : CalM P w K mg base C "told" 5 ["self", "place"] (spToldD C cB K))
    (c_law_class : CalP P w K mg base "_law_class" 1 ["_law_error", "_law_word_here"] (spClass (Five cS cT cB cF cR))) : Cal P w K mg base "_law_called" 7 ["_law_room", "_law_call", "_law_things_here", "_law_place", "_law_field"] (spCalled C K) := by
  refine Cal.of D sc_law_called (fun vs H Q E h => ?_) (fun _ _ _ _ _ _ us hl => match us, hl with | [_, _, _, _, _], _ => rfl) (fun f cdv A outer s H vs Q E hr h => ?_)
  · obtain ⟨x, r, l, call, ws, ds, vp, vf, dp, df, rfl, _⟩ := h; rfl
  · obtain ⟨x, r, l, call, ws, ds, vp, vf, dp, df, rfl, Rm, hL, hA, hl, hP, hF, hc, kN, k0, k1, k2⟩ := h
    have hu : _ + 64 < cLine := hr.units
    have hCl := R.cl
    have hNr := R.nr
    have hNu := R.nu
    have nd := R.nd
    simp only [Five, List.nodup_cons, List.mem_cons, List.not_mem_nil, or_false, not_or, List.nodup_nil, and_true, not_false_eq_true] at nd
    obtain ⟨⟨n1, n2, n3, n4⟩, ⟨n5, n6, n7⟩, ⟨n8, n9⟩, n10⟩ := nd
    have mT : cT ∈ Five cS cT cB cF cR := by simp
    have mB : cB ∈ Five cS cT cB cF cR := by simp
    have mF : cF ∈ Five cS cT cB cF cR := by simp
    have mR : cR ∈ Five cS cT cB cF cR := by simp
    obtain ⟨⟨dx, hX⟩, hR, hro⟩ := id Rm
    refine ⟨_, (pss_cons (ps_try_named (K := K) (i := 6) rfl rfl rfl sc_law_called.nd rfl rfl (fun W pn xe tk => (pss_one (ps_if (pt_cmpR (op_eqK (K := K) rfl hu) (pv 1) pe_int (nomark _)) (pss_one (ps_set (i := 5) sc_law_called.nd rfl (Or.inl rfl) (pe_methX tk R.cl c_Room_made (hr.mono (by decide)) (pv 0) (pa_cons (pv 2) pa_nil)))) (pss_one (ps_if (pt_cmpR (op_eqK (K := K) rfl hu) (pv 1) pe_int (nomark _)) (pss_one (ps_set (i := 5) sc_law_called.nd rfl (Or.inl rfl) (pe_methX tk R.cl c_Room_put (hr.mono (by decide)) (pv 0) (pa_cons (pv 3) (pa_cons (pv 4) (pa_cons (pe_ix (ix_seqK (K := K) rfl) (pv 2) pe_int (fun _ _ => rfl)) pa_nil)))))) (pss_one (ps_set (i := 5) sc_law_called.nd rfl (Or.inl rfl) (pe_methX tk R.cl c_Room_told (hr.mono (by decide)) (pv 0) (pa_cons (pv 3) pa_nil)))))))))
        (.more (ts := fun a cls d => tRet (tTup (tCons (tCallP (spClass (Five cS cT cB cF cR)) a cls d (tCons (tVar 6) (tCons (tC (.str "thing")) tNil))) (tCons (tC .non) tNil)))) rfl R.xBadThing.g (by decide) (fun a oe cls d pn hz hf => (pss_one (ps_ret (pe_tup (pa_cons (pe_callP (p := (a, oe)) List.mem_cons_self hz hf c_law_class (roomH_mark (hr.mono (by decide))) rfl (pa_cons (pv 6) (pa_cons pe_str pa_nil))) (pa_cons pe_non pa_nil))))))
        (.more (ts := fun a cls d => tRet (tTup (tCons (tCallP (spClass (Five cS cT cB cF cR)) a cls d (tCons (tVar 6) (tCons (tC (.str "box")) tNil))) (tCons (tC .non) tNil)))) rfl R.xNoBox.g (by decide) (fun a oe cls d pn hz hf => (pss_one (ps_ret (pe_tup (pa_cons (pe_callP (p := (a, oe)) List.mem_cons_self hz hf c_law_class (roomH_mark (hr.mono (by decide))) rfl (pa_cons (pv 6) (pa_cons pe_str pa_nil))) (pa_cons pe_non pa_nil))))))
        (.more (ts := fun a cls d => tRet (tTup (tCons (tCallP (spClass (Five cS cT cB cF cR)) a cls d (tCons (tVar 6) (tCons (tC (.str "field")) tNil))) (tCons (tC .non) tNil)))) rfl R.xNoField.g (by decide) (fun a oe cls d pn hz hf => (pss_one (ps_ret (pe_tup (pa_cons (pe_callP (p := (a, oe)) List.mem_cons_self hz hf c_law_class (roomH_mark (hr.mono (by decide))) rfl (pa_cons (pv 6) (pa_cons pe_str pa_nil))) (pa_cons pe_non pa_nil))))))
        (.more (ts := fun a cls d => tRet (tTup (tCons (tCallP (spClass (Five cS cT cB cF cR)) a cls d (tCons (tVar 6) (tCons (tC (.str "room")) tNil))) (tCons (tC .non) tNil)))) rfl R.xNoRoom.g (by decide) (fun a oe cls d pn hz hf => (pss_one (ps_ret (pe_tup (pa_cons (pe_callP (p := (a, oe)) List.mem_cons_self hz hf c_law_class (roomH_mark (hr.mono (by decide))) rfl (pa_cons (pv 6) (pa_cons pe_str pa_nil))) (pa_cons pe_non pa_nil))))))
        .none)))))
      (pss_one (ps_ret (pe_tup (pa_cons pe_str (pa_cons (pv 5) pa_nil)))))), ?_⟩
    repeat walk_at "t_w"
    rcases hc with rfl | ⟨rfl, hl1⟩ | rfl
    · repeat walk_at "t_w"
      have eC : calledDue 0 ds dp df = dueMade (ds.length : Int) (ds.map wordD) := if_pos rfl
      rw [eC] at kN
      refine ⟨x, r, l, bs0, 6, ws, ds, rfl, Rm, hL, hA, by omega, fun ht H' e' => ?_, fun ps eps ho => ⟨fun hb H' e' => ?_, fun hall hn H' e' => ?_, fun fs efs hfs hle H2 e2 Rm2 => ?_⟩⟩
      · rw [due_thing ht] at kN
        exact four_T R rfl fun q H2 e2 h2 => kN (by decide) q H2 (e'.trans e2) h2
      · rw [eps, due_box ho hb] at kN
        exact four_B R (Ne.symm n5) rfl fun q H2 e2 h2 => kN (by decide) q H2 (e'.trans e2) h2
      · rw [eps, due_good ho hall, if_pos (by rw [List.length_map]; omega)] at kN
        exact four_R R (Ne.symm n7) (Ne.symm n9) (Ne.symm n10) rfl fun q H2 e2 h2 => kN (by decide) q H2 (e'.trans e2) h2
      · repeat walk_at "t_w"
        rename_i q hq
        exact k0 rfl fs (by rw [eps, efs, List.map_map]; rfl) hfs hle q _ (e2.trans (Ex.new hq)) (Rm2.ex (Ex.new hq)) upd_same
    · obtain ⟨d, rfl⟩ : ∃ d, ds = [d] := by
        match ds, hl1 with
        | [d], _ => exact ⟨d, rfl⟩
      obtain ⟨v, rfl, hd⟩ : ∃ v, ws = [v] ∧ Dp K H v d := by
        cases hA with
        | cons h t => cases t; exact ⟨_, rfl, h⟩
      repeat walk_at "t_w"
      have eC : calledDue 1 [d] dp df = duePutW 1 dp df (wordD d) := if_neg (by decide)
      rw [eC] at kN
      unfold duePutW at kN
      rw [if_neg (show ¬ ((1 : Int) = 2) by decide)] at kN
      refine ⟨x, r, bs0, 6, vp, vf, v, dp, df, d, rfl, Rm, hP, hF, hd, fun hb H' e' => ?_, fun i fs edp hbi => ?_⟩
      · rw [not_box hb, if_neg (by decide)] at kN
        exact four_B R (Ne.symm n5) rfl fun q H2 e2 h2 => kN (by decide) q H2 (e'.trans e2) h2
      · obtain ⟨hi, hfs, hfl, hpl⟩ := bs0_at hbi
        rw [hpl, show ((3 * i : Nat) : Int) = 3 * (i : Int) by omega] at edp
        rw [edp, is_box hi, if_pos rfl] at kN
        refine ⟨fun hnf H' e' => ?_, fun j edf hj => ⟨fun ht H' e' => ?_, fun p ep hpo => ⟨fun h3 h4 H' e' => ?_, fun t et ht H2 e2 Rm2 => ?_⟩⟩⟩
        · rw [not_field (by rw [hfl] at hnf; exact hnf), if_neg (by decide)] at kN
          exact four_F R (Ne.symm n6) (Ne.symm n8) rfl fun q H2 e2 h2 => kN (by decide) q H2 (e'.trans e2) h2
        · rw [edf, is_field (by omega), if_pos rfl, (wordD_thing d).mpr ht] at kN
          exact four_T R rfl fun q H2 e2 h2 => kN (by decide) q H2 (e'.trans e2) h2
        · rw [edf, is_field (by omega), if_pos rfl, ep, wordD_pt hpo, if_pos (boxBad_pt.mpr ⟨h3, h4⟩)] at kN
          exact four_B R (Ne.symm n5) rfl fun q H2 e2 h2 => kN (by decide) q H2 (e'.trans e2) h2
        · repeat walk_at "t_w"
          rename_i q hq
          rw [hfs] at Rm2
          exact k1 rfl i j t hi (by omega) edp edf (by rw [ep, et]; rfl) ht q _ (e2.trans (Ex.new hq)) (Rm2.ex (Ex.new hq)) upd_same
    · repeat walk_at "t_w"
      have eC : calledDue 2 ds dp df = duePutW 2 dp df (wordD (ds.headD .none)) := if_neg (by decide)
      rw [eC] at kN
      unfold duePutW at kN
      rw [if_pos (show ((2 : Int) = 2) by decide)] at kN
      refine ⟨x, r, bs0, 6, vp, dp, rfl, Rm, hP, fun hb H' e' => ?_, fun i fs edp hbi l2 ws2 H2 hl2 e2 h2 a2 => ?_⟩
      · rw [not_box hb, if_neg (by decide)] at kN
        exact four_B R (Ne.symm n5) rfl fun q H2 e2 h2 => kN (by decide) q H2 (e'.trans e2) h2
      · obtain ⟨hi, hfs, hfl, hpl⟩ := bs0_at hbi
        rw [hpl, show ((3 * i : Nat) : Int) = 3 * (i : Int) by omega] at edp
        repeat walk_at "t_w"
        rename_i q hq
        have eq := Ex.new hq (o := HO.tup [.str "", .ref l2])
        exact k2 rfl i hi edp q l2 ws2 _ (e2.trans eq) (eq _ _ h2) (by rw [← hfs]; exact a2.mono fun _ _ => HandAt.ex eq) upd_same
end
def cells0 : List Int := [8, 0, 0, 8, 10, 1, 0, 0, 0, 0, 0, 0]
theorem cells0_row : cells0 = rowAt bs0 6 := by decide +kernel
def behind0 (ws : List Int) : List Int := cells0.take 6 ++ [4 * (ws.length : Int)] ++ ws ++ cells0.drop (7 + ws.length)
def spBehind (K : PySem.W.Frag) : Sp := fun vs H Q _ => ∃ (call : Int) (l : Addr) (ws : List V) (ps : List PT) (vp vf : V), vs = [.int call, .ref l, vp, vf] ∧ SqL K H l ws ∧ DpAll K H ws (ps.map PT.data) ∧ ps.length ≤ 5 ∧
  ((call = 0 ∧ Evl.RetL ((behind0 (ps.map PT.word)).map V.int) H Q) ∨
   (call = 1 ∧ ∃ (i j : Nat) (p : PT), i < 2 ∧ j < 2 ∧ vp = .int (3 * (i : Int)) ∧ vf = .int (j : Int) ∧ ps = [p] ∧ Evl.RetL ((cells0.set (3 * i + 1 + j) p.word).map V.int) H Q))
theorem pt_word_val (p : PT) : 2 * p.2 + (if decide ((if p.1 = true then ("box" : Str) else "number") = "box") = true then 1 else 0) = p.word := by
  obtain ⟨b, n⟩ := p
  cases b with
  | false =>
    have e : decide ((if false = true then ("box" : Str) else "number") = "box") = false := by decide +kernel
    show 2 * n + (if decide ((if false = true then ("box" : Str) else "number") = "box") = true then 1 else 0) = 2 * n
    rw [e, if_neg (by decide)]
    omega
  | true => rfl
theorem cut_cells {n : Nat} (h : n ≤ 5) : cutV (cells0.map V.int) (some (7 + (n : Int))) none = (cells0.drop (7 + n)).map V.int := by
  match n, h with
  | 0, _ => rfl
  | 1, _ => rfl
  | 2, _ => rfl
  | 3, _ => rfl
  | 4, _ => rfl
  | 5, _ => rfl
section
variable {P : Program} {w : World} {K : PySem.W.Frag} {mg : Str → Option Value} {base : Heap} {C cB cR cT cS cF cE : Addr}
theorem c_law_behind (T : Txt K mg) (D : DefAt K mg "_law_behind" "_law_behind" s_law_behind) : Cal P w K mg base "_law_behind" 2 ["_law_call", "_law_things_here", "_law_place", "_law_field"] (spBehind K) := by
  refine Cal.of D sc_law_behind (fun vs H Q E h => ?_) (fun _ _ _ _ _ _ us hl => match us, hl with | [_, _, _, _], _ => rfl) (fun f cdv A outer s H vs Q E hr h => ?_)
  · obtain ⟨call, l, ws, ps, vp, vf, rfl, _⟩ := h; rfl
  · obtain ⟨call, l, ws, ps, vp, vf, rfl, hL, hA, hl, hc⟩ := h
    have hu : _ + 64 < cLine := hr.units
    have hwl := dpAll_len hA
    rw [List.length_map] at hwl
    refine ⟨_, (pss_cons (ps_set (i := 4) sc_law_behind.nd rfl (Or.inl rfl) (pe_lst (pa_cons pe_int (pa_cons pe_int (pa_cons pe_int (pa_cons pe_int (pa_cons pe_int (pa_cons pe_int (pa_cons pe_int (pa_cons pe_int (pa_cons pe_int (pa_cons pe_int (pa_cons pe_int (pa_cons pe_int pa_nil))))))))))))))
      (pss_cons (ps_set (i := 5) sc_law_behind.nd rfl (Or.inl rfl) (pe_lst pa_nil))
      (pss_cons (ps_for (PassesOwn.never) rfl (pi_listK (K := K) rfl (pv 1)) (pg_name (i := 6) sc_law_behind.nd rfl (Or.inl rfl)) (pss_one (ps_expr (pe_bmK (K := K) rfl PySem.F.plainAttrs_list PySem.F.slot_list_append PySem.F.type_list_append mt_append (pv 5) (pa_cons (pe_op op_addA (pe_op op_mulA pe_int (pe_ix (ix_seqK (K := K) rfl) (pv 6) pe_int (fun _ _ => rfl))) (pe_callTy call_intA (by rfl) T.b_int (by decide +kernel) (pa_cons (pe_cmpR (op_eqK (K := K) rfl hu) (pe_ix (ix_seqK (K := K) rfl) (pv 6) pe_int (fun _ _ => rfl)) pe_str (nomark _)) pa_nil))) pa_nil)))))
      (pss_cons (ps_if (pt_cmpR (op_eqK (K := K) rfl hu) (pv 0) pe_int (nomark _)) (pss_one (ps_ret (pe_op op_addA (pe_op op_addA (pe_op op_addA (pe_slice (sl_AK (K := K) rfl) (pv 4) po_none (po_some pe_int)) (pe_lst (pa_cons (pe_op op_mulA pe_int (pe_callB (call_lenK (K := K) rfl) (by rfl) T.b_len (by decide +kernel) (pa_cons (pv 5) pa_nil))) pa_nil))) (pv 5)) (pe_slice (sl_AK (K := K) rfl) (pv 4) (po_some (pe_op op_addA pe_int (pe_callB (call_lenK (K := K) rfl) (by rfl) T.b_len (by decide +kernel) (pa_cons (pv 5) pa_nil)))) po_none)))) pss_nil)
      (pss_cons (ps_if (pt_cmpR (op_eqK (K := K) rfl hu) (pv 0) pe_int (nomark _)) (pss_one (ps_asg (pe_ix (ix_seqK (K := K) rfl) (pv 5) pe_int (fun _ _ => rfl)) (pg_sub (pv 4) (pe_op op_addA (pe_op op_addA (pv 2) pe_int) (pv 3)) set_list))) pss_nil)
      (pss_one (ps_ret (pv 4)))))))), ?_⟩
    repeat walk_at "t_w"
    rename_i p1 hp1 p2 hp2
    have e1 := Ex.new hp1 (o := HO.lst (cells0.map V.int))
    have h1 : (upd H p1 (HO.lst (cells0.map V.int))) p1 = some (HO.lst (cells0.map V.int)) := upd_same
    change upd H p1 (HO.lst (cells0.map V.int)) p2 = none at hp2
    refine loopL (xs := ws) (fun j σ' H' => ∃ y, σ' = [some (.int call), some (.ref l), some vp, some vf, some (.ref p1), some (.ref p2), y] ∧ Ex (upd H p1 (HO.lst (cells0.map V.int))) H' ∧ H' p2 = some (.lst (((ps.take j).map PT.word).map V.int))) ?_ ?_ ?_ ?_
    · exact ⟨none, rfl, Ex.new hp2, upd_same⟩
    · rintro j σ' H' _ ⟨y, rfl, hE, _⟩
      exact ex_l (e1.trans hE) hL
    · rintro j x σ' H' hj ⟨y, rfl, hE, h2⟩
      obtain ⟨d, hd, hx⟩ := dpAll_get hA hj
      rw [List.getElem?_map] at hd
      obtain ⟨p, hp⟩ : ∃ p, ps[j]? = some p := by
        cases e : ps[j]? with
        | none => rw [e] at hd; cases hd
        | some p => exact ⟨p, rfl⟩
      rw [hp] at hd
      cases hd
      obtain ⟨a, rfl, ha⟩ := dp_pt hx
      have ha' : SqT K H' a [.str (if p.1 = true then "box" else "number"), .int p.2] := ex_t (e1.trans hE) ha
      have hz : ((ps.take j).map PT.word).length ≤ 5 := by rw [List.length_map, List.length_take]; omega
      repeat walk_at "t_w"
      rw [pt_word_val]
      refine w_app h2 (by rw [List.length_map]; omega) ?_
      refine ⟨_, rfl, Evl.Ex.mut hE hp2, ?_⟩
      rw [upd_same, take_snoc hp, List.map_append, List.map_append]
      rfl
    · rintro σ' H' ⟨y, rfl, hE, h2⟩
      rw [hwl, List.take_length] at h2
      have h1' := hE _ _ h1
      have hpw : (ps.map PT.word).length = ps.length := List.length_map ..
      have eA := e1.trans hE
      rcases hc with ⟨rfl, k⟩ | ⟨rfl, i, j, p, hi, hj, rfl, rfl, rfl, k⟩
      · repeat walk_at "t_w"
        rename_i q1 hq1 q2 hq2 q3 hq3
        have lc : (cutV (cells0.map V.int) none (some 6)).length = 6 := rfl
        have ln : ((ps.map PT.word).map V.int).length = ps.length := by rw [List.length_map, hpw]
        refine w_addL upd_same (by walk_at "t_hp") (by rw [List.length_append, lc, ln]; show 6 + 1 + _ ≤ _; omega) fun q4 hq4 => ?_
        repeat walk_at "t_w"
        rename_i q5 hq5
        have l5 := L2.cutV_length (cells0.map V.int) (some (7 + (((ps.map PT.word).map V.int).length : Int))) none
        have lz : (cells0.map V.int).length = 12 := rfl
        refine w_addL (hp_ne (ne_of_none upd_same hq5) upd_same) upd_same (by rw [List.length_append, List.length_append, lc]; show 6 + 1 + _ + _ ≤ _; omega) fun q6 hq6 => ?_
        refine k q6 _ (by walk_at "t_none") (by walk_at "t_ex") ?_
        rw [upd_same, ln]
        unfold behind0
        rw [cut_cells hl, List.map_append, List.map_append, List.map_append, hpw]
        rfl
      · have hix : ixN (cells0.map V.int).length (3 * (i : Int) + 1 + (j : Int)) = some (3 * i + 1 + j) := by
          rw [show 3 * (i : Int) + 1 + (j : Int) = ((3 * i + 1 + j : Nat) : Int) by omega]
          exact ixn_map (by show _ < 12; omega)
        repeat walk_at "t_w"
        refine k p1 _ hp1 (Evl.Ex.mut eA hp1) ?_
        rw [upd_same, map_set]
end
end Tw

set_option Elab.async false
set_option linter.all false
set_option maxRecDepth 100000
set_option maxHeartbeats 4000000
namespace Tw
open PySem PySem.Spec PyProof.Rows L2
open Evl (Ex ex_l ex_t fresh_back sz_of sz_lt)
local macro_rules | `(tactic| walk_at "t_hp") => `(tactic| first
  | assumption
  | exact upd_same
  | (refine' hp_ne ?hne ?hrest; (case hne => walk_at "t_ne"); (case hrest => walk_at "t_hp"))
  | (refine' hp_ex ?hx ?hrest; (case hx => assumption); (case hrest => walk_at "t_hp")))
local macro_rules | `(tactic| walk_at "t_ne") => `(tactic| first
  | assumption
  | exact Ne.symm (by assumption)
  | (refine' ne_of_none ?h1 ?h2; (case h2 => assumption); (case h1 => walk_at "t_hp"))
  | (refine' Ne.symm (ne_of_none ?h1 ?h2); (case h2 => assumption); (case h1 => walk_at "t_hp")))
local macro_rules | `(tactic| walk_at "t_none") => `(tactic| first
  | assumption
  | (refine' fresh_back ?e ?n; (case n => assumption); (case e => walk_at "t_ex")))
local macro_rules | `(tactic| walk_at "t_ex") => `(tactic| first
  | assumption
  | exact Evl.Ex.refl _
  | (refine' ex_new ?n ?e; (case n => assumption); (case e => walk_at "t_ex"))
  | (refine' Evl.Ex.mut ?e ?n; (case n => walk_at "t_none"); (case e => walk_at "t_ex"))
  | (refine' Evl.Ex.trans ?a ?b; (case b => assumption); (case a => walk_at "t_ex")))
local macro_rules | `(tactic| walk_at "t_sq") => `(tactic| first
  | assumption
  | (refine' SqL.of ?h; (case h => walk_at "t_hp"))
  | (refine' ex_l ?e ?s; (case s => assumption); (case e => walk_at "t_ex")))
local macro_rules | `(tactic| walk_at "t_sqt") => `(tactic| first
  | assumption
  | (refine' SqT.of ?h; (case h => walk_at "t_hp"))
  | (refine' ex_t ?e ?s; (case s => assumption); (case e => walk_at "t_ex")))
local macro_rules | `(tactic| walk_at "t_mul") => `(tactic| first
  | assumption
  | exact Or.inl (Or.inl ⟨by decide, by decide⟩)
  | exact Or.inl (Or.inr ⟨by decide, by decide⟩)
  | exact Or.inl (Or.inl ⟨by omega, by omega⟩)
  | exact Or.inl (Or.inr ⟨by omega, by omega⟩))
local macro_rules | `(tactic| walk_at "t_c") => `(tactic| first
  | assumption
  | decide
  | (show (0 : Int) < _; decide)
  | (show (0 : Int) < _; omega)
  | exact ⟨by decide, by decide⟩
  | exact ⟨by decide, by decide, by decide⟩
  | exact ⟨by omega, by omega⟩
  | exact ⟨by omega, by omega, by omega, by omega⟩)
local macro_rules | `(tactic| walk_at "t_w") => `(tactic| first
  | (with_reducible refine w_seq ?_)
  | (with_reducible refine w_asg ?_)
  | (with_reducible refine w_gName ?_)
  | (with_reducible refine w_nx ?_)
  | (with_reducible refine w_rt ?_)
  | (with_reducible refine w_ct ?_)
  | (with_reducible refine w_bk ?_)
  | (with_reducible refine w_ret ?_)
  | (with_reducible refine w_retN ?_)
  | (with_reducible refine w_drop ?_)
  | (with_reducible refine w_ifS ?_)
  | (with_reducible refine w_next ?_)
  | (with_reducible refine w_break ?_)
  | (with_reducible refine w_cont ?_)
  | ((with_reducible refine' w_var ?h ?_); (case h => rfl))
  | (with_reducible refine w_c ?_)
  | (with_reducible refine w_op ?_)
  | (with_reducible refine w_un ?_)
  | (with_reducible refine w_I0 ?_)
  | ((with_reducible refine' w_I ?c ?_); (case c => walk_at "t_c"))
  | (with_reducible refine w_U ?_)
  | (with_reducible refine w_addI ?_)
  | ((with_reducible refine' w_addL ?h1 ?h2 ?hz ?_); (case h1 => walk_at "t_hp"); (case h2 => walk_at "t_hp"); (case hz => walk_at "t_z"))
  | ((with_reducible refine' w_mulI ?c ?_); (case c => walk_at "t_mul"))
  | ((with_reducible refine' w_mulL1 ?h1 ?b1 ?b2 ?_); (case h1 => walk_at "t_hp"); (case b1 => walk_at "t_z"); (case b2 => walk_at "t_z"))
  | ((with_reducible refine' w_mulL ?h1 ?b1 ?b2 ?hz ?_); (case h1 => walk_at "t_hp"); (case b1 => walk_at "t_z"); (case b2 => walk_at "t_z"); (case hz => walk_at "t_z"))
  | (with_reducible refine w_notIB ?_)
  | (with_reducible refine w_notBB ?_)
  | (with_reducible refine w_notN ?_)
  | (with_reducible refine w_isBB ?_)
  | (with_reducible refine w_isN ?_)
  | (with_reducible refine w_eqI ?_)
  | (with_reducible refine w_neI ?_)
  | (with_reducible refine w_eqB ?_)
  | (with_reducible refine w_neB ?_)
  | (with_reducible refine w_eqS ?_)
  | (with_reducible refine w_neS ?_)
  | (with_reducible refine w_test ?_)
  | (with_reducible refine w_B ?_)
  | (with_reducible refine w_exB ?_)
  | (with_reducible refine w_and ?_)
  | (with_reducible refine w_or ?_)
  | (with_reducible refine w_not ?_)
  | (with_reducible refine w_andV ?_)
  | (with_reducible refine w_orV ?_)
  | (with_reducible refine w_notV ?_)
  | (with_reducible refine w_bl ?_)
  | (with_reducible refine w_if ?_)
  | (with_reducible refine w_nil ?_)
  | (with_reducible refine w_cons ?_)
  | (with_reducible refine w_cb ?_)
  | (with_reducible refine w_call ?_)
  | (with_reducible refine w_tup ?_)
  | (with_reducible refine w_lst ?_)
  | ((with_reducible refine' w_fin ?hz ?_); (case hz => (simp only [List.length_cons, List.length_nil]; decide)))
  | ((with_reducible refine' w_len ?s ?_); (case s => walk_at "t_sq"))
  | ((with_reducible refine' w_lenT ?s ?_); (case s => walk_at "t_sqt"))
  | (with_reducible refine w_intI ?_)
  | (with_reducible refine w_intB ?_)
  | ((with_reducible refine' w_list ?s ?_); (case s => walk_at "t_sq"))
  | (with_reducible refine w_max ?_)
  | (with_reducible refine w_min ?_)
  | (with_reducible refine w_abs ?_)
  | (with_reducible refine w_sl ?_)
  | (with_reducible refine w_noPart ?_)
  | (with_reducible refine w_part ?_)
  | (with_reducible refine w_exI ?_)
  | ((with_reducible refine' w_slL ?s ?_); (case s => walk_at "t_sq"))
  | ((with_reducible refine' w_ixLI ?s ?b ?_); (case s => walk_at "t_sq"); (case b => walk_at "t_lt"))
  | ((with_reducible refine' w_ixL ?s ?e ?_); (case s => walk_at "t_sq"); (case e => walk_at "t_at"))
  | ((with_reducible refine' w_ixT ?s ?e ?_); (case s => walk_at "t_sqt"); (case e => walk_at "t_at"))
  | (with_reducible refine w_gSub ?_)
  | ((with_reducible refine' w_setLI ?e ?b ?_); (case e => walk_at "t_hp"); (case b => walk_at "t_lt"))
  | ((with_reducible refine' w_setL ?e ?b ?_); (case e => walk_at "t_hp"); (case b => walk_at "t_ixn"))
  | (with_reducible refine w_bm ?_)
  | (with_reducible refine w_bm0 ?_)
  | ((with_reducible refine' w_tyL ?e ?_); (case e => walk_at "t_sq"))
  | ((with_reducible refine' w_app ?e ?hz ?_); (case e => walk_at "t_hp"); (case hz => walk_at "t_z"))
  | (with_reducible refine w_iteT ?_)
  | (with_reducible refine w_iteF ?_)
  | (with_reducible refine w_iteNT ?_)
  | (with_reducible refine w_iteNF ?_)
  | (with_reducible refine w_for ?_)
  | (with_reducible refine w_iList ?_)
  | ((with_reducible refine' w_exL ?s ?_); (case s => walk_at "t_sq"))
  | (with_reducible refine w_iTup ?_)
  | ((with_reducible refine' w_exT ?s ?_); (case s => walk_at "t_sqt"))
  | (with_reducible refine w_iRng1 ?_)
  | ((with_reducible refine w_exR1 ?b ?_); (case b => walk_at "t_c"))
  | (with_reducible refine w_iRng2 ?_)
  | ((with_reducible refine w_exR2 ?b ?_); (case b => walk_at "t_c"))
  | (with_reducible refine w_yes ?_)
  | ((with_reducible refine w_pos ?p ?_); (case p => walk_at "t_p"))
  | ((with_reducible refine w_neg ?p ?_); (case p => walk_at "t_p"))
  | ((with_reducible refine w_posN ?p ?_); (case p => walk_at "t_p"))
  | ((with_reducible refine w_negN ?p ?_); (case p => walk_at "t_p"))
  | ((with_reducible refine' w_notInL ?s ?_); (case s => walk_at "t_sq"))
  | ((with_reducible refine' w_inL ?s ?_); (case s => walk_at "t_sq"))
  | ((with_reducible refine' w_sum ?s ?_); (case s => walk_at "t_sq"))
  | (with_reducible refine w_isiI ?_)
  | ((with_reducible refine' w_isiL ?e ?_); (case e => walk_at "t_ty"))
  | ((with_reducible refine' w_isiT ?e ?_); (case e => walk_at "t_ty"))
  | (with_reducible intro p hp_new))
local macro_rules | `(tactic| walk_at "t_ty") => `(tactic| first | assumption | (refine' tyx_l ?e; (case e => walk_at "t_hp")) | (refine' tyx_t ?e; (case e => walk_at "t_hp")))
local macro_rules | `(tactic| walk_at "t_z") => `(tactic| first | assumption | decide | omega | (simp only [List.length_cons, List.length_nil, List.length_map, List.length_append, List.length_replicate]; first | done | decide | omega))
local macro_rules | `(tactic| walk_at "t_at") => `(tactic| first | assumption | rfl)
local macro_rules | `(tactic| walk_at "t_ixn") => `(tactic| first | assumption | rfl)
local macro_rules | `(tactic| walk_at "t_ev") => `(tactic| (intro H1 e Q q; (repeat walk_at "t_w"); exact q _ (by walk_at "t_ex")))
local macro_rules | `(tactic| walk_at "t_p") => `(tactic| first | assumption | decide | decide +kernel)
local macro_rules | `(tactic| walk_at "t_lt") => `(tactic| first | assumption | omega | (simp only [List.length_set, List.length_map, List.length_append]; first | assumption | omega))
local macro_rules | `(tactic| walk_at "t_w") => `(tactic| first
  | ((with_reducible refine' w_at ?s ?hl ?h0 ?_); (case s => walk_at "t_sq"); (case hl => walk_at "t_z"); (case h0 => walk_at "t_z"))
  | (with_reducible refine w_isInt ?_)
  | (with_reducible refine w_I1 ?_)
  | (with_reducible refine w_Head ?_)
  | ((with_reducible refine' w_number ?hb ?_); (case hb => walk_at "t_bits")))
local macro_rules | `(tactic| walk_at "t_bits") => `(tactic| assumption)
local macro_rules | `(tactic| walk_at "t_w") => `(tactic| first
  | (with_reducible refine w_tru ?_)
  | ((with_reducible refine' w_truL ?s ?_); (case s => walk_at "t_sq"))
  | (with_reducible refine w_dnew ?_)
  | (with_reducible refine w_disp1 ?_)
  | ((with_reducible refine' w_aug ?e ?_); (case e => rfl))
  | (with_reducible refine w_ipI ?_)
  | ((with_reducible refine' w_inD ?e ?_); (case e => walk_at "t_hp"))
  | ((with_reducible refine' w_notInD ?e ?_); (case e => walk_at "t_hp"))
  | (with_reducible refine w_dget ?_)
  | ((with_reducible refine' w_dgetE ?e ?hv ?_); (case e => walk_at "t_hp"); (case hv => walk_at "t_dv"))
  | (with_reducible refine w_dput ?_)
  | ((with_reducible refine' w_dputE ?e ?hl ?_); (case e => walk_at "t_hp"); (case hl => walk_at "t_z"))
  | ((with_reducible refine' w_extend ?e1 ?e2 ?hz ?_); (case e1 => walk_at "t_hp"); (case e2 => walk_at "t_hp"); (case hz => walk_at "t_z")))
local macro_rules | `(tactic| walk_at "t_dv") => `(tactic| assumption)
local macro_rules | `(tactic| walk_at "t_hp") => `(tactic| first
  | (with_reducible refine hp_off0 ?_; walk_at "t_hp")
  | ((with_reducible refine' hp_off1 ?hne ?hrest); (case hne => walk_at "t_ne"); (case hrest => walk_at "t_hp")))
local macro_rules | `(tactic| walk_at "t_w") => `(tactic| first
  | (with_reducible refine w_fld ?_)
  | ((with_reducible refine' w_fldE ?e ?c ?n ?l ?_); (case e => walk_at "t_hp"); (case c => assumption); (case n => assumption); (case l => rfl))
  | (with_reducible refine w_sfld ?_)
  | ((with_reducible refine' w_sfldE ?e ?c ?n ?l ?_); (case e => walk_at "t_hp"); (case c => assumption); (case n => assumption); (case l => first | decide | (show 1 < 1000; decide) | (show 2 < 1000; decide)))
  | (with_reducible refine w_setSl ?_)
  | (with_reducible refine w_make ?_)
  | ((with_reducible refine' w_gfld0 ?hv ?e ?c ?n ?l ?_); (case hv => rfl); (case e => walk_at "t_hp"); (case c => assumption); (case n => assumption); (case l => first | decide | (show 1 < 1000; decide) | (show 2 < 1000; decide)))
  | (with_reducible refine w_meth ?_)
  | (with_reducible refine w_methX ?_)
  | ((with_reducible refine' w_methE ?e ?l ?_); (case e => walk_at "t_hp"); (case l => rfl))
  | (with_reducible refine w_chain ?_)
  | ((with_reducible refine' w_gTup ?s ?l ?_); (case s => walk_at "t_sqt"); (case l => rfl))
  | (with_reducible refine w_gCons ?_)
  | (with_reducible refine w_gNil ?_)
  | (with_reducible refine w_star ?_)
  | ((with_reducible refine' w_starL ?s ?_); (case s => walk_at "t_sq"))
  | (with_reducible refine w_isiIB ?_)
  | (with_reducible refine w_isiS ?_))
abbrev s_law_sound : Stmt := topS 42
theorem sc_law_sound : FnScope ["_law_room", "_law_cells", "_law_used", "_law_places", "_law_made"] ["_law_room", "_law_cells", "_law_used"] (defScope s_law_sound) := ⟨rfl, rfl, rfl, by decide +kernel, rfl, by decide +kernel, by decide +kernel⟩

abbrev s_law_sizes_right : Stmt := topS 41
theorem sc_law_sizes_right : FnScope ["_law_script", "_law_sizes", "_law_size", "_law_doors"] ["_law_script"] (defScope s_law_sizes_right) := ⟨rfl, rfl, rfl, by decide +kernel, rfl, by decide +kernel, by decide +kernel⟩

local macro_rules | `(tactic| walk_at "t_kd") => `(tactic| with_reducible first | exact kd_non_int | exact kd_bl_int | exact kd_int_int | exact kd_str_int | exact kd_lst_int | exact kd_tup_int | exact kd_non_bool | exact kd_bl_bool | exact kd_int_bool | exact kd_str_bool | exact kd_lst_bool | exact kd_tup_bool | exact kd_non_str | exact kd_bl_str | exact kd_int_str | exact kd_str_str | exact kd_lst_str | exact kd_tup_str | exact kd_non_tuple | exact kd_bl_tuple | exact kd_int_tuple | exact kd_str_tuple | exact kd_lst_tuple | exact kd_tup_tuple)
local macro_rules | `(tactic| walk_at "t_dp") => `(tactic| first | assumption | exact Dp.int _ | exact Dp.bl _ | exact Dp.non | exact Dp.str _ | (refine' Dp.mono ?e ?h; (case h => assumption); (case e => walk_at "t_ex")))
local macro_rules | `(tactic| walk_at "t_w") => `(tactic| first
  | ((with_reducible refine' w_isiD ?h ?e ?_); (case h => walk_at "t_dp"); (case e => walk_at "t_kd"))
  | ((with_reducible refine' w_wholeD ?h ?_); (case h => walk_at "t_dp")))
local macro_rules | `(tactic| walk_at "t_w") => `(tactic| first
  | ((with_reducible refine' w_callP ?hd ?_); (case hd => rfl))
  | ((with_reducible refine' w_isE ?k ?_); (case k => assumption))
  | ((with_reducible refine' w_isET ?k ?_); (case k => assumption))
  | (with_reducible refine w_mulS ?_)
  | ((with_reducible refine' w_numberD ?h ?_); (case h => walk_at "t_dp")))
local macro_rules | `(tactic| walk_at "t_evd") => `(tactic| first
  | exact evd_i | exact evd_s | exact evd_b | exact evd_n | exact evd_neg
  | exact evd_pow ⟨by decide, by decide⟩ | exact evd_pow1 ⟨by decide, by decide⟩ | exact evd_1pow ⟨by decide, by decide⟩
  | (refine evd_tup ?_; walk_at "t_evds") | (refine evd_lst ?_; walk_at "t_evds"))
local macro_rules | `(tactic| walk_at "t_evds") => `(tactic| first
  | exact evds_nil
  | (refine evds_cons ?_ ?_; walk_at "t_evd"; walk_at "t_evds"))
local macro_rules | `(tactic| walk_at "t_q") => `(tactic| first
  | (with_reducible refine w_gName ?_) | (with_reducible refine w_nx ?_) | (with_reducible refine w_seq ?_) | (with_reducible refine w_asg ?_) | (with_reducible refine w_op ?_) | (with_reducible refine w_ret ?_) | (with_reducible refine w_rt ?_)
  | ((with_reducible refine' w_var ?h ?_); (case h => rfl)))
theorem cut_lo {xs : List Int} {n : Nat} (h : n ≤ xs.length) : cutV (xs.map V.int) none (some (n : Int)) = (xs.take n).map V.int := by
  have e : cutV (xs.map V.int) none (some (n : Int)) = ((xs.map V.int).drop 0).take (HT.sIx (xs.map V.int).length (xs.map V.int).length (some (n : Int)) - 0) := rfl
  rw [e, HT.sIx_nat, List.length_map, Nat.min_eq_left h, List.drop_zero, Nat.sub_zero, List.map_take]
theorem cut_hi {xs : List Int} {n : Nat} (h : n ≤ xs.length) : cutV (xs.map V.int) (some (n : Int)) none = (xs.drop n).map V.int := by
  have e : cutV (xs.map V.int) (some (n : Int)) none = ((xs.map V.int).drop (HT.sIx (xs.map V.int).length 0 (some (n : Int)))).take ((xs.map V.int).length - HT.sIx (xs.map V.int).length 0 (some (n : Int))) := rfl
  rw [e, HT.sIx_nat, List.length_map, Nat.min_eq_left h, List.take_of_length_le (by rw [List.length_drop, List.length_map]; exact Nat.le_refl _), List.map_drop]
theorem data_inj {p q : PT} (h : p.data = q.data) : p = q := by
  obtain ⟨b, n⟩ := p
  obtain ⟨c, m⟩ := q
  have h2 := PyData.tuple.inj h
  have h3 : (if b = true then ("box" : Str) else "number") = (if c = true then ("box" : Str) else "number") := PyData.str.inj (List.cons.inj h2).1
  have h4 := PyData.int.inj (List.cons.inj (List.cons.inj h2).2).1
  have h4 : n = m := h4
  rw [h4]
  cases b with
  | true =>
    cases c with
    | true => rfl
    | false => exact absurd h3 (by decide +kernel)
  | false =>
    cases c with
    | true => exact absurd h3 (by decide +kernel)
    | false => rfl
theorem datas_inj : ∀ {ps qs : List PT}, ps.map PT.data = qs.map PT.data → ps = qs
  | [], [], _ => rfl
  | [], _ :: _, h => by cases h
  | _ :: _, [], h => by cases h
  | p :: ps, q :: qs, h => by
    obtain ⟨a, b⟩ := List.cons.inj h
    rw [data_inj a, datas_inj b]
theorem pt_inj {bs : List (List Thing)} {t u : Thing} (h1 : t.ok bs.length) (h2 : u.ok bs.length) (e : t.pt bs = u.pt bs) : t = u := by
  cases t with
  | num n =>
    cases u with
    | num m => rw [show n = m from congrArg Prod.snd e]
    | box k => cases congrArg Prod.fst e
  | box j =>
    cases u with
    | num m => cases congrArg Prod.fst e
    | box k =>
      have e2 : ((pl bs j : Nat) : Int) = ((pl bs k : Nat) : Int) := congrArg Prod.snd e
      have h1 : j < bs.length := h1
      have h2 : k < bs.length := h2
      rw [pl_inj (by omega) (by omega) (show pl bs j = pl bs k by omega)]
theorem pts_inj {bs : List (List Thing)} : ∀ {fs gs : List Thing}, (∀ t ∈ fs, t.ok bs.length) → (∀ t ∈ gs, t.ok bs.length) → fs.map (Thing.pt bs) = gs.map (Thing.pt bs) → fs = gs
  | [], [], _, _, _ => rfl
  | [], _ :: _, _, _, h => by cases h
  | _ :: _, [], _, _, h => by cases h
  | t :: fs, u :: gs, h1, h2, h => by
    obtain ⟨a, b⟩ := List.cons.inj h
    rw [pt_inj (h1 t List.mem_cons_self) (h2 u List.mem_cons_self) a, pts_inj (fun x hx => h1 x (List.mem_cons_of_mem _ hx)) (fun x hx => h2 x (List.mem_cons_of_mem _ hx)) b]
theorem w_madeGood {C cB cR cT : Addr} {K : PySem.W.Frag} {H : Hp} {Q : VK} {E : XK} {x r l : Addr} {bs : List (List Thing)} {sp : Nat} {ws : List V} (fs : List Thing) (Rm : RoomAt C H x r bs sp) (hL : SqL K H l ws) (hA : DpAll K H ws ((fs.map (Thing.pt bs)).map PT.data)) (hok : ∀ t ∈ fs, t.ok bs.length) (hle : 1 + fs.length ≤ sp)
    (k : ∀ H2, Ex (off [x, r] H) H2 → RoomAt C H2 x r (bs ++ [fs]) (sp - (1 + fs.length)) → Q (.int ((cells bs : Nat) : Int)) H2) : spMadeD C cB cR cT K (.ref x :: ([.ref l] ++ [])) H Q E := by
  have hpo : ∀ p ∈ fs.map (Thing.pt bs), p.ok := fun p hp => by
    obtain ⟨t, ht, rfl⟩ := List.mem_map.mp hp
    exact pt_ok Rm.ok (hok t ht)
  have hsm := Rm.ok.small
  refine ⟨x, r, l, bs, sp, ws, _, rfl, Rm, hL, hA, by rw [List.length_map, List.length_map]; omega, fun ht => ?_, fun ps eps ho => ?_⟩
  · exfalso
    have : ((fs.map (Thing.pt bs)).map PT.data).all thingD = true := List.all_eq_true.mpr fun d hd => by
      obtain ⟨p, hp, rfl⟩ := List.mem_map.mp hd
      exact pt_thingD (hpo p hp)
    rw [this] at ht; cases ht
  · obtain rfl := datas_inj eps
    refine ⟨fun ⟨p, hp, h1, h2⟩ => ?_, fun _ hn => ?_, fun gs egs hgs _ H2 e2 R2 => ?_⟩
    · obtain ⟨t, ht, rfl⟩ := List.mem_map.mp hp
      exact absurd (pt_in (hok t ht) h1) h2
    · rw [List.length_map] at hn
      omega
    · obtain rfl := pts_inj hok hgs egs
      exact k H2 e2 R2
def spSound (C : Addr) (K : PySem.W.Frag) : Sp := fun vs H Q _ => ∃ (x r lc : Addr) (bs : List (List Thing)) (sp : Nat), vs = [.ref x, .ref lc, .int ((cells bs : Nat) : Int)] ∧ RoomAt C H x r bs sp ∧ H lc = some (.lst ((rowAt bs sp).map V.int)) ∧ lc ≠ r ∧ cells bs + sp = 12 ∧
  asI (places bs) = [0, 3] ++ (if cells bs > 6 then [6] else []) ∧ ∀ H2, Q (.bl true) H2
section
variable {P : Program} {w : World} {K : PySem.W.Frag} {mg : Str → Option Value} {base : Heap} {C cB cR cT cS cF cE : Addr}
theorem c_law_sound (T : Txt K mg) (R : RmT6 K mg C cB cR cT cS cF cE) (D : DefAt K mg "_law_sound" "_law_sound" s_law_sound) (c_law_words_are : Cal P w K mg base "_law_words_are" 2 ["_law_found", "_law_due"] (spWordsAre K)) (c_Room_cells : CalM P w K mg base C "cells" 1 ["self"] (spCells C)) (c_Room_used : CalM P w K mg base C "used" 1 ["self"] (spUsed C)) (c_Room_places : CalM P w K mg base C "places" 3 ["self"] (spPlacesM C))
    (c_Room_made : CalM P w K mg base C "made" 4 ["self", "things"] (spMadeD C cB cR cT K)) (c_Room_told : CalM P w K mg base C "told" 5 ["self", "place"] (spToldD C cB K)) : Cal P w K mg base "_law_sound" 7 ["_law_room", "_law_cells", "_law_used"] (spSound C K) := by
  refine Cal.of D sc_law_sound (fun vs H Q E h => ?_) (fun _ _ _ _ _ _ us hl => match us, hl with | [_, _, _], _ => rfl) (fun f cdv A outer s H vs Q E hr h => ?_)
  · obtain ⟨x, r, lc, bs, sp, rfl, _⟩ := h; rfl
  · obtain ⟨x, r, lc, bs, sp, rfl, Rm, hC0, nlr, h12, hpl, k⟩ := h
    have hu : _ + 64 < cLine := hr.units
    have hCl := R.cl
    have hNr := R.nr
    have hNu := R.nu
    obtain ⟨⟨dx, hX⟩, hR, hro⟩ := id Rm
    have hlr := rowAt_len bs sp
    have hC : SqL K H lc ((rowAt bs sp).map V.int) := SqL.of hC0
    have nlx : lc ≠ x := ne_of hC0 hX (fun z => nomatch z)
    refine ⟨_, (pss_cons (ps_set (i := 3) sc_law_sound.nd rfl (Or.inl rfl) (pe_op op_addA (pe_lst (pa_cons pe_int (pa_cons pe_int pa_nil))) (pe_op op_mulA (pe_lst (pa_cons pe_int pa_nil)) (pe_callTy call_intA (by rfl) T.b_int (by decide +kernel) (pa_cons (pe_cmpR op_gt (pv 2) pe_int (nomark _)) pa_nil)))))
      (pss_cons (ps_if (PW.pt (pw_or (pt_not (pt_val (pe_callC c_law_words_are (hr.mono (by decide)) rfl (pa_cons (pe_methC0 R.cl c_Room_cells (hr.mono (by decide)) passL (pv 0)) (pa_cons (pv 1) pa_nil))))) (pw_or1 (pt_not (pt_val (pe_callC c_law_words_are (hr.mono (by decide)) rfl (pa_cons (pe_lst (pa_cons (pe_methC0 R.cl c_Room_used (hr.mono (by decide)) passL (pv 0)) pa_nil)) (pa_cons (pe_lst (pa_cons (pv 2) pa_nil)) pa_nil)))))))) (pss_one (ps_ret pe_bl)) pss_nil)
      (pss_cons (ps_if (pt_not (pt_val (pe_callC c_law_words_are (hr.mono (by decide)) rfl (pa_cons (pe_methC0 R.cl c_Room_places (hr.mono (by decide)) passL (pv 0)) (pa_cons (pv 3) pa_nil))))) (pss_one (ps_ret pe_bl)) pss_nil)
      (pss_cons (ps_if (pt_cmpR op_gt (pv 2) pe_int (nomark _)) (pss_one (ps_ret pe_bl)) pss_nil)
      (pss_cons (ps_set (i := 4) sc_law_sound.nd rfl (Or.inl rfl) (pe_methC R.cl c_Room_made (hr.mono (by decide)) passL (pv 0) (pa_cons (pe_lst (pa_cons (pe_tup (pa_cons pe_str (pa_cons pe_int pa_nil))) pa_nil)) pa_nil)))
      (pss_cons (ps_if (PW.pt (pw_or (pt_not (pt_val (pe_callC c_law_words_are (hr.mono (by decide)) rfl (pa_cons (pe_lst (pa_cons (pv 4) (pa_cons (pe_methC0 R.cl c_Room_used (hr.mono (by decide)) passL (pv 0)) pa_nil))) (pa_cons (pe_lst (pa_cons (pv 2) (pa_cons (pe_op op_addA (pv 2) pe_int) pa_nil))) pa_nil))))) (pw_or1 (pt_cmpR (op_neK (K := K) rfl hu) (pe_methC R.cl c_Room_told (hr.mono (by decide)) passL (pv 0) (pa_cons (pv 4) pa_nil)) (pe_lst (pa_cons (pe_tup (pa_cons pe_str (pa_cons pe_int pa_nil))) pa_nil)) (nomark _))))) (pss_one (ps_ret pe_bl)) pss_nil)
      (pss_one (ps_ret (pe_callC c_law_words_are (hr.mono (by decide)) rfl (pa_cons (pe_methC0 R.cl c_Room_cells (hr.mono (by decide)) passL (pv 0)) (pa_cons (pe_op op_addA (pe_op op_addA (pe_slice (sl_AK (K := K) rfl) (pv 1) po_none (po_some (pv 2))) (pe_lst (pa_cons pe_int (pa_cons pe_int pa_nil)))) (pe_slice (sl_AK (K := K) rfl) (pv 1) (po_some (pe_op op_addA (pv 2) pe_int)) po_none)) pa_nil))))))))))), ?_⟩
    obtain ⟨b, hb⟩ : ∃ b : Bool, decide (((cells bs : Nat) : Int) > 6) = b := ⟨_, rfl⟩
    have hrep : List.replicate (if b = true then (1 : Int) else 0).toNat (V.int 6) = (if cells bs > 6 then [6] else ([] : List Int)).map V.int := by
      cases b with
      | true =>
        have hb' : cells bs > 6 := by have := of_decide_eq_true hb; omega
        rw [if_pos hb']; rfl
      | false =>
        have hb' : ¬ cells bs > 6 := by have := of_decide_eq_false hb; omega
        rw [if_neg hb']; rfl
    have hdue : [V.int 0, V.int 3] ++ List.replicate (if decide (6 < ((cells bs : Nat) : Int)) = true then (1 : Int) else 0).toNat (V.int 6) = (asI (places bs)).map V.int := by
      rw [show decide (6 < ((cells bs : Nat) : Int)) = b from hb, hrep, hpl, List.map_append]
      rfl
    repeat walk_at "t_w"
    rw [hdue]
    rename_i p1 hp1 p2 hp2 p3 hp3 p4 hp4
    have hE4 := ex_new hp4 (o := HO.lst ((asI (places bs)).map V.int)) (ex_new hp3 (o := HO.lst (List.replicate (if decide (6 < ((cells bs : Nat) : Int)) = true then (1 : Int) else 0).toNat (V.int 6))) (ex_new hp2 (o := HO.lst [V.int 6]) (Ex.new hp1 (o := HO.lst [V.int 0, V.int 3]))))
    have h4 := upd_same (H := upd (upd (upd H p1 (HO.lst [V.int 0, V.int 3])) p2 (HO.lst [V.int 6])) p3 (HO.lst (List.replicate (if decide (6 < ((cells bs : Nat) : Int)) = true then (1 : Int) else 0).toNat (V.int 6)))) (a := p4) (o := HO.lst ((asI (places bs)).map V.int))
    generalize upd (upd (upd (upd H p1 (HO.lst [V.int 0, V.int 3])) p2 (HO.lst [V.int 6])) p3 (HO.lst (List.replicate (if decide (6 < ((cells bs : Nat) : Int)) = true then (1 : Int) else 0).toNat (V.int 6)))) p4 (HO.lst ((asI (places bs)).map V.int)) = H4 at hE4 h4 ⊢
    clear hp1 hp2 hp3 hp4 hrep hdue hb
    have hX4 := hE4 _ _ hX
    have Rm4 := Rm.ex hE4
    have hC4 := ex_l hE4 hC
    have hsm := hro.small
    refine w_cellsM Rm4 fun q1 H5 hq1 e5 h5 => ?_
    repeat walk_at "t_w"
    refine w_wordsAre (tyx_l h5) (SqL.of h5) (ex_l e5 hC4) (by omega) fun H6 e6 => ?_
    have e46 := e5.trans e6
    repeat walk_at "t_w"
    refine w_usedM (Rm4.ex e46) fun H7 e7 => ?_
    repeat walk_at "t_w"
    rename_i q2 hq2 q3 hq3
    have e79 := (Ex.new hq2 (o := HO.lst [V.int ((cells bs : Nat) : Int)])).trans (Ex.new hq3 (o := HO.lst [V.int ((cells bs : Nat) : Int)]))
    refine w_words2 [((cells bs : Nat) : Int)] (Ex.new hq3 _ _ upd_same) (SqL.of upd_same) rfl rfl (by simp) fun H8 e8 => ?_
    have e48 := (e46.trans e7).trans (e79.trans e8)
    repeat walk_at "t_w"
    refine w_placesM (Rm4.ex e48) fun q4 H9 hq4 e9 h9 => ?_
    have e49 := e48.trans e9
    repeat walk_at "t_w"
    refine w_words2 (asI (places bs)) h9 (SqL.of (e49 _ _ h4)) rfl rfl (by unfold asI; rw [List.length_map, places_len]; have := hro.few; omega) fun H10 e10 => ?_
    have e410 := e49.trans e10
    repeat walk_at "t_w"
    by_cases h10 : ((cells bs : Nat) : Int) > 10
    · repeat walk_at "t_w"
      exact k _
    repeat walk_at "t_w"
    rename_i p5 hp5 p6 hp6
    have e11 := (Ex.new hp5 (o := HO.tup [.str "number", .int 4])).trans (Ex.new hp6 (o := HO.lst [.ref p5]))
    have Rm11 := Rm4.ex (e410.trans e11)
    have hC11 : (upd (upd H10 p5 (HO.tup [.str "number", .int 4])) p6 (HO.lst [.ref p5])) lc = some (.lst ((rowAt bs sp).map V.int)) := e11 _ _ (e410 _ _ (hE4 _ _ hC0))
    refine w_madeGood [.num 4] Rm11 (SqL.of upd_same) (.cons (.tup (SqT.of (Ex.new hp6 _ _ upd_same)) (.cons (.str _) (.cons (.int _) .nil))) .nil) (fun t ht => by rw [List.mem_singleton.mp ht]; show -(10 ^ 60) < (4 : Int) ∧ (4 : Int) < 10 ^ 60; rw [p60']; omega) (by show 1 + 1 ≤ sp; omega) fun H12 e12 Rm12 => ?_
    have hC12 : H12 lc = some (.lst ((rowAt bs sp).map V.int)) := e12 _ _ (by rw [off_out (by simp [nlx, nlr])]; exact hC11)
    obtain ⟨⟨dx12, hX12⟩, hR12, hro12⟩ := id Rm12
    have hc12 : cells (bs ++ [[Thing.num 4]]) = cells bs + 2 := by rw [cells_snoc]; rfl
    clear e11 Rm11 hC11 hp5 hp6
    repeat walk_at "t_w"
    refine w_usedM Rm12 fun H13 e13 => ?_
    repeat walk_at "t_w"
    rename_i q5 hq5 q6 hq6
    have e1314 := (Ex.new hq5 (o := HO.lst [.int ((cells bs : Nat) : Int), .int ((cells (bs ++ [[Thing.num 4]]) : Nat) : Int)])).trans (Ex.new hq6 (o := HO.lst [.int ((cells bs : Nat) : Int), .int (((cells bs : Nat) : Int) + 2)]))
    refine w_words2 [((cells bs : Nat) : Int), ((cells bs : Nat) : Int) + 2] (Ex.new hq6 _ _ upd_same) (SqL.of upd_same) (by rw [hc12]; rfl) rfl (by simp) fun H14 e14 => ?_
    have e1214 := (e13.trans e1314).trans e14
    have Rm14 := Rm12.ex e1214
    have hX14 := e1214 _ _ hX12
    have hC14 := e1214 _ _ hC12
    have hp14 : pl (bs ++ [[Thing.num 4]]) bs.length = cells bs := by
      unfold pl
      rw [List.take_left]
    have hl14 : (bs ++ [[Thing.num 4]]).length = bs.length + 1 := by rw [List.length_append]; rfl
    clear e14 e1314 hq5 hq6 e13 e1214
    repeat walk_at "t_w"
    refine ⟨x, r, bs ++ [[.num 4]], _, .int _, .int _, rfl, Rm14, .int _, fun hn => absurd ?_ hn, fun i fs e hbi l ws H15 hl e15 h15 a15 => ?_⟩
    · exact ⟨_, rfl, mem_places.mpr ⟨bs.length, by omega, by rw [hp14]⟩⟩
    · have hi := (List.getElem?_eq_some_iff.mp hbi).1
      obtain rfl : i = bs.length := pl_inj (bs := bs ++ [[Thing.num 4]]) (by omega) (by omega) (by rw [hp14]; have := PyData.int.inj e; omega)
      rw [List.getElem?_append_right (Nat.le_refl _), Nat.sub_self] at hbi
      cases hbi
      have d15 : Dp K H15 (.ref l) (.list [.tuple [.str "number", .int 4]]) := by
        cases a15 with
        | cons h t =>
          cases t
          obtain ⟨a, rfl, ha⟩ := h
          exact .lst (SqL.of h15) (.cons (.tup (SqT.of ha) (.cons (.str _) (.cons (.int _) .nil))) .nil)
      have Rm15 := Rm14.ex e15
      have hX15 := e15 _ _ hX14
      have hC15 := e15 _ _ hC14
      repeat walk_at "t_w"
      rename_i q7 hq7 q8 hq8
      have e1516 := (Ex.new hq7 (o := HO.tup [.str "number", .int 4])).trans (Ex.new hq8 (o := HO.lst [.ref q7]))
      refine w_neSame (Dp.mono e1516 d15) (.lst (SqL.of upd_same) (.cons (.tup (SqT.of (Ex.new hq8 _ _ upd_same)) (.cons (.str _) (.cons (.int _) .nil))) .nil)) (by decide +kernel) ?_
      have Rm16 := Rm15.ex e1516
      have hX16 := e1516 _ _ hX15
      have hC16 := e1516 _ _ hC15
      generalize upd (upd H15 q7 (HO.tup [.str "number", .int 4])) q8 (HO.lst [.ref q7]) = H16 at Rm16 hX16 hC16 ⊢
      clear e1516 hq7 hq8 d15 a15
      repeat walk_at "t_w"
      refine w_cellsM Rm16 fun q9 H17 hq9 e17 h17 => ?_
      have hC17 := e17 _ _ hC16
      have ct : cutV ((rowAt bs sp).map V.int) none (some ((cells bs : Nat) : Int)) = ((rowAt bs sp).take (cells bs)).map V.int := cut_lo (by omega)
      have cd : cutV ((rowAt bs sp).map V.int) (some (((cells bs : Nat) : Int) + 2)) none = ((rowAt bs sp).drop (cells bs + 2)).map V.int := by
        rw [show ((cells bs : Nat) : Int) + 2 = ((cells bs + 2 : Nat) : Int) by omega]
        exact cut_hi (by omega)
      have lt : (((rowAt bs sp).take (cells bs)).map V.int).length ≤ 400 := by rw [List.length_map, List.length_take]; omega
      have ld : (((rowAt bs sp).drop (cells bs + 2)).map V.int).length ≤ 400 := by rw [List.length_map, List.length_drop]; omega
      repeat walk_at "t_w"
      rename_i q10 hq10 q11 hq11
      rw [ct] at hq11 ⊢
      refine w_addL (Ex.new hq11 _ _ upd_same) upd_same (by show _ + 2 ≤ _; omega) fun q12 hq12 => ?_
      have e18 := ((Ex.new hq10 (o := HO.lst (((rowAt bs sp).take (cells bs)).map V.int))).trans (Ex.new hq11 (o := HO.lst [.int 4, .int 8]))).trans (Ex.new hq12 (o := HO.lst (((rowAt bs sp).take (cells bs)).map V.int ++ [.int 4, .int 8])))
      have h18 := upd_same (H := upd (upd H17 q10 (HO.lst (((rowAt bs sp).take (cells bs)).map V.int))) q11 (HO.lst [.int 4, .int 8])) (a := q12) (o := HO.lst (((rowAt bs sp).take (cells bs)).map V.int ++ [.int 4, .int 8]))
      generalize upd (upd (upd H17 q10 (HO.lst (((rowAt bs sp).take (cells bs)).map V.int))) q11 (HO.lst [.int 4, .int 8])) q12 (HO.lst (((rowAt bs sp).take (cells bs)).map V.int ++ [.int 4, .int 8])) = H18 at e18 h18 ⊢
      clear hq10 hq11 hq12
      have hC18 := e18 _ _ hC17
      have h1718 := e18 _ _ h17
      repeat walk_at "t_w"
      rename_i q13 hq13
      rw [cd]
      refine w_addL (Ex.new hq13 _ _ h18) upd_same (by rw [List.length_append]; show _ + 2 + _ ≤ _; omega) fun q14 hq14 => ?_
      have e20 := (Ex.new hq13 (o := HO.lst (((rowAt bs sp).drop (cells bs + 2)).map V.int))).trans (Ex.new hq14 (o := HO.lst (((rowAt bs sp).take (cells bs)).map V.int ++ [.int 4, .int 8] ++ ((rowAt bs sp).drop (cells bs + 2)).map V.int)))
      repeat walk_at "t_w"
      refine w_words2 (rowAt (bs ++ [[Thing.num 4]]) (sp - (1 + [Thing.num 4].length))) (e20 _ _ h1718) (SqL.of upd_same) rfl ?_ (by rw [rowAt_len, hc12]; show cells bs + 2 + (sp - 2) ≤ _; omega) fun H21 e21 => ?_
      · rw [← rowAt_made hro (fs := [Thing.num 4]) (fun t ht => by rw [List.mem_singleton.mp ht]; show -(10 ^ 60) < (4 : Int) ∧ (4 : Int) < 10 ^ 60; rw [p60']; omega) (by show 1 + 1 ≤ sp; omega), List.map_append, List.map_append]
        rfl
      · exact k _
end
/-! a list written out, one of whose items leans on what stands -/
def EvX1 (t : TE) (K : PySem.W.Frag) (σ : L2.St) (H0 : Hp) (d : PyData) : Prop := ∀ (H : Hp) (Q : VK), Ex H0 H → (∀ v H2, Ex H H2 → Dp K H2 v d → Q v H2) → t σ H Q
def EvXs (t : TA) (K : PySem.W.Frag) (σ : L2.St) (H0 : Hp) (ds : List PyData) : Prop := ∀ (H : Hp) (F : List V → Hp → Prop), Ex H0 H → (∀ vs H2, Ex H H2 → DpAll K H2 vs ds → F vs H2) → t σ H F
section
variable {K : PySem.W.Frag} {σ : L2.St} {te : TE} {t : TA} {d : PyData} {ds : List PyData} {H0 : Hp} {Q : VK}
theorem EvD1.x (h : EvD1 K te σ d) : EvX1 te K σ H0 d := fun H Q _ k => h H Q fun v H2 e a => k v H2 e (a _ .all)
theorem evxs_nil : EvXs tNil K σ H0 [] := fun H _ _ k => k [] H (Ex.refl H) .nil
theorem evxs_cons (h1 : EvX1 te K σ H0 d) (h2 : EvXs t K σ H0 ds) : EvXs (tCons te t) K σ H0 (d :: ds) := fun H _ e0 k => h1 H _ e0 fun v H1 e1 a1 => h2 H1 _ (e0.trans e1) fun vs H2 e2 a2 => k (v :: vs) H2 (e1.trans e2) (.cons (Dp.mono e2 a1) a2)
theorem w_lstX (h : EvXs t K σ H0 ds) (hl : ds.length ≤ 1000) (k : ∀ p vs H2, H0 p = none → Ex H0 H2 → H2 p = some (.lst vs) → DpAll K H2 vs ds → Q (.ref p) H2) : tLst t σ H0 Q := h H0 _ (Ex.refl H0) fun vs H2 e a =>
  ⟨sz_of (by rw [dpAll_len a]; omega), fun p hp => k _ vs _ (fresh_back e hp) (e.trans (Ex.new hp)) upd_same (DpAll.mono (Ex.new hp) a)⟩
end
local macro_rules | `(tactic| walk_at "t_evxs") => `(tactic| first
  | exact evxs_nil
  | (refine evxs_cons (EvD1.x ?_) ?_; walk_at "t_evd"; walk_at "t_evxs")
  | (refine evxs_cons (fun H2 Q2 e0 k2 => ?_) ?_; (repeat walk_at "t_w"); exact k2 _ _ (by walk_at "t_ex") (.int _); walk_at "t_evxs"))
def sizesL (z : Int) : List PyData := [.int 1, .int 400, .int 401, .int 0, .int (-1), .bool true, .str "7", .none, .int z, .list [.int 5], .tuple [.int 7]]
def doorsL (z : Int) : List PyData := [.int 0, .int 20, .int 21, .int 1, .int (-1), .bool false, .str "0", .none, .int z, .list [.int 0], .tuple [.int 1]]
def spSizesRight (K : PySem.W.Frag) : Sp := fun vs H Q _ => ∃ (a : Addr) (ns : List Int), vs = [.ref a] ∧ SqL K H a (ns.map V.int) ∧ ns.length ≤ 1000 ∧ Evl.RetV (.bl true) H Q
section
variable {P : Program} {w : World} {K : PySem.W.Frag} {mg : Str → Option Value} {base : Heap} {C cB cR cT cS cF cE : Addr}
theorem c_law_sizes_right (T : Txt K mg) (D : DefAt K mg "_law_sizes_right" "_law_sizes_right" s_law_sizes_right) (c_law_at : Cal P w K mg base "_law_at" 1 ["_law_script", "_law_place"] (spAt K)) (c_law_new : Cal P w K mg base "_law_new" 4 ["_law_size", "_law_doors"] (spNew K)) (c_law_sized : Cal P w K mg base "_law_sized" 2 ["_law_size", "_law_doors"] (spSized K)) : Cal P w K mg base "_law_sizes_right" 5 ["_law_script"] (spSizesRight K) := by
  refine Cal.of D sc_law_sizes_right (fun vs H Q E h => ?_) (fun _ _ _ _ _ _ us hl => match us, hl with | [_], _ => rfl) (fun f cdv A outer s H vs Q E hr h => ?_)
  · obtain ⟨a, ns, rfl, _⟩ := h; rfl
  · obtain ⟨a, ns, rfl, hS, hl, k⟩ := h
    have hu : _ + 64 < cLine := hr.units
    refine ⟨_, (pss_cons (ps_set (i := 1) sc_law_sizes_right.nd rfl (Or.inl rfl) (pe_lst (pa_cons pe_int (pa_cons pe_int (pa_cons pe_int (pa_cons pe_int (pa_cons (pe_un un_neg pe_int) (pa_cons pe_bl (pa_cons pe_str (pa_cons pe_non (pa_cons (pe_op op_addA pe_int (pe_op op_mod (pe_callB call_absA (by rfl) T.b_abs (by decide +kernel) (pa_cons (pe_callC c_law_at (hr.mono (by decide)) rfl (pa_cons (pv 0) (pa_cons pe_int pa_nil))) pa_nil)) pe_int)) (pa_cons (pe_lst (pa_cons pe_int pa_nil)) (pa_cons (pe_tup (pa_cons pe_int pa_nil)) pa_nil)))))))))))))
      (pss_cons (ps_set (i := 2) sc_law_sizes_right.nd rfl (Or.inl rfl) (pe_ix (ix_seqK (K := K) rfl) (pv 1) (pe_op op_mod (pe_callC c_law_at (hr.mono (by decide)) rfl (pa_cons (pv 0) (pa_cons pe_int pa_nil))) pe_int) (fun _ _ => rfl)))
      (pss_cons (ps_set (i := 3) sc_law_sizes_right.nd rfl (Or.inl rfl) (pe_ix (ix_seqK (K := K) rfl) (pe_lst (pa_cons pe_int (pa_cons pe_int (pa_cons pe_int (pa_cons pe_int (pa_cons (pe_un un_neg pe_int) (pa_cons pe_bl (pa_cons pe_str (pa_cons pe_non (pa_cons (pe_op op_mod (pe_callB call_absA (by rfl) T.b_abs (by decide +kernel) (pa_cons (pe_callC c_law_at (hr.mono (by decide)) rfl (pa_cons (pv 0) (pa_cons pe_int pa_nil))) pa_nil)) pe_int) (pa_cons (pe_lst (pa_cons pe_int pa_nil)) (pa_cons (pe_tup (pa_cons pe_int pa_nil)) pa_nil)))))))))))) (pe_op op_mod (pe_callC c_law_at (hr.mono (by decide)) rfl (pa_cons (pv 0) (pa_cons pe_int pa_nil))) pe_int) (fun _ _ => rfl)))
      (pss_one (ps_ret (pe_cmpR (op_eqK (K := K) rfl hu) (pe_callC c_law_new (hr.mono (by decide)) rfl (pa_cons (pv 2) (pa_cons (pv 3) pa_nil))) (pe_ix (ix_seqK (K := K) rfl) (pe_lst (pa_cons pe_str (pa_cons pe_str pa_nil))) (pe_callTy call_intA (by rfl) T.b_int (by decide +kernel) (pa_cons (pe_callC c_law_sized (hr.mono (by decide)) rfl (pa_cons (pv 2) (pa_cons (pv 3) pa_nil))) pa_nil)) (fun _ _ => rfl)) (nomark _))))))), ?_⟩
    refine w_seq (w_asg ?_)
    refine w_lstX (K := K) (ds := sizesL (1 + (if ns.getD 0 0 < 0 then - ns.getD 0 0 else ns.getD 0 0) % 400)) ?_ (by show 11 ≤ 1000; decide) fun p1 v1 H1 hp1 e1 h1 a1 => ?_
    · unfold sizesL
      walk_at "t_evxs"
    repeat walk_at "t_w"
    rename_i H2 e2
    obtain ⟨vz, dz, t1, t2, t3⟩ := at_dp a1 (i := ns.getD (Int.toNat 0) 0 % 11) (by omega) (by show _ < 11; omega)
    refine w_ixL (SqL.of (e2 _ _ h1)) t1 ?_
    have hZ2 := Dp.mono e2 t3
    have eA2 := e1.trans e2
    repeat walk_at "t_q"
    refine w_lstX (K := K) (ds := doorsL ((if ns.getD 1 0 < 0 then - ns.getD 1 0 else ns.getD 1 0) % 21)) ?_ (by show 11 ≤ 1000; decide) fun p3 v3 H3 hp3 e3 h3 a3 => ?_
    · unfold doorsL
      walk_at "t_evxs"
    have eA3 := eA2.trans e3
    have hS3 := ex_l eA3 hS
    repeat walk_at "t_w"
    rename_i H4 e4
    obtain ⟨vd, dd, u1, u2, u3⟩ := at_dp a3 (i := ns.getD (Int.toNat 1) 0 % 11) (by omega) (by show _ < 11; omega)
    refine w_ixL (SqL.of (e4 _ _ h3)) u1 ?_
    have hD4 := Dp.mono e4 u3
    have hZ4 := Dp.mono (e3.trans e4) hZ2
    repeat walk_at "t_w"
    refine w_new hZ4 hD4 fun H5 e5 => ?_
    repeat walk_at "t_w"
    rename_i q hq
    have e6 := Ex.new hq (o := HO.lst [V.str "size", V.str "made"])
    refine w_sized (Dp.mono (e5.trans e6) hZ4) (Dp.mono (e5.trans e6) hD4) fun H7 e7 => ?_
    have eA := ((((eA3.trans e4).trans e5).trans e6).trans e7)
    cases hb : sizedD dz dd with
    | false =>
      repeat walk_at "t_w"
      refine w_ixL (SqL.of (e7 _ _ upd_same)) (v := .str "size") rfl ?_
      repeat walk_at "t_w"
      rw [show decide (newWord false = "size") = true by decide +kernel]
      exact k _ eA
    | true =>
      repeat walk_at "t_w"
      refine w_ixL (SqL.of (e7 _ _ upd_same)) (v := .str "made") rfl ?_
      repeat walk_at "t_w"
      rw [show decide (newWord true = "made") = true by decide +kernel]
      exact k _ eA
end
end Tw

set_option Elab.async false
set_option linter.all false
set_option maxRecDepth 100000
set_option maxHeartbeats 4000000
namespace Tw
open PySem PySem.Spec PyProof.Rows L2
open Evl (Ex ex_l ex_t fresh_back sz_of sz_lt)
local macro_rules | `(tactic| walk_at "t_hp") => `(tactic| first
  | assumption
  | exact upd_same
  | (refine' hp_ne ?hne ?hrest; (case hne => walk_at "t_ne"); (case hrest => walk_at "t_hp"))
  | (refine' hp_ex ?hx ?hrest; (case hx => assumption); (case hrest => walk_at "t_hp")))
local macro_rules | `(tactic| walk_at "t_ne") => `(tactic| first
  | assumption
  | exact Ne.symm (by assumption)
  | (refine' ne_of_none ?h1 ?h2; (case h2 => assumption); (case h1 => walk_at "t_hp"))
  | (refine' Ne.symm (ne_of_none ?h1 ?h2); (case h2 => assumption); (case h1 => walk_at "t_hp")))
local macro_rules | `(tactic| walk_at "t_none") => `(tactic| first
  | assumption
  | (refine' fresh_back ?e ?n; (case n => assumption); (case e => walk_at "t_ex")))
local macro_rules | `(tactic| walk_at "t_ex") => `(tactic| first
  | assumption
  | exact Evl.Ex.refl _
  | (refine' ex_new ?n ?e; (case n => assumption); (case e => walk_at "t_ex"))
  | (refine' Evl.Ex.mut ?e ?n; (case n => walk_at "t_none"); (case e => walk_at "t_ex"))
  | (refine' Evl.Ex.trans ?a ?b; (case b => assumption); (case a => walk_at "t_ex")))
local macro_rules | `(tactic| walk_at "t_sq") => `(tactic| first
  | assumption
  | (refine' SqL.of ?h; (case h => walk_at "t_hp"))
  | (refine' ex_l ?e ?s; (case s => assumption); (case e => walk_at "t_ex")))
local macro_rules | `(tactic| walk_at "t_sqt") => `(tactic| first
  | assumption
  | (refine' SqT.of ?h; (case h => walk_at "t_hp"))
  | (refine' ex_t ?e ?s; (case s => assumption); (case e => walk_at "t_ex")))
local macro_rules | `(tactic| walk_at "t_mul") => `(tactic| first
  | assumption
  | exact Or.inl (Or.inl ⟨by decide, by decide⟩)
  | exact Or.inl (Or.inr ⟨by decide, by decide⟩)
  | exact Or.inl (Or.inl ⟨by omega, by omega⟩)
  | exact Or.inl (Or.inr ⟨by omega, by omega⟩))
local macro_rules | `(tactic| walk_at "t_c") => `(tactic| first
  | assumption
  | decide
  | (show (0 : Int) < _; decide)
  | (show (0 : Int) < _; omega)
  | exact ⟨by decide, by decide⟩
  | exact ⟨by decide, by decide, by decide⟩
  | exact ⟨by omega, by omega⟩
  | exact ⟨by omega, by omega, by omega, by omega⟩)
local macro_rules | `(tactic| walk_at "t_w") => `(tactic| first
  | (with_reducible refine w_seq ?_)
  | (with_reducible refine w_asg ?_)
  | (with_reducible refine w_gName ?_)
  | (with_reducible refine w_nx ?_)
  | (with_reducible refine w_rt ?_)
  | (with_reducible refine w_ct ?_)
  | (with_reducible refine w_bk ?_)
  | (with_reducible refine w_ret ?_)
  | (with_reducible refine w_retN ?_)
  | (with_reducible refine w_drop ?_)
  | (with_reducible refine w_ifS ?_)
  | (with_reducible refine w_next ?_)
  | (with_reducible refine w_break ?_)
  | (with_reducible refine w_cont ?_)
  | ((with_reducible refine' w_var ?h ?_); (case h => rfl))
  | (with_reducible refine w_c ?_)
  | (with_reducible refine w_op ?_)
  | (with_reducible refine w_un ?_)
  | (with_reducible refine w_I0 ?_)
  | ((with_reducible refine' w_I ?c ?_); (case c => walk_at "t_c"))
  | (with_reducible refine w_U ?_)
  | (with_reducible refine w_addI ?_)
  | ((with_reducible refine' w_addL ?h1 ?h2 ?hz ?_); (case h1 => walk_at "t_hp"); (case h2 => walk_at "t_hp"); (case hz => walk_at "t_z"))
  | ((with_reducible refine' w_mulI ?c ?_); (case c => walk_at "t_mul"))
  | ((with_reducible refine' w_mulL1 ?h1 ?b1 ?b2 ?_); (case h1 => walk_at "t_hp"); (case b1 => walk_at "t_z"); (case b2 => walk_at "t_z"))
  | ((with_reducible refine' w_mulL ?h1 ?b1 ?b2 ?hz ?_); (case h1 => walk_at "t_hp"); (case b1 => walk_at "t_z"); (case b2 => walk_at "t_z"); (case hz => walk_at "t_z"))
  | (with_reducible refine w_notIB ?_)
  | (with_reducible refine w_notBB ?_)
  | (with_reducible refine w_notN ?_)
  | (with_reducible refine w_isBB ?_)
  | (with_reducible refine w_isN ?_)
  | (with_reducible refine w_eqI ?_)
  | (with_reducible refine w_neI ?_)
  | (with_reducible refine w_eqB ?_)
  | (with_reducible refine w_neB ?_)
  | (with_reducible refine w_eqS ?_)
  | (with_reducible refine w_neS ?_)
  | (with_reducible refine w_test ?_)
  | (with_reducible refine w_B ?_)
  | (with_reducible refine w_exB ?_)
  | (with_reducible refine w_and ?_)
  | (with_reducible refine w_or ?_)
  | (with_reducible refine w_not ?_)
  | (with_reducible refine w_andV ?_)
  | (with_reducible refine w_orV ?_)
  | (with_reducible refine w_notV ?_)
  | (with_reducible refine w_bl ?_)
  | (with_reducible refine w_if ?_)
  | (with_reducible refine w_nil ?_)
  | (with_reducible refine w_cons ?_)
  | (with_reducible refine w_cb ?_)
  | (with_reducible refine w_call ?_)
  | (with_reducible refine w_tup ?_)
  | (with_reducible refine w_lst ?_)
  | ((with_reducible refine' w_fin ?hz ?_); (case hz => (simp only [List.length_cons, List.length_nil]; decide)))
  | ((with_reducible refine' w_len ?s ?_); (case s => walk_at "t_sq"))
  | ((with_reducible refine' w_lenT ?s ?_); (case s => walk_at "t_sqt"))
  | (with_reducible refine w_intI ?_)
  | (with_reducible refine w_intB ?_)
  | ((with_reducible refine' w_list ?s ?_); (case s => walk_at "t_sq"))
  | (with_reducible refine w_max ?_)
  | (with_reducible refine w_min ?_)
  | (with_reducible refine w_abs ?_)
  | (with_reducible refine w_sl ?_)
  | (with_reducible refine w_noPart ?_)
  | (with_reducible refine w_part ?_)
  | (with_reducible refine w_exI ?_)
  | ((with_reducible refine' w_slL ?s ?_); (case s => walk_at "t_sq"))
  | ((with_reducible refine' w_ixLI ?s ?b ?_); (case s => walk_at "t_sq"); (case b => walk_at "t_lt"))
  | ((with_reducible refine' w_ixL ?s ?e ?_); (case s => walk_at "t_sq"); (case e => walk_at "t_at"))
  | ((with_reducible refine' w_ixT ?s ?e ?_); (case s => walk_at "t_sqt"); (case e => walk_at "t_at"))
  | (with_reducible refine w_gSub ?_)
  | ((with_reducible refine' w_setLI ?e ?b ?_); (case e => walk_at "t_hp"); (case b => walk_at "t_lt"))
  | ((with_reducible refine' w_setL ?e ?b ?_); (case e => walk_at "t_hp"); (case b => walk_at "t_ixn"))
  | (with_reducible refine w_bm ?_)
  | (with_reducible refine w_bm0 ?_)
  | ((with_reducible refine' w_tyL ?e ?_); (case e => walk_at "t_sq"))
  | ((with_reducible refine' w_app ?e ?hz ?_); (case e => walk_at "t_hp"); (case hz => walk_at "t_z"))
  | (with_reducible refine w_iteT ?_)
  | (with_reducible refine w_iteF ?_)
  | (with_reducible refine w_iteNT ?_)
  | (with_reducible refine w_iteNF ?_)
  | (with_reducible refine w_for ?_)
  | (with_reducible refine w_iList ?_)
  | ((with_reducible refine' w_exL ?s ?_); (case s => walk_at "t_sq"))
  | (with_reducible refine w_iTup ?_)
  | ((with_reducible refine' w_exT ?s ?_); (case s => walk_at "t_sqt"))
  | (with_reducible refine w_iRng1 ?_)
  | ((with_reducible refine w_exR1 ?b ?_); (case b => walk_at "t_c"))
  | (with_reducible refine w_iRng2 ?_)
  | ((with_reducible refine w_exR2 ?b ?_); (case b => walk_at "t_c"))
  | (with_reducible refine w_yes ?_)
  | ((with_reducible refine w_pos ?p ?_); (case p => walk_at "t_p"))
  | ((with_reducible refine w_neg ?p ?_); (case p => walk_at "t_p"))
  | ((with_reducible refine w_posN ?p ?_); (case p => walk_at "t_p"))
  | ((with_reducible refine w_negN ?p ?_); (case p => walk_at "t_p"))
  | ((with_reducible refine' w_notInL ?s ?_); (case s => walk_at "t_sq"))
  | ((with_reducible refine' w_inL ?s ?_); (case s => walk_at "t_sq"))
  | ((with_reducible refine' w_sum ?s ?_); (case s => walk_at "t_sq"))
  | (with_reducible refine w_isiI ?_)
  | ((with_reducible refine' w_isiL ?e ?_); (case e => walk_at "t_ty"))
  | ((with_reducible refine' w_isiT ?e ?_); (case e => walk_at "t_ty"))
  | (with_reducible intro p hp_new))
local macro_rules | `(tactic| walk_at "t_ty") => `(tactic| first | assumption | (refine' tyx_l ?e; (case e => walk_at "t_hp")) | (refine' tyx_t ?e; (case e => walk_at "t_hp")))
local macro_rules | `(tactic| walk_at "t_z") => `(tactic| first | assumption | decide | omega | (simp only [List.length_cons, List.length_nil, List.length_map, List.length_append, List.length_replicate]; first | done | decide | omega))
local macro_rules | `(tactic| walk_at "t_at") => `(tactic| first | assumption | rfl)
local macro_rules | `(tactic| walk_at "t_ixn") => `(tactic| first | assumption | rfl)
local macro_rules | `(tactic| walk_at "t_ev") => `(tactic| (intro H1 e Q q; (repeat walk_at "t_w"); exact q _ (by walk_at "t_ex")))
local macro_rules | `(tactic| walk_at "t_p") => `(tactic| first | assumption | decide | decide +kernel)
local macro_rules | `(tactic| walk_at "t_lt") => `(tactic| first | assumption | omega | (simp only [List.length_set, List.length_map, List.length_append]; first | assumption | omega))
local macro_rules | `(tactic| walk_at "t_w") => `(tactic| first
  | ((with_reducible refine' w_at ?s ?hl ?h0 ?_); (case s => walk_at "t_sq"); (case hl => walk_at "t_z"); (case h0 => walk_at "t_z"))
  | (with_reducible refine w_isInt ?_)
  | (with_reducible refine w_I1 ?_)
  | (with_reducible refine w_Head ?_)
  | ((with_reducible refine' w_number ?hb ?_); (case hb => walk_at "t_bits")))
local macro_rules | `(tactic| walk_at "t_bits") => `(tactic| assumption)
local macro_rules | `(tactic| walk_at "t_w") => `(tactic| first
  | (with_reducible refine w_tru ?_)
  | ((with_reducible refine' w_truL ?s ?_); (case s => walk_at "t_sq"))
  | (with_reducible refine w_dnew ?_)
  | (with_reducible refine w_disp1 ?_)
  | ((with_reducible refine' w_aug ?e ?_); (case e => rfl))
  | (with_reducible refine w_ipI ?_)
  | ((with_reducible refine' w_inD ?e ?_); (case e => walk_at "t_hp"))
  | ((with_reducible refine' w_notInD ?e ?_); (case e => walk_at "t_hp"))
  | (with_reducible refine w_dget ?_)
  | ((with_reducible refine' w_dgetE ?e ?hv ?_); (case e => walk_at "t_hp"); (case hv => walk_at "t_dv"))
  | (with_reducible refine w_dput ?_)
  | ((with_reducible refine' w_dputE ?e ?hl ?_); (case e => walk_at "t_hp"); (case hl => walk_at "t_z"))
  | ((with_reducible refine' w_extend ?e1 ?e2 ?hz ?_); (case e1 => walk_at "t_hp"); (case e2 => walk_at "t_hp"); (case hz => walk_at "t_z")))
local macro_rules | `(tactic| walk_at "t_dv") => `(tactic| assumption)
local macro_rules | `(tactic| walk_at "t_hp") => `(tactic| first
  | (with_reducible refine hp_off0 ?_; walk_at "t_hp")
  | ((with_reducible refine' hp_off1 ?hne ?hrest); (case hne => walk_at "t_ne"); (case hrest => walk_at "t_hp")))
local macro_rules | `(tactic| walk_at "t_w") => `(tactic| first
  | (with_reducible refine w_fld ?_)
  | ((with_reducible refine' w_fldE ?e ?c ?n ?l ?_); (case e => walk_at "t_hp"); (case c => assumption); (case n => assumption); (case l => rfl))
  | (with_reducible refine w_sfld ?_)
  | ((with_reducible refine' w_sfldE ?e ?c ?n ?l ?_); (case e => walk_at "t_hp"); (case c => assumption); (case n => assumption); (case l => first | decide | (show 1 < 1000; decide) | (show 2 < 1000; decide)))
  | (with_reducible refine w_setSl ?_)
  | (with_reducible refine w_make ?_)
  | ((with_reducible refine' w_gfld0 ?hv ?e ?c ?n ?l ?_); (case hv => rfl); (case e => walk_at "t_hp"); (case c => assumption); (case n => assumption); (case l => first | decide | (show 1 < 1000; decide) | (show 2 < 1000; decide)))
  | (with_reducible refine w_meth ?_)
  | (with_reducible refine w_methX ?_)
  | ((with_reducible refine' w_methE ?e ?l ?_); (case e => walk_at "t_hp"); (case l => rfl))
  | (with_reducible refine w_chain ?_)
  | ((with_reducible refine' w_gTup ?s ?l ?_); (case s => walk_at "t_sqt"); (case l => rfl))
  | (with_reducible refine w_gCons ?_)
  | (with_reducible refine w_gNil ?_)
  | (with_reducible refine w_star ?_)
  | ((with_reducible refine' w_starL ?s ?_); (case s => walk_at "t_sq"))
  | (with_reducible refine w_isiIB ?_)
  | (with_reducible refine w_isiS ?_))
/-! ### things of the law: what each is, how long it is shown -/
mutual
def small : PyData → Bool
  | .list xs => decide (xs.length < 12) && smallAll xs
  | .tuple xs => smallAll xs
  | .dict _ => false
  | .none => true
  | .bool _ => true
  | .int _ => true
  | .str _ => true
def smallAll : List PyData → Bool
  | [] => true
  | x :: xs => small x && smallAll xs
end
theorem sqL_len {K : PySem.W.Frag} {H : Hp} {x r a : Addr} {C dx : Addr} {fs : List (Str × V)} {row xs : List V} (hx : H x = some (.ins C dx fs)) (hr : H r = some (.lst row)) (h12 : row.length = 12) (hl : xs.length < 12) (s : SqL K H a xs) : SqL K (off [x, r] H) a xs := by
  have go : ∀ o, H a = some o → (∀ C dx fs, o ≠ .ins C dx fs) → o ≠ .lst row → off [x, r] H a = some o := fun o e n1 n2 => by
    have nx : a ≠ x := fun q => by rw [q, hx] at e; exact n1 _ _ _ (Option.some.inj e).symm
    have nr : a ≠ r := fun q => by rw [q, hr] at e; exact n2 (Option.some.inj e).symm
    rw [off_out (by simp [nx, nr])]; exact e
  rcases s with (s | ⟨o, s⟩) | s
  · exact .inl (.inl (go _ s (fun _ _ _ z => nomatch z) fun z => by rw [HO.lst.inj z] at hl; omega))
  · exact .inl (.inr ⟨o, go _ s (fun _ _ _ z => nomatch z) fun z => nomatch z⟩)
  · exact .inr s
theorem sqT_off {K : PySem.W.Frag} {H : Hp} {x r a : Addr} {C dx : Addr} {fs : List (Str × V)} {row xs : List V} (hx : H x = some (.ins C dx fs)) (hr : H r = some (.lst row)) (s : SqT K H a xs) : SqT K (off [x, r] H) a xs := by
  have go : ∀ o, H a = some o → (∀ C dx fs, o ≠ .ins C dx fs) → (∀ ys, o ≠ .lst ys) → off [x, r] H a = some o := fun o e n1 n2 => by
    have nx : a ≠ x := fun q => by rw [q, hx] at e; exact n1 _ _ _ (Option.some.inj e).symm
    have nr : a ≠ r := fun q => by rw [q, hr] at e; exact n2 _ (Option.some.inj e).symm
    rw [off_out (by simp [nx, nr])]; exact e
  rcases s with (s | ⟨o, s⟩) | s
  · exact .inl (.inl (go _ s (fun _ _ _ z => nomatch z) fun _ z => nomatch z))
  · exact .inl (.inr ⟨o, go _ s (fun _ _ _ z => nomatch z) fun _ z => nomatch z⟩)
  · exact .inr s
mutual
theorem dp_off {K : PySem.W.Frag} {H : Hp} {x r C dx : Addr} {fs : List (Str × V)} {row : List V} (hx : H x = some (.ins C dx fs)) (hr : H r = some (.lst row)) (h12 : row.length = 12) : ∀ {d : PyData} {v : V}, small d = true → Dp K H v d → Dp K (off [x, r] H) v d
  | .none, _, _, h => by cases h; exact .non
  | .bool b, _, _, h => by cases h; exact .bl b
  | .int i, _, _, h => by cases h; exact .int i
  | .str z, _, _, h => by cases h; exact .str z
  | .dict _, _, s, _ => by simp [small] at s
  | .list ds, _, s, h => by
    have s' : (decide (ds.length < 12) && smallAll ds) = true := by simpa [small] using s
    rw [Bool.and_eq_true, decide_eq_true_eq] at s'
    cases h with
    | lst q a => exact .lst (sqL_len hx hr h12 (by rw [dpAll_len a]; exact s'.1) q) (dps_off hx hr h12 s'.2 a)
  | .tuple ds, _, s, h => by
    have s' : smallAll ds = true := by simpa [small] using s
    cases h with
    | tup q a => exact .tup (sqT_off hx hr q) (dps_off hx hr h12 s' a)
theorem dps_off {K : PySem.W.Frag} {H : Hp} {x r C dx : Addr} {fs : List (Str × V)} {row : List V} (hx : H x = some (.ins C dx fs)) (hr : H r = some (.lst row)) (h12 : row.length = 12) : ∀ {ds : List PyData} {vs : List V}, smallAll ds = true → DpAll K H vs ds → DpAll K (off [x, r] H) vs ds
  | [], _, _, h => by cases h; exact .nil
  | d :: ds, _, s, h => by
    have s' : (small d && smallAll ds) = true := by simpa [smallAll] using s
    rw [Bool.and_eq_true] at s'
    cases h with
    | cons a b => exact .cons (dp_off hx hr h12 s'.1 a) (dps_off hx hr h12 s'.2 b)
end
def goodD (d : PyData) : Bool := small d && d.showable && !d.hasDict && decide (d.depth ≤ 3) && decide (d.shown.length ≤ 200)
theorem good_things : thingsL.all goodD = true := by decide +kernel
theorem good_num : ∀ k : Nat, k < 10 → goodD (numD (.int (k : Int))) = true := by decide +kernel
theorem word_things : ∀ i : Nat, i < 25 → wordD (thingsL.getD i .none) = lawWord (i : Int) := by decide +kernel
theorem word_num : ∀ k : Nat, k < 10 → wordD (numD (.int (k : Int))) = "" := by decide +kernel
theorem things_len : thingsL.length = 25 := rfl
theorem textFrom_le : ∀ (ts : List Str) (k : Nat) (acc : Str) (m : Nat), (∀ t ∈ ts, t.length ≤ m) → (textFrom k acc ts).length ≤ acc.length + (m + 2) * ts.length
  | [], _, _, _, _ => Nat.le_add_right _ _
  | t :: ts, k, acc, m, h => by
    have h1 := textFrom_le ts (k + 1) (acc ++ (if k > 0 then ", " else "" : String) ++ t) m fun x hx => h x (List.mem_cons_of_mem _ hx)
    have h2 : (acc ++ (if k > 0 then ", " else "" : String) ++ t).length = acc.length + (if k > 0 then 2 else 0) + t.length := by
      rw [strLen_append, strLen_append]
      split <;> rfl
    have h3 := h t List.mem_cons_self
    have h4 : (if k > 0 then 2 else 0 : Nat) ≤ 2 := by split <;> omega
    show (textFrom (k + 1) _ ts).length ≤ _
    rw [List.length_cons, Nat.mul_succ]
    omega
theorem shownAll_len : ∀ ds : List PyData, (PyData.shownAll ds).length = ds.length
  | [] => rfl
  | _ :: ds => congrArg (· + 1) (shownAll_len ds)
theorem good_list : ∀ {ds : List PyData}, ds.all goodD = true → PyData.showableAll ds = true ∧ PyData.hasDictAll ds = false ∧ PyData.depthAll ds ≤ 3 ∧ ∀ t ∈ PyData.shownAll ds, t.length ≤ 200
  | [], _ => ⟨rfl, rfl, Nat.zero_le _, fun _ h => by cases h⟩
  | d :: ds, h => by
    rw [List.all_cons, Bool.and_eq_true] at h
    obtain ⟨h1, h2⟩ := h
    obtain ⟨a, b, c, e⟩ := good_list h2
    unfold goodD at h1
    rw [Bool.and_eq_true, Bool.and_eq_true, Bool.and_eq_true, Bool.and_eq_true, decide_eq_true_eq, decide_eq_true_eq, Bool.not_eq_true'] at h1
    obtain ⟨⟨⟨⟨_, g1⟩, g2⟩, g3⟩, g4⟩ := h1
    refine ⟨by show (d.showable && _) = true; rw [g1, a]; rfl, by show (d.hasDict || _) = false; rw [g2, b]; rfl, by show max d.depth _ ≤ 3; omega, fun t ht => ?_⟩
    rcases List.mem_cons.mp (show t ∈ d.shown :: PyData.shownAll ds from ht) with rfl | ht
    · exact g4
    · exact e t ht
theorem good_small : ∀ {ds : List PyData}, ds.all goodD = true → smallAll ds = true
  | [], _ => by simp [smallAll]
  | d :: ds, h => by
    rw [List.all_cons, Bool.and_eq_true] at h
    have h1 := h.1
    unfold goodD at h1
    rw [Bool.and_eq_true, Bool.and_eq_true, Bool.and_eq_true, Bool.and_eq_true] at h1
    have e : smallAll (d :: ds) = (small d && smallAll ds) := by simp [smallAll]
    rw [e, h1.1.1.1.1, good_small h.2]; rfl
theorem w_repr {K : PySem.W.Frag} {H : Hp} {Q : VK} {l : Addr} {ws : List V} {ds : List PyData} {z : Str} (hz : (PyData.list ds).shown = z) (s : SqL K H l ws) (a : DpAll K H ws ds) (g : ds.all goodD = true) (hl : ds.length ≤ 20) (h : Q (.str z) H) : rReprD K [.ref l] H Q := by
  rw [← hz] at h
  obtain ⟨g1, g2, g3, g4⟩ := good_list g
  have h1 := textFrom_le (PyData.shownAll ds) 0 "[" 200 g4
  rw [shownAll_len] at h1
  refine ⟨l, .list ds, rfl, .lst s a, g1, g2, by show PyData.depthAll ds + 1 ≤ 60; omega, ?_, h⟩
  show (textFrom 0 "[" (PyData.shownAll ds) ++ ("]" : Str)).length ≤ _
  rw [strLen_append]
  have h2 : ("[" : Str).length = 1 := rfl
  have h3 : ("]" : Str).length = 1 := rfl
  omega
/-! the words that are due -/
def Same (ds : List PyData) (js : List Int) : Prop := ∀ z : Str, z ≠ "" → (z ∈ ds.map wordD ↔ z ∈ js.map lawWord)
theorem mem_set {α β : Type} (f : α → β) {xs : List α} {i : Nat} {x : α} {z : β} (hi : i < xs.length) (hz : z ≠ f xs[i]) : z ∈ (xs.set i x).map f ↔ (z = f x ∨ z ∈ xs.map f) := by
  constructor
  · intro h
    obtain ⟨y, hy, e⟩ := List.mem_map.mp h
    rcases List.mem_or_eq_of_mem_set hy with q | q
    · exact .inr (List.mem_map.mpr ⟨y, q, e⟩)
    · exact .inl (by rw [← e, q])
  · rintro (rfl | h)
    · exact List.mem_map.mpr ⟨x, List.mem_set hi x, rfl⟩
    · obtain ⟨y, hy, e⟩ := List.mem_map.mp h
      obtain ⟨j, hj⟩ := List.getElem?_of_mem hy
      have nij : i ≠ j := fun q => by
        subst q
        rw [List.getElem?_eq_getElem hi] at hj
        exact hz (by rw [← e, ← Option.some.inj hj])
      exact List.mem_map.mpr ⟨y, List.mem_of_getElem? (i := j) (by rw [List.getElem?_set_ne nij]; exact hj), e⟩
theorem due_same {n : Int} {ds : List PyData} {js : List Int} (h : Same ds js) : dueMade n (ds.map wordD) = dueMade n (js.map lawWord) := by
  unfold dueMade
  have h1 := h "thing" (by decide +kernel)
  have h2 := h "box" (by decide +kernel)
  by_cases a : ("thing" : Str) ∈ ds.map wordD
  · rw [if_pos a, if_pos (h1.mp a)]
  · rw [if_neg a, if_neg (fun q => a (h1.mpr q))]
    by_cases b : ("box" : Str) ∈ ds.map wordD
    · rw [if_pos b, if_pos (h2.mp b)]
    · rw [if_neg b, if_neg (fun q => b (h2.mpr q))]
def baseL (n : Nat) : List PyData := (List.range n).map fun k : Nat => numD (.int (k : Int))
theorem base_word {n : Nat} (h : n ≤ 10) {z : Str} (hz : z ∈ (baseL n).map wordD) : z = "" := by
  obtain ⟨d, hd, rfl⟩ := List.mem_map.mp hz
  obtain ⟨k, hk, rfl⟩ := List.mem_map.mp hd
  exact word_num k (by have := List.mem_range.mp hk; omega)
theorem base_good {n : Nat} (h : n ≤ 10) : (baseL n).all goodD = true := List.all_eq_true.mpr fun d hd => by
  obtain ⟨k, hk, rfl⟩ := List.mem_map.mp hd
  exact good_num k (by have := List.mem_range.mp hk; omega)
theorem base_len (n : Nat) : (baseL n).length = n := by unfold baseL; rw [List.length_map, List.length_range]
theorem good_set {ds : List PyData} {i : Nat} {d : PyData} (h : ds.all goodD = true) (hd : goodD d = true) : (ds.set i d).all goodD = true := List.all_eq_true.mpr fun x hx => by
  rcases List.mem_or_eq_of_mem_set hx with q | q
  · exact List.all_eq_true.mp h x q
  · rw [q]; exact hd
theorem dpAll_set {K : PySem.W.Frag} {H : Hp} : ∀ {vs : List V} {ds : List PyData} {i : Nat} {v : V} {d : PyData}, DpAll K H vs ds → Dp K H v d → DpAll K H (vs.set i v) (ds.set i d)
  | _, _, _, _, _, .nil, _ => .nil
  | _, _, 0, _, _, .cons _ t, h => .cons h t
  | _, _, i + 1, _, _, .cons a t, h => .cons a (dpAll_set t h)
theorem thing_at {K : PySem.W.Frag} {H H2 : Hp} {ws : List V} (n : NewDs K H H2 ws thingsL) {i : Int} (h0 : 0 ≤ i) (h1 : i < 25) : ∃ v d, atI ws i = some v ∧ NewD K H H2 v d ∧ goodD d = true ∧ wordD d = lawWord i := by
  obtain ⟨m, rfl⟩ : ∃ m : Nat, i = (m : Int) := ⟨i.toNat, (Int.toNat_of_nonneg h0).symm⟩
  have hm : m < thingsL.length := by rw [things_len]; omega
  obtain ⟨v, hv, _⟩ := dpAll_getD n.all (List.getElem?_eq_getElem hm)
  refine ⟨v, thingsL[m], atI_nat hv, fun G s => ?_, List.all_eq_true.mp good_things _ (List.getElem_mem hm), ?_⟩
  · obtain ⟨d, e, h⟩ := dpAll_get (n G s) hv
    rw [List.getElem?_eq_getElem hm] at e
    cases e
    exact h
  · have := word_things m (by omega)
    rw [List.getD_eq_getElem?_getD, List.getElem?_eq_getElem hm] at this
    exact this
theorem w_thingsC {K : PySem.W.Frag} {H : Hp} {Q : VK} {E : XK} (k : ∀ p ws H2, H p = none → Ex H H2 → H2 p = some (.lst ws) → NewDs K H H2 ws thingsL → Q (.ref p) H2) : spThings K ([] ++ []) H Q E := ⟨rfl, k⟩
/-! ### where nothing is due -/
theorem hand_ok {fs : List Thing} {sp : Nat} (ro : RowOk bs0 sp) (h : ∀ t ∈ fs, t.ok 2) : (∀ p ∈ fs.map (Thing.pt bs0), p.ok) ∧ ∀ p ∈ fs.map (Thing.pt bs0), p.1 = true → p.2 ∈ asI (places bs0) := by
  refine ⟨fun p hp => ?_, fun p hp hb => ?_⟩
  · obtain ⟨t, ht, rfl⟩ := List.mem_map.mp hp
    exact pt_ok ro (h t ht)
  · obtain ⟨t, ht, rfl⟩ := List.mem_map.mp hp
    exact pt_in (h t ht) hb
theorem hands {fs : List Thing} : fs.map handD = (fs.map (Thing.pt bs0)).map PT.data := by rw [List.map_map]; rfl
theorem due0 {ds : List PyData} {dp df : PyData} {fs : List Thing} {sp : Nat} (ro : RowOk bs0 sp) (e : ds = fs.map handD) (h : ∀ t ∈ fs, t.ok 2) (hl : 1 + fs.length ≤ 6) : calledDue 0 ds dp df = "" := by
  obtain ⟨h1, h2⟩ := hand_ok ro h
  unfold calledDue
  rw [if_pos rfl, e, hands, due_good h1 h2, if_neg (by rw [List.length_map, List.length_map]; omega)]
theorem due1 {ds : List PyData} {dp df : PyData} {t : Thing} {sp i j : Nat} (ro : RowOk bs0 sp) (hi : i < 2) (hj : j < 2) (e1 : dp = .int (3 * (i : Int))) (e2 : df = .int (j : Int)) (e : ds = [handD t]) (h : t.ok 2) : calledDue 1 ds dp df = "" := by
  unfold calledDue duePutW
  rw [if_neg (by decide), e1, e2, is_box hi, if_pos rfl, if_neg (by decide), is_field hj, if_pos rfl, e]
  show wordD (t.pt bs0).data = ""
  rw [wordD_pt (pt_ok ro h), if_neg]
  intro hb
  obtain ⟨h1, h2⟩ := boxBad_pt.mp hb
  exact h2 (pt_in h h1)
theorem due2 {ds : List PyData} {dp df : PyData} {i : Nat} (hi : i < 2) (e1 : dp = .int (3 * (i : Int))) : calledDue 2 ds dp df = "" := by
  unfold calledDue duePutW
  rw [if_neg (by decide), e1, is_box hi, if_pos rfl, if_pos rfl]
theorem w_sound0 {C : Addr} {K : PySem.W.Frag} {H : Hp} {Q : VK} {E : XK} {x r p : Addr} (Rm : RoomAt C H x r bs0 6) (h : H p = some (.lst (cells0.map V.int))) (n : p ≠ r) (k : ∀ H2, Q (.bl true) H2) : spSound C K ([.ref x, .ref p, .int 6] ++ []) H Q E :=
  ⟨x, r, p, bs0, 6, rfl, Rm, by rw [← cells0_row]; exact h, n, rfl, by decide +kernel, k⟩
theorem behind_row {fs : List Thing} {sp : Nat} (ro : RowOk bs0 6) (h : ∀ t ∈ fs, t.ok 2) (hl : 1 + fs.length ≤ 6) : behind0 ((fs.map (Thing.pt bs0)).map PT.word) = rowAt (bs0 ++ [fs]) (6 - (1 + fs.length)) := by
  rw [← rowAt_made ro h hl, pts_words h, ← cells0_row]
  unfold behind0
  rw [List.length_map, bs0_cells, show 6 + 1 + fs.length = 7 + fs.length by omega]
  first | done | simp
theorem w_sound1 {C : Addr} {K : PySem.W.Frag} {H : Hp} {Q : VK} {E : XK} {x r p : Addr} {fs : List Thing} {z : Int} (Rm : RoomAt C H x r (bs0 ++ [fs]) (6 - (1 + fs.length))) (ro : RowOk bs0 6) (h : ∀ t ∈ fs, t.ok 2) (hl : 1 + fs.length ≤ 6)
    (hp : H p = some (.lst ((behind0 ((fs.map (Thing.pt bs0)).map PT.word)).map V.int))) (n : p ≠ r) (hz : z = 7 + (fs.length : Int)) (k : ∀ H2, Q (.bl true) H2) : spSound C K ([.ref x, .ref p, .int z] ++ []) H Q E := by
  have hc : cells (bs0 ++ [fs]) = 7 + fs.length := by
    have := cells_snoc bs0 fs
    rw [bs0_cells] at this
    omega
  refine ⟨x, r, p, bs0 ++ [fs], 6 - (1 + fs.length), ?_, Rm, by rw [← behind_row (sp := 0) ro h hl]; exact hp, n, by omega, ?_, k⟩
  · have e : ((cells (bs0 ++ [fs]) : Nat) : Int) = z := by rw [hc, hz]; omega
    rw [e]; rfl
  · rw [if_pos (by omega), places_snoc]
    first | done | rfl
theorem w_sound2 {C : Addr} {K : PySem.W.Frag} {H : Hp} {Q : VK} {E : XK} {x r p : Addr} {i j : Nat} {t : Thing} {z : Int} (Rm : RoomAt C H x r (bs0.set i ((bs0.getD i []).set j t)) 6) (hi : i < 2) (hj : j < 2) (ht : t.ok 2)
    (hp : H p = some (.lst ((cells0.set (3 * i + 1 + j) (t.pt bs0).word).map V.int))) (n : p ≠ r) (hz : z = 6) (k : ∀ H2, Q (.bl true) H2) : spSound C K ([.ref x, .ref p, .int z] ++ []) H Q E := by
  have hb : bs0[i]? = some (bs0.getD i []) ∧ (bs0.getD i []).length = 2 ∧ pl bs0 i = 3 * i := by
    match i, hi with
    | 0, _ => exact ⟨rfl, rfl, rfl⟩
    | 1, _ => exact ⟨rfl, rfl, rfl⟩
  obtain ⟨hb1, hb2, hb3⟩ := hb
  obtain ⟨s1, s2, s3⟩ := rowAt_set (sp := 6) (t := t) hb1 (show j < (bs0.getD i []).length by omega)
  rw [hb3, ← cells0_row, ← pt_word (bs := bs0) (show t.ok bs0.length from ht)] at s1
  refine ⟨x, r, p, _, 6, ?_, Rm, by rw [← s1]; exact hp, n, by rw [s3]; rfl, ?_, k⟩
  · rw [hz, s3]; rfl
  · rw [s3, s2]; rfl
theorem told_dp {K : PySem.W.Frag} {H : Hp} {l : Addr} {ws : List V} (h : H l = some (.lst ws)) {fs : List Thing} (a : All2 (HandAt H bs0) ws fs) : Dp K H (.ref l) (.list (fs.map handD)) := by
  refine .lst (SqL.of h) ?_
  clear h
  induction a with
  | nil => exact .nil
  | @cons v x vs xs h t ih =>
    obtain ⟨a, rfl, ha⟩ := h
    refine .cons ?_ ih
    cases x with
    | num n => exact .tup (SqT.of ha) (.cons (.str _) (.cons (.int _) .nil))
    | box k => exact .tup (SqT.of ha) (.cons (.str _) (.cons (.int _) .nil))
theorem w_check {K : PySem.W.Frag} {σ : L2.St} {H : Hp} {D : Ends} {t u : TS} {fq q l : Addr} {W : Str} {val : V} {ws : List V} {ds : List PyData} (h13 : σ[13]? = some (some (.ref fq))) (h11 : σ[11]? = some (some (.str W))) (h12 : σ[12]? = some (some (.ref q))) (h8 : σ[8]? = some (some (.ref l)))
    (hf : H fq = some (.tup [.str W, val])) (hq : H q = some (.lst ws)) (hl : H l = some (.lst ws)) (a : DpAll K H ws ds) (g : ds.all goodD = true) (hd : ds.length ≤ 20) (k : u D σ H) :
    tIfS (tOr (tTest (tOp (rNeA K) (tOp (rIx K) (tVar 13) (tC (.int 0))) (tVar 11))) (tTest (tOp (rNeA K) (tCB (rReprD K) (tCons (tVar 12) tNil)) (tCB (rReprD K) (tCons (tVar 8) tNil))))) t u D σ H := by
  refine w_ifS (w_or (w_test (w_op (w_op (w_var h13 (w_c (w_ixT (v := .str W) (SqT.of hf) rfl (w_var h11 (w_neS ?_)))))))))
  refine ⟨false, by rw [decide_eq_true rfl]; rfl, w_iteF ?_⟩
  refine w_test (w_op (w_cb (w_cons (w_var h12 (w_nil (w_repr rfl (SqL.of hq) a g hd ?_))))))
  refine w_cb (w_cons (w_var h8 (w_nil (w_repr rfl (SqL.of hl) a g hd ?_))))
  exact w_neS ⟨false, by rw [decide_eq_true rfl]; rfl, w_iteF k⟩
section
variable {K : PySem.W.Frag} {σ : L2.St} {H : Hp} {D : Ends} {t u : TS} {v : TT} {W : Str} {c : Int}
theorem str_ee : decide (("" : Str) = "") = true := decide_eq_true rfl
theorem w_dueA (h11 : σ[11]? = some (some (.str W))) (hW : W ≠ "") (k : t D σ H) : tIfS (tOr (tTest (tOp (rNeA K) (tVar 11) (tC (.str "")))) v) t u D σ H :=
  w_ifS (w_or (w_test (w_op (w_var h11 (w_c (w_neS ⟨true, by rw [decide_eq_false hW]; rfl, w_iteT (w_iteT k)⟩))))))
theorem w_dueB (h11 : σ[11]? = some (some (.str ""))) (h2 : σ[2]? = some (some (.int c))) (hc : c ≠ 2) (k : u D σ H) : tIfS (tOr (tTest (tOp (rNeA K) (tVar 11) (tC (.str "")))) (tTest (tOp (rEqA K) (tVar 2) (tC (.int 2))))) t u D σ H :=
  w_ifS (w_or (w_test (w_op (w_var h11 (w_c (w_neS ⟨false, by rw [str_ee]; rfl, w_iteF (w_test (w_op (w_var h2 (w_c (w_eqI ⟨false, by rw [decide_eq_false hc], w_iteF k⟩)))))⟩))))))
theorem w_dueC (h11 : σ[11]? = some (some (.str ""))) (h2 : σ[2]? = some (some (.int 2))) (k : t D σ H) : tIfS (tOr (tTest (tOp (rNeA K) (tVar 11) (tC (.str "")))) (tTest (tOp (rEqA K) (tVar 2) (tC (.int 2))))) t u D σ H :=
  w_ifS (w_or (w_test (w_op (w_var h11 (w_c (w_neS ⟨false, by rw [str_ee]; rfl, w_iteF (w_test (w_op (w_var h2 (w_c (w_eqI ⟨true, by rw [decide_eq_true rfl], w_iteT k⟩)))))⟩))))))
theorem w_andA (h11 : σ[11]? = some (some (.str W))) (hW : W ≠ "") (k : u D σ H) : tIfS (tAnd (tTest (tOp (rEqA K) (tVar 11) (tC (.str "")))) v) t u D σ H :=
  w_ifS (w_and (w_test (w_op (w_var h11 (w_c (w_eqS ⟨false, by rw [decide_eq_false hW], w_iteF (w_iteF k)⟩))))))
theorem w_andB (h11 : σ[11]? = some (some (.str ""))) (k : v σ H fun b H1 => if b = true then t D σ H1 else u D σ H1) : tIfS (tAnd (tTest (tOp (rEqA K) (tVar 11) (tC (.str "")))) v) t u D σ H :=
  w_ifS (w_and (w_test (w_op (w_var h11 (w_c (w_eqS ⟨true, by rw [str_ee], w_iteT k⟩))))))
end
end Tw

set_option Elab.async false
set_option linter.all false
set_option maxRecDepth 100000
set_option maxHeartbeats 4000000
namespace Tw
open PySem PySem.Spec PyProof.Rows L2
open Evl (Ex ex_l ex_t fresh_back sz_of sz_lt)
local macro_rules | `(tactic| walk_at "t_hp") => `(tactic| first
  | assumption
  | exact upd_same
  | (refine' hp_ne ?hne ?hrest; (case hne => walk_at "t_ne"); (case hrest => walk_at "t_hp"))
  | (refine' hp_ex ?hx ?hrest; (case hx => assumption); (case hrest => walk_at "t_hp")))
local macro_rules | `(tactic| walk_at "t_ne") => `(tactic| first
  | assumption
  | exact Ne.symm (by assumption)
  | (refine' ne_of_none ?h1 ?h2; (case h2 => assumption); (case h1 => walk_at "t_hp"))
  | (refine' Ne.symm (ne_of_none ?h1 ?h2); (case h2 => assumption); (case h1 => walk_at "t_hp")))
local macro_rules | `(tactic| walk_at "t_none") => `(tactic| first
  | assumption
  | (refine' fresh_back ?e ?n; (case n => assumption); (case e => walk_at "t_ex")))
local macro_rules | `(tactic| walk_at "t_ex") => `(tactic| first
  | assumption
  | exact Evl.Ex.refl _
  | (refine' ex_new ?n ?e; (case n => assumption); (case e => walk_at "t_ex"))
  | (refine' Evl.Ex.mut ?e ?n; (case n => walk_at "t_none"); (case e => walk_at "t_ex"))
  | (refine' Evl.Ex.trans ?a ?b; (case b => assumption); (case a => walk_at "t_ex")))
local macro_rules | `(tactic| walk_at "t_sq") => `(tactic| first
  | assumption
  | (refine' SqL.of ?h; (case h => walk_at "t_hp"))
  | (refine' ex_l ?e ?s; (case s => assumption); (case e => walk_at "t_ex")))
local macro_rules | `(tactic| walk_at "t_sqt") => `(tactic| first
  | assumption
  | (refine' SqT.of ?h; (case h => walk_at "t_hp"))
  | (refine' ex_t ?e ?s; (case s => assumption); (case e => walk_at "t_ex")))
local macro_rules | `(tactic| walk_at "t_mul") => `(tactic| first
  | assumption
  | exact Or.inl (Or.inl ⟨by decide, by decide⟩)
  | exact Or.inl (Or.inr ⟨by decide, by decide⟩)
  | exact Or.inl (Or.inl ⟨by omega, by omega⟩)
  | exact Or.inl (Or.inr ⟨by omega, by omega⟩))
local macro_rules | `(tactic| walk_at "t_c") => `(tactic| first
  | assumption
  | decide
  | (show (0 : Int) < _; decide)
  | (show (0 : Int) < _; omega)
  | exact ⟨by decide, by decide⟩
  | exact ⟨by decide, by decide, by decide⟩
  | exact ⟨by omega, by omega⟩
  | exact ⟨by omega, by omega, by omega, by omega⟩)
local macro_rules | `(tactic| walk_at "t_w") => `(tactic| first
  | (with_reducible refine w_seq ?_)
  | (with_reducible refine w_asg ?_)
  | (with_reducible refine w_gName ?_)
  | (with_reducible refine w_nx ?_)
  | (with_reducible refine w_rt ?_)
  | (with_reducible refine w_ct ?_)
  | (with_reducible refine w_bk ?_)
  | (with_reducible refine w_ret ?_)
  | (with_reducible refine w_retN ?_)
  | (with_reducible refine w_drop ?_)
  | (with_reducible refine w_ifS ?_)
  | (with_reducible refine w_next ?_)
  | (with_reducible refine w_break ?_)
  | (with_reducible refine w_cont ?_)
  | ((with_reducible refine' w_var ?h ?_); (case h => rfl))
  | (with_reducible refine w_c ?_)
  | (with_reducible refine w_op ?_)
  | (with_reducible refine w_un ?_)
  | (with_reducible refine w_I0 ?_)
  | ((with_reducible refine' w_I ?c ?_); (case c => walk_at "t_c"))
  | (with_reducible refine w_U ?_)
  | (with_reducible refine w_addI ?_)
  | ((with_reducible refine' w_addL ?h1 ?h2 ?hz ?_); (case h1 => walk_at "t_hp"); (case h2 => walk_at "t_hp"); (case hz => walk_at "t_z"))
  | ((with_reducible refine' w_mulI ?c ?_); (case c => walk_at "t_mul"))
  | ((with_reducible refine' w_mulL1 ?h1 ?b1 ?b2 ?_); (case h1 => walk_at "t_hp"); (case b1 => walk_at "t_z"); (case b2 => walk_at "t_z"))
  | ((with_reducible refine' w_mulL ?h1 ?b1 ?b2 ?hz ?_); (case h1 => walk_at "t_hp"); (case b1 => walk_at "t_z"); (case b2 => walk_at "t_z"); (case hz => walk_at "t_z"))
  | (with_reducible refine w_notIB ?_)
  | (with_reducible refine w_notBB ?_)
  | (with_reducible refine w_notN ?_)
  | (with_reducible refine w_isBB ?_)
  | (with_reducible refine w_isN ?_)
  | (with_reducible refine w_eqI ?_)
  | (with_reducible refine w_neI ?_)
  | (with_reducible refine w_eqB ?_)
  | (with_reducible refine w_neB ?_)
  | (with_reducible refine w_eqS ?_)
  | (with_reducible refine w_neS ?_)
  | (with_reducible refine w_test ?_)
  | (with_reducible refine w_B ?_)
  | (with_reducible refine w_exB ?_)
  | (with_reducible refine w_and ?_)
  | (with_reducible refine w_or ?_)
  | (with_reducible refine w_not ?_)
  | (with_reducible refine w_andV ?_)
  | (with_reducible refine w_orV ?_)
  | (with_reducible refine w_notV ?_)
  | (with_reducible refine w_bl ?_)
  | (with_reducible refine w_if ?_)
  | (with_reducible refine w_nil ?_)
  | (with_reducible refine w_cons ?_)
  | (with_reducible refine w_cb ?_)
  | (with_reducible refine w_call ?_)
  | (with_reducible refine w_tup ?_)
  | (with_reducible refine w_lst ?_)
  | ((with_reducible refine' w_fin ?hz ?_); (case hz => (simp only [List.length_cons, List.length_nil]; decide)))
  | ((with_reducible refine' w_len ?s ?_); (case s => walk_at "t_sq"))
  | ((with_reducible refine' w_lenT ?s ?_); (case s => walk_at "t_sqt"))
  | (with_reducible refine w_intI ?_)
  | (with_reducible refine w_intB ?_)
  | ((with_reducible refine' w_list ?s ?_); (case s => walk_at "t_sq"))
  | (with_reducible refine w_max ?_)
  | (with_reducible refine w_min ?_)
  | (with_reducible refine w_abs ?_)
  | (with_reducible refine w_sl ?_)
  | (with_reducible refine w_noPart ?_)
  | (with_reducible refine w_part ?_)
  | (with_reducible refine w_exI ?_)
  | ((with_reducible refine' w_slL ?s ?_); (case s => walk_at "t_sq"))
  | ((with_reducible refine' w_ixLI ?s ?b ?_); (case s => walk_at "t_sq"); (case b => walk_at "t_lt"))
  | ((with_reducible refine' w_ixL ?s ?e ?_); (case s => walk_at "t_sq"); (case e => walk_at "t_at"))
  | ((with_reducible refine' w_ixT ?s ?e ?_); (case s => walk_at "t_sqt"); (case e => walk_at "t_at"))
  | (with_reducible refine w_gSub ?_)
  | ((with_reducible refine' w_setLI ?e ?b ?_); (case e => walk_at "t_hp"); (case b => walk_at "t_lt"))
  | ((with_reducible refine' w_setL ?e ?b ?_); (case e => walk_at "t_hp"); (case b => walk_at "t_ixn"))
  | (with_reducible refine w_bm ?_)
  | (with_reducible refine w_bm0 ?_)
  | ((with_reducible refine' w_tyL ?e ?_); (case e => walk_at "t_sq"))
  | ((with_reducible refine' w_app ?e ?hz ?_); (case e => walk_at "t_hp"); (case hz => walk_at "t_z"))
  | (with_reducible refine w_iteT ?_)
  | (with_reducible refine w_iteF ?_)
  | (with_reducible refine w_iteNT ?_)
  | (with_reducible refine w_iteNF ?_)
  | (with_reducible refine w_for ?_)
  | (with_reducible refine w_iList ?_)
  | ((with_reducible refine' w_exL ?s ?_); (case s => walk_at "t_sq"))
  | (with_reducible refine w_iTup ?_)
  | ((with_reducible refine' w_exT ?s ?_); (case s => walk_at "t_sqt"))
  | (with_reducible refine w_iRng1 ?_)
  | ((with_reducible refine w_exR1 ?b ?_); (case b => walk_at "t_c"))
  | (with_reducible refine w_iRng2 ?_)
  | ((with_reducible refine w_exR2 ?b ?_); (case b => walk_at "t_c"))
  | (with_reducible refine w_yes ?_)
  | ((with_reducible refine w_pos ?p ?_); (case p => walk_at "t_p"))
  | ((with_reducible refine w_neg ?p ?_); (case p => walk_at "t_p"))
  | ((with_reducible refine w_posN ?p ?_); (case p => walk_at "t_p"))
  | ((with_reducible refine w_negN ?p ?_); (case p => walk_at "t_p"))
  | ((with_reducible refine' w_notInL ?s ?_); (case s => walk_at "t_sq"))
  | ((with_reducible refine' w_inL ?s ?_); (case s => walk_at "t_sq"))
  | ((with_reducible refine' w_sum ?s ?_); (case s => walk_at "t_sq"))
  | (with_reducible refine w_isiI ?_)
  | ((with_reducible refine' w_isiL ?e ?_); (case e => walk_at "t_ty"))
  | ((with_reducible refine' w_isiT ?e ?_); (case e => walk_at "t_ty"))
  | (with_reducible intro p hp_new))
local macro_rules | `(tactic| walk_at "t_ty") => `(tactic| first | assumption | (refine' tyx_l ?e; (case e => walk_at "t_hp")) | (refine' tyx_t ?e; (case e => walk_at "t_hp")))
local macro_rules | `(tactic| walk_at "t_z") => `(tactic| first | assumption | decide | omega | (simp only [List.length_cons, List.length_nil, List.length_map, List.length_append, List.length_replicate]; first | done | decide | omega))
local macro_rules | `(tactic| walk_at "t_at") => `(tactic| first | assumption | rfl)
local macro_rules | `(tactic| walk_at "t_ixn") => `(tactic| first | assumption | rfl)
local macro_rules | `(tactic| walk_at "t_ev") => `(tactic| (intro H1 e Q q; (repeat walk_at "t_w"); exact q _ (by walk_at "t_ex")))
local macro_rules | `(tactic| walk_at "t_p") => `(tactic| first | assumption | decide | decide +kernel)
local macro_rules | `(tactic| walk_at "t_lt") => `(tactic| first | assumption | omega | (simp only [List.length_set, List.length_map, List.length_append]; first | assumption | omega))
local macro_rules | `(tactic| walk_at "t_w") => `(tactic| first
  | ((with_reducible refine' w_at ?s ?hl ?h0 ?_); (case s => walk_at "t_sq"); (case hl => walk_at "t_z"); (case h0 => walk_at "t_z"))
  | (with_reducible refine w_isInt ?_)
  | (with_reducible refine w_I1 ?_)
  | (with_reducible refine w_Head ?_)
  | ((with_reducible refine' w_number ?hb ?_); (case hb => walk_at "t_bits")))
local macro_rules | `(tactic| walk_at "t_bits") => `(tactic| assumption)
local macro_rules | `(tactic| walk_at "t_w") => `(tactic| first
  | (with_reducible refine w_tru ?_)
  | ((with_reducible refine' w_truL ?s ?_); (case s => walk_at "t_sq"))
  | (with_reducible refine w_dnew ?_)
  | (with_reducible refine w_disp1 ?_)
  | ((with_reducible refine' w_aug ?e ?_); (case e => rfl))
  | (with_reducible refine w_ipI ?_)
  | ((with_reducible refine' w_inD ?e ?_); (case e => walk_at "t_hp"))
  | ((with_reducible refine' w_notInD ?e ?_); (case e => walk_at "t_hp"))
  | (with_reducible refine w_dget ?_)
  | ((with_reducible refine' w_dgetE ?e ?hv ?_); (case e => walk_at "t_hp"); (case hv => walk_at "t_dv"))
  | (with_reducible refine w_dput ?_)
  | ((with_reducible refine' w_dputE ?e ?hl ?_); (case e => walk_at "t_hp"); (case hl => walk_at "t_z"))
  | ((with_reducible refine' w_extend ?e1 ?e2 ?hz ?_); (case e1 => walk_at "t_hp"); (case e2 => walk_at "t_hp"); (case hz => walk_at "t_z")))
local macro_rules | `(tactic| walk_at "t_dv") => `(tactic| assumption)
local macro_rules | `(tactic| walk_at "t_hp") => `(tactic| first
  | (with_reducible refine hp_off0 ?_; walk_at "t_hp")
  | ((with_reducible refine' hp_off1 ?hne ?hrest); (case hne => walk_at "t_ne"); (case hrest => walk_at "t_hp")))
local macro_rules | `(tactic| walk_at "t_w") => `(tactic| first
  | (with_reducible refine w_fld ?_)
  | ((with_reducible refine' w_fldE ?e ?c ?n ?l ?_); (case e => walk_at "t_hp"); (case c => assumption); (case n => assumption); (case l => rfl))
  | (with_reducible refine w_sfld ?_)
  | ((with_reducible refine' w_sfldE ?e ?c ?n ?l ?_); (case e => walk_at "t_hp"); (case c => assumption); (case n => assumption); (case l => first | decide | (show 1 < 1000; decide) | (show 2 < 1000; decide)))
  | (with_reducible refine w_setSl ?_)
  | (with_reducible refine w_make ?_)
  | ((with_reducible refine' w_gfld0 ?hv ?e ?c ?n ?l ?_); (case hv => rfl); (case e => walk_at "t_hp"); (case c => assumption); (case n => assumption); (case l => first | decide | (show 1 < 1000; decide) | (show 2 < 1000; decide)))
  | (with_reducible refine w_meth ?_)
  | (with_reducible refine w_methX ?_)
  | ((with_reducible refine' w_methE ?e ?l ?_); (case e => walk_at "t_hp"); (case l => rfl))
  | (with_reducible refine w_chain ?_)
  | ((with_reducible refine' w_gTup ?s ?l ?_); (case s => walk_at "t_sqt"); (case l => rfl))
  | (with_reducible refine w_gCons ?_)
  | (with_reducible refine w_gNil ?_)
  | (with_reducible refine w_star ?_)
  | ((with_reducible refine' w_starL ?s ?_); (case s => walk_at "t_sq"))
  | (with_reducible refine w_isiIB ?_)
  | (with_reducible refine w_isiS ?_))
abbrev s_law : Stmt := topS 45
theorem sc_law : FnScope ["_law_script", "_law_room", "_law_call", "_law_pick", "_law_place", "_law_field", "_law_many", "_law_at_here", "_law_things_here", "_law_k", "_law_picks", "_law_due", "_law_handed", "_law_found", "_law_told"] ["_law_script"] (defScope s_law) := ⟨rfl, rfl, rfl, by decide +kernel, rfl, by decide +kernel, by decide +kernel⟩

local macro_rules | `(tactic| walk_at "t_kd") => `(tactic| with_reducible first | exact kd_non_int | exact kd_bl_int | exact kd_int_int | exact kd_str_int | exact kd_lst_int | exact kd_tup_int | exact kd_non_bool | exact kd_bl_bool | exact kd_int_bool | exact kd_str_bool | exact kd_lst_bool | exact kd_tup_bool | exact kd_non_str | exact kd_bl_str | exact kd_int_str | exact kd_str_str | exact kd_lst_str | exact kd_tup_str | exact kd_non_tuple | exact kd_bl_tuple | exact kd_int_tuple | exact kd_str_tuple | exact kd_lst_tuple | exact kd_tup_tuple)
local macro_rules | `(tactic| walk_at "t_dp") => `(tactic| first | assumption | exact Dp.int _ | exact Dp.bl _ | exact Dp.non | exact Dp.str _ | (refine' Dp.mono ?e ?h; (case h => assumption); (case e => walk_at "t_ex")))
local macro_rules | `(tactic| walk_at "t_w") => `(tactic| first
  | ((with_reducible refine' w_isiD ?h ?e ?_); (case h => walk_at "t_dp"); (case e => walk_at "t_kd"))
  | ((with_reducible refine' w_wholeD ?h ?_); (case h => walk_at "t_dp")))
local macro_rules | `(tactic| walk_at "t_w") => `(tactic| first
  | ((with_reducible refine' w_callP ?hd ?_); (case hd => rfl))
  | ((with_reducible refine' w_isE ?k ?_); (case k => assumption))
  | ((with_reducible refine' w_isET ?k ?_); (case k => assumption))
  | (with_reducible refine w_mulS ?_)
  | ((with_reducible refine' w_numberD ?h ?_); (case h => walk_at "t_dp")))
local macro_rules | `(tactic| walk_at "t_evd") => `(tactic| first
  | exact evd_i | exact evd_s | exact evd_b | exact evd_n | exact evd_neg
  | exact evd_pow ⟨by decide, by decide⟩ | exact evd_pow1 ⟨by decide, by decide⟩ | exact evd_1pow ⟨by decide, by decide⟩
  | (refine evd_tup ?_; walk_at "t_evds") | (refine evd_lst ?_; walk_at "t_evds"))
local macro_rules | `(tactic| walk_at "t_evds") => `(tactic| first
  | exact evds_nil
  | (refine evds_cons ?_ ?_; walk_at "t_evd"; walk_at "t_evds"))
local macro_rules | `(tactic| walk_at "t_q") => `(tactic| first
  | (with_reducible refine w_gName ?_) | (with_reducible refine w_nx ?_) | (with_reducible refine w_seq ?_) | (with_reducible refine w_asg ?_) | (with_reducible refine w_op ?_) | (with_reducible refine w_ret ?_) | (with_reducible refine w_rt ?_)
  | ((with_reducible refine' w_var ?h ?_); (case h => rfl)))
theorem w_sizesRight {K : PySem.W.Frag} {H : Hp} {Q : VK} {E : XK} {a : Addr} {ns : List Int} (s : SqL K H a (ns.map V.int)) (hl : ns.length ≤ 1000) (k : ∀ H2, Ex H H2 → Q (.bl true) H2) : spSizesRight K ([.ref a] ++ []) H Q E := ⟨a, ns, rfl, s, hl, k⟩
theorem w_drawn {K : PySem.W.Frag} {l : List PyData} {H : Hp} {Q : VK} {E : XK} {c : Int} (k : ∀ v d H2, Ex H H2 → l[(c % (l.length : Int)).toNat]? = some d → Dp K H2 v d → Q v H2) : spDrawn K l ([.int c] ++ []) H Q E := ⟨c, rfl, k⟩
theorem pick5 (e : Int) (h0 : 0 ≤ e) (h5 : e < 5) : ∃ c : Int, atI [V.int 0, V.int 0, V.int 1, V.int 1, V.int 2] e = some (V.int c) ∧ (c = 0 ∨ c = 1 ∨ c = 2) := by
  obtain rfl | rfl | rfl | rfl | rfl : e = 0 ∨ e = 1 ∨ e = 2 ∨ e = 3 ∨ e = 4 := by omega
  · exact ⟨0, rfl, .inl rfl⟩
  · exact ⟨0, rfl, .inl rfl⟩
  · exact ⟨1, rfl, .inr (.inl rfl)⟩
  · exact ⟨1, rfl, .inr (.inl rfl)⟩
  · exact ⟨2, rfl, .inr (.inr rfl)⟩
theorem ex_offT {H H' H2 : Hp} {S : List Addr} (x : Ex H H') (n : ∀ a ∈ S, H a = none) (y : Ex (off S H') H2) : Ex H H2 := fun a o e => y a o (by
  rw [off_out (fun z => by rw [n a z] at e; cases e)]
  exact x a o e)
theorem dpAll_of {K : PySem.W.Frag} {H : Hp} : ∀ {vs : List V} {ds : List PyData}, vs.length = ds.length → (∀ (i : Nat) (v : V) (d : PyData), vs[i]? = some v → ds[i]? = some d → Dp K H v d) → DpAll K H vs ds
  | [], [], _, _ => .nil
  | [], _ :: _, h, _ => by cases h
  | _ :: _, [], h, _ => by cases h
  | v :: vs, d :: ds, h, k => .cons (k 0 v d rfl rfl) (dpAll_of (Nat.succ.inj h) fun i v d h1 h2 => k (i + 1) v d (by rw [List.getElem?_cons_succ]; exact h1) (by rw [List.getElem?_cons_succ]; exact h2))
/-- between the law's steps: the things, what they are, the picks -/
def Mid (K : PySem.W.Frag) (B : Hp) (L : Addr) (pk : Addr) (ws : List V) (ds : List PyData) (js : List Int) (H2 : Hp) : Prop := Ex B H2 ∧ H2 L = some (.lst ws) ∧ DpAll K (del H2 L) ws ds ∧ SqL K H2 pk (js.map V.int) ∧ ds.all goodD = true ∧ js.length ≤ 2
theorem same_base {m : Nat} (h : m ≤ 10) : Same (baseL m) [] := fun z hz => ⟨fun q => absurd (base_word h q) hz, fun q => by simp at q⟩
theorem same_one {ds : List PyData} {t : Nat} {d : PyData} {pick : Int} (ht : t < ds.length) (hb : ∀ (i : Nat) (d : PyData), ds[i]? = some d → wordD d = "") (hd : wordD d = lawWord pick) : Same (ds.set t d) [pick] := fun z hz => by
  rw [mem_set wordD ht (by rw [hb t _ (List.getElem?_eq_getElem ht)]; exact hz), hd]
  constructor
  · rintro (q | q)
    · rw [q]; exact List.mem_singleton.mpr rfl
    · obtain ⟨y, hy, e⟩ := List.mem_map.mp q
      obtain ⟨j, hj⟩ := List.getElem?_of_mem hy
      exact absurd (e.symm.trans (hb j y hj)) hz
  · intro q
    exact .inl (List.mem_singleton.mp q)
theorem same_two {ds : List PyData} {t : Nat} {d : PyData} {p1 p2 : Int} (h : Same ds [p1]) (ht : t < ds.length) (hb : wordD ds[t] = "") (hd : wordD d = lawWord p2) : Same (ds.set t d) [p1, p2] := fun z hz => by
  rw [mem_set wordD ht (by rw [hb]; exact hz), hd, h z hz]
  show _ ↔ z ∈ [lawWord p1, lawWord p2]
  rw [List.mem_cons, List.mem_singleton]
  show (z = lawWord p2 ∨ z ∈ [lawWord p1]) ↔ _
  rw [List.mem_singleton]
  exact Or.comm
theorem due_word {call : Int} {ds : List PyData} {dp df : PyData} {pick : Int} (hc : call = 1 ∨ call = 2) (h : call = 1 → ∃ d, ds = [d] ∧ wordD d = lawWord pick) : duePut call dp df pick = calledDue call ds dp df := by
  rcases hc with rfl | rfl
  · obtain ⟨d, rfl, e⟩ := h rfl
    unfold calledDue duePut
    rw [if_neg (by decide)]
    show duePutW 1 dp df (lawWord pick) = duePutW 1 dp df (wordD d)
    rw [e]
  · unfold calledDue duePut duePutW
    rw [if_neg (show ¬ ((2 : Int) = 0) by decide), if_pos (show (2 : Int) = 2 from rfl), if_pos (show (2 : Int) = 2 from rfl)]
theorem base_words {m : Nat} (h : m ≤ 10) (i : Nat) (d : PyData) (e : (baseL m)[i]? = some d) : wordD d = "" := base_word h (List.mem_map.mpr ⟨d, List.mem_of_getElem? e, rfl⟩)
theorem places_shaped : placesL.all SeqAt.shaped = true := by decide +kernel
structure Ds (K : PySem.W.Frag) (mg : Str → Option Value) (C : Addr) : Prop where
  number_word : DefAt K mg "number_word" "number_word" s_number_word
  link_word : DefAt K mg "link_word" "link_word" s_link_word
  head_word : DefAt K mg "head_word" "head_word" s_head_word
  is_link : DefAt K mg "is_link" "is_link" s_is_link
  told_by : DefAt K mg "told_by" "told_by" s_told_by
  fields_of : DefAt K mg "fields_of" "fields_of" s_fields_of
  heads : DefAt K mg "heads" "heads" s_heads
  field_words : DefAt K mg "field_words" "field_words" s_field_words
  is_whole : DefAt K mg "is_whole" "is_whole" s_is_whole
  is_thing : DefAt K mg "is_thing" "is_thing" s_is_thing
  words_of : DefAt K mg "words_of" "words_of" s_words_of
  thing_of : DefAt K mg "thing_of" "thing_of" s_thing_of
  Room___init : DefK K C "Room.__init__" s_Room___init
  Room_made : DefM K C "made" "Room.made" s_Room_made
  Room_put : DefM K C "put" "Room.put" s_Room_put
  Room_told : DefM K C "told" "Room.told" s_Room_told
  Room_places : DefM K C "places" "Room.places" s_Room_places
  Room_used : DefM K C "used" "Room.used" s_Room_used
  Room_cells : DefM K C "cells" "Room.cells" s_Room_cells
  Room__require_box : DefM K C "_require_box" "Room._require_box" s_Room__require_box
  law_at : DefAt K mg "_law_at" "_law_at" s_law_at
  law_is_int : DefAt K mg "_law_is_int" "_law_is_int" s_law_is_int
  law_words_are : DefAt K mg "_law_words_are" "_law_words_are" s_law_words_are
  law_class : DefAt K mg "_law_class" "_law_class" s_law_class
  law_number : DefAt K mg "_law_number" "_law_number" s_law_number
  law_sized : DefAt K mg "_law_sized" "_law_sized" s_law_sized
  law_new : DefAt K mg "_law_new" "_law_new" s_law_new
  law_things : DefAt K mg "_law_things" "_law_things" s_law_things
  law_word : DefAt K mg "_law_word" "_law_word" s_law_word
  law_made_due : DefAt K mg "_law_made_due" "_law_made_due" s_law_made_due
  law_put_due : DefAt K mg "_law_put_due" "_law_put_due" s_law_put_due
  law_called : DefAt K mg "_law_called" "_law_called" s_law_called
  law_behind : DefAt K mg "_law_behind" "_law_behind" s_law_behind
  law_sizes_right : DefAt K mg "_law_sizes_right" "_law_sizes_right" s_law_sizes_right
  law_sound : DefAt K mg "_law_sound" "_law_sound" s_law_sound
  law_drawn_place : DefAt K mg "_law_drawn_place" "_law_drawn_place" s_law_drawn_place
  law_drawn_field : DefAt K mg "_law_drawn_field" "_law_drawn_field" s_law_drawn_field

section
variable {P : Program} {w : World} {K : PySem.W.Frag} {mg : Str → Option Value} {base : Heap} {C cB cR cT cS cF cE : Addr}
theorem ok_law {f : Addr} {fd : FuncData} (F : Fun K "law" "law" s_law f fd) (T : Txt K mg) (R : RmT6 K mg C cB cR cT cS cF cE) (X : Ds K mg C) {s : Shared} {H : Hp} {a : Addr} {ns : List Int} (e0 : Env0 P w K mg base callerA [] s H) (hS : SqL K H a (ns.map V.int)) (hlen : ns.length ≤ 63) :
    codeAny (model P w) callerA (.call (.ref f) ⟨[.ref a], []⟩) (CR CX0 [] P w H s (fun v _ => v = .bl true) E0) s := by
  have c_fields_of := c_fields_of (P := P) (w := w) (base := base) T X.fields_of
  have c_is_link := c_is_link (P := P) (w := w) (base := base) T X.is_link
  have c_told_by := c_told_by (P := P) (w := w) (base := base) T X.told_by
  have c_link_word := c_link_word (P := P) (w := w) (base := base) T X.link_word
  have c_number_word := c_number_word (P := P) (w := w) (base := base) T X.number_word
  have c_head_word := c_head_word (P := P) (w := w) (base := base) T X.head_word
  have c_heads := c_heads (P := P) (w := w) (base := base) T X.heads c_fields_of
  have c_field_words := c_field_words (P := P) (w := w) (base := base) T X.field_words c_fields_of
  have c_is_whole := c_is_whole (P := P) (w := w) (base := base) T X.is_whole
  have c_is_thing := c_is_thing (P := P) (w := w) (base := base) T X.is_thing c_is_whole
  have c_words_of := c_words_of (P := P) (w := w) (base := base) T R X.words_of c_is_thing c_link_word c_number_word
  have c_thing_of := c_thing_of (P := P) (w := w) (base := base) T X.thing_of c_is_link c_told_by
  have c_Room_places := c_Room_places (P := P) (w := w) (base := base) T R.toRmT X.Room_places c_heads
  have c_Room_used := c_Room_used (P := P) (w := w) (base := base) T R.toRmT X.Room_used
  have c_Room_cells := c_Room_cells (P := P) (w := w) (base := base) T R.toRmT X.Room_cells
  have c_Room___init := c_Room___init (P := P) (w := w) (base := base) T R X.Room___init c_is_whole c_head_word
  have c_Room__require_box := c_Room__require_box (P := P) (w := w) (base := base) T R X.Room__require_box c_is_whole c_Room_places
  have c_Room_told := c_Room_told (P := P) (w := w) (base := base) T R X.Room_told c_field_words c_thing_of c_Room__require_box
  have c_Room_made := c_Room_made (P := P) (w := w) (base := base) T R X.Room_made c_words_of c_head_word c_Room_places
  have c_Room_put := c_Room_put (P := P) (w := w) (base := base) T R X.Room_put c_fields_of c_is_whole c_words_of c_Room_places c_Room__require_box
  have c_law_at := c_law_at (P := P) (w := w) (base := base) T X.law_at
  have c_law_is_int := c_law_is_int (P := P) (w := w) (base := base) T X.law_is_int
  have c_law_words_are := c_law_words_are (P := P) (w := w) (base := base) T X.law_words_are c_law_is_int
  have c_law_class := c_law_class (P := P) (w := w) (base := base) T R X.law_class
  have c_law_number := c_law_number (P := P) (w := w) (base := base) T X.law_number
  have c_law_sized := c_law_sized (P := P) (w := w) (base := base) T X.law_sized c_law_number
  have c_law_new := c_law_new (P := P) (w := w) (base := base) T R X.law_new c_Room___init c_law_class c_law_words_are c_Room_cells c_Room_used
  have c_law_things := c_law_things (P := P) (w := w) (base := base) T X.law_things
  have c_law_word := c_law_word (P := P) (w := w) (base := base) T X.law_word
  have c_law_made_due := c_law_made_due (P := P) (w := w) (base := base) T X.law_made_due c_law_word
  have c_law_put_due := c_law_put_due (P := P) (w := w) (base := base) T X.law_put_due c_law_word c_law_number
  have c_law_called := c_law_called (P := P) (w := w) (base := base) T R X.law_called c_Room_made c_Room_put c_Room_told c_law_class
  have c_law_behind := c_law_behind (P := P) (w := w) (base := base) T X.law_behind
  have c_law_sound := c_law_sound (P := P) (w := w) (base := base) T R X.law_sound c_law_words_are c_Room_cells c_Room_used c_Room_places c_Room_made c_Room_told
  have c_law_sizes_right := c_law_sizes_right (P := P) (w := w) (base := base) T X.law_sizes_right c_law_at c_law_new c_law_sized
  have c_law_drawn_place := c_law_drawn_place (P := P) (w := w) (base := base) T X.law_drawn_place
  have c_law_drawn_field := c_law_drawn_field (P := P) (w := w) (base := base) T X.law_drawn_field
  have KX : K.In s.heap := e0.mod.kin.keeps fun b o e => (e0.bs b o e).1
  have room : Room 13 callerA := ⟨rfl, by decide +kernel, by decide +kernel⟩
  have hbd := (F.binds (ps := ["_law_script"]) (fun _ _ _ _ _ _ us hl => match us, hl with | [_], _ => rfl)) s [.ref a] KX rfl
  refine F.enter sc_law (us := [.ref a]) (vs := [.ref a]) (calm := true) (pn := []) (by decide +kernel) e0 hbd (fun cd s1 hx => inv_start sc_law rfl e0 rfl (.cons rfl .nil) hx) fun cd => ?_
  have hr := room.deeper (envOfC "law" (defScope s_law) s.heap.objs.size f cd)
  have hu : _ + 64 < cLine := hr.units
  have hgu : (callerA.deeper (envOfC "law" (defScope s_law) s.heap.objs.size f cd)).guards = some [] := rfl
  have hCl := R.cl
  have hNr := R.nr
  have hNu := R.nu
  refine ⟨_, (pss_cons (ps_if (pt_not (pt_val (pe_callC c_law_sizes_right (hr.mono (by decide)) rfl (pa_cons (pv 0) pa_nil)))) (pss_one (ps_ret pe_bl)) pss_nil)
      (pss_cons (ps_set (i := 1) sc_law.nd rfl (Or.inl rfl) (pe_makeC c_Room___init (hr.mono (by decide)) rfl R.gR passL (pa_cons pe_int (pa_cons pe_int pa_nil))))
      (pss_cons (ps_expr (pe_methC R.cl c_Room_made (hr.mono (by decide)) passL (pv 1) (pa_cons (pe_lst (pa_cons (pe_tup (pa_cons pe_str (pa_cons pe_int pa_nil))) (pa_cons (pe_tup (pa_cons pe_str (pa_cons pe_int pa_nil))) pa_nil))) pa_nil)))
      (pss_cons (ps_set (i := 2) sc_law.nd rfl (Or.inl rfl) (pe_ix (ix_seqK (K := K) rfl) (pe_lst (pa_cons pe_int (pa_cons pe_int (pa_cons pe_int (pa_cons pe_int (pa_cons pe_int pa_nil)))))) (pe_op op_mod (pe_callC c_law_at (hr.mono (by decide)) rfl (pa_cons (pv 0) (pa_cons pe_int pa_nil))) pe_int) (fun _ _ => rfl)))
      (pss_cons (ps_set (i := 3) sc_law.nd rfl (Or.inl rfl) (pe_op op_mod (pe_callC c_law_at (hr.mono (by decide)) rfl (pa_cons (pv 0) (pa_cons pe_int pa_nil))) pe_int))
      (pss_cons (ps_set (i := 4) sc_law.nd rfl (Or.inl rfl) (pe_callC c_law_drawn_place (hr.mono (by decide)) rfl (pa_cons (pe_callC c_law_at (hr.mono (by decide)) rfl (pa_cons (pv 0) (pa_cons pe_int pa_nil))) pa_nil)))
      (pss_cons (ps_set (i := 5) sc_law.nd rfl (Or.inl rfl) (pe_callC c_law_drawn_field (hr.mono (by decide)) rfl (pa_cons (pe_callC c_law_at (hr.mono (by decide)) rfl (pa_cons (pv 0) (pa_cons pe_int pa_nil))) pa_nil)))
      (pss_cons (ps_set (i := 6) sc_law.nd rfl (Or.inl rfl) (pe_op op_mod (pe_callC c_law_at (hr.mono (by decide)) rfl (pa_cons (pv 0) (pa_cons pe_int pa_nil))) pe_int))
      (pss_cons (ps_set (i := 7) sc_law.nd rfl (Or.inl rfl) (pe_op op_mod (pe_callC c_law_at (hr.mono (by decide)) rfl (pa_cons (pv 0) (pa_cons pe_int pa_nil))) (pe_callB (call_maxA rfl) (by rfl) T.b_max (by decide +kernel) (pa_cons pe_int (pa_cons (pv 6) pa_nil)))))
      (pss_cons (ps_setLc (i := 8) (own := [("_law_k", 9)]) (g := (gName 9)) rfl sc_law.nd rfl rfl (sw_true rfl rfl rfl (by decide +kernel)) (pi_range1 rfl T.b_range (pa_cons (pv 6) pa_nil)) (blkOk_by (own := [("_law_k", 9)]) (N := ["_law_script", "_law_room", "_law_call", "_law_pick", "_law_place", "_law_field", "_law_many", "_law_at_here", "_law_things_here", "_law_k", "_law_picks", "_law_due", "_law_handed", "_law_found", "_law_told"]) (sc := defScope s_law) (by decide +kernel)) (fun _ _ _ _ _ => (pg_name (i := 9) sc_law.nd rfl (Or.inl rfl))) (fun _ _ _ _ _ => pts_nil) (fun _ _ _ _ _ => (pe_tup (pa_cons pe_str (pa_cons (pv 9) pa_nil)))))
      (pss_cons (ps_set (i := 10) sc_law.nd rfl (Or.inl rfl) (pe_lst pa_nil))
      (Evl.pss_cut (ps_if (PW.pt (pw_and (pt_cmpR (op_eqK (K := K) rfl hu) (pv 2) pe_int (nomark _)) (pw_and1 (pt_cmpR op_gt (pv 6) pe_int (nomark _))))) (pss_cons (ps_asg (pe_ix (ix_seqK (K := K) rfl) (pe_callC0 c_law_things (hr.mono (by decide)) rfl) (pv 3) (fun _ _ => rfl)) (pg_sub (pv 8) (pv 7) set_list))
      (pss_one (ps_set (i := 10) sc_law.nd rfl (Or.inl rfl) (pe_lst (pa_cons (pv 3) pa_nil))))) pss_nil)
      (Evl.pss_cut (ps_if (PW.pt (pw_and (pt_cmpR (op_eqK (K := K) rfl hu) (pv 2) pe_int (nomark _)) (pw_and (pt_cmpR op_gt (pv 6) pe_int (nomark _)) (pw_and1 (pt_cmpR (op_eqK (K := K) rfl hu) (pe_op op_mod (pe_callC c_law_at (hr.mono (by decide)) rfl (pa_cons (pv 0) (pa_cons pe_int pa_nil))) pe_int) pe_int (nomark _)))))) (pss_cons (ps_set (i := 10) sc_law.nd rfl (Or.inl rfl) (pe_lst (pa_cons (pv 3) (pa_cons (pe_op op_mod (pe_op op_fdiv (pe_callC c_law_at (hr.mono (by decide)) rfl (pa_cons (pv 0) (pa_cons pe_int pa_nil))) pe_int) pe_int) pa_nil))))
      (pss_one (ps_asg (pe_ix (ix_seqK (K := K) rfl) (pe_callC0 c_law_things (hr.mono (by decide)) rfl) (pe_ix (ix_seqK (K := K) rfl) (pv 10) pe_int (fun _ _ => rfl)) (fun _ _ => rfl)) (pg_sub (pv 8) (pe_op op_mod (pe_op op_addA (pv 7) pe_int) (pv 6)) set_list)))) pss_nil)
      (Evl.pss_cut (ps_if (pt_cmpR (op_eqK (K := K) rfl hu) (pv 2) pe_int (nomark _)) (pss_one (ps_set (i := 8) sc_law.nd rfl (Or.inl rfl) (pe_lst (pa_cons (pe_ix (ix_seqK (K := K) rfl) (pe_callC0 c_law_things (hr.mono (by decide)) rfl) (pv 3) (fun _ _ => rfl)) pa_nil)))) pss_nil)
      (pss_cons (ps_set (i := 11) sc_law.nd rfl (Or.inl rfl) (pe_callC c_law_put_due (hr.mono (by decide)) rfl (pa_cons (pv 2) (pa_cons (pv 4) (pa_cons (pv 5) (pa_cons (pv 3) pa_nil))))))
      (Evl.pss_cut (ps_if (pt_cmpR (op_eqK (K := K) rfl hu) (pv 2) pe_int (nomark _)) (pss_one (ps_set (i := 11) sc_law.nd rfl (Or.inl rfl) (pe_callC c_law_made_due (hr.mono (by decide)) rfl (pa_cons (pv 6) (pa_cons (pv 10) pa_nil))))) pss_nil)
      (pss_cons (ps_set (i := 12) sc_law.nd rfl (Or.inl rfl) (pe_callTy (call_listK (K := K) rfl) (by rfl) T.b_list (by decide +kernel) (pa_cons (pv 8) pa_nil)))
      (pss_cons (ps_set (i := 13) sc_law.nd rfl (Or.inl rfl) (pe_callC c_law_called (hr.mono (by decide)) rfl (pa_cons (pv 1) (pa_cons (pv 2) (pa_cons (pv 12) (pa_cons (pv 4) (pa_cons (pv 5) pa_nil)))))))
      (pss_cons (ps_if (PW.pt (pw_or (pt_cmpR (op_neK (K := K) rfl hu) (pe_ix (ix_seqK (K := K) rfl) (pv 13) pe_int (fun _ _ => rfl)) (pv 11) (nomark _)) (pw_or1 (pt_cmpR (op_neK (K := K) rfl hu) (pe_callB (call_reprD (K := K) rfl hgu hu) (by rfl) T.b_repr (by decide +kernel) (pa_cons (pv 12) pa_nil)) (pe_callB (call_reprD (K := K) rfl hgu hu) (by rfl) T.b_repr (by decide +kernel) (pa_cons (pv 8) pa_nil)) (nomark _))))) (pss_one (ps_ret pe_bl)) pss_nil)
      (pss_cons (ps_if (PW.pt (pw_or (pt_cmpR (op_neK (K := K) rfl hu) (pv 11) pe_str (nomark _)) (pw_or1 (pt_cmpR (op_eqK (K := K) rfl hu) (pv 2) pe_int (nomark _))))) (pss_cons (ps_set (i := 14) sc_law.nd rfl (Or.inl rfl) (pe_lst (pa_cons (pe_tup (pa_cons pe_str (pa_cons pe_int pa_nil))) (pa_cons (pe_tup (pa_cons pe_str (pa_cons pe_int pa_nil))) pa_nil))))
      (pss_cons (ps_if (pt_cmpR (op_eqK (K := K) rfl hu) (pv 4) pe_int (nomark _)) (pss_one (ps_set (i := 14) sc_law.nd rfl (Or.inl rfl) (pe_lst (pa_cons (pe_tup (pa_cons pe_str (pa_cons pe_int pa_nil))) (pa_cons (pe_tup (pa_cons pe_str (pa_cons pe_int pa_nil))) pa_nil))))) pss_nil)
      (pss_cons (ps_if (PW.pt (pw_and (pt_cmpR (op_eqK (K := K) rfl hu) (pv 11) pe_str (nomark _)) (pw_and1 (pt_cmpR (op_neK (K := K) rfl hu) (pe_ix (ix_seqK (K := K) rfl) (pv 13) pe_int (fun _ _ => rfl)) (pv 14) (nomark _))))) (pss_one (ps_ret pe_bl)) pss_nil)
      (pss_one (ps_ret (pe_callC c_law_sound (hr.mono (by decide)) rfl (pa_cons (pv 1) (pa_cons (pe_lst (pa_cons pe_int (pa_cons pe_int (pa_cons pe_int (pa_cons pe_int (pa_cons pe_int (pa_cons pe_int (pa_cons pe_int (pa_cons pe_int (pa_cons pe_int (pa_cons pe_int (pa_cons pe_int (pa_cons pe_int pa_nil))))))))))))) (pa_cons pe_int pa_nil))))))))) pss_nil)
      (pss_cons (ps_if (PW.pt (pw_or (PW.pt (pw_and (pt_cmpR (op_eqK (K := K) rfl hu) (pv 2) pe_int (nomark _)) (pw_and1 (PW.pt (pw_or (pt_not (pt_val (pe_callC c_law_is_int (hr.mono (by decide)) rfl (pa_cons (pe_ix (ix_seqK (K := K) rfl) (pv 13) pe_int (fun _ _ => rfl)) pa_nil)))) (pw_or1 (pt_cmpR (op_neK (K := K) rfl hu) (pe_ix (ix_seqK (K := K) rfl) (pv 13) pe_int (fun _ _ => rfl)) pe_int (nomark _)))))))) (pw_or1 (PW.pt (pw_and (pt_cmpR (op_eqK (K := K) rfl hu) (pv 2) pe_int (nomark _)) (pw_and1 (pt_cmpR op_notA (pe_ix (ix_seqK (K := K) rfl) (pv 13) pe_int (fun _ _ => rfl)) pe_non (nomark _)))))))) (pss_one (ps_ret pe_bl)) pss_nil)
      (pss_one (ps_ret (pe_callC c_law_sound (hr.mono (by decide)) rfl (pa_cons (pv 1) (pa_cons (pe_callC c_law_behind (hr.mono (by decide)) rfl (pa_cons (pv 2) (pa_cons (pv 8) (pa_cons (pv 4) (pa_cons (pv 5) pa_nil))))) (pa_cons (pe_op op_addA pe_int (pe_op op_mulA (pe_callTy call_intA (by rfl) T.b_int (by decide +kernel) (pa_cons (pe_cmpR (op_eqK (K := K) rfl hu) (pv 2) pe_int (nomark _)) pa_nil)) (pe_op op_addA pe_int (pv 6)))) pa_nil))))))))))))))))))))))))))), ?_⟩
  clear hbd room hgu hr hu KX e0 X T F c_fields_of c_is_link c_told_by c_link_word c_number_word c_head_word c_heads c_field_words c_is_whole c_is_thing c_words_of c_thing_of c_Room__require_box c_Room_told c_Room_made c_Room_put c_law_at c_law_is_int c_law_words_are c_law_number c_law_sized c_law_new c_law_things c_law_word c_law_made_due c_law_put_due c_law_called c_law_behind c_law_sound c_law_sizes_right c_law_drawn_place c_law_drawn_field c_Room_places c_Room_used c_Room_cells c_Room___init c_law_class
  repeat walk_at "t_w"
  refine w_sizesRight hS (by omega) fun H2 e2 => ?_
  repeat walk_at "t_w"
  rename_i x dx hx hdx
  intro hne
  have hE : Ex H2 (upd (upd H2 dx (.own x)) x (.ins C dx [])) := Evl.Ex.mut (Evl.Ex.new hdx) hx
  refine ⟨x, dx, .int 12, .int 2, .int 12, .int 2, rfl, upd_same, .int _, .int _, fun hs => absurd hs (by decide), fun z d ez ed h1 h4 h20 hdz r H3 hr0 e' Rm => ?_⟩
  obtain rfl : z = 12 := by have := PyData.int.inj ez; omega
  obtain rfl : d = 2 := by have := PyData.int.inj ed; omega
  refine ⟨rfl, ?_⟩
  have hE3 : Ex H2 H3 := fun a' o e => e' a' o (by
    rw [off_upd (by simp), off_out (by simpa using ne_of_none e hx), upd_ne (ne_of_none e hdx)]
    exact e)
  have hx0 : H x = none := fresh_back e2 hx
  have hr00 : H r = none := fresh_back (e2.trans hE) hr0
  obtain ⟨⟨dx3, hX3⟩, hR3, hro3⟩ := id Rm
  clear ez ed h1 h4 h20 hdz hne e' hdx
  repeat walk_at "t_w"
  rename_i p1 hp1 p2 hp2 p3 hp3
  have e34 := ((Ex.new hp1 (o := HO.tup [.str "number", .int 5])).trans (Ex.new hp2 (o := HO.tup [.str "box", .int 0]))).trans (Ex.new hp3 (o := HO.lst [.ref p1, .ref p2]))
  have d1 := ((Ex.new hp2 (o := HO.tup [.str "box", .int 0])).trans (Ex.new hp3 (o := HO.lst [.ref p1, .ref p2]))) p1 _ upd_same
  have d2 := (Ex.new hp3 (o := HO.lst [.ref p1, .ref p2])) p2 _ upd_same
  refine w_madeGood [.num 5, .box 0] (Rm.ex e34) (SqL.of upd_same) (.cons (.tup (SqT.of d1) (.cons (.str _) (.cons (.int _) .nil))) (.cons (.tup (SqT.of d2) (.cons (.str _) (.cons (.int _) .nil))) .nil)) (fun t ht => ?_) (by decide) fun H5 e5 Rm5' => ?_
  · rcases List.mem_cons.mp ht with rfl | ht
    · show -(10 ^ 60) < (5 : Int) ∧ (5 : Int) < 10 ^ 60
      rw [p60']; omega
    · rw [List.mem_singleton.mp ht]
      show 0 < 1
      decide
  have Rm5 : RoomAt C H5 x r bs0 6 := Rm5'
  have eH5 : Ex H H5 := ex_offT ((e2.trans hE3).trans e34) (fun b hb => by
    rcases List.mem_cons.mp hb with rfl | hb
    · exact hx0
    · rw [List.mem_singleton.mp hb]; exact hr00) e5
  have hS5 := ex_l eH5 hS
  clear e34 d1 d2 hp1 hp2 hp3 hX3 hR3 hro3 Rm e2 hE hE3 hx hr0 e5 hS Rm5'
  have hmx : (0 : Int) < (if ns.getD (Int.toNat 6) 0 % 10 > 1 then ns.getD (Int.toNat 6) 0 % 10 else 1) := by split <;> omega
  repeat walk_at "t_w"
  rename_i p4 hp4 H6 e6
  obtain ⟨call, hc1, hcall⟩ := pick5 (ns.getD (Int.toNat 2) 0 % 5) (by omega) (by omega)
  refine w_ixL (SqL.of (e6 _ _ upd_same)) hc1 ?_
  have e56 : Ex H5 H6 := (Ex.new hp4).trans e6
  have Rm6 := Rm5.ex e56
  have hS6 := ex_l e56 hS5
  have eH6 := eH5.trans e56
  clear e6 hp4 e56 Rm5 hS5 eH5
  repeat walk_at "t_w"
  refine w_drawn fun vp dp H9 e9 hp9 hP9 => ?_
  repeat walk_at "t_w"
  refine w_drawn fun vf df H11 e11 hf11 hF11 => ?_
  have e911 : Ex H9 H11 := by walk_at "t_ex"
  have e611 : Ex H6 H11 := by walk_at "t_ex"
  have hP11 := Dp.mono e911 hP9
  have hsh : SeqAt.shaped dp = true := List.all_eq_true.mp places_shaped _ (List.mem_of_getElem? hp9)
  have Rm11 := Rm6.ex e611
  have hS11 := ex_l e611 hS6
  have eH11 := eH6.trans e611
  clear hP9 hp9 hf11 Rm6 hS6 eH6
  repeat walk_at "t_w"
  rename_i H12 e12 H13 e13
  have e1113 := e12.trans e13
  have Rm := Rm11.ex e1113
  have hSB := ex_l e1113 hS11
  have hPB := Dp.mono e1113 hP11
  have hFB := Dp.mono e1113 hF11
  have eB := eH11.trans e1113
  clear e12 e13 e1113 Rm11 hS11 hP11 hF11 eH11 e911 e611 e9 e11
  obtain ⟨m, hm, hm10⟩ : ∃ m : Nat, ns.getD (Int.toNat 6) 0 % 10 = (m : Int) ∧ m < 10 := ⟨(ns.getD (Int.toNat 6) 0 % 10).toNat, by omega, by omega⟩
  rw [hm] at hmx ⊢
  obtain ⟨t, ht, htm⟩ : ∃ t : Nat, ns.getD (Int.toNat 7) 0 % (if (m : Int) > 1 then (m : Int) else 1) = (t : Int) ∧ (0 < m → t < m) := by
    have h1 := Int.emod_nonneg (ns.getD (Int.toNat 7) 0) (show (if (m : Int) > 1 then (m : Int) else 1) ≠ 0 by omega)
    have h2 := Int.emod_lt_of_pos (ns.getD (Int.toNat 7) 0) hmx
    refine ⟨_, (Int.toNat_of_nonneg h1).symm, fun h0 => ?_⟩
    have h3 : (if (m : Int) > 1 then (m : Int) else 1) ≤ (m : Int) := by split <;> omega
    omega
  rw [ht]
  obtain ⟨pick, hpk⟩ : ∃ pick : Int, ns.getD (Int.toNat 3) 0 % 25 = pick := ⟨_, rfl⟩
  have hp0 : 0 ≤ pick := by omega
  have hp25 : pick < 25 := by omega
  rw [hpk]
  refine w_lc ?_
  repeat walk_at "t_w"
  refine lcjRM (fun i v G => Dp K G v (numD (.int (i : Int)))) (fun i v G G' e h => Dp.mono e h) ?_ (fun x => rfl) (by omega) ?_
  · intro D i G acc hD hG eG hi Q' k'
    repeat walk_at "t_w"
    rename_i p hp
    have npD : p ≠ D := fun q => by rw [q, hG] at hp; cases hp
    refine k' _ _ (Ex.new hp) ?_
    rw [Int.zero_add]
    exact .tup (SqT.of (by rw [del_ne npD]; exact upd_same)) (.cons (.str _) (.cons (.int _) .nil))
  · intro L G ys hL eG hG hyl hys
    have hA : DpAll K (del G L) ys (baseL m) := dpAll_of (by rw [hyl, base_len]; omega) fun i v d hv hd => by
      unfold baseL at hd
      rw [List.getElem?_map] at hd
      cases e : (List.range m)[i]? with
      | none => rw [e] at hd; cases hd
      | some k =>
        rw [e] at hd
        cases hd
        have := (List.getElem?_eq_some_iff.mp e).2
        rw [List.getElem_range] at this
        subst this
        exact hys i v hv
    repeat walk_at "t_w"
    rename_i pk0 hpk0
    have mgd : (baseL m).all goodD = true := base_good (by omega)
    have ml : ys.length = m := by rw [hyl]; omega
    have b0 : Mid K H13 L pk0 ys (baseL m) [] (upd G pk0 (HO.lst [])) :=
      ⟨eG.trans (Ex.new hpk0), Ex.new hpk0 _ _ hG, DpAll.mono (del_mono (Ex.new hpk0)) hA, SqL.of upd_same, mgd, by simp⟩
    generalize upd G pk0 (HO.lst []) = G1 at b0 ⊢
    clear hpk0 hA hys eG hG
    refine Evl.q_cut (M := fun σ2 H2 => ∃ (pk : Addr) (ws : List V) (ds : List PyData) (js : List Int), σ2 = [some (.ref a), some (.ref x), some (.int call), some (.int pick), some vp, some vf, some (.int (m : Int)), some (.int (t : Int)), some (.ref L), none, some (.ref pk), none, none, none, none] ∧
      Mid K H13 L pk ws ds js H2 ∧ ws.length = m ∧ ds.length = m ∧ Same ds js ∧ (call = 0 → 0 < m → js = [pick]) ∧ (∀ (i : Nat) (d : PyData), i ≠ t → ds[i]? = some d → wordD d = "")) ?_ ?_
--@A    
    · have skip : (call = 0 → 0 < m → False) → ∃ (pk : Addr) (ws : List V) (ds : List PyData) (js : List Int), ([some (.ref a), some (.ref x), some (.int call), some (.int pick), some vp, some vf, some (.int (m : Int)), some (.int (t : Int)), some (.ref L), none, some (.ref pk0), none, none, none, none] : L2.St) = [some (.ref a), some (.ref x), some (.int call), some (.int pick), some vp, some vf, some (.int (m : Int)), some (.int (t : Int)), some (.ref L), none, some (.ref pk), none, none, none, none] ∧
          Mid K H13 L pk ws ds js G1 ∧ ws.length = m ∧ ds.length = m ∧ Same ds js ∧ (call = 0 → 0 < m → js = [pick]) ∧ (∀ (i : Nat) (d : PyData), i ≠ t → ds[i]? = some d → wordD d = "") := fun no =>
        ⟨pk0, ys, baseL m, [], rfl, b0, ml, base_len m, same_base (by omega), fun h1 h2 => (no h1 h2).elim, fun i d _ => base_words (by omega) i d⟩
      repeat walk_at "t_w"
      by_cases hc0 : call = 0
      case neg =>
        repeat walk_at "t_w"
        exact skip fun h _ => hc0 h
      repeat walk_at "t_w"
      by_cases hm0 : (m : Int) > 0
      case neg =>
        repeat walk_at "t_w"
        exact skip fun _ h => hm0 (by omega)
      repeat walk_at "t_w"
      refine w_thingsC fun pt wt G2 hpt e12 ht2 nt => ?_
      obtain ⟨v, d, hv, nd', gd, wd⟩ := thing_at nt hp0 hp25
      have tm : t < m := htm (by omega)
      obtain ⟨b1, b2, b3, b4, b5, b6⟩ := b0
      have hL2 := e12 _ _ b2
      have hix : ixN ys.length (t : Int) = some t := Evl.ixN_nat (by omega)
      clear skip
      repeat walk_at "t_w"
      rename_i q hq
      refine ⟨q, ys.set t v, (baseL m).set t d, [pick], rfl, ⟨(Evl.Ex.mut (b1.trans e12) hL).trans (Ex.new hq), Ex.new hq _ _ upd_same, ?_, SqL.of upd_same, good_set b5 gd, by simp⟩, by rw [List.length_set]; exact ml, by rw [List.length_set]; exact base_len m,
        same_one (by rw [base_len]; exact tm) (base_words (by omega)) wd, fun _ _ => rfl, fun i d' hi he => ?_⟩
      · refine DpAll.mono (del_mono (Ex.new hq)) ?_
        rw [del_upd]
        exact dpAll_set (DpAll.mono (del_mono e12) b3) (nd' _ (.inr ⟨L, by rw [b2]; simp, rfl⟩))
      · rw [List.getElem?_set_ne (Ne.symm hi)] at he
        exact base_words (by omega) i d' he
--@Z
    · rintro σ' G3 ⟨pk, ws, ds, js, rfl, md, wl, dl, sm, hjs, hwd⟩
      clear b0
      have hS3 := ex_l md.1 hSB
      refine Evl.q_cut (M := fun σ2 H2 => ∃ (pk : Addr) (ws : List V) (ds : List PyData) (js : List Int), σ2 = [some (.ref a), some (.ref x), some (.int call), some (.int pick), some vp, some vf, some (.int (m : Int)), some (.int (t : Int)), some (.ref L), none, some (.ref pk), none, none, none, none] ∧
        Mid K H13 L pk ws ds js H2 ∧ ds.length = m ∧ Same ds js) ?_ ?_
--@A      
      · have skip : ∀ G4, Ex G3 G4 → ∃ (pk' : Addr) (ws : List V) (ds : List PyData) (js : List Int), ([some (.ref a), some (.ref x), some (.int call), some (.int pick), some vp, some vf, some (.int (m : Int)), some (.int (t : Int)), some (.ref L), none, some (.ref pk), none, none, none, none] : L2.St) = [some (.ref a), some (.ref x), some (.int call), some (.int pick), some vp, some vf, some (.int (m : Int)), some (.int (t : Int)), some (.ref L), none, some (.ref pk'), none, none, none, none] ∧
            Mid K H13 L pk' ws ds js G4 ∧ ds.length = m ∧ Same ds js := fun G4 e => by
          obtain ⟨b1, b2, b3, b4, b5, b6⟩ := md
          exact ⟨pk, ws, ds, js, rfl, ⟨b1.trans e, e _ _ b2, DpAll.mono (del_mono e) b3, ex_l e b4, b5, b6⟩, dl, sm⟩
        repeat walk_at "t_w"
        by_cases hc0 : call = 0
        case neg =>
          repeat walk_at "t_w"
          exact skip _ (Ex.refl _)
        repeat walk_at "t_w"
        by_cases hm1 : (m : Int) > 1
        case neg =>
          repeat walk_at "t_w"
          exact skip _ (Ex.refl _)
        repeat walk_at "t_w"
        by_cases h82 : ns.getD (Int.toNat 8) 0 % 2 = 0
        case neg =>
          repeat walk_at "t_w"
          exact skip _ (by walk_at "t_ex")
        clear skip
        repeat walk_at "t_w"
        rename_i G4 e4 G5 e5 q hq
        have e36 := (e4.trans e5).trans (Ex.new hq (o := HO.lst [.int pick, .int (ns.getD (Int.toNat 8) 0 / 2 % 25)]))
        have hq6 := upd_same (H := G5) (a := q) (o := HO.lst [.int pick, .int (ns.getD (Int.toNat 8) 0 / 2 % 25)])
        generalize upd G5 q (HO.lst [.int pick, .int (ns.getD (Int.toNat 8) 0 / 2 % 25)]) = G6 at e36 hq6 ⊢
        obtain ⟨p2, hp2⟩ : ∃ p2 : Int, ns.getD (Int.toNat 8) 0 / 2 % 25 = p2 := ⟨_, rfl⟩
        have h20 : 0 ≤ p2 := by omega
        have h225 : p2 < 25 := by omega
        rw [hp2] at hq6
        have nqL : q ≠ L := fun z => by rw [z, (e4.trans e5) _ _ md.2.1] at hq; cases hq
        clear hq e4 e5 hp2
        refine w_thingsC fun pt wt G7 hpt e67 ht7 nt => ?_
        obtain ⟨v, d, hv, nd', gd, wd⟩ := thing_at nt h20 h225
        obtain ⟨b1, b2, b3, b4, b5, b6⟩ := md
        obtain ⟨t2, ht2, ht2m, ht2t⟩ : ∃ t2 : Nat, ((t : Int) + 1) % (m : Int) = (t2 : Int) ∧ t2 < m ∧ t2 ≠ t := by
          have tm : t < m := htm (by omega)
          by_cases he : t + 1 = m
          · refine ⟨0, ?_, by omega, by omega⟩
            rw [show (t : Int) + 1 = (m : Int) by omega, Int.emod_self]; rfl
          · refine ⟨t + 1, ?_, by omega, by omega⟩
            rw [Int.emod_eq_of_lt (by omega) (by omega)]; rfl
        have hL7 := e67 _ _ (e36 _ _ b2)
        have hq7 := e67 _ _ hq6
        have hix : ixN ws.length (((t : Int) + 1) % (m : Int)) = some t2 := by rw [ht2]; exact Evl.ixN_nat (by omega)
        have hmp : (0 : Int) < (m : Int) := by omega
        have hat : atI [V.int pick, V.int p2] 1 = some (.int p2) := rfl
        repeat walk_at "t_w"
        have t2d : t2 < ds.length := by omega
        refine ⟨q, ws.set t2 v, ds.set t2 d, [pick, p2], rfl, ⟨Evl.Ex.mut ((b1.trans e36).trans e67) hL, upd_same, ?_, SqL.of (hp_ne nqL hq7), good_set b5 gd, by simp⟩, by rw [List.length_set]; exact dl, ?_⟩
        · rw [del_upd]
          exact dpAll_set (DpAll.mono (del_mono (e36.trans e67)) b3) (nd' _ (.inr ⟨L, by rw [e36 _ _ b2]; simp, rfl⟩))
        · rw [hjs hc0 (by omega)] at sm
          exact same_two sm t2d (hwd t2 _ ht2t (List.getElem?_eq_getElem t2d)) wd
--@Z
      · rintro σ' G8 ⟨pk8, ws8, ds8, js8, rfl, md8, dl8, sm8⟩
        clear md wl dl sm hjs hwd hS3
        refine Evl.q_cut (M := fun σ2 H2 => ∃ (l pk : Addr) (ws : List V) (ds : List PyData) (js : List Int), σ2 = [some (.ref a), some (.ref x), some (.int call), some (.int pick), some vp, some vf, some (.int (m : Int)), some (.int (t : Int)), some (.ref l), none, some (.ref pk), none, none, none, none] ∧
          Ex H13 H2 ∧ H13 l = none ∧ H2 l = some (.lst ws) ∧ DpAll K H2 ws ds ∧ SqL K H2 pk (js.map V.int) ∧ ds.all goodD = true ∧ js.length ≤ 2 ∧ ds.length ≤ 10 ∧ (call = 0 → ds.length = m ∧ Same ds js) ∧ (call = 1 → ∃ d, ds = [d] ∧ wordD d = lawWord pick)) ?_ ?_
--@A        
        · obtain ⟨b1, b2, b3, b4, b5, b6⟩ := md8
          repeat walk_at "t_w"
          by_cases hc1 : call = 1
          case neg =>
            repeat walk_at "t_w"
            exact ⟨L, pk8, ws8, ds8, js8, rfl, b1, hL, b2, DpAll.mono del_ex b3, b4, b5, b6, by omega, fun _ => ⟨dl8, sm8⟩, fun h => absurd h hc1⟩
          repeat walk_at "t_w"
          refine w_thingsC fun pt wt G9 hpt e9 ht9 nt => ?_
          obtain ⟨v, d, hv, nd', gd, wd⟩ := thing_at nt hp0 hp25
          repeat walk_at "t_w"
          rename_i q hq
          have eq := Ex.new hq (o := HO.lst [v])
          refine ⟨q, pk8, [v], [d], js8, rfl, (b1.trans e9).trans eq, fresh_back (b1.trans e9) hq, upd_same, .cons (Dp.mono eq (nd' _ .all)) .nil, ex_l (e9.trans eq) b4, by rw [List.all_cons, gd]; rfl, b6, by simp, fun h => absurd (hc1.symm.trans h) (by decide), fun _ => ⟨d, rfl, wd⟩⟩
--@Z
        · rintro σ' G10 ⟨l, pk, ws, ds, js, rfl, b1, hlB, hl, hA, hP, gds, hj2, hd10, h0, h1⟩
          clear md8 dl8 sm8
          repeat walk_at "t_w"
          refine ⟨call, pick, vp, vf, dp, df, rfl, Dp.mono b1 hPB, Dp.mono b1 hFB, hsh, fun G11 e11 => ?_⟩
          repeat walk_at "t_w"
          refine Evl.q_cut (M := fun σ2 H2 => σ2 = [some (.ref a), some (.ref x), some (.int call), some (.int pick), some vp, some vf, some (.int (m : Int)), some (.int (t : Int)), some (.ref l), none, some (.ref pk), some (.str (calledDue call ds dp df)), none, none, none] ∧ Ex G10 H2) ?_ ?_
--@A          
          · repeat walk_at "t_w"
            by_cases hc0 : call = 0
            case neg =>
              repeat walk_at "t_w"
              have ed : duePut call dp df pick = calledDue call ds dp df := due_word (hcall.resolve_left hc0) h1
              rw [← ed]
              exact ⟨rfl, e11⟩
            repeat walk_at "t_w"
            obtain ⟨dl, sm⟩ := h0 hc0
            refine ⟨m, pk, js, rfl, ex_l e11 hP, by omega, fun G12 e12 => ?_⟩
            repeat walk_at "t_w"
            have ed : dueMade (m : Int) (js.map lawWord) = calledDue call ds dp df := by
              rw [hc0]
              unfold calledDue
              rw [if_pos rfl, dl, due_same sm]
            rw [← ed]
            exact ⟨rfl, e11.trans e12⟩
--@Z
          · rintro σ' G13 ⟨rfl, e13⟩
            have eB13 := b1.trans e13
            have hl13 := e13 _ _ hl
            have hA13 := DpAll.mono e13 hA
            have hcc : call = 0 ∨ (call = 1 ∧ ds.length = 1) ∨ call = 2 := hcall.imp id fun h => h.imp (fun h => ⟨h, by obtain ⟨d, e, _⟩ := h1 h; rw [e]; rfl⟩) id
            have hdm : call = 0 → ds.length = m := fun h => (h0 h).1
            clear e11 hP hj2 h0 h1 hA hl
            repeat walk_at "t_w"
            rename_i q hq
            have e14 := Ex.new hq (o := HO.lst ws)
            have eB14 := eB13.trans e14
            have Rm14 := Rm.ex eB14
            have hA14 := DpAll.mono e14 hA13
            have hP14 := Dp.mono eB14 hPB
            have hF14 := Dp.mono eB14 hFB
            have hl14 := e14 _ _ hl13
            have hq14 := upd_same (H := G13) (a := q) (o := HO.lst ws)
            have nqr : q ≠ r := fun z => by rw [z, eB13 _ _ Rm.row] at hq; cases hq
            have nlr : l ≠ r := fun z => by rw [z, Rm.row] at hlB; cases hlB
            generalize upd G13 q (HO.lst ws) = G14 at e14 eB14 Rm14 hA14 hP14 hF14 hl14 hq14 ⊢
            obtain ⟨⟨dx14, hX14⟩, hR14, hro14⟩ := id Rm14
            have nlx : l ≠ x := ne_of hl14 hX14 (fun z => nomatch z)
            have nqx : q ≠ x := ne_of hq14 hX14 (fun z => nomatch z)
            have r12 : ((rowAt bs0 6).map V.int).length = 12 := rfl
            have back : ∀ H2, Ex (off [x, r] G14) H2 → H2 q = some (.lst ws) ∧ H2 l = some (.lst ws) ∧ DpAll K H2 ws ds := fun H2 e =>
              ⟨e _ _ (by rw [off_out (by simp [nqx, nqr])]; exact hq14), e _ _ (by rw [off_out (by simp [nlx, nlr])]; exact hl14), DpAll.mono e (dps_off hX14 hR14 r12 (good_small gds) hA14)⟩
            clear e14 e13 eB13 hl13 hA13 hq b1 hmx hpk hp0 hp25 mgd hyl ml eB hSB hPB hFB Rm hm ht hc1
            by_cases hW : calledDue call ds dp df = ""
            case neg =>
              refine ⟨x, r, q, call, ws, ds, vp, vf, dp, df, rfl, Rm14, SqL.of hq14, hA14, by omega, hP14, hF14, hcc, fun _ fq H2 e2 h2 => ?_, fun c0 fs efs hfs hle => absurd (by rw [c0]; exact due0 hro14 efs hfs hle) hW,
                fun c1 i j t hi hj edp edf eds ht => absurd (by rw [c1]; exact due1 hro14 hi hj edp edf eds ht) hW, fun c2 i hi edp => absurd (by rw [c2]; exact due2 hi edp) hW⟩
              obtain ⟨hq2, hl2, hA2⟩ := back H2 (off_ex.trans e2)
              have Rm2 := Rm14.ex e2
              have hP2 := Dp.mono e2 hP14
              obtain ⟨W, hWe⟩ : ∃ W, calledDue call ds dp df = W := ⟨_, rfl⟩
              rw [hWe] at hW h2 ⊢
              have hww : W = W := rfl
              clear hWe back hcc hdm hA14 hP14 hF14 hl14 hq14 Rm14 hX14 hR14 hro14 r12 e2
              have rr2 := Rm2.row
              refine w_gName (w_nx (w_seq (w_check rfl rfl rfl rfl h2 hq2 hl2 hA2 gds (by omega) (w_next (w_nx (w_seq (w_dueA rfl hW ?_)))))))
              clear gds hA2
              refine w_seq (w_asg (w_lstD (K := K) (ds := [numD (.int 0), numD (.int 0)]) (by walk_at "t_evds") (by decide) fun p8 v8 H8 hp8 e8 h8 n8 => ?_))
              refine w_gName (w_nx (w_seq (w_ifS (w_test (w_op (w_var rfl (w_c (w_eqD (Dp.mono e8 hP2) (.int 3) hsh (by decide +kernel) ?_))))))))
              generalize PyData.eqv dp (.int 3) = b3
              have Rm8 := Rm2.ex e8
              have rr8 := e8 _ _ rr2
              clear hsh hP2 n8 Rm2 rr2
              cases b3 with
              | false =>
                refine ⟨false, rfl, w_iteF (w_next (w_nx (w_seq (w_andA rfl hW (w_next (w_nx ?_))))))⟩
                repeat walk_at "t_w"
                exact w_sound0 (Rm8.ex (by walk_at "t_ex")) upd_same (by walk_at "t_ne") fun _ => rfl
              | true =>
                refine ⟨true, rfl, w_iteT (w_asg (w_lstD (K := K) (ds := [numD (.int 5), boxT (.int 0)]) (by walk_at "t_evds") (by decide) fun p9 v9 H9 hp9 e9 h9 n9 => ?_))⟩
                have Rm9 := Rm8.ex e9
                have rr9 := e9 _ _ rr8
                refine w_gName (w_nx (w_seq (w_andA rfl hW (w_next (w_nx ?_)))))
                repeat walk_at "t_w"
                exact w_sound0 (Rm9.ex (by walk_at "t_ex")) upd_same (by walk_at "t_ne") fun _ => rfl
            rw [hW]
            refine ⟨x, r, q, call, ws, ds, vp, vf, dp, df, rfl, Rm14, SqL.of hq14, hA14, by omega, hP14, hF14, hcc, fun hn => absurd hW hn, fun c0 fs efs hfs hle fq H2 e2 Rm2 h2 => ?_, fun c1 i j t hi hj edp edf eds ht fq H2 e2 Rm2 h2 => ?_, fun c2 i hi edp fq l2 ws2 H2 e2 hl2 a2 h2 => ?_⟩
--@A            
            · subst c0
              obtain ⟨hq2, hl2, hA2⟩ := back H2 e2
              have rr2 := Rm2.row
              have hmf : fs.length = m := by have := hdm rfl; rw [efs, List.length_map] at this; exact this
              have hps : ds = (fs.map (Thing.pt bs0)).map PT.data := efs.trans hands
              have hA3 := hA2
              rw [hps] at hA3
              clear back hcc hdm hA14 hP14 hF14 hl14 hq14 Rm14 hX14 hR14 r12 e2 hsh efs hps
              refine w_gName (w_nx (w_seq (w_check rfl rfl rfl rfl h2 hq2 hl2 hA2 gds (by omega) (w_next (w_nx (w_seq (w_dueB rfl rfl (by decide) (w_next (w_nx ?_)))))))))
              clear gds hA2 hW
              repeat walk_at "t_w"
              rename_i H4 e4
              have rr4 := e4 _ _ rr2
              refine ⟨0, l, ws, fs.map (Thing.pt bs0), vp, vf, rfl, SqL.of (e4 _ _ hl2), DpAll.mono e4 hA3, by rw [List.length_map]; omega, .inl ⟨rfl, fun p3 H3 hp3 e3 h3 => ?_⟩⟩
              have rr3 := e3 _ _ rr4
              have np3 : p3 ≠ r := fun q => by rw [q, rr4] at hp3; cases hp3
              repeat walk_at "t_w"
              exact w_sound1 (Rm2.ex (e4.trans e3)) hro14 hfs hle h3 np3 (by rw [hmf, if_pos (by decide)]; omega) fun _ => rfl
--@Z
--@A            
            · subst c1
              obtain ⟨hq2, hl2, hA2⟩ := back H2 e2
              have rr2 := Rm2.row
              have evp : vp = .int (3 * (i : Int)) := by rw [edp] at hP14; cases hP14; rfl
              have evf : vf = .int (j : Int) := by rw [edf] at hF14; cases hF14; rfl
              subst evp evf
              have hA3 : DpAll K H2 ws ([t.pt bs0].map PT.data) := by rw [eds] at hA2; exact hA2
              clear back hcc hdm hA14 hP14 hF14 hl14 hq14 Rm14 hX14 hR14 hro14 r12 e2 hsh edp edf eds
              refine w_gName (w_nx (w_seq (w_check rfl rfl rfl rfl h2 hq2 hl2 hA2 gds (by omega) (w_next (w_nx (w_seq (w_dueB rfl rfl (by decide) (w_next (w_nx ?_)))))))))
              clear gds hA2 hW
              repeat walk_at "t_w"
              refine ⟨1, l, ws, [t.pt bs0], _, _, rfl, SqL.of hl2, hA3, by simp, .inr ⟨rfl, i, j, t.pt bs0, hi, hj, rfl, rfl, rfl, fun p3 H3 hp3 e3 h3 => ?_⟩⟩
              have rr3 := e3 _ _ rr2
              have np3 : p3 ≠ r := fun q => by rw [q, rr2] at hp3; cases hp3
              repeat walk_at "t_w"
              exact w_sound2 (Rm2.ex e3) hi hj ht h3 np3 (by rw [if_neg (by decide)]; omega) fun _ => rfl
--@Z
--@A            
            · subst c2
              obtain ⟨hq2, hl2', hA2⟩ := back H2 (off_ex.trans e2)
              have Rm2 := Rm14.ex e2
              have rr2 := Rm2.row
              have evp : vp = .int (3 * (i : Int)) := by rw [edp] at hP14; cases hP14; rfl
              subst evp
              have hD2 := told_dp (K := K) hl2 a2
              clear back hcc hdm hA14 hP14 hF14 hl14 hq14 Rm14 hX14 hR14 hro14 r12 e2 hsh edp a2
              refine w_gName (w_nx (w_seq (w_check rfl rfl rfl rfl h2 hq2 hl2' hA2 gds (by omega) (w_next (w_nx (w_seq (w_dueC rfl rfl ?_)))))))
              clear gds hA2 hW
              refine w_seq (w_asg (w_lstD (K := K) (ds := [numD (.int 0), numD (.int 0)]) (by walk_at "t_evds") (by decide) fun p8 v8 H8 hp8 e8 h8 n8 => ?_))
              refine w_gName (w_nx (w_seq (w_ifS (w_test (w_op (w_var rfl (w_c (w_eqI ?_))))))))
              have Rm8 := Rm2.ex e8
              have rr8 := e8 _ _ rr2
              obtain rfl | rfl : i = 0 ∨ i = 1 := by omega
              · refine ⟨false, congrArg V.bl (by decide), w_iteF (w_next (w_nx (w_seq (w_andB rfl ?_))))⟩
                refine w_test (w_op (w_op (w_var rfl (w_c (w_ixT (v := .ref l2) (SqT.of (e8 _ _ h2)) rfl (w_var rfl (w_neSame (d := .list [numD (.int 0), numD (.int 0)]) (Dp.mono e8 hD2) (.lst (SqL.of h8) n8.all) (by decide +kernel) ⟨false, rfl, w_iteF (w_next (w_nx ?_))⟩)))))))
                clear hD2 n8 Rm2 rr2
                repeat walk_at "t_w"
                exact w_sound0 (Rm8.ex (by walk_at "t_ex")) upd_same (by walk_at "t_ne") fun _ => rfl
              · refine ⟨true, congrArg V.bl (by decide), w_iteT (w_asg (w_lstD (K := K) (ds := [numD (.int 5), boxT (.int 0)]) (by walk_at "t_evds") (by decide) fun p9 v9 H9 hp9 e9 h9 n9 => ?_))⟩
                have Rm9 := Rm8.ex e9
                have rr9 := e9 _ _ rr8
                refine w_gName (w_nx (w_seq (w_andB rfl ?_)))
                refine w_test (w_op (w_op (w_var rfl (w_c (w_ixT (v := .ref l2) (SqT.of (e9 _ _ (e8 _ _ h2))) rfl (w_var rfl (w_neSame (d := .list [numD (.int 5), boxT (.int 0)]) (Dp.mono (e8.trans e9) hD2) (.lst (SqL.of h9) n9.all) (by decide +kernel) ⟨false, rfl, w_iteF (w_next (w_nx ?_))⟩)))))))
                clear hD2 n8 n9 Rm2 rr2 Rm8 rr8
                repeat walk_at "t_w"
                exact w_sound0 (Rm9.ex (by walk_at "t_ex")) upd_same (by walk_at "t_ne") fun _ => rfl
--@Z
end
theorem kit_meta_ve : PySem.W.kitMeta "ValueError" = true := by decide +kernel
theorem kit_val {K : PySem.W.Frag} {D : Addr} (s : PySem.W.subIn K (.ref D) (.type "ValueError") = some true) : PySem.W.kitOne K (.ref D) (.type "ValueError") = some true := by
  show (if (Value.ref D == Value.type "ValueError") = true then some true else if PySem.W.kitMeta "ValueError" = true then PySem.W.subIn K (.ref D) (.type "ValueError") else none) = some true
  rw [if_neg (fun q => by have e := beq_iff_eq.mp q; cases e), if_pos kit_meta_ve]
  exact s
theorem ne_sub {K : PySem.W.Frag} {D C : Addr} (h1 : PySem.W.subIn K (.ref D) (.ref D) = some true) (h2 : PySem.W.subIn K (.ref D) (.ref C) = some false) : D ≠ C := fun e => by
  subst e
  rw [h1] at h2
  cases h2
theorem all_mk {l : PySem.W.OpenLaw} {w : World} {K : PySem.W.Frag} {h : Heap} {mg : Str → Option Value} {fa f0 f1 f2 f3 f4 f5 f6 f7 f8 f9 f10 f11 f12 f13 f14 f15 f16 f17 f18 f19 f20 f21 f22 f23 f24 f25 f26 f27 f28 f29 f30 f31 f32 f33 f34 f35 f36 f37 C cB cR cT cS cF cE : Addr} (X : K.In h) (G : h.Ns mainGlobals mg) (hfa : mg "law" = some (.ref fa))
    {od0 an0 od1 an1 od2 an2 od3 an3 od4 an4 od5 an5 od6 an6 od7 an7 od8 an8 od9 an9 od10 an10 od11 an11 od12 an12 od13 an13 od14 an14 od15 an15 od16 an16 od17 an17 od18 an18 od19 an19 od20 an20 od21 an21 od22 an22 od23 an23 od24 an24 od25 an25 od26 an26 od27 an27 od28 an28 od29 an29 od30 an30 od31 an31 od32 an32 od33 an33 od34 an34 od35 an35 od36 an36 od37 an37 : Option Addr} {sl0 sl1 sl2 sl3 sl4 sl5 sl6 sl7 sl8 sl9 sl10 sl11 sl12 sl13 sl14 sl15 sl16 sl17 sl18 sl19 sl20 sl21 sl22 sl23 sl24 sl25 sl26 sl27 sl28 sl29 sl30 sl31 sl32 sl33 sl34 sl35 sl36 sl37 : Array (Option Value)} {oc0 kV0 dc0 pm0 cd0 ct0 oc1 kV1 dc1 pm1 cd1 ct1 oc2 kV2 dc2 pm2 cd2 ct2 oc3 kV3 dc3 pm3 cd3 ct3 oc4 kV4 dc4 pm4 cd4 ct4 oc5 kV5 dc5 pm5 cd5 ct5 oc6 kV6 dc6 pm6 cd6 ct6 oc7 kV7 dc7 pm7 cd7 ct7 oc8 kV8 dc8 pm8 cd8 ct8 oc9 kV9 dc9 pm9 cd9 ct9 oc10 kV10 dc10 pm10 cd10 ct10 oc11 kV11 dc11 pm11 cd11 ct11 oc12 kV12 dc12 pm12 cd12 ct12 oc13 kV13 dc13 pm13 cd13 ct13 oc14 kV14 dc14 pm14 cd14 ct14 oc15 kV15 dc15 pm15 cd15 ct15 oc16 kV16 dc16 pm16 cd16 ct16 oc17 kV17 dc17 pm17 cd17 ct17 oc18 kV18 dc18 pm18 cd18 ct18 oc19 kV19 dc19 pm19 cd19 ct19 oc20 kV20 dc20 pm20 cd20 ct20 oc21 kV21 dc21 pm21 cd21 ct21 oc22 kV22 dc22 pm22 cd22 ct22 oc23 kV23 dc23 pm23 cd23 ct23 oc24 kV24 dc24 pm24 cd24 ct24 oc25 kV25 dc25 pm25 cd25 ct25 oc26 kV26 dc26 pm26 cd26 ct26 oc27 kV27 dc27 pm27 cd27 ct27 oc28 kV28 dc28 pm28 cd28 ct28 oc29 kV29 dc29 pm29 cd29 ct29 oc30 kV30 dc30 pm30 cd30 ct30 oc31 kV31 dc31 pm31 cd31 ct31 oc32 kV32 dc32 pm32 cd32 ct32 oc33 kV33 dc33 pm33 cd33 ct33 oc34 kV34 dc34 pm34 cd34 ct34 oc35 kV35 dc35 pm35 cd35 ct35 oc36 kV36 dc36 pm36 cd36 ct36 oc37 kV37 dc37 pm37 cd37 ct37 : Value}
    {tk_MOST_CELLS tk_MOST_DOORS tk_TOO_LONG : Tok}
    (aC : PySem.W.nsIn K mainGlobals "Room" = some (some (.ref C)))
    (a0 : PySem.W.nsIn K mainGlobals "number_word" = some (some (.ref f0)))
    (l0 : K.lookup f0 = some ⟨oc0, od0, .func (PySem.W.fnOf "number_word" "number_word" (defArgs s_number_word) (defBody s_number_word) (defScope s_number_word) .none kV0 dc0 pm0 an0 cd0 ct0), sl0⟩)
    (c0 : PySem.W.codeIn K cd0 "number_word" = true)
    (k0 : PySem.W.keepIn K (.ref f0) = true)
    (a1 : PySem.W.nsIn K mainGlobals "link_word" = some (some (.ref f1)))
    (l1 : K.lookup f1 = some ⟨oc1, od1, .func (PySem.W.fnOf "link_word" "link_word" (defArgs s_link_word) (defBody s_link_word) (defScope s_link_word) .none kV1 dc1 pm1 an1 cd1 ct1), sl1⟩)
    (c1 : PySem.W.codeIn K cd1 "link_word" = true)
    (k1 : PySem.W.keepIn K (.ref f1) = true)
    (a2 : PySem.W.nsIn K mainGlobals "head_word" = some (some (.ref f2)))
    (l2 : K.lookup f2 = some ⟨oc2, od2, .func (PySem.W.fnOf "head_word" "head_word" (defArgs s_head_word) (defBody s_head_word) (defScope s_head_word) .none kV2 dc2 pm2 an2 cd2 ct2), sl2⟩)
    (c2 : PySem.W.codeIn K cd2 "head_word" = true)
    (k2 : PySem.W.keepIn K (.ref f2) = true)
    (a3 : PySem.W.nsIn K mainGlobals "is_link" = some (some (.ref f3)))
    (l3 : K.lookup f3 = some ⟨oc3, od3, .func (PySem.W.fnOf "is_link" "is_link" (defArgs s_is_link) (defBody s_is_link) (defScope s_is_link) .none kV3 dc3 pm3 an3 cd3 ct3), sl3⟩)
    (c3 : PySem.W.codeIn K cd3 "is_link" = true)
    (k3 : PySem.W.keepIn K (.ref f3) = true)
    (a4 : PySem.W.nsIn K mainGlobals "told_by" = some (some (.ref f4)))
    (l4 : K.lookup f4 = some ⟨oc4, od4, .func (PySem.W.fnOf "told_by" "told_by" (defArgs s_told_by) (defBody s_told_by) (defScope s_told_by) .none kV4 dc4 pm4 an4 cd4 ct4), sl4⟩)
    (c4 : PySem.W.codeIn K cd4 "told_by" = true)
    (k4 : PySem.W.keepIn K (.ref f4) = true)
    (a5 : PySem.W.nsIn K mainGlobals "fields_of" = some (some (.ref f5)))
    (l5 : K.lookup f5 = some ⟨oc5, od5, .func (PySem.W.fnOf "fields_of" "fields_of" (defArgs s_fields_of) (defBody s_fields_of) (defScope s_fields_of) .none kV5 dc5 pm5 an5 cd5 ct5), sl5⟩)
    (c5 : PySem.W.codeIn K cd5 "fields_of" = true)
    (k5 : PySem.W.keepIn K (.ref f5) = true)
    (a6 : PySem.W.nsIn K mainGlobals "heads" = some (some (.ref f6)))
    (l6 : K.lookup f6 = some ⟨oc6, od6, .func (PySem.W.fnOf "heads" "heads" (defArgs s_heads) (defBody s_heads) (defScope s_heads) .none kV6 dc6 pm6 an6 cd6 ct6), sl6⟩)
    (c6 : PySem.W.codeIn K cd6 "heads" = true)
    (k6 : PySem.W.keepIn K (.ref f6) = true)
    (a7 : PySem.W.nsIn K mainGlobals "field_words" = some (some (.ref f7)))
    (l7 : K.lookup f7 = some ⟨oc7, od7, .func (PySem.W.fnOf "field_words" "field_words" (defArgs s_field_words) (defBody s_field_words) (defScope s_field_words) .none kV7 dc7 pm7 an7 cd7 ct7), sl7⟩)
    (c7 : PySem.W.codeIn K cd7 "field_words" = true)
    (k7 : PySem.W.keepIn K (.ref f7) = true)
    (a8 : PySem.W.nsIn K mainGlobals "is_whole" = some (some (.ref f8)))
    (l8 : K.lookup f8 = some ⟨oc8, od8, .func (PySem.W.fnOf "is_whole" "is_whole" (defArgs s_is_whole) (defBody s_is_whole) (defScope s_is_whole) .none kV8 dc8 pm8 an8 cd8 ct8), sl8⟩)
    (c8 : PySem.W.codeIn K cd8 "is_whole" = true)
    (k8 : PySem.W.keepIn K (.ref f8) = true)
    (a9 : PySem.W.nsIn K mainGlobals "is_thing" = some (some (.ref f9)))
    (l9 : K.lookup f9 = some ⟨oc9, od9, .func (PySem.W.fnOf "is_thing" "is_thing" (defArgs s_is_thing) (defBody s_is_thing) (defScope s_is_thing) .none kV9 dc9 pm9 an9 cd9 ct9), sl9⟩)
    (c9 : PySem.W.codeIn K cd9 "is_thing" = true)
    (k9 : PySem.W.keepIn K (.ref f9) = true)
    (a10 : PySem.W.nsIn K mainGlobals "words_of" = some (some (.ref f10)))
    (l10 : K.lookup f10 = some ⟨oc10, od10, .func (PySem.W.fnOf "words_of" "words_of" (defArgs s_words_of) (defBody s_words_of) (defScope s_words_of) .none kV10 dc10 pm10 an10 cd10 ct10), sl10⟩)
    (c10 : PySem.W.codeIn K cd10 "words_of" = true)
    (k10 : PySem.W.keepIn K (.ref f10) = true)
    (a11 : PySem.W.nsIn K mainGlobals "thing_of" = some (some (.ref f11)))
    (l11 : K.lookup f11 = some ⟨oc11, od11, .func (PySem.W.fnOf "thing_of" "thing_of" (defArgs s_thing_of) (defBody s_thing_of) (defScope s_thing_of) .none kV11 dc11 pm11 an11 cd11 ct11), sl11⟩)
    (c11 : PySem.W.codeIn K cd11 "thing_of" = true)
    (k11 : PySem.W.keepIn K (.ref f11) = true)
    (a12 : PySem.W.findIn K (.ref C) "__init__" = some (some (.ref f12)))
    (i12 : PySem.W.isFn K (.ref f12) = true)
    (l12 : K.lookup f12 = some ⟨oc12, od12, .func (PySem.W.fnOf "__init__" "Room.__init__" (defArgs s_Room___init) (defBody s_Room___init) (defScope s_Room___init) .none kV12 dc12 pm12 an12 cd12 ct12), sl12⟩)
    (c12 : PySem.W.codeIn K cd12 "Room.__init__" = true)
    (k12 : PySem.W.keepIn K (.ref f12) = true)
    (a13 : PySem.W.findIn K (.ref C) "made" = some (some (.ref f13)))
    (i13 : PySem.W.isFn K (.ref f13) = true)
    (l13 : K.lookup f13 = some ⟨oc13, od13, .func (PySem.W.fnOf "made" "Room.made" (defArgs s_Room_made) (defBody s_Room_made) (defScope s_Room_made) .none kV13 dc13 pm13 an13 cd13 ct13), sl13⟩)
    (c13 : PySem.W.codeIn K cd13 "Room.made" = true)
    (k13 : PySem.W.keepIn K (.ref f13) = true)
    (a14 : PySem.W.findIn K (.ref C) "put" = some (some (.ref f14)))
    (i14 : PySem.W.isFn K (.ref f14) = true)
    (l14 : K.lookup f14 = some ⟨oc14, od14, .func (PySem.W.fnOf "put" "Room.put" (defArgs s_Room_put) (defBody s_Room_put) (defScope s_Room_put) .none kV14 dc14 pm14 an14 cd14 ct14), sl14⟩)
    (c14 : PySem.W.codeIn K cd14 "Room.put" = true)
    (k14 : PySem.W.keepIn K (.ref f14) = true)
    (a15 : PySem.W.findIn K (.ref C) "told" = some (some (.ref f15)))
    (i15 : PySem.W.isFn K (.ref f15) = true)
    (l15 : K.lookup f15 = some ⟨oc15, od15, .func (PySem.W.fnOf "told" "Room.told" (defArgs s_Room_told) (defBody s_Room_told) (defScope s_Room_told) .none kV15 dc15 pm15 an15 cd15 ct15), sl15⟩)
    (c15 : PySem.W.codeIn K cd15 "Room.told" = true)
    (k15 : PySem.W.keepIn K (.ref f15) = true)
    (a16 : PySem.W.findIn K (.ref C) "places" = some (some (.ref f16)))
    (i16 : PySem.W.isFn K (.ref f16) = true)
    (l16 : K.lookup f16 = some ⟨oc16, od16, .func (PySem.W.fnOf "places" "Room.places" (defArgs s_Room_places) (defBody s_Room_places) (defScope s_Room_places) .none kV16 dc16 pm16 an16 cd16 ct16), sl16⟩)
    (c16 : PySem.W.codeIn K cd16 "Room.places" = true)
    (k16 : PySem.W.keepIn K (.ref f16) = true)
    (a17 : PySem.W.findIn K (.ref C) "used" = some (some (.ref f17)))
    (i17 : PySem.W.isFn K (.ref f17) = true)
    (l17 : K.lookup f17 = some ⟨oc17, od17, .func (PySem.W.fnOf "used" "Room.used" (defArgs s_Room_used) (defBody s_Room_used) (defScope s_Room_used) .none kV17 dc17 pm17 an17 cd17 ct17), sl17⟩)
    (c17 : PySem.W.codeIn K cd17 "Room.used" = true)
    (k17 : PySem.W.keepIn K (.ref f17) = true)
    (a18 : PySem.W.findIn K (.ref C) "cells" = some (some (.ref f18)))
    (i18 : PySem.W.isFn K (.ref f18) = true)
    (l18 : K.lookup f18 = some ⟨oc18, od18, .func (PySem.W.fnOf "cells" "Room.cells" (defArgs s_Room_cells) (defBody s_Room_cells) (defScope s_Room_cells) .none kV18 dc18 pm18 an18 cd18 ct18), sl18⟩)
    (c18 : PySem.W.codeIn K cd18 "Room.cells" = true)
    (k18 : PySem.W.keepIn K (.ref f18) = true)
    (a19 : PySem.W.findIn K (.ref C) "_require_box" = some (some (.ref f19)))
    (i19 : PySem.W.isFn K (.ref f19) = true)
    (l19 : K.lookup f19 = some ⟨oc19, od19, .func (PySem.W.fnOf "_require_box" "Room._require_box" (defArgs s_Room__require_box) (defBody s_Room__require_box) (defScope s_Room__require_box) .none kV19 dc19 pm19 an19 cd19 ct19), sl19⟩)
    (c19 : PySem.W.codeIn K cd19 "Room._require_box" = true)
    (k19 : PySem.W.keepIn K (.ref f19) = true)
    (a20 : PySem.W.nsIn K mainGlobals "_law_at" = some (some (.ref f20)))
    (l20 : K.lookup f20 = some ⟨oc20, od20, .func (PySem.W.fnOf "_law_at" "_law_at" (defArgs s_law_at) (defBody s_law_at) (defScope s_law_at) .none kV20 dc20 pm20 an20 cd20 ct20), sl20⟩)
    (c20 : PySem.W.codeIn K cd20 "_law_at" = true)
    (k20 : PySem.W.keepIn K (.ref f20) = true)
    (a21 : PySem.W.nsIn K mainGlobals "_law_is_int" = some (some (.ref f21)))
    (l21 : K.lookup f21 = some ⟨oc21, od21, .func (PySem.W.fnOf "_law_is_int" "_law_is_int" (defArgs s_law_is_int) (defBody s_law_is_int) (defScope s_law_is_int) .none kV21 dc21 pm21 an21 cd21 ct21), sl21⟩)
    (c21 : PySem.W.codeIn K cd21 "_law_is_int" = true)
    (k21 : PySem.W.keepIn K (.ref f21) = true)
    (a22 : PySem.W.nsIn K mainGlobals "_law_words_are" = some (some (.ref f22)))
    (l22 : K.lookup f22 = some ⟨oc22, od22, .func (PySem.W.fnOf "_law_words_are" "_law_words_are" (defArgs s_law_words_are) (defBody s_law_words_are) (defScope s_law_words_are) .none kV22 dc22 pm22 an22 cd22 ct22), sl22⟩)
    (c22 : PySem.W.codeIn K cd22 "_law_words_are" = true)
    (k22 : PySem.W.keepIn K (.ref f22) = true)
    (a23 : PySem.W.nsIn K mainGlobals "_law_class" = some (some (.ref f23)))
    (l23 : K.lookup f23 = some ⟨oc23, od23, .func (PySem.W.fnOf "_law_class" "_law_class" (defArgs s_law_class) (defBody s_law_class) (defScope s_law_class) .none kV23 dc23 pm23 an23 cd23 ct23), sl23⟩)
    (c23 : PySem.W.codeIn K cd23 "_law_class" = true)
    (k23 : PySem.W.keepIn K (.ref f23) = true)
    (a24 : PySem.W.nsIn K mainGlobals "_law_number" = some (some (.ref f24)))
    (l24 : K.lookup f24 = some ⟨oc24, od24, .func (PySem.W.fnOf "_law_number" "_law_number" (defArgs s_law_number) (defBody s_law_number) (defScope s_law_number) .none kV24 dc24 pm24 an24 cd24 ct24), sl24⟩)
    (c24 : PySem.W.codeIn K cd24 "_law_number" = true)
    (k24 : PySem.W.keepIn K (.ref f24) = true)
    (a25 : PySem.W.nsIn K mainGlobals "_law_sized" = some (some (.ref f25)))
    (l25 : K.lookup f25 = some ⟨oc25, od25, .func (PySem.W.fnOf "_law_sized" "_law_sized" (defArgs s_law_sized) (defBody s_law_sized) (defScope s_law_sized) .none kV25 dc25 pm25 an25 cd25 ct25), sl25⟩)
    (c25 : PySem.W.codeIn K cd25 "_law_sized" = true)
    (k25 : PySem.W.keepIn K (.ref f25) = true)
    (a26 : PySem.W.nsIn K mainGlobals "_law_new" = some (some (.ref f26)))
    (l26 : K.lookup f26 = some ⟨oc26, od26, .func (PySem.W.fnOf "_law_new" "_law_new" (defArgs s_law_new) (defBody s_law_new) (defScope s_law_new) .none kV26 dc26 pm26 an26 cd26 ct26), sl26⟩)
    (c26 : PySem.W.codeIn K cd26 "_law_new" = true)
    (k26 : PySem.W.keepIn K (.ref f26) = true)
    (a27 : PySem.W.nsIn K mainGlobals "_law_things" = some (some (.ref f27)))
    (l27 : K.lookup f27 = some ⟨oc27, od27, .func (PySem.W.fnOf "_law_things" "_law_things" (defArgs s_law_things) (defBody s_law_things) (defScope s_law_things) .none kV27 dc27 pm27 an27 cd27 ct27), sl27⟩)
    (c27 : PySem.W.codeIn K cd27 "_law_things" = true)
    (k27 : PySem.W.keepIn K (.ref f27) = true)
    (a28 : PySem.W.nsIn K mainGlobals "_law_word" = some (some (.ref f28)))
    (l28 : K.lookup f28 = some ⟨oc28, od28, .func (PySem.W.fnOf "_law_word" "_law_word" (defArgs s_law_word) (defBody s_law_word) (defScope s_law_word) .none kV28 dc28 pm28 an28 cd28 ct28), sl28⟩)
    (c28 : PySem.W.codeIn K cd28 "_law_word" = true)
    (k28 : PySem.W.keepIn K (.ref f28) = true)
    (a29 : PySem.W.nsIn K mainGlobals "_law_made_due" = some (some (.ref f29)))
    (l29 : K.lookup f29 = some ⟨oc29, od29, .func (PySem.W.fnOf "_law_made_due" "_law_made_due" (defArgs s_law_made_due) (defBody s_law_made_due) (defScope s_law_made_due) .none kV29 dc29 pm29 an29 cd29 ct29), sl29⟩)
    (c29 : PySem.W.codeIn K cd29 "_law_made_due" = true)
    (k29 : PySem.W.keepIn K (.ref f29) = true)
    (a30 : PySem.W.nsIn K mainGlobals "_law_put_due" = some (some (.ref f30)))
    (l30 : K.lookup f30 = some ⟨oc30, od30, .func (PySem.W.fnOf "_law_put_due" "_law_put_due" (defArgs s_law_put_due) (defBody s_law_put_due) (defScope s_law_put_due) .none kV30 dc30 pm30 an30 cd30 ct30), sl30⟩)
    (c30 : PySem.W.codeIn K cd30 "_law_put_due" = true)
    (k30 : PySem.W.keepIn K (.ref f30) = true)
    (a31 : PySem.W.nsIn K mainGlobals "_law_called" = some (some (.ref f31)))
    (l31 : K.lookup f31 = some ⟨oc31, od31, .func (PySem.W.fnOf "_law_called" "_law_called" (defArgs s_law_called) (defBody s_law_called) (defScope s_law_called) .none kV31 dc31 pm31 an31 cd31 ct31), sl31⟩)
    (c31 : PySem.W.codeIn K cd31 "_law_called" = true)
    (k31 : PySem.W.keepIn K (.ref f31) = true)
    (a32 : PySem.W.nsIn K mainGlobals "_law_behind" = some (some (.ref f32)))
    (l32 : K.lookup f32 = some ⟨oc32, od32, .func (PySem.W.fnOf "_law_behind" "_law_behind" (defArgs s_law_behind) (defBody s_law_behind) (defScope s_law_behind) .none kV32 dc32 pm32 an32 cd32 ct32), sl32⟩)
    (c32 : PySem.W.codeIn K cd32 "_law_behind" = true)
    (k32 : PySem.W.keepIn K (.ref f32) = true)
    (a33 : PySem.W.nsIn K mainGlobals "_law_sizes_right" = some (some (.ref f33)))
    (l33 : K.lookup f33 = some ⟨oc33, od33, .func (PySem.W.fnOf "_law_sizes_right" "_law_sizes_right" (defArgs s_law_sizes_right) (defBody s_law_sizes_right) (defScope s_law_sizes_right) .none kV33 dc33 pm33 an33 cd33 ct33), sl33⟩)
    (c33 : PySem.W.codeIn K cd33 "_law_sizes_right" = true)
    (k33 : PySem.W.keepIn K (.ref f33) = true)
    (a34 : PySem.W.nsIn K mainGlobals "_law_sound" = some (some (.ref f34)))
    (l34 : K.lookup f34 = some ⟨oc34, od34, .func (PySem.W.fnOf "_law_sound" "_law_sound" (defArgs s_law_sound) (defBody s_law_sound) (defScope s_law_sound) .none kV34 dc34 pm34 an34 cd34 ct34), sl34⟩)
    (c34 : PySem.W.codeIn K cd34 "_law_sound" = true)
    (k34 : PySem.W.keepIn K (.ref f34) = true)
    (a35 : PySem.W.nsIn K mainGlobals "_law_drawn_place" = some (some (.ref f35)))
    (l35 : K.lookup f35 = some ⟨oc35, od35, .func (PySem.W.fnOf "_law_drawn_place" "_law_drawn_place" (defArgs s_law_drawn_place) (defBody s_law_drawn_place) (defScope s_law_drawn_place) .none kV35 dc35 pm35 an35 cd35 ct35), sl35⟩)
    (c35 : PySem.W.codeIn K cd35 "_law_drawn_place" = true)
    (k35 : PySem.W.keepIn K (.ref f35) = true)
    (a36 : PySem.W.nsIn K mainGlobals "_law_drawn_field" = some (some (.ref f36)))
    (l36 : K.lookup f36 = some ⟨oc36, od36, .func (PySem.W.fnOf "_law_drawn_field" "_law_drawn_field" (defArgs s_law_drawn_field) (defBody s_law_drawn_field) (defScope s_law_drawn_field) .none kV36 dc36 pm36 an36 cd36 ct36), sl36⟩)
    (c36 : PySem.W.codeIn K cd36 "_law_drawn_field" = true)
    (k36 : PySem.W.keepIn K (.ref f36) = true)
    (a37 : PySem.W.nsIn K mainGlobals "law" = some (some (.ref f37)))
    (l37 : K.lookup f37 = some ⟨oc37, od37, .func (PySem.W.fnOf "law" "law" (defArgs s_law) (defBody s_law) (defScope s_law) .none kV37 dc37 pm37 an37 cd37 ct37), sl37⟩)
    (c37 : PySem.W.codeIn K cd37 "law" = true)
    (k37 : PySem.W.keepIn K (.ref f37) = true)
    (pg : PySem.W.plainGet K C Str.empty = true)
    (hd : PySem.W.hasDictIn K C = true)
    (po : PySem.W.plainOver K C = true)
    (sa : PySem.W.findIn K (.ref C) "__setattr__" = some (some (.builtin "object.__setattr__")))
    (mk : PySem.W.makesIn K C = true)
    (kc : PySem.W.keepIn K (.ref C) = true)
    (nR : PySem.W.findIn K (.ref C) "_row" = some none)
    (nU : PySem.W.findIn K (.ref C) "_used" = some none)
    (gcB : PySem.W.nsIn K mainGlobals "NoBox" = some (some (.ref cB)))
    (xcB : PySem.W.excIn K cB [.type "ValueError", .type "Exception", .type "BaseException", .type "object"] "ValueError.__new__" = true)
    (kcB : PySem.W.keepIn K (.ref cB) = true)
    (bcB : PySem.W.subIn K (.ref cB) (.type "BaseException") = some true)
    (tcB : PySem.W.typeIn K (.ref cB) = some (.type "type"))
    (icB : PySem.W.isClsIn K cB = true)
    (ucB : PySem.W.findIn K (.ref cB) "__getattribute__" = some (some (.builtin "BaseException.__getattribute__")))
    (vcB : PySem.W.findIn K (.ref cB) "__getattr__" = some none)
    (dcB : PySem.W.hasDictIn K cB = true)
    (wcB : PySem.W.findIn K (.ref cB) "__class__" = some (some (.builtin "object.__class__")))
    (mcB : PySem.W.mroIn K cB (.type "object") = some true)
    (ycB : PySem.W.subIn K (.ref cB) (.type "ValueError") = some true)
    (gcR : PySem.W.nsIn K mainGlobals "NoRoom" = some (some (.ref cR)))
    (xcR : PySem.W.excIn K cR [.type "ValueError", .type "Exception", .type "BaseException", .type "object"] "ValueError.__new__" = true)
    (kcR : PySem.W.keepIn K (.ref cR) = true)
    (bcR : PySem.W.subIn K (.ref cR) (.type "BaseException") = some true)
    (tcR : PySem.W.typeIn K (.ref cR) = some (.type "type"))
    (icR : PySem.W.isClsIn K cR = true)
    (ucR : PySem.W.findIn K (.ref cR) "__getattribute__" = some (some (.builtin "BaseException.__getattribute__")))
    (vcR : PySem.W.findIn K (.ref cR) "__getattr__" = some none)
    (dcR : PySem.W.hasDictIn K cR = true)
    (wcR : PySem.W.findIn K (.ref cR) "__class__" = some (some (.builtin "object.__class__")))
    (mcR : PySem.W.mroIn K cR (.type "object") = some true)
    (ycR : PySem.W.subIn K (.ref cR) (.type "ValueError") = some true)
    (gcT : PySem.W.nsIn K mainGlobals "BadThing" = some (some (.ref cT)))
    (xcT : PySem.W.excIn K cT [.type "ValueError", .type "Exception", .type "BaseException", .type "object"] "ValueError.__new__" = true)
    (kcT : PySem.W.keepIn K (.ref cT) = true)
    (bcT : PySem.W.subIn K (.ref cT) (.type "BaseException") = some true)
    (tcT : PySem.W.typeIn K (.ref cT) = some (.type "type"))
    (icT : PySem.W.isClsIn K cT = true)
    (ucT : PySem.W.findIn K (.ref cT) "__getattribute__" = some (some (.builtin "BaseException.__getattribute__")))
    (vcT : PySem.W.findIn K (.ref cT) "__getattr__" = some none)
    (dcT : PySem.W.hasDictIn K cT = true)
    (wcT : PySem.W.findIn K (.ref cT) "__class__" = some (some (.builtin "object.__class__")))
    (mcT : PySem.W.mroIn K cT (.type "object") = some true)
    (ycT : PySem.W.subIn K (.ref cT) (.type "ValueError") = some true)
    (gcS : PySem.W.nsIn K mainGlobals "BadSize" = some (some (.ref cS)))
    (xcS : PySem.W.excIn K cS [.type "ValueError", .type "Exception", .type "BaseException", .type "object"] "ValueError.__new__" = true)
    (kcS : PySem.W.keepIn K (.ref cS) = true)
    (bcS : PySem.W.subIn K (.ref cS) (.type "BaseException") = some true)
    (tcS : PySem.W.typeIn K (.ref cS) = some (.type "type"))
    (icS : PySem.W.isClsIn K cS = true)
    (ucS : PySem.W.findIn K (.ref cS) "__getattribute__" = some (some (.builtin "BaseException.__getattribute__")))
    (vcS : PySem.W.findIn K (.ref cS) "__getattr__" = some none)
    (dcS : PySem.W.hasDictIn K cS = true)
    (wcS : PySem.W.findIn K (.ref cS) "__class__" = some (some (.builtin "object.__class__")))
    (mcS : PySem.W.mroIn K cS (.type "object") = some true)
    (ycS : PySem.W.subIn K (.ref cS) (.type "ValueError") = some true)
    (gcF : PySem.W.nsIn K mainGlobals "NoField" = some (some (.ref cF)))
    (xcF : PySem.W.excIn K cF [.type "ValueError", .type "Exception", .type "BaseException", .type "object"] "ValueError.__new__" = true)
    (kcF : PySem.W.keepIn K (.ref cF) = true)
    (bcF : PySem.W.subIn K (.ref cF) (.type "BaseException") = some true)
    (tcF : PySem.W.typeIn K (.ref cF) = some (.type "type"))
    (icF : PySem.W.isClsIn K cF = true)
    (ucF : PySem.W.findIn K (.ref cF) "__getattribute__" = some (some (.builtin "BaseException.__getattribute__")))
    (vcF : PySem.W.findIn K (.ref cF) "__getattr__" = some none)
    (dcF : PySem.W.hasDictIn K cF = true)
    (wcF : PySem.W.findIn K (.ref cF) "__class__" = some (some (.builtin "object.__class__")))
    (mcF : PySem.W.mroIn K cF (.type "object") = some true)
    (ycF : PySem.W.subIn K (.ref cF) (.type "ValueError") = some true)
    (gcE : PySem.W.nsIn K mainGlobals "SlideError" = some (some (.ref cE)))
    (icE : PySem.W.isClsIn K cE = true)
    (tcE : PySem.W.typeIn K (.ref cE) = some (.type "type"))
    (scScE : PySem.W.subIn K (.ref cS) (.ref cE) = some true)
    (scTcE : PySem.W.subIn K (.ref cT) (.ref cE) = some true)
    (scBcE : PySem.W.subIn K (.ref cB) (.ref cE) = some true)
    (scFcE : PySem.W.subIn K (.ref cF) (.ref cE) = some true)
    (scRcE : PySem.W.subIn K (.ref cR) (.ref cE) = some true)
    (scScS : PySem.W.subIn K (.ref cS) (.ref cS) = some true)
    (scScT : PySem.W.subIn K (.ref cS) (.ref cT) = some false)
    (scScB : PySem.W.subIn K (.ref cS) (.ref cB) = some false)
    (scScF : PySem.W.subIn K (.ref cS) (.ref cF) = some false)
    (scScR : PySem.W.subIn K (.ref cS) (.ref cR) = some false)
    (scTcS : PySem.W.subIn K (.ref cT) (.ref cS) = some false)
    (scTcT : PySem.W.subIn K (.ref cT) (.ref cT) = some true)
    (scTcB : PySem.W.subIn K (.ref cT) (.ref cB) = some false)
    (scTcF : PySem.W.subIn K (.ref cT) (.ref cF) = some false)
    (scTcR : PySem.W.subIn K (.ref cT) (.ref cR) = some false)
    (scBcS : PySem.W.subIn K (.ref cB) (.ref cS) = some false)
    (scBcT : PySem.W.subIn K (.ref cB) (.ref cT) = some false)
    (scBcB : PySem.W.subIn K (.ref cB) (.ref cB) = some true)
    (scBcF : PySem.W.subIn K (.ref cB) (.ref cF) = some false)
    (scBcR : PySem.W.subIn K (.ref cB) (.ref cR) = some false)
    (scFcS : PySem.W.subIn K (.ref cF) (.ref cS) = some false)
    (scFcT : PySem.W.subIn K (.ref cF) (.ref cT) = some false)
    (scFcB : PySem.W.subIn K (.ref cF) (.ref cB) = some false)
    (scFcF : PySem.W.subIn K (.ref cF) (.ref cF) = some true)
    (scFcR : PySem.W.subIn K (.ref cF) (.ref cR) = some false)
    (scRcS : PySem.W.subIn K (.ref cR) (.ref cS) = some false)
    (scRcT : PySem.W.subIn K (.ref cR) (.ref cT) = some false)
    (scRcB : PySem.W.subIn K (.ref cR) (.ref cB) = some false)
    (scRcF : PySem.W.subIn K (.ref cR) (.ref cF) = some false)
    (scRcR : PySem.W.subIn K (.ref cR) (.ref cR) = some true)
    (ogC : PySem.W.specialIn K (.builtin "object.__class__") "__get__" = some (some (.builtin "getset_descriptor.__get__")))
    (otC : PySem.W.takesIn K (.builtin "object.__class__") = some true)
    (q_MOST_CELLS : PySem.W.nsIn K mainGlobals "MOST_CELLS" = some (some (.int 400 tk_MOST_CELLS)))
    (q_MOST_DOORS : PySem.W.nsIn K mainGlobals "MOST_DOORS" = some (some (.int 20 tk_MOST_DOORS)))
    (q_TOO_LONG : PySem.W.nsIn K mainGlobals "TOO_LONG" = some (some (.int 1000000000000000000000000000000000000000000000000000000000000 tk_TOO_LONG)))
    (z_ValueError : PySem.W.nsIn K mainGlobals "ValueError" = some none)
    (z_abs : PySem.W.nsIn K mainGlobals "abs" = some none)
    (z_bool : PySem.W.nsIn K mainGlobals "bool" = some none)
    (z_int : PySem.W.nsIn K mainGlobals "int" = some none)
    (z_isinstance : PySem.W.nsIn K mainGlobals "isinstance" = some none)
    (z_len : PySem.W.nsIn K mainGlobals "len" = some none)
    (z_list : PySem.W.nsIn K mainGlobals "list" = some none)
    (z_max : PySem.W.nsIn K mainGlobals "max" = some none)
    (z_range : PySem.W.nsIn K mainGlobals "range" = some none)
    (z_repr : PySem.W.nsIn K mainGlobals "repr" = some none)
    (z_str : PySem.W.nsIn K mainGlobals "str" = some none)
    (z_tuple : PySem.W.nsIn K mainGlobals "tuple" = some none)
    (base : Heap) (s : Shared) (H : Hp) (a : Addr) (ns : List Int) (e0 : Env0 l.prog w K mg base callerA [] s H) (hS : SqL K H a (ns.map V.int)) (hl : ns.length ≤ 63) :
    codeAny (model l.prog w) callerA (.call (.ref fa) ⟨[.ref a], []⟩) (CR CX0 [] l.prog w H s (fun v _ => v = .bl true) E0) s := by
  have e := hfa.symm.trans (PySem.W.mg_of X G a37)
  cases e
  have T : Txt K mg := ⟨PySem.W.mg_none_of X G z_ValueError, PySem.W.mg_none_of X G z_abs, PySem.W.mg_none_of X G z_bool, PySem.W.mg_none_of X G z_int, PySem.W.mg_none_of X G z_isinstance, PySem.W.mg_none_of X G z_len, PySem.W.mg_none_of X G z_list, PySem.W.mg_none_of X G z_max, PySem.W.mg_none_of X G z_range, PySem.W.mg_none_of X G z_repr, PySem.W.mg_none_of X G z_str, PySem.W.mg_none_of X G z_tuple, ⟨_, PySem.W.mg_of X G q_MOST_CELLS⟩, ⟨_, PySem.W.mg_of X G q_MOST_DOORS⟩, ⟨_, PySem.W.mg_of X G q_TOO_LONG⟩⟩
  have d_number_word : DefAt K mg "number_word" "number_word" s_number_word := ⟨_, _, fun_mk (st := s_number_word) l0 c0 k0, PySem.W.mg_of X G a0⟩
  have d_link_word : DefAt K mg "link_word" "link_word" s_link_word := ⟨_, _, fun_mk (st := s_link_word) l1 c1 k1, PySem.W.mg_of X G a1⟩
  have d_head_word : DefAt K mg "head_word" "head_word" s_head_word := ⟨_, _, fun_mk (st := s_head_word) l2 c2 k2, PySem.W.mg_of X G a2⟩
  have d_is_link : DefAt K mg "is_link" "is_link" s_is_link := ⟨_, _, fun_mk (st := s_is_link) l3 c3 k3, PySem.W.mg_of X G a3⟩
  have d_told_by : DefAt K mg "told_by" "told_by" s_told_by := ⟨_, _, fun_mk (st := s_told_by) l4 c4 k4, PySem.W.mg_of X G a4⟩
  have d_fields_of : DefAt K mg "fields_of" "fields_of" s_fields_of := ⟨_, _, fun_mk (st := s_fields_of) l5 c5 k5, PySem.W.mg_of X G a5⟩
  have d_heads : DefAt K mg "heads" "heads" s_heads := ⟨_, _, fun_mk (st := s_heads) l6 c6 k6, PySem.W.mg_of X G a6⟩
  have d_field_words : DefAt K mg "field_words" "field_words" s_field_words := ⟨_, _, fun_mk (st := s_field_words) l7 c7 k7, PySem.W.mg_of X G a7⟩
  have d_is_whole : DefAt K mg "is_whole" "is_whole" s_is_whole := ⟨_, _, fun_mk (st := s_is_whole) l8 c8 k8, PySem.W.mg_of X G a8⟩
  have d_is_thing : DefAt K mg "is_thing" "is_thing" s_is_thing := ⟨_, _, fun_mk (st := s_is_thing) l9 c9 k9, PySem.W.mg_of X G a9⟩
  have d_words_of : DefAt K mg "words_of" "words_of" s_words_of := ⟨_, _, fun_mk (st := s_words_of) l10 c10 k10, PySem.W.mg_of X G a10⟩
  have d_thing_of : DefAt K mg "thing_of" "thing_of" s_thing_of := ⟨_, _, fun_mk (st := s_thing_of) l11 c11 k11, PySem.W.mg_of X G a11⟩
  have d_Room___init : DefK K C "Room.__init__" s_Room___init := ⟨_, _, fun_mk (st := s_Room___init) l12 c12 k12, ⟨mk, a12, i12, kc⟩⟩
  have d_Room_made : DefM K C "made" "Room.made" s_Room_made := ⟨_, _, fun_mk (st := s_Room_made) l13 c13 k13, ⟨a13, i13, k13⟩⟩
  have d_Room_put : DefM K C "put" "Room.put" s_Room_put := ⟨_, _, fun_mk (st := s_Room_put) l14 c14 k14, ⟨a14, i14, k14⟩⟩
  have d_Room_told : DefM K C "told" "Room.told" s_Room_told := ⟨_, _, fun_mk (st := s_Room_told) l15 c15 k15, ⟨a15, i15, k15⟩⟩
  have d_Room_places : DefM K C "places" "Room.places" s_Room_places := ⟨_, _, fun_mk (st := s_Room_places) l16 c16 k16, ⟨a16, i16, k16⟩⟩
  have d_Room_used : DefM K C "used" "Room.used" s_Room_used := ⟨_, _, fun_mk (st := s_Room_used) l17 c17 k17, ⟨a17, i17, k17⟩⟩
  have d_Room_cells : DefM K C "cells" "Room.cells" s_Room_cells := ⟨_, _, fun_mk (st := s_Room_cells) l18 c18 k18, ⟨a18, i18, k18⟩⟩
  have d_Room__require_box : DefM K C "_require_box" "Room._require_box" s_Room__require_box := ⟨_, _, fun_mk (st := s_Room__require_box) l19 c19 k19, ⟨a19, i19, k19⟩⟩
  have d_law_at : DefAt K mg "_law_at" "_law_at" s_law_at := ⟨_, _, fun_mk (st := s_law_at) l20 c20 k20, PySem.W.mg_of X G a20⟩
  have d_law_is_int : DefAt K mg "_law_is_int" "_law_is_int" s_law_is_int := ⟨_, _, fun_mk (st := s_law_is_int) l21 c21 k21, PySem.W.mg_of X G a21⟩
  have d_law_words_are : DefAt K mg "_law_words_are" "_law_words_are" s_law_words_are := ⟨_, _, fun_mk (st := s_law_words_are) l22 c22 k22, PySem.W.mg_of X G a22⟩
  have d_law_class : DefAt K mg "_law_class" "_law_class" s_law_class := ⟨_, _, fun_mk (st := s_law_class) l23 c23 k23, PySem.W.mg_of X G a23⟩
  have d_law_number : DefAt K mg "_law_number" "_law_number" s_law_number := ⟨_, _, fun_mk (st := s_law_number) l24 c24 k24, PySem.W.mg_of X G a24⟩
  have d_law_sized : DefAt K mg "_law_sized" "_law_sized" s_law_sized := ⟨_, _, fun_mk (st := s_law_sized) l25 c25 k25, PySem.W.mg_of X G a25⟩
  have d_law_new : DefAt K mg "_law_new" "_law_new" s_law_new := ⟨_, _, fun_mk (st := s_law_new) l26 c26 k26, PySem.W.mg_of X G a26⟩
  have d_law_things : DefAt K mg "_law_things" "_law_things" s_law_things := ⟨_, _, fun_mk (st := s_law_things) l27 c27 k27, PySem.W.mg_of X G a27⟩
  have d_law_word : DefAt K mg "_law_word" "_law_word" s_law_word := ⟨_, _, fun_mk (st := s_law_word) l28 c28 k28, PySem.W.mg_of X G a28⟩
  have d_law_made_due : DefAt K mg "_law_made_due" "_law_made_due" s_law_made_due := ⟨_, _, fun_mk (st := s_law_made_due) l29 c29 k29, PySem.W.mg_of X G a29⟩
  have d_law_put_due : DefAt K mg "_law_put_due" "_law_put_due" s_law_put_due := ⟨_, _, fun_mk (st := s_law_put_due) l30 c30 k30, PySem.W.mg_of X G a30⟩
  have d_law_called : DefAt K mg "_law_called" "_law_called" s_law_called := ⟨_, _, fun_mk (st := s_law_called) l31 c31 k31, PySem.W.mg_of X G a31⟩
  have d_law_behind : DefAt K mg "_law_behind" "_law_behind" s_law_behind := ⟨_, _, fun_mk (st := s_law_behind) l32 c32 k32, PySem.W.mg_of X G a32⟩
  have d_law_sizes_right : DefAt K mg "_law_sizes_right" "_law_sizes_right" s_law_sizes_right := ⟨_, _, fun_mk (st := s_law_sizes_right) l33 c33 k33, PySem.W.mg_of X G a33⟩
  have d_law_sound : DefAt K mg "_law_sound" "_law_sound" s_law_sound := ⟨_, _, fun_mk (st := s_law_sound) l34 c34 k34, PySem.W.mg_of X G a34⟩
  have d_law_drawn_place : DefAt K mg "_law_drawn_place" "_law_drawn_place" s_law_drawn_place := ⟨_, _, fun_mk (st := s_law_drawn_place) l35 c35 k35, PySem.W.mg_of X G a35⟩
  have d_law_drawn_field : DefAt K mg "_law_drawn_field" "_law_drawn_field" s_law_drawn_field := ⟨_, _, fun_mk (st := s_law_drawn_field) l36 c36 k36, PySem.W.mg_of X G a36⟩
  have d_law : DefAt K mg "law" "law" s_law := ⟨_, _, fun_mk (st := s_law) l37 c37 k37, PySem.W.mg_of X G a37⟩
  have ncScT := ne_sub scScS scScT
  have ncScB := ne_sub scScS scScB
  have ncScF := ne_sub scScS scScF
  have ncScR := ne_sub scScS scScR
  have ncTcS := ne_sub scTcT scTcS
  have ncTcB := ne_sub scTcT scTcB
  have ncTcF := ne_sub scTcT scTcF
  have ncTcR := ne_sub scTcT scTcR
  have ncBcS := ne_sub scBcB scBcS
  have ncBcT := ne_sub scBcB scBcT
  have ncBcF := ne_sub scBcB scBcF
  have ncBcR := ne_sub scBcB scBcR
  have ncFcS := ne_sub scFcF scFcS
  have ncFcT := ne_sub scFcF scFcT
  have ncFcB := ne_sub scFcF scFcB
  have ncFcR := ne_sub scFcF scFcR
  have ncRcS := ne_sub scRcR scRcS
  have ncRcT := ne_sub scRcR scRcT
  have ncRcB := ne_sub scRcR scRcB
  have ncRcF := ne_sub scRcR scRcF
  have R : RmT6 K mg C cB cR cT cS cF cE := by
    refine ⟨⟨⟨pg, hd, po, sa⟩, nR, nU, PySem.W.mg_of X G aC, ⟨PySem.W.mg_of X G gcB, xcB, kcB, bcB, tcB, exm_me bcB icB tcB scBcB⟩, ⟨PySem.W.mg_of X G gcR, xcR, kcR, bcR, tcR, exm_me bcR icR tcR scRcR⟩⟩, ⟨PySem.W.mg_of X G gcT, xcT, kcT, bcT, tcT, exm_me bcT icT tcT scTcT⟩, ⟨PySem.W.mg_of X G gcS, xcS, kcS, bcS, tcS, exm_me bcS icS tcS scScS⟩, ⟨PySem.W.mg_of X G gcF, xcF, kcF, bcF, tcF, exm_me bcF icF tcF scFcF⟩, ⟨PySem.W.mg_of X G gcE⟩, ?own, ?kit, ?slide, ?val, ?exm, ?nd⟩
    case own =>
      intro D hD
      simp only [Five, List.mem_cons, List.not_mem_nil, or_false] at hD
      rcases hD with e | e | e | e | e
      · rw [e]; exact ⟨ucS, vcS, bcS, dcS, wcS, ogC, otC, mcS⟩
      · rw [e]; exact ⟨ucT, vcT, bcT, dcT, wcT, ogC, otC, mcT⟩
      · rw [e]; exact ⟨ucB, vcB, bcB, dcB, wcB, ogC, otC, mcB⟩
      · rw [e]; exact ⟨ucF, vcF, bcF, dcF, wcF, ogC, otC, mcF⟩
      · rw [e]; exact ⟨ucR, vcR, bcR, dcR, wcR, ogC, otC, mcR⟩
    case kit =>
      intro D hD C' hC
      simp only [Five, List.mem_cons, List.not_mem_nil, or_false] at hD hC
      rcases hD with e | e | e | e | e <;> rcases hC with e2 | e2 | e2 | e2 | e2 <;> rw [e, e2]
      · rw [decide_eq_true rfl]; exact kit_own icS tcS scScS (fun q => rfl)
      · rw [decide_eq_false ncScT]; exact kit_own icT tcT scScT (fun q => absurd q ncScT)
      · rw [decide_eq_false ncScB]; exact kit_own icB tcB scScB (fun q => absurd q ncScB)
      · rw [decide_eq_false ncScF]; exact kit_own icF tcF scScF (fun q => absurd q ncScF)
      · rw [decide_eq_false ncScR]; exact kit_own icR tcR scScR (fun q => absurd q ncScR)
      · rw [decide_eq_false ncTcS]; exact kit_own icS tcS scTcS (fun q => absurd q ncTcS)
      · rw [decide_eq_true rfl]; exact kit_own icT tcT scTcT (fun q => rfl)
      · rw [decide_eq_false ncTcB]; exact kit_own icB tcB scTcB (fun q => absurd q ncTcB)
      · rw [decide_eq_false ncTcF]; exact kit_own icF tcF scTcF (fun q => absurd q ncTcF)
      · rw [decide_eq_false ncTcR]; exact kit_own icR tcR scTcR (fun q => absurd q ncTcR)
      · rw [decide_eq_false ncBcS]; exact kit_own icS tcS scBcS (fun q => absurd q ncBcS)
      · rw [decide_eq_false ncBcT]; exact kit_own icT tcT scBcT (fun q => absurd q ncBcT)
      · rw [decide_eq_true rfl]; exact kit_own icB tcB scBcB (fun q => rfl)
      · rw [decide_eq_false ncBcF]; exact kit_own icF tcF scBcF (fun q => absurd q ncBcF)
      · rw [decide_eq_false ncBcR]; exact kit_own icR tcR scBcR (fun q => absurd q ncBcR)
      · rw [decide_eq_false ncFcS]; exact kit_own icS tcS scFcS (fun q => absurd q ncFcS)
      · rw [decide_eq_false ncFcT]; exact kit_own icT tcT scFcT (fun q => absurd q ncFcT)
      · rw [decide_eq_false ncFcB]; exact kit_own icB tcB scFcB (fun q => absurd q ncFcB)
      · rw [decide_eq_true rfl]; exact kit_own icF tcF scFcF (fun q => rfl)
      · rw [decide_eq_false ncFcR]; exact kit_own icR tcR scFcR (fun q => absurd q ncFcR)
      · rw [decide_eq_false ncRcS]; exact kit_own icS tcS scRcS (fun q => absurd q ncRcS)
      · rw [decide_eq_false ncRcT]; exact kit_own icT tcT scRcT (fun q => absurd q ncRcT)
      · rw [decide_eq_false ncRcB]; exact kit_own icB tcB scRcB (fun q => absurd q ncRcB)
      · rw [decide_eq_false ncRcF]; exact kit_own icF tcF scRcF (fun q => absurd q ncRcF)
      · rw [decide_eq_true rfl]; exact kit_own icR tcR scRcR (fun q => rfl)
    case slide =>
      intro D hD
      simp only [Five, List.mem_cons, List.not_mem_nil, or_false] at hD
      rcases hD with e | e | e | e | e
      · rw [e]; exact kit_own icE tcE scScE (fun _ => rfl)
      · rw [e]; exact kit_own icE tcE scTcE (fun _ => rfl)
      · rw [e]; exact kit_own icE tcE scBcE (fun _ => rfl)
      · rw [e]; exact kit_own icE tcE scFcE (fun _ => rfl)
      · rw [e]; exact kit_own icE tcE scRcE (fun _ => rfl)
    case val =>
      intro D hD
      simp only [Five, List.mem_cons, List.not_mem_nil, or_false] at hD
      rcases hD with e | e | e | e | e
      · rw [e]; exact kit_val ycS
      · rw [e]; exact kit_val ycT
      · rw [e]; exact kit_val ycB
      · rw [e]; exact kit_val ycF
      · rw [e]; exact kit_val ycR
    case exm =>
      intro D hD C' hC
      simp only [Five, List.mem_cons, List.not_mem_nil, or_false] at hD hC
      rcases hD with e | e | e | e | e <;> rcases hC with e2 | e2 | e2 | e2 | e2 <;> rw [e, e2]
      · rw [decide_eq_true rfl]; exact PySem.W.exm_ref bcS dcS tcS scScS
      · rw [decide_eq_false ncScT]; exact PySem.W.exm_ref bcT dcT tcT scScT
      · rw [decide_eq_false ncScB]; exact PySem.W.exm_ref bcB dcB tcB scScB
      · rw [decide_eq_false ncScF]; exact PySem.W.exm_ref bcF dcF tcF scScF
      · rw [decide_eq_false ncScR]; exact PySem.W.exm_ref bcR dcR tcR scScR
      · rw [decide_eq_false ncTcS]; exact PySem.W.exm_ref bcS dcS tcS scTcS
      · rw [decide_eq_true rfl]; exact PySem.W.exm_ref bcT dcT tcT scTcT
      · rw [decide_eq_false ncTcB]; exact PySem.W.exm_ref bcB dcB tcB scTcB
      · rw [decide_eq_false ncTcF]; exact PySem.W.exm_ref bcF dcF tcF scTcF
      · rw [decide_eq_false ncTcR]; exact PySem.W.exm_ref bcR dcR tcR scTcR
      · rw [decide_eq_false ncBcS]; exact PySem.W.exm_ref bcS dcS tcS scBcS
      · rw [decide_eq_false ncBcT]; exact PySem.W.exm_ref bcT dcT tcT scBcT
      · rw [decide_eq_true rfl]; exact PySem.W.exm_ref bcB dcB tcB scBcB
      · rw [decide_eq_false ncBcF]; exact PySem.W.exm_ref bcF dcF tcF scBcF
      · rw [decide_eq_false ncBcR]; exact PySem.W.exm_ref bcR dcR tcR scBcR
      · rw [decide_eq_false ncFcS]; exact PySem.W.exm_ref bcS dcS tcS scFcS
      · rw [decide_eq_false ncFcT]; exact PySem.W.exm_ref bcT dcT tcT scFcT
      · rw [decide_eq_false ncFcB]; exact PySem.W.exm_ref bcB dcB tcB scFcB
      · rw [decide_eq_true rfl]; exact PySem.W.exm_ref bcF dcF tcF scFcF
      · rw [decide_eq_false ncFcR]; exact PySem.W.exm_ref bcR dcR tcR scFcR
      · rw [decide_eq_false ncRcS]; exact PySem.W.exm_ref bcS dcS tcS scRcS
      · rw [decide_eq_false ncRcT]; exact PySem.W.exm_ref bcT dcT tcT scRcT
      · rw [decide_eq_false ncRcB]; exact PySem.W.exm_ref bcB dcB tcB scRcB
      · rw [decide_eq_false ncRcF]; exact PySem.W.exm_ref bcF dcF tcF scRcF
      · rw [decide_eq_true rfl]; exact PySem.W.exm_ref bcR dcR tcR scRcR
    case nd =>
      simp only [Five, List.nodup_cons, List.mem_cons, List.not_mem_nil, or_false, not_or, List.nodup_nil, and_true, not_false_eq_true]
      exact ⟨⟨ncScT, ncScB, ncScF, ncScR⟩, ⟨ncTcB, ncTcF, ncTcR⟩, ⟨ncBcF, ncBcR⟩, ncFcR⟩
  exact ok_law (fun_mk (st := s_law) l37 c37 k37) T R ⟨d_number_word, d_link_word, d_head_word, d_is_link, d_told_by, d_fields_of, d_heads, d_field_words, d_is_whole, d_is_thing, d_words_of, d_thing_of, d_Room___init, d_Room_made, d_Room_put, d_Room_told, d_Room_places, d_Room_used, d_Room_cells, d_Room__require_box, d_law_at, d_law_is_int, d_law_words_are, d_law_class, d_law_number, d_law_sized, d_law_new, d_law_things, d_law_word, d_law_made_due, d_law_put_due, d_law_called, d_law_behind, d_law_sizes_right, d_law_sound, d_law_drawn_place, d_law_drawn_field⟩ e0 hS hl
end Tw
open PySem PySem.W PyProof.Rows in
set_option maxRecDepth 100000 in
set_option maxHeartbeats 0 in
theorem PySem.Challenge.cw_threadslide_k06_what_is_refused_holds : PySem.Challenge.rw_threadslide_k06_what_is_refused.Holds := by
  w_on; o_law; k_head; (case hw => w_witness2)
  k_fill
  refine Tw.walk_top (l := PySem.Challenge.rw_threadslide_k06_what_is_refused) (n := 63) rfl (by decide) rfl (fun w h Y => PySem.W.kIn_of Y) ?F
  case F =>
    intro w mg fa h KX G hmg base s H a ns e0 hS hl _
    refine' Tw.all_mk KX G hmg ?aC ?a0 ?l0 ?c0 ?k0 ?a1 ?l1 ?c1 ?k1 ?a2 ?l2 ?c2 ?k2 ?a3 ?l3 ?c3 ?k3 ?a4 ?l4 ?c4 ?k4 ?a5 ?l5 ?c5 ?k5 ?a6 ?l6 ?c6 ?k6 ?a7 ?l7 ?c7 ?k7 ?a8 ?l8 ?c8 ?k8 ?a9 ?l9 ?c9 ?k9 ?a10 ?l10 ?c10 ?k10 ?a11 ?l11 ?c11 ?k11 ?a12 ?i12 ?l12 ?c12 ?k12 ?a13 ?i13 ?l13 ?c13 ?k13 ?a14 ?i14 ?l14 ?c14 ?k14 ?a15 ?i15 ?l15 ?c15 ?k15 ?a16 ?i16 ?l16 ?c16 ?k16 ?a17 ?i17 ?l17 ?c17 ?k17 ?a18 ?i18 ?l18 ?c18 ?k18 ?a19 ?i19 ?l19 ?c19 ?k19 ?a20 ?l20 ?c20 ?k20 ?a21 ?l21 ?c21 ?k21 ?a22 ?l22 ?c22 ?k22 ?a23 ?l23 ?c23 ?k23 ?a24 ?l24 ?c24 ?k24 ?a25 ?l25 ?c25 ?k25 ?a26 ?l26 ?c26 ?k26 ?a27 ?l27 ?c27 ?k27 ?a28 ?l28 ?c28 ?k28 ?a29 ?l29 ?c29 ?k29 ?a30 ?l30 ?c30 ?k30 ?a31 ?l31 ?c31 ?k31 ?a32 ?l32 ?c32 ?k32 ?a33 ?l33 ?c33 ?k33 ?a34 ?l34 ?c34 ?k34 ?a35 ?l35 ?c35 ?k35 ?a36 ?l36 ?c36 ?k36 ?a37 ?l37 ?c37 ?k37 ?pg ?hd ?po ?sa ?mk ?kc ?nR ?nU ?gcB ?xcB ?kcB ?bcB ?tcB ?icB ?ucB ?vcB ?dcB ?wcB ?mcB ?ycB ?gcR ?xcR ?kcR ?bcR ?tcR ?icR ?ucR ?vcR ?dcR ?wcR ?mcR ?ycR ?gcT ?xcT ?kcT ?bcT ?tcT ?icT ?ucT ?vcT ?dcT ?wcT ?mcT ?ycT ?gcS ?xcS ?kcS ?bcS ?tcS ?icS ?ucS ?vcS ?dcS ?wcS ?mcS ?ycS ?gcF ?xcF ?kcF ?bcF ?tcF ?icF ?ucF ?vcF ?dcF ?wcF ?mcF ?ycF ?gcE ?icE ?tcE ?scScE ?scTcE ?scBcE ?scFcE ?scRcE ?scScS ?scScT ?scScB ?scScF ?scScR ?scTcS ?scTcT ?scTcB ?scTcF ?scTcR ?scBcS ?scBcT ?scBcB ?scBcF ?scBcR ?scFcS ?scFcT ?scFcB ?scFcF ?scFcR ?scRcS ?scRcT ?scRcB ?scRcF ?scRcR ?ogC ?otC ?q_MOST_CELLS ?q_MOST_DOORS ?q_TOO_LONG ?z_ValueError ?z_abs ?z_bool ?z_int ?z_isinstance ?z_len ?z_list ?z_max ?z_range ?z_repr ?z_str ?z_tuple base s H a ns e0 hS hl
    (case aC => k_is)
    (case a0 => k_is)
    (case l0 => k_is)
    (case c0 => k_is)
    (case k0 => k_is)
    (case a1 => k_is)
    (case l1 => k_is)
    (case c1 => k_is)
    (case k1 => k_is)
    (case a2 => k_is)
    (case l2 => k_is)
    (case c2 => k_is)
    (case k2 => k_is)
    (case a3 => k_is)
    (case l3 => k_is)
    (case c3 => k_is)
    (case k3 => k_is)
    (case a4 => k_is)
    (case l4 => k_is)
    (case c4 => k_is)
    (case k4 => k_is)
    (case a5 => k_is)
    (case l5 => k_is)
    (case c5 => k_is)
    (case k5 => k_is)
    (case a6 => k_is)
    (case l6 => k_is)
    (case c6 => k_is)
    (case k6 => k_is)
    (case a7 => k_is)
    (case l7 => k_is)
    (case c7 => k_is)
    (case k7 => k_is)
    (case a8 => k_is)
    (case l8 => k_is)
    (case c8 => k_is)
    (case k8 => k_is)
    (case a9 => k_is)
    (case l9 => k_is)
    (case c9 => k_is)
    (case k9 => k_is)
    (case a10 => k_is)
    (case l10 => k_is)
    (case c10 => k_is)
    (case k10 => k_is)
    (case a11 => k_is)
    (case l11 => k_is)
    (case c11 => k_is)
    (case k11 => k_is)
    (case a12 => k_is)
    (case i12 => k_is)
    (case l12 => k_is)
    (case c12 => k_is)
    (case k12 => k_is)
    (case a13 => k_is)
    (case i13 => k_is)
    (case l13 => k_is)
    (case c13 => k_is)
    (case k13 => k_is)
    (case a14 => k_is)
    (case i14 => k_is)
    (case l14 => k_is)
    (case c14 => k_is)
    (case k14 => k_is)
    (case a15 => k_is)
    (case i15 => k_is)
    (case l15 => k_is)
    (case c15 => k_is)
    (case k15 => k_is)
    (case a16 => k_is)
    (case i16 => k_is)
    (case l16 => k_is)
    (case c16 => k_is)
    (case k16 => k_is)
    (case a17 => k_is)
    (case i17 => k_is)
    (case l17 => k_is)
    (case c17 => k_is)
    (case k17 => k_is)
    (case a18 => k_is)
    (case i18 => k_is)
    (case l18 => k_is)
    (case c18 => k_is)
    (case k18 => k_is)
    (case a19 => k_is)
    (case i19 => k_is)
    (case l19 => k_is)
    (case c19 => k_is)
    (case k19 => k_is)
    (case a20 => k_is)
    (case l20 => k_is)
    (case c20 => k_is)
    (case k20 => k_is)
    (case a21 => k_is)
    (case l21 => k_is)
    (case c21 => k_is)
    (case k21 => k_is)
    (case a22 => k_is)
    (case l22 => k_is)
    (case c22 => k_is)
    (case k22 => k_is)
    (case a23 => k_is)
    (case l23 => k_is)
    (case c23 => k_is)
    (case k23 => k_is)
    (case a24 => k_is)
    (case l24 => k_is)
    (case c24 => k_is)
    (case k24 => k_is)
    (case a25 => k_is)
    (case l25 => k_is)
    (case c25 => k_is)
    (case k25 => k_is)
    (case a26 => k_is)
    (case l26 => k_is)
    (case c26 => k_is)
    (case k26 => k_is)
    (case a27 => k_is)
    (case l27 => k_is)
    (case c27 => k_is)
    (case k27 => k_is)
    (case a28 => k_is)
    (case l28 => k_is)
    (case c28 => k_is)
    (case k28 => k_is)
    (case a29 => k_is)
    (case l29 => k_is)
    (case c29 => k_is)
    (case k29 => k_is)
    (case a30 => k_is)
    (case l30 => k_is)
    (case c30 => k_is)
    (case k30 => k_is)
    (case a31 => k_is)
    (case l31 => k_is)
    (case c31 => k_is)
    (case k31 => k_is)
    (case a32 => k_is)
    (case l32 => k_is)
    (case c32 => k_is)
    (case k32 => k_is)
    (case a33 => k_is)
    (case l33 => k_is)
    (case c33 => k_is)
    (case k33 => k_is)
    (case a34 => k_is)
    (case l34 => k_is)
    (case c34 => k_is)
    (case k34 => k_is)
    (case a35 => k_is)
    (case l35 => k_is)
    (case c35 => k_is)
    (case k35 => k_is)
    (case a36 => k_is)
    (case l36 => k_is)
    (case c36 => k_is)
    (case k36 => k_is)
    (case a37 => k_is)
    (case l37 => k_is)
    (case c37 => k_is)
    (case k37 => k_is)
    (case pg => k_is)
    (case hd => k_is)
    (case po => k_is)
    (case sa => k_is)
    (case mk => k_is)
    (case kc => k_is)
    (case nR => k_is)
    (case nU => k_is)
    (case gcB => k_is)
    (case xcB => k_exc)
    (case kcB => k_is)
    (case bcB => k_is)
    (case tcB => k_is)
    (case icB => k_is)
    (case ucB => k_is)
    (case vcB => k_is)
    (case dcB => k_is)
    (case wcB => k_is)
    (case mcB => k_is)
    (case ycB => k_is)
    (case gcR => k_is)
    (case xcR => k_exc)
    (case kcR => k_is)
    (case bcR => k_is)
    (case tcR => k_is)
    (case icR => k_is)
    (case ucR => k_is)
    (case vcR => k_is)
    (case dcR => k_is)
    (case wcR => k_is)
    (case mcR => k_is)
    (case ycR => k_is)
    (case gcT => k_is)
    (case xcT => k_exc)
    (case kcT => k_is)
    (case bcT => k_is)
    (case tcT => k_is)
    (case icT => k_is)
    (case ucT => k_is)
    (case vcT => k_is)
    (case dcT => k_is)
    (case wcT => k_is)
    (case mcT => k_is)
    (case ycT => k_is)
    (case gcS => k_is)
    (case xcS => k_exc)
    (case kcS => k_is)
    (case bcS => k_is)
    (case tcS => k_is)
    (case icS => k_is)
    (case ucS => k_is)
    (case vcS => k_is)
    (case dcS => k_is)
    (case wcS => k_is)
    (case mcS => k_is)
    (case ycS => k_is)
    (case gcF => k_is)
    (case xcF => k_exc)
    (case kcF => k_is)
    (case bcF => k_is)
    (case tcF => k_is)
    (case icF => k_is)
    (case ucF => k_is)
    (case vcF => k_is)
    (case dcF => k_is)
    (case wcF => k_is)
    (case mcF => k_is)
    (case ycF => k_is)
    (case gcE => k_is)
    (case icE => k_is)
    (case tcE => k_is)
    (case scScE => first | rfl | k_is)
    (case scTcE => first | rfl | k_is)
    (case scBcE => first | rfl | k_is)
    (case scFcE => first | rfl | k_is)
    (case scRcE => first | rfl | k_is)
    (case scScS => first | rfl | k_is)
    (case scScT => first | rfl | k_is)
    (case scScB => first | rfl | k_is)
    (case scScF => first | rfl | k_is)
    (case scScR => first | rfl | k_is)
    (case scTcS => first | rfl | k_is)
    (case scTcT => first | rfl | k_is)
    (case scTcB => first | rfl | k_is)
    (case scTcF => first | rfl | k_is)
    (case scTcR => first | rfl | k_is)
    (case scBcS => first | rfl | k_is)
    (case scBcT => first | rfl | k_is)
    (case scBcB => first | rfl | k_is)
    (case scBcF => first | rfl | k_is)
    (case scBcR => first | rfl | k_is)
    (case scFcS => first | rfl | k_is)
    (case scFcT => first | rfl | k_is)
    (case scFcB => first | rfl | k_is)
    (case scFcF => first | rfl | k_is)
    (case scFcR => first | rfl | k_is)
    (case scRcS => first | rfl | k_is)
    (case scRcT => first | rfl | k_is)
    (case scRcB => first | rfl | k_is)
    (case scRcF => first | rfl | k_is)
    (case scRcR => first | rfl | k_is)
    (case ogC => k_is)
    (case otC => k_is)
    (case q_MOST_CELLS => k_is)
    (case q_MOST_DOORS => k_is)
    (case q_TOO_LONG => k_is)
    (case z_ValueError => k_is)
    (case z_abs => k_is)
    (case z_bool => k_is)
    (case z_int => k_is)
    (case z_isinstance => k_is)
    (case z_len => k_is)
    (case z_list => k_is)
    (case z_max => k_is)
    (case z_range => k_is)
    (case z_repr => k_is)
    (case z_str => k_is)
    (case z_tuple => k_is)
