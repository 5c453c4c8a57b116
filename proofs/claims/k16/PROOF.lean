import PyProof.Rows.All
import Wide.All
import OpenK.AllK
import Wide.FinOn
import HandS.ForMost
import HandS.ForExc
import HandS.TupAny
import HandS.IsInst
import HandS.Wide
import HandS.Walk
import KE.GoesEnum
import HandS.SortRule
import HandS.SetFor
import HandS.RaiseMore
import HandS.FStr
import HandS.Deep
import HandS.Small
import HandS.ExcIs
import HandS.EndTab
import KE.DataEq
import HandS.WordsExc
import KE.DataMinMax
import KE.SortData
import HandS.ExcInit
import HandS.ExcField
import HandS.ClsMeth
import HandS.Defaults
import KE.KAssignIn
import PyProof.TupleOfSeq
import HandS.ExcValue
import HandS.Text
import HandS.TupLe
import HandS.TryOnly
import PySem.Challenge.RW_cachebet_k16_caches_apart
import KE.KDflt
import HandS.Lambda
import HandS.Nested
import HandS.Comp
import KE.KNestM
set_option Elab.async false
set_option linter.all false
set_option maxRecDepth 100000
set_option maxHeartbeats 4000000
namespace CBX
open PySem
open AutoSeq1 (wpAny_loadPart')
theorem meets_enumerate_newT (l : Addr) (items : Array Value) :
    Meets (Builtin.«enumerate.__new__» ⟨[.type "enumerate", .ref l], []⟩) (fun _ R s => s.heap.IsTuple l items ∧
      R (.ok (.ret (.ref (s.heap.push { cls := .type "tuple_iterator", data := .fields #[.ref l, .int 0 0] }).objs.size)))
        { s with heap := (s.heap.push { cls := .type "tuple_iterator", data := .fields #[.ref l, .int 0 0] }).push { cls := .type "enumerate", data := .fields #[.none, .bool false, .ref s.heap.objs.size, rawInt 0, .none, .none] } }) :=
  .of_wp fun prog w A R s h => by
    obtain ⟨hp, g, d, tk, os⟩ := s; obtain ⟨hL, h⟩ := h
    have hsub := sub_enumerate
    obtain ⟨⟨c, dct, dt, sl⟩, hl, hc, n, hd⟩ := id hL
    replace hc : c = .type "tuple" := hc
    replace hd : dt = .seq items n := hd
    subst hc hd
    wp_walk using wpAny_loadPart' hl
    refine wpAny_stack_any fun st => wpAny_pure ?_
    split
    · rename_i c _ _ _ _ _
      cases (c == Value.type "enumerate")
      · wp_walk using wpAny_loadPart' hl, wpAny_pyIter_tuple hL
        exact ⟨_, rfl, h⟩
      · wp_walk using wpAny_loadPart' hl, wpAny_pyIter_tuple hL
        exact ⟨_, rfl, h⟩
    · wp_walk using wpAny_loadPart' hl, wpAny_pyIter_tuple hL
      exact ⟨_, rfl, h⟩
section
variable {prog : Program} {w : World} {A : Around} {E : Value → Shared → Prop} {s : Shared}
theorem call_enumerate_tuple {l : Addr} {items : Array Value} {Q : Value → Shared → Prop} (hL : s.heap.IsTuple l items)
    (h : ∀ h', IsEnum h' (s.heap.objs.size + 1) s.heap.objs.size 0 .none → h'.IsTupleIter s.heap.objs.size l 0 → h'.objs.size = s.heap.objs.size + 2 →
      (∀ b o, s.heap.get? b = some o → h'.get? b = some o) → Q (.ref (s.heap.objs.size + 1)) { s with heap := h' }) :
    wpAny (model prog w) A (call (.type "enumerate") [.ref l]) Q E s := by
  refine callType_new F.called_enumerate (by decide) (F.typeCall_enumerate_1 _) (F.newCall_enumerate_1 _) (fun obj => F.args_object_init_2 obj _) F.entry_enumerate_new
    (meets_enumerate_newT l items) ⟨hL, ?_⟩
  have hz : (s.heap.push { cls := .type "tuple_iterator", data := .fields #[.ref l, .int 0 0] }).objs.size = s.heap.objs.size + 1 := Heap.size_push ..
  show _ ∧ _
  rw [hz]
  have he : IsEnum ((s.heap.push { cls := .type "tuple_iterator", data := .fields #[.ref l, .int 0 0] }).push
      { cls := .type "enumerate", data := .fields #[.none, .bool false, .ref s.heap.objs.size, rawInt 0, .none, .none] }) (s.heap.objs.size + 1) s.heap.objs.size 0 .none := by
    have := Heap.get?_push_size (s.heap.push { cls := .type "tuple_iterator", data := .fields #[.ref l, .int 0 0] })
      (o := { cls := .type "enumerate", data := .fields #[.none, .bool false, .ref s.heap.objs.size, rawInt 0, .none, .none] }) rfl
    rw [hz] at this; exact this
  refine ⟨⟨_, he, rfl⟩, h _ he ⟨_, Heap.get?_push_of_some _ (Heap.get?_push_size _ rfl), rfl, rfl⟩ (by rw [Heap.size_push, hz]) fun b o x => Heap.get?_push_of_some _ (Heap.get?_push_of_some _ x)⟩
end
end CBX

namespace L2
open PySem PySem.Spec PyProof.Rows CBX
/-- the tuple at a, each item in a new pair -/
def IteT (K : PySem.W.Frag) (a : Addr) : It :=
  ⟨fun i H => ∃ (xs : List V) (x : V), SqT K H a xs ∧ xs[i]? = some x, fun i H v H' => ∃ T x, v = .ref T ∧ H T = none ∧ H' = upd H T (.tup [.int (i : Nat), x]) ∧ ∀ xs, SqT K H a xs → xs[i]? = some x, fun i H => ∃ xs : List V, SqT K H a xs ∧ xs.length ≤ i⟩
theorem turn_enumT {P : Program} {w : World} {K : PySem.W.Frag} {elts : List Expr} {kk : Nat} {tpos : Pos} (a e it : Addr) (hae : a ≠ e) (hai : a ≠ it) :
    Turn P w K (.Tuple elts kk tpos) (IteT K a) [e, it] e (fun i h => (∃ old, IsEnum h e it ((i : Nat) : Int) old) ∧ h.IsTupleIter it a i ∧ e ≠ it) where
  mem := by simp
  obj := fun i h st b hb => by
    obtain ⟨⟨old, he⟩, ⟨o, ho, hc, hd⟩, _⟩ := st
    have e' : b = e ∨ b = it := by simpa using hb
    rcases e' with z | z
    · rw [z]; exact ⟨_, he, fun v q => nomatch q⟩
    · rw [z]; exact ⟨o, ho, fun v q => by rw [hd] at q; cases q⟩
  keep := fun i h h' st k => let ⟨⟨old, he⟩, hi, hne⟩ := st; ⟨⟨old, k e (by simp) _ he⟩, hi.at fun o q => k it (by simp) o q, hne⟩
  item := by
    intro X hP hw hK hc i pins s σ H E I hf st hg
    subst hP hw hK
    obtain ⟨⟨old, he⟩, hit, hne⟩ := st
    obtain ⟨xs, x, hq, hx⟩ := hg
    obtain ⟨its, rv, p, hz⟩ := I.tuple hq
    obtain ⟨u, hu, ru⟩ := rv.get hx
    have hel : e < s.heap.objs.size := Heap.lt_size he
    have hil : it < s.heap.objs.size := by obtain ⟨_, q, _⟩ := hit; exact Heap.lt_size q
    have hlen : i < its.toArray.size := by
      have := (List.getElem?_eq_some_iff.mp hu).1
      simpa using this
    refine wpAny_pyNext_enum_itemD (Draws.tuple (show X.A.in1.handled = none from I.ok.hd hc) it a hai its.toArray) he ⟨hit, p⟩ hlen hne (by simp; exact ⟨hne, Ne.symm hae⟩) fun y h' tk hy ho hit' hT hsz hk => ?_
    have hyu : y = u := by
      have q : its.toArray[i]? = some u := by simpa using hu
      rw [q] at hy
      exact (Option.some.inj hy).symm
    subst hyu
    refine ⟨_, rfl, wpAny_letOwnedTupleGo_enum (s := { s with heap := h', toks := tk + 1 }) ho fun h'' he' sb => ?_⟩
    have hT2 : h''.get? s.heap.objs.size = some { cls := .type "tuple", data := .seq #[.int i tk, y] } := (sb.2 _ (Nat.ne_of_gt hel)).trans hT
    have new : ObjOk X.prog X.w (upd H s.heap.objs.size (.tup [.int (i : Nat), x])) h'' s.heap.objs.size (.tup [.int (i : Nat), x]) :=
      ⟨by show 2 ≤ sizeLine; decide, [.int i tk, y], .cons ⟨_, rfl⟩ (.cons ru .nil), ⟨_, hT2, rfl, _, rfl⟩⟩
    have I1 : Inv X pins σ (upd H s.heap.objs.size (.tup [.int (i : Nat), x])) { s with heap := h'', toks := tk + 1 } :=
      I.turnedNew (ch := [e, it]) (fun b ob hb q => (sb.2 b (fun z => hb (by simp [z]))).trans (hk b ob (fun z => hb (by simp [z])) (fun z => hb (by simp [z])) q)) hf (Nat.le_refl _) new
    refine ⟨.ref s.heap.objs.size, _, I1, rfl, ⟨_, x, rfl, I.hok.fresh (Nat.le_refl _), rfl, fun ys hy => by rw [I.tuple_inj hy hq]; exact hx⟩, ⟨⟨y, ?_⟩, hit'.1.at fun o q => (sb.2 it (Ne.symm hne)).trans q, hne⟩, fun b hb => ?_⟩
    · have e1 : ((i + 1 : Nat) : Int) = (i : Int) + 1 := by omega
      rw [e1]; exact he'
    · have hb' : b < s.heap.objs.size := by
        have e' : b = e ∨ b = it := by simpa using hb
        rcases e' with z | z
        · rw [z]; exact hel
        · rw [z]; exact hil
      rw [upd_ne (Nat.ne_of_lt hb')]
      exact (hf b hb).1
  done := by
    intro X hP hw hK hc i pins s σ H E I hf st hg
    subst hP hw hK
    obtain ⟨⟨old, he⟩, hit, hne⟩ := st
    obtain ⟨xs, hq, hx⟩ := hg
    obtain ⟨its, rv, p, hz⟩ := I.tuple hq
    obtain ⟨f0, f1, f2, f3, f4, f5⟩ := hf it (by simp)
    have hl := rv.length
    have hT : s.TypeIs (.ref e) "enumerate" := ⟨_, he, rfl⟩
    unfold pyNext
    refine wpAny_bind (wpAny_attempt (wpAny_callSpecial?_slot (name := Str.ofString "__next__") hT F.slot_enumerate_next
      (wpAny_call_entry F.slot_enumerate_next hT F.entry_enumerate_next ?_ (F.args_enumerate_next_1 _))))
    show wpAny _ _ (field (.ref e) 2 >>= _) _ _ _
    refine wpAny_bind (wpAny_field he rfl (x := .ref it) rfl ?_)
    refine wpAny_bind (wpAny_nextOf_tuple_end (show X.A.in1.handled = none from I.ok.hd hc) hit p (by simp; omega) fun h' x eb hx' => ?_)
    obtain ⟨o, ho, hcl⟩ := hx'
    refine wpAny_bind (wpAny_isInstance (T := "StopIteration") (b := true) ⟨o, ho, hcl⟩ isSubtype_stop ?_)
    exact wpAny_pure ⟨rfl, I.turned (t' := s.toks) (fun b o hb q => eb b o hb q) f0 f1 f3 f4 f5⟩
  self := fun A i s Q E st h => let ⟨⟨_, he⟩, _⟩ := st; wpAny_pyIter_enum he h
def iEnumT (K : PySem.W.Frag) (ta : TA) : TI := fun σ H R => ta σ H fun vs H1 => ∃ a xs, vs = [.ref a] ∧ SqT K H1 a xs ∧ R (IteT K a) H1
theorem pi_enumT {X : Cx} {e : Expr} {ta : TA} {p pos tpos : Pos} {elts : List Expr} {kk : Nat} (hg : Gl X "enumerate") (hm : X.mg "enumerate" = none) (ha : PA X [e] ta) (hs : starEach [e] X.env = [(false, eval e X.env)] := by rfl) :
    PI X (.Tuple elts kk tpos) (.Call (.Name "enumerate" p) [e] [] pos) (iEnumT X.K ta) := by
  refine ⟨fun pins s σ H R I h => ?_⟩
  refine Call_ (ld_blt I hg hm boot_enumerate (PyProof.Rows.callWith_type1 (thn (ha.run pos pins s σ H _ I h) fun us s1 ⟨vs, H1, I1, r1, q1⟩ => ?_) hs rfl))
  obtain ⟨a, xs, ex, hq, q⟩ := q1
  subst ex
  cases r1 with
  | cons r rr =>
    cases rr
    cases r
    obtain ⟨its, rv, p', hz⟩ := I1.tuple hq
    have hal : a < s1.heap.objs.size := p'.lt
    refine call_enumerate_tuple (show s1.heap.IsTuple a its.toArray from p') fun h' he hit hsz hk => wpAny_pyIter_enum he ?_
    have I2 : Inv X pins σ H1 { s1 with heap := h' } := I1.kept (t' := s1.toks) hk
    refine ⟨s1.heap.objs.size + 1, [s1.heap.objs.size + 1, s1.heap.objs.size], _, _, H1, rfl, I2, turn_enumT a (s1.heap.objs.size + 1) s1.heap.objs.size (Nat.ne_of_lt (Nat.lt_succ_of_lt hal)) (Nat.ne_of_lt hal), ⟨⟨.none, he⟩, hit, Nat.succ_ne_self _⟩, fun b hb => ?_, q⟩
    have e' : b = s1.heap.objs.size + 1 ∨ b = s1.heap.objs.size := by simpa using hb
    have hle : s1.heap.objs.size ≤ b := by
      rcases e' with z | z
      · rw [z]; exact Nat.le_add_right _ _
      · rw [z]; exact Nat.le_refl _
    exact I1.fpOk hle (I1.hok.fresh hle)
theorem walk_enumT {K : PySem.W.Frag} {a : Addr} {xs : List V} : Walk (IteT K a) xs.length (fun H => SqT K H a xs) (YPair (fun i => some (.int (i : Nat))) (fun i => xs[i]?)) := by
  refine ⟨fun i _ hi q => ⟨xs, xs[i], q, by simp [hi]⟩, fun _ q => ⟨xs, q, Nat.le_refl _⟩, fun i H v H' _ q y => ?_⟩
  obtain ⟨T, x, h1, h2, h3, h4⟩ := y
  exact ⟨T, .int (i : Nat), x, h1, h2, h3, rfl, h4 xs q⟩

/-! ### a def of the module, as its callers know it -/
structure Cal (P : Program) (w : World) (K : PySem.W.Frag) (mg : Str → Option Value) (base : Heap) (CX : CXT) (k : Nat) (x : Str) (ps : List Str) (sp : Sp) : Prop where
  ex : ∃ (f : Addr) (fd : FuncData), mg x = some (.ref f) ∧ PySem.W.keepIn K (.ref f) = true ∧ Binds K fd ps [] ∧ FnOk P w K mg base CX k f fd ps sp
theorem pe_cal {X : Cx} {CX : CXT} {k j : Nat} {x : Str} {ps : List Str} {sp : Sp} {E : XK} {p pos : Pos} {e : Expr} {es : List Expr} {t : TA} (C : Cal X.prog X.w X.K X.mg X.base CX k x ps sp) (hr : Room j X.A) (hj : k ≤ j) (hg : Gl X x) (hx : Passes CX X E)
    (ha : PA X (e :: es) t) (hdb : (x == ("__debug__" : Str)) = false := by decide) (he : starEach (e :: es) X.env = (false, eval e X.env) :: starEach es X.env := by rfl) (hpl : (backTo pos (starEach es X.env)).any (·.1) = false := by rfl) :
    PE X (.Call (.Name x p) (e :: es) [] pos) (tCall sp [] E t) := by
  obtain ⟨f, fd, hm, hk, hb, F⟩ := C.ex
  exact pe_call F (hr.mono hj) hg hm hk hb .nil hx ha hdb he hpl
theorem pe_gint {X : Cx} {x : Str} {n : Int} {pos : Pos} (hm : ∃ t, X.mg x = some (.int n t)) (hg : Gl X x) (hd : (x == ("__debug__" : Str)) = false := by decide) : PE X (.Name x pos) (tC (.int n)) := by
  obtain ⟨t, h⟩ := hm
  exact pe_glob hg h ⟨t, rfl⟩ hd
end L2

namespace L2
open PySem PySem.Spec PyProof.Rows
/-! ### operators by names of one's own -/
section
variable {X : Cx}
def kAdd : R2 := rI0 fun i j => .int (i + j)
def kSub : R2 := rI0 fun i j => .int (i - j)
def kMul : R2 := rI CMul fun i j => .int (i * j)
def kMod : R2 := rI (fun _ j => 0 < j) fun i j => .int (i % j)
def kFdiv : R2 := rI CDivN fun i j => .int (i.fdiv j)
def kPow : R2 := rI CPow fun i j => .int (i ^ j.toNat)
def kLt : R2 := rI0 fun i j => .bl (decide (i < j))
def kLe : R2 := rI0 fun i j => .bl (decide (i ≤ j))
def kGt : R2 := rI0 fun i j => .bl (decide (j < i))
def kGe : R2 := rI0 fun i j => .bl (decide (j ≤ i))
def kEq : R2 := rEq
def kNe : R2 := rNe
def kIsN : R2 := fun x y H Q => y = .non ∧ Q (.bl (decide (x = .non))) H
def kNotN : R2 := fun x y H Q => y = .non ∧ Q (.bl (!decide (x = .non))) H
def kIn (K : PySem.W.Frag) : R2 := rIn K false
def kNotIn (K : PySem.W.Frag) : R2 := rIn K true
def kNeg : V → Hp → VK → Prop := rU fun i => .int (-i)
theorem oAdd : OpR X (binaryOp .Add) kAdd := op_add
theorem oSub : OpR X (binaryOp .Sub) kSub := op_sub
theorem oMul : OpR X (binaryOp .Mult) kMul := op_mul
theorem oMod : OpR X (binaryOp .Mod) kMod := op_mod
theorem oFdiv : OpR X (binaryOp .FloorDiv) kFdiv := op_fdivN
theorem oPow : OpR X (binaryOp .Pow) kPow := op_pow
theorem oLt : OpR X (compareOp .Lt) kLt := op_lt
theorem oLe : OpR X (compareOp .LtE) kLe := op_le
theorem oGt : OpR X (compareOp .Gt) kGt := op_gt
theorem oGe : OpR X (compareOp .GtE) kGe := op_ge
theorem oEq : OpR X (compareOp .Eq) kEq := op_eq
theorem oNe : OpR X (compareOp .NotEq) kNe := op_ne
theorem oIsN : OpR X (compareOp .Is) kIsN := op_isN
theorem oNotN : OpR X (compareOp .IsNot) kNotN := op_notN
theorem oIn : OpR X (compareOp .In) (kIn X.K) := op_in_seq
theorem oNotIn : OpR X (compareOp .NotIn) (kNotIn X.K) := op_notIn_seq
/-- a value's truth as a test -/
def tTru (K : PySem.W.Frag) (ta : TE) : TT := fun σ H Q => ta σ H fun x H' => ∃ k, TruV K x H' k ∧ Q k H'
/-! built-ins -/
def bLen (K : PySem.W.Frag) : List V → Hp → VK → Prop := fun xs H Q => ∃ p ys, xs = [.ref p] ∧ (SqL K H p ys ∨ SqT K H p ys) ∧ Q (.int ys.length) H
def bList (K : PySem.W.Frag) : List V → Hp → VK → Prop := fun xs H Q => ∃ p ys, xs = [.ref p] ∧ (SqL K H p ys ∨ SqT K H p ys) ∧ ∀ l, H l = none → Q (.ref l) (upd H l (.lst ys))
def bTuple (K : PySem.W.Frag) : List V → Hp → VK → Prop := fun xs H Q => ∃ p ys, xs = [.ref p] ∧ ((SqL K H p ys ∧ ∀ l, H l = none → Q (.ref l) (upd H l (.tup ys))) ∨ (SqT K H p ys ∧ Q (.ref p) H))
def bMin2 : List V → Hp → VK → Prop := fun xs H Q => ∃ i j, xs = [.int i, .int j] ∧ Q (.int (if j < i then j else i)) H
theorem cbMin2 (hc : X.calm = true) : CallR X (.builtin "min") bMin2 := call_min2 hc
theorem cbLen : CallR X (.builtin "len") (bLen X.K) := call_len_seq
theorem cbList : CallR X (.type "list") (bList X.K) := call_list_of
theorem cbTuple : CallR X (.type "tuple") (bTuple X.K) := call_tuple_of
end

def rNewT (xs : List V) (H : Hp) (Q : VK) : Prop := xs.length ≤ sizeLine ∧ ∀ p, H p = none → Q (.ref p) (upd H p (.tup xs))
def rNewL (xs : List V) (H : Hp) (Q : VK) : Prop := xs.length ≤ sizeLine ∧ ∀ p, H p = none → Q (.ref p) (upd H p (.lst xs))
/-! ### readings, step by step -/
section
variable {σ : L2.St} {H : Hp} {D : Ends} {t u : TS} {te ta tb : TE} {tt tt2 : TT} {tA tR : TA} {g : TG} {v x y : V} {i j : Int} {n : Nat} {Q : VK} {QT : Bool → Hp → Prop} {QA : List V → Hp → Prop} {QS : L2.St → Hp → Prop} {r : R2} {K : PySem.W.Frag}
theorem r_seq (h : t { D with nx := u D } σ H) : tSeq t u D σ H := h
theorem r_next (h : D.nx σ H) : tNext D σ H := h
theorem r_asg (h : te σ H fun x H1 => g x σ H1 D.nx) : tAsg te g D σ H := h
theorem r_gname (h : QS (σ.set n (some v)) H) : gName n v σ H QS := h
theorem r_ret (h : te σ H D.rt) : tRet te D σ H := h
theorem r_retN (h : D.rt .non H) : tRetN D σ H := h
theorem r_drop (h : te σ H fun _ H1 => D.nx σ H1) : tDrop te D σ H := h
theorem r_ifs (h : tt σ H fun b H1 => if b = true then t D σ H1 else u D σ H1) : tIfS tt t u D σ H := h
theorem r_var (e : σ[n]? = some (some v)) (h : Q v H) : tVar n σ H Q := ⟨v, e, h⟩
theorem r_c (h : Q v H) : tC v σ H Q := h
theorem r_op (h : ta σ H fun x H1 => tb σ H1 fun y H2 => r x y H2 Q) : tOp r ta tb σ H Q := h
theorem r_nil (h : QA [] H) : tNil σ H QA := h
theorem r_cons (h : ta σ H fun x H1 => tA σ H1 fun xs H2 => QA (x :: xs) H2) : tCons ta tA σ H QA := h
theorem r_tup (h : tA σ H fun xs H1 => rNewT xs H1 Q) : tTup tA σ H Q := h
theorem r_lst (h : tA σ H fun xs H1 => rNewL xs H1 Q) : tLst tA σ H Q := h
theorem r_test (h : te σ H fun x H' => ∃ k, x = .bl k ∧ QT k H') : tTest te σ H QT := h
theorem r_tB (h : te σ H fun x H' => ∃ k, x = .bl k ∧ QT k H') : tB te σ H QT := h
theorem r_tru (h : te σ H fun x H' => ∃ k, TruV K x H' k ∧ QT k H') : tTru K te σ H QT := h
theorem r_exbl {b : Bool} {P : Bool → Prop} (h : P b) : ∃ k, V.bl b = .bl k ∧ P k := ⟨b, rfl, h⟩
theorem r_tint {P : Bool → Prop} (h : P (i != 0)) : ∃ k, TruV K (.int i) H k ∧ P k := ⟨_, rfl, h⟩
theorem r_and (h : tt σ H fun c H1 => if c = true then tt2 σ H1 QT else QT false H1) : tAnd tt tt2 σ H QT := h
theorem r_or (h : tt σ H fun c H1 => if c = true then QT true H1 else tt2 σ H1 QT) : tOr tt tt2 σ H QT := h
theorem r_not (h : tt σ H fun c H1 => QT (!c) H1) : tNot tt σ H QT := h
theorem r_notV (h : te σ H fun x H1 => ∃ c, x = .bl c ∧ Q (.bl (!c)) H1) : tNotV te σ H Q := h
theorem r_andV (h : ta σ H fun x H1 => ∃ c, x = .bl c ∧ if c = true then tb σ H1 Q else Q (.bl false) H1) : tAndV ta tb σ H Q := h
theorem r_orV (h : ta σ H fun x H1 => ∃ c, x = .bl c ∧ if c = true then Q (.bl true) H1 else tb σ H1 Q) : tOrV ta tb σ H Q := h
theorem r_ifE (h : tt σ H fun c H1 => if c = true then ta σ H1 Q else tb σ H1 Q) : tIf tt ta tb σ H Q := h
theorem r_call {sp : Sp} {E : XK} (h : tA σ H fun vs H1 => sp vs H1 Q E) : tCall sp [] E tA σ H Q := by
  have e : (fun vs H1 => sp (vs ++ []) H1 Q E) = fun vs H1 => sp vs H1 Q E := by
    funext vs H1
    rw [List.append_nil]
  show tA σ H fun vs H1 => sp (vs ++ []) H1 Q E
  rw [e]
  exact h
theorem r_CB {rb : List V → Hp → VK → Prop} (h : tA σ H fun vs H1 => rb vs H1 Q) : tCB rb tA σ H Q := h
theorem r_kAdd (h : Q (.int (i + j)) H) : kAdd (.int i) (.int j) H Q := ⟨i, j, rfl, rfl, h⟩
theorem r_kSub (h : Q (.int (i - j)) H) : kSub (.int i) (.int j) H Q := ⟨i, j, rfl, rfl, h⟩
theorem r_kMul (c : CMul i j) (h : Q (.int (i * j)) H) : kMul (.int i) (.int j) H Q := ⟨i, j, rfl, rfl, c, h⟩
theorem r_kMod (c : 0 < j) (h : Q (.int (i % j)) H) : kMod (.int i) (.int j) H Q := ⟨i, j, rfl, rfl, c, h⟩
theorem r_kFdiv (c : CDivN i j) (h : Q (.int (i.fdiv j)) H) : kFdiv (.int i) (.int j) H Q := ⟨i, j, rfl, rfl, c, h⟩
theorem r_kLt (h : Q (.bl (decide (i < j))) H) : kLt (.int i) (.int j) H Q := ⟨i, j, rfl, rfl, h⟩
theorem r_kLe (h : Q (.bl (decide (i ≤ j))) H) : kLe (.int i) (.int j) H Q := ⟨i, j, rfl, rfl, h⟩
theorem r_kGt (h : Q (.bl (decide (j < i))) H) : kGt (.int i) (.int j) H Q := ⟨i, j, rfl, rfl, h⟩
theorem r_kGe (h : Q (.bl (decide (j ≤ i))) H) : kGe (.int i) (.int j) H Q := ⟨i, j, rfl, rfl, h⟩
theorem dec_vint {i j : Int} : decide (V.int i = V.int j) = decide (i = j) := by
  by_cases h : i = j
  · subst h; simp
  · rw [decide_eq_false h, decide_eq_false (fun q => h (V.int.inj q))]
theorem dec_vstr {i j : Str} : decide (V.str i = V.str j) = decide (i = j) := by
  by_cases h : i = j
  · subst h; simp
  · rw [decide_eq_false h, decide_eq_false (fun q => h (V.str.inj q))]
theorem r_eqI (h : Q (.bl (decide (i = j))) H) : kEq (.int i) (.int j) H Q := ⟨rfl, by rw [dec_vint]; exact h⟩
theorem r_neI (h : Q (.bl (!decide (i = j))) H) : kNe (.int i) (.int j) H Q := ⟨rfl, by rw [dec_vint]; exact h⟩
theorem r_eqS {a b : Str} (h : Q (.bl (decide (a = b))) H) : kEq (.str a) (.str b) H Q := ⟨rfl, by rw [dec_vstr]; exact h⟩
theorem r_isN (h : Q (.bl (decide (x = .non))) H) : kIsN x .non H Q := ⟨rfl, h⟩
theorem r_notN (h : Q (.bl (!decide (x = .non))) H) : kNotN x .non H Q := ⟨rfl, h⟩
theorem r_ixL {p : Addr} {xs : List V} (hs : SqL K H p xs) (ha : atI xs i = some v) (h : Q v H) : rIxL K (.ref p) (.int i) H Q := ⟨p, xs, i, v, rfl, rfl, hs, ha, h⟩
theorem r_ixT {p : Addr} {xs : List V} (hs : SqT K H p xs) (ha : atI xs i = some v) (h : Q v H) : rIxT K (.ref p) (.int i) H Q := ⟨p, xs, i, v, rfl, rfl, hs, ha, h⟩
theorem r_gtup {tg : TGs} {a : Addr} {xs : List V} (hs : SqT K H a xs) (hn : xs.length = n) (h : tg xs σ H QS) : gTup K n tg (.ref a) σ H QS := ⟨a, xs, rfl, hs, hn, h⟩
theorem r_gcons {tg : TGs} {xs : List V} (h : g v σ H fun σ' H' => tg xs σ' H' QS) : gCons g tg (v :: xs) σ H QS := ⟨v, xs, rfl, h⟩
theorem r_gnil (h : QS σ H) : gNil [] σ H QS := ⟨rfl, h⟩
theorem r_gsub {to ti : TE} {ts : TSet} (h : to σ H fun o H1 => ti σ H1 fun i H2 => ts o i v H2 fun H3 => QS σ H3) : gSub to ti ts v σ H QS := h
theorem r_setL {p : Addr} {xs : List V} {k : Nat} {QH : Hp → Prop} (hs : H p = some (.lst xs)) (hk : ixN xs.length i = some k) (h : QH (upd H p (.lst (xs.set k v)))) : rSetL (.ref p) (.int i) v H QH := ⟨p, xs, i, k, rfl, rfl, hs, hk, h⟩
theorem r_lenL {p : Addr} {xs : List V} (hs : SqL K H p xs) (h : Q (.int xs.length) H) : bLen K [.ref p] H Q := ⟨p, xs, rfl, .inl hs, h⟩
theorem r_lenT {p : Addr} {xs : List V} (hs : SqT K H p xs) (h : Q (.int xs.length) H) : bLen K [.ref p] H Q := ⟨p, xs, rfl, .inr hs, h⟩
theorem r_BM {T : String} {rb : V → List V → Hp → VK → Prop} {to : TE} (h : to σ H fun x H1 => tyV K T x H1 ∧ tA σ H1 fun xs H2 => rb x xs H2 Q) : tBM K T rb to tA σ H Q := h
theorem r_sl {rs : V → Option Int → Option Int → Hp → VK → Prop} {tl th : TO} (h : te σ H fun x H1 => tl σ H1 fun l H2 => th σ H2 fun u H3 => rs x l u H3 Q) : tSl rs te tl th σ H Q := h
theorem r_nopart {QO : Option Int → Hp → Prop} (h : QO none H) : tNoPart σ H QO := h
theorem r_part {QO : Option Int → Hp → Prop} (h : te σ H fun x H1 => ∃ i, x = .int i ∧ QO (some i) H1) : tPart te σ H QO := h
theorem r_exint {P : Int → Prop} (h : P i) : ∃ k, V.int i = .int k ∧ P k := ⟨i, rfl, h⟩
theorem r_par {a b : Nat} (h : tA σ H fun vs H1 => ∃ v w, vs = [v, w] ∧ D.nx ((σ.set a (some v)).set b (some w)) H1) : tPar a b tA D σ H := h
theorem r_par2 {P : V → V → Prop} (h : P x y) : ∃ v w, [x, y] = [v, w] ∧ P v w := ⟨x, y, rfl, h⟩
theorem r_chain {r' : R2} {tc : TE} (h : ta σ H fun x H1 => tb σ H1 fun y H2 => r x y H2 fun z H3 => ∃ k, z = .bl k ∧ if k = true then tc σ H3 fun z' H4 => r' y z' H4 Q else Q (.bl false) H3) : tChain r r' ta tb tc σ H Q := h
theorem r_for {wi : TI} (h : wi σ H fun J H1 => ∃ W : Nat → Nat → L2.St → Hp → Prop, (∃ m, W 0 m σ H1) ∧ ∀ i m σ H, W i m σ H → (J.stop i H ∧ D.nx σ H) ∨ (J.go i H ∧ ∃ N : L2.St → Hp → Prop, (∀ σ' H', N σ' H' → ∃ m', m' < m ∧ W (i + 1) m' σ' H') ∧ ∀ x H', J.yld i H x H' → g x σ H' fun σ2 H2 => t { D with nx := N, ct := N, bk := D.nx } σ2 H2)) : tFor wi g t D σ H := h
theorem r_iEnumT {R : It → Hp → Prop} (h : tA σ H fun vs H1 => ∃ a xs, vs = [.ref a] ∧ SqT K H1 a xs ∧ R (IteT K a) H1) : iEnumT K tA σ H R := h
theorem r_iTup {R : It → Hp → Prop} (h : te σ H fun x H1 => ∃ a, x = .ref a ∧ (∃ xs, SqT K H1 a xs) ∧ R (Itt K a) H1) : iTup K te σ H R := h
theorem r_iList {R : It → Hp → Prop} (h : te σ H fun x H1 => ∃ a, x = .ref a ∧ (∃ xs, SqL K H1 a xs) ∧ R (Itl K a) H1) : iList K te σ H R := h
theorem r_rng1 {R : It → Hp → Prop} (h : tA σ H fun vs H1 => ∃ j : Int, vs = [.int j] ∧ -(2 ^ 62) ≤ j ∧ j < 2 ^ 62 ∧ R (Itr 0 j.toNat) H1) : iRng1 tA σ H R := h
theorem r_rng2 {R : It → Hp → Prop} (h : tA σ H fun vs H1 => ∃ i j : Int, vs = [.int i, .int j] ∧ (-(2 ^ 62) ≤ i ∧ i < 2 ^ 62 ∧ -(2 ^ 62) ≤ j ∧ j < 2 ^ 62) ∧ R (Itr i (j - i).toNat) H1) : iRng2 tA σ H R := h
theorem r_lc {wi : TI} {vs : List Nat} (h : wi σ H fun J H1 => ∀ D, H1 D = none → ∃ W : Nat → Nat → Hp → Prop, (∃ m, W 0 m (upd H1 D (.lst []))) ∧ ∀ i m H, W i m H →
    (J.stop i H ∧ Q (.ref D) H) ∨ (J.go i H ∧ ∃ Nx : Hp → Prop, (∀ H', Nx H' → ∃ m', m' < m ∧ W (i + 1) m' H') ∧ ∀ x H', J.yld i H x H' → g x (wipe σ vs) H' fun σ2 H2 => wipe σ2 vs = wipe σ vs ∧ tt σ2 H2 fun b H3 =>
      if b = true then te σ2 H3 fun y H4 => ∃ acc, H4 D = some (.lst acc) ∧ acc.length < sizeLine ∧ Nx (upd H4 D (.lst (acc ++ [y]))) else Nx H3)) : tLc wi g tt te vs σ H Q := h
theorem r_yes (h : QT true H) : tYes σ H QT := h
/-- a fresh pair is taken apart -/
theorem r_gtup2 {tg : TGs} {a : Addr} {x y : V} (h : tg [x, y] σ (upd H a (.tup [x, y])) QS) : gTup K 2 tg (.ref a) σ (upd H a (.tup [x, y])) QS := ⟨a, [x, y], rfl, SqT.of upd_same, rfl, h⟩
/-- xs.append(e) -/
theorem r_append {p : Addr} {xs : List V} (hs : H p = some (.lst xs)) (hz : xs.length < sizeLine) (h : Q .non (upd H p (.lst (xs ++ [v])))) : rAppend (.ref p) [v] H Q := ⟨p, xs, v, rfl, rfl, hs, hz, h⟩
end
theorem sqT_same {K : PySem.W.Frag} {H H' : Hp} {a : Addr} {xs : List V} (e : Same H H') (h : SqT K H a xs) : SqT K H' a xs := by
  rcases h with (h | ⟨o, h⟩) | h
  · exact .inl (.inl (e _ _ h))
  · exact .inl (.inr ⟨o, e _ _ h⟩)
  · exact .inr h
theorem Same.new {H : Hp} {p : Addr} {o : HO} (h : H p = none) : Same H (upd H p o) := fun a u e => by
  rw [upd_ne (ne_of_none e h)]
  exact e
theorem Same.new' {H H1 : Hp} {p : Addr} {o : HO} (e : Same H H1) (h : H1 p = none) : Same H (upd H1 p o) := e.trans (.new h)
/-- what H does not know may change -/
theorem Same.mut {H H' : Hp} {p : Addr} {o : HO} (e : Same H H') (h : H p = none) : Same H (upd H' p o) := fun a u ha => by
  rw [upd_ne (ne_of_none ha h)]
  exact e a u ha
section
variable {H : Hp} {Q : VK} {K : PySem.W.Frag} {a b : Addr} {xs ys : List V} {lo hi : Option Int}
theorem r_newT (hl : xs.length ≤ 100000) (h : ∀ p H', H p = none → Same H H' → H' p = some (.tup xs) → Q (.ref p) H') : rNewT xs H Q := ⟨Nat.le_trans hl (by decide), fun p hp => h p _ hp (.new hp) upd_same⟩
theorem r_newL (hl : xs.length ≤ 100000) (h : ∀ p H', H p = none → Same H H' → H' p = some (.lst xs) → Q (.ref p) H') : rNewL xs H Q := ⟨Nat.le_trans hl (by decide), fun p hp => h p _ hp (.new hp) upd_same⟩
theorem szd {n : Nat} (h : Nat.ble n 100000 = true := by rfl) : n ≤ 100000 := Nat.le_of_ble_eq_true h
theorem cutV_all {xs : List V} {lo hi : Option Int} (h : HT.sIx xs.length 0 lo = 0 ∧ HT.sIx xs.length xs.length hi = xs.length) : cutV xs lo hi = xs := by
  unfold cutV
  rw [h.1, h.2]
  simp
theorem r_slA (hs : SqT K H a xs) (h : ∀ b H', Same H H' → SqT K H' b (cutV xs lo hi) → Q (.ref b) H') : rSlA K (.ref a) lo hi H Q := by
  refine ⟨a, xs, rfl, hs, fun c => h a H (.refl H) (by rw [cutV_all c]; exact hs), fun _ p hp => h p _ (.new hp) (SqT.of upd_same)⟩
theorem r_catA (hs : SqT K H a xs) (hs2 : SqT K H b ys) (hl : xs.length + ys.length ≤ 100000) (h : ∀ c H', Same H H' → SqT K H' c (xs ++ ys) → Q (.ref c) H') : rCatA K (.ref a) (.ref b) H Q := by
  refine ⟨a, b, xs, ys, rfl, rfl, hs, hs2, Nat.le_trans hl (by decide), fun c => ?_, fun _ c => ?_, fun _ _ p hp => h p _ (.new hp) (SqT.of upd_same)⟩
  · subst c
    exact h b H (.refl H) hs2
  · subst c
    exact h a H (.refl H) (by rw [List.append_nil]; exact hs)
theorem cutV_take {xs : List V} {k : Nat} (hk : k ≤ xs.length) : cutV xs none (some (k : Int)) = xs.take k := by
  unfold cutV
  rw [HT.sIx_none, HT.sIx_nat]
  simp [Nat.min_eq_left hk]
theorem cutV_drop {xs : List V} {k : Nat} (hk : k ≤ xs.length) : cutV xs (some (k : Int)) none = xs.drop k := by
  unfold cutV
  rw [HT.sIx_none, HT.sIx_nat, Nat.min_eq_left hk]
  exact List.take_of_length_le (by simp)
theorem r_tuple_L (hs : SqL K H a xs) (h : ∀ p H', H p = none → Same H H' → H' p = some (.tup xs) → Q (.ref p) H') : bTuple K [.ref a] H Q := ⟨a, xs, rfl, .inl ⟨hs, fun l hl => h l _ hl (.new hl) upd_same⟩⟩
theorem r_list_T (hs : SqT K H a xs) (h : ∀ p H', H p = none → Same H H' → H' p = some (.lst xs) → Q (.ref p) H') : bList K [.ref a] H Q := ⟨a, xs, rfl, .inr hs, fun l hl => h l _ hl (.new hl) upd_same⟩
end
theorem sqT_upd {K : PySem.W.Frag} {H : Hp} {L b : Addr} {ys xs : List V} {o : HO} (hL : H L = some (.lst ys)) (h : SqT K H b xs) : SqT K (upd H L o) b xs := by
  rcases h with (h | ⟨u, h⟩) | h
  · exact .inl (.inl (by rw [upd_ne (ne_of h hL (fun z => by cases z))]; exact h))
  · exact .inl (.inr ⟨u, by rw [upd_ne (ne_of h hL (fun z => by cases z))]; exact h⟩)
  · exact .inr h
theorem ixN_nat {n j : Nat} (hj : j < n) : ixN n (j : Int) = some j := by
  unfold ixN
  rw [if_pos (by omega), if_pos (by omega)]
  simp
theorem r_while {σ : L2.St} {H : Hp} {D : Ends} {tt : TT} {t : TS} (W : Nat → L2.St → Hp → Prop) (m : Nat) (w0 : W m σ H) (h : ∀ m σ H, W m σ H → tt σ H fun b H1 => if b = true then ∃ N : L2.St → Hp → Prop, (∀ σ' H', N σ' H' → ∃ m', m' < m ∧ W m' σ' H') ∧ t { D with nx := N, ct := N, bk := D.nx } σ H1 else D.nx σ H1) : tWhile tt t D σ H :=
  ⟨W, ⟨m, w0⟩, h⟩
theorem sz10 {n : Nat} (h : n ≤ 100000) : n ≤ sizeLine := Nat.le_trans h (by decide)
theorem sz10' {n : Nat} (h : n < 100000) : n < sizeLine := Nat.lt_of_lt_of_le h (by decide)
/-! ### dicts -/
section
variable {H : Hp} {a : Addr} {kvs : List (Key × V)} {k : Key} {v y : V} {σ : L2.St} {D : Ends} {Q : VK}
theorem r_dgK {P : V → Prop} (hd : H a = some (.dK kvs)) (hv : valV kvs k = some v) (hy : kV k = y) (h : P v) : ∃ a' v', V.ref a = .ref a' ∧ DGet H a' y (some v') ∧ P v' :=
  ⟨a, v, rfl, by rw [← hy, ← hv]; exact .k hd, h⟩
theorem r_dpK {P : Hp → Prop} (hd : H a = some (.dK kvs)) (hl : kvs.length < sizeLine) (hy : kV k = y) (h : P (upd H a (.dK (putK kvs k v)))) : ∃ a' H4, V.ref a = .ref a' ∧ DPut H a' y v H4 ∧ P H4 :=
  ⟨a, _, rfl, by rw [← hy]; exact .k hd hl, h⟩
theorem r_dget {td ty : TE} (h : td σ H fun x H1 => ty σ H1 fun y H2 => ∃ a v, x = .ref a ∧ DGet H2 a y (some v) ∧ Q v H2) : tDGet td ty σ H Q := h
theorem r_dput {td ty tv : TE} (h : tv σ H fun v H1 => td σ H1 fun x H2 => ty σ H2 fun y H3 => ∃ a H4, x = .ref a ∧ DPut H3 a y v H4 ∧ D.nx σ H4) : sDPut td ty tv D σ H := h
end
end L2

namespace CB

inductive Rule where | came | used | last | high | often | clock
  deriving DecidableEq

abbrev Row := Int × Int

/-! ### the program, as functions of lists -/
def placeOf : List Row → Int → Option Nat
  | [], _ => none
  | r :: l, p => if r.1 = p then some 0 else (placeOf l p).map (· + 1)

def firstMark (r : Rule) : Int := match r with | .often => 1 | .clock => 1 | _ => 0

def putAt (l : List Row) (k : Nat) (x : Row) : List Row := l.take k ++ (x :: l.drop (k + 1))
def outAt (l : List Row) (k : Nat) (x : Row) : List Row := l.take k ++ l.drop (k + 1) ++ [x]

def rowsAsked (r : Rule) (l : List Row) (k : Nat) (x : Row) : List Row :=
  match r with
  | .used => outAt l k x
  | .last => outAt l k x
  | .often => putAt l k (x.1, x.2 + 1)
  | .clock => putAt l k (x.1, 1)
  | _ => l

/-- the first place of the greatest (by f) -/
def bestIdx : List Int → Nat
  | [] => 0
  | [_] => 0
  | a :: b :: l => let k := bestIdx (b :: l); if (b :: l).getD k 0 ≤ a then 0 else k + 1

/-- the last of the greatest -/
def lastIdx : List Int → Nat
  | [] => 0
  | [_] => 0
  | a :: b :: l => if (b :: l).getD (lastIdx (b :: l)) 0 < a then 0 else lastIdx (b :: l) + 1
def placeToGo (r : Rule) (l : List Row) : Nat :=
  match r with
  | .last => l.length - 1
  | .high => lastIdx (l.map (·.1))
  | .often => bestIdx (l.map fun x => - x.2)
  | _ => 0

def cnt (l : List Row) : Nat := l.countP fun r => decide (r.2 ≠ 0)

def sweep : Nat → List Row → Nat → List Row × Nat
  | 0, l, h => (l, h)
  | f + 1, l, h => match l[h]? with
    | some (p, m) => if m = 0 then (l, h) else sweep f (l.set h (p, 0)) ((h + 1) % l.length)
    | none => (l, h)

def swept (l : List Row) (h : Nat) : List Row × Nat := sweep (cnt l + 1) l h

structure Told where
  held : Bool
  gone : Option Int
  rows : List Row
  hand : Nat

def step (r : Rule) (size : Nat) (l : List Row) (h : Nat) (p : Int) : Told :=
  match placeOf l p with
  | some k => ⟨true, none, rowsAsked r l k (l.getD k (0, 0)), h⟩
  | none =>
    if l.length < size then ⟨false, none, l ++ [(p, firstMark r)], h⟩
    else if r = .clock then
      ⟨false, some ((swept l h).1.getD (swept l h).2 (0, 0)).1, putAt (swept l h).1 (swept l h).2 (p, firstMark r), ((swept l h).2 + 1) % (swept l h).1.length⟩
    else ⟨false, some (l.getD (placeToGo r l) (0, 0)).1, outAt l (placeToGo r l) (p, firstMark r), h⟩

theorem placeOf_none : ∀ {l : List Row} {p : Int}, (∀ (j : Nat) (x : Row), l[j]? = some x → x.1 ≠ p) → placeOf l p = none
  | [], _, _ => rfl
  | r :: l, p, h => by
    unfold placeOf
    rw [if_neg (h 0 r rfl), placeOf_none (l := l) fun j x e => h (j + 1) x (by simpa using e)]
    rfl
theorem placeOf_some : ∀ {l : List Row} {p : Int} {i : Nat} {x : Row}, l[i]? = some x → x.1 = p → (∀ (j : Nat) (y : Row), j < i → l[j]? = some y → y.1 ≠ p) → placeOf l p = some i
  | [], _, _, _, e, _, _ => by simp at e
  | r :: l, p, 0, x, e, hx, _ => by
    have q : r = x := by simpa using e
    unfold placeOf
    rw [if_pos (by rw [q]; exact hx)]
  | r :: l, p, i + 1, x, e, hx, h => by
    unfold placeOf
    rw [if_neg (h 0 r (Nat.succ_pos _) rfl), placeOf_some (l := l) (i := i) (x := x) (by simpa using e) hx fun j y hj e => h (j + 1) y (Nat.succ_lt_succ hj) (by simpa using e)]
    rfl
theorem placeOf_lt : ∀ {l : List Row} {p : Int} {k : Nat}, placeOf l p = some k → ∃ x, l[k]? = some x ∧ x.1 = p
  | [], _, _, h => by simp [placeOf] at h
  | r :: l, p, k, h => by
    unfold placeOf at h
    by_cases c : r.1 = p
    · rw [if_pos c] at h
      cases h
      exact ⟨r, rfl, c⟩
    · rw [if_neg c] at h
      cases e : placeOf l p with
      | none => rw [e] at h; simp at h
      | some j =>
        rw [e] at h
        simp at h
        obtain ⟨x, h1, h2⟩ := placeOf_lt e
        exact ⟨x, by rw [← h]; simpa using h1, h2⟩
theorem placeOf_no {l : List Row} {p : Int} (h : placeOf l p = none) : ∀ x ∈ l, x.1 ≠ p := by
  induction l with
  | nil => intro x hx; cases hx
  | cons r l ih =>
    unfold placeOf at h
    by_cases c : r.1 = p
    · rw [if_pos c] at h; cases h
    · rw [if_neg c] at h
      cases e : placeOf l p with
      | none =>
        intro x hx
        rcases List.mem_cons.mp hx with q | q
        · rw [q]; exact c
        · exact ih e x q
      | some j => rw [e] at h; simp at h
/-- the first greatest -/
theorem bestIdx_spec : ∀ {l : List Int}, l ≠ [] → bestIdx l < l.length ∧ (∀ x ∈ l, x ≤ l.getD (bestIdx l) 0) ∧ ∀ j, j < bestIdx l → l.getD j 0 < l.getD (bestIdx l) 0
  | [], h => absurd rfl h
  | [a], _ => ⟨Nat.zero_lt_one, fun x hx => by simp at hx; subst hx; exact Int.le_refl _, fun j hj => absurd hj (Nat.not_lt_zero _)⟩
  | a :: b :: l, _ => by
    obtain ⟨h1, h2, h3⟩ := bestIdx_spec (l := b :: l) (by simp)
    unfold bestIdx
    simp only
    by_cases c : (b :: l).getD (bestIdx (b :: l)) 0 ≤ a
    · rw [if_pos c]
      refine ⟨Nat.succ_pos _, fun x hx => ?_, fun j hj => absurd hj (Nat.not_lt_zero _)⟩
      rcases List.mem_cons.mp hx with q | q
      · rw [q]; exact Int.le_refl _
      · exact Int.le_trans (h2 x q) c
    · rw [if_neg c]
      refine ⟨Nat.succ_lt_succ h1, fun x hx => ?_, fun j hj => ?_⟩
      · show x ≤ (b :: l).getD (bestIdx (b :: l)) 0
        rcases List.mem_cons.mp hx with q | q
        · rw [q]; omega
        · exact h2 x q
      · show (a :: b :: l).getD j 0 < (b :: l).getD (bestIdx (b :: l)) 0
        cases j with
        | zero => show a < _; omega
        | succ j => exact h3 j (Nat.lt_of_succ_lt_succ hj)
theorem bestIdx_is {l : List Int} {k : Nat} (hk : k < l.length) (h1 : ∀ x ∈ l, x ≤ l.getD k 0) (h2 : ∀ j, j < k → l.getD j 0 < l.getD k 0) : bestIdx l = k := by
  have hne : l ≠ [] := fun z => by rw [z] at hk; exact Nat.not_lt_zero _ hk
  obtain ⟨g1, g2, g3⟩ := bestIdx_spec hne
  have mem : ∀ {j : Nat}, j < l.length → l.getD j 0 ∈ l := fun {j} hj => by
    rw [List.getD_eq_getElem?_getD, List.getElem?_eq_getElem hj]
    exact List.getElem_mem hj
  rcases Nat.lt_trichotomy (bestIdx l) k with c | c | c
  · have a := h2 _ c
    have b := g2 _ (mem hk)
    omega
  · exact c
  · have a := g3 _ c
    have b := h1 _ (mem g1)
    omega

theorem lastIdx_spec : ∀ {l : List Int}, l ≠ [] → lastIdx l < l.length ∧ (∀ x ∈ l, x ≤ l.getD (lastIdx l) 0) ∧ ∀ j, lastIdx l < j → j < l.length → l.getD j 0 < l.getD (lastIdx l) 0
  | [], h => absurd rfl h
  | [a], _ => ⟨Nat.zero_lt_one, fun x hx => by simp at hx; subst hx; exact Int.le_refl _, fun j hj hl => by simp [lastIdx] at hj hl; omega⟩
  | a :: b :: l, _ => by
    obtain ⟨h1, h2, h3⟩ := lastIdx_spec (l := b :: l) (by simp)
    by_cases c : (b :: l).getD (lastIdx (b :: l)) 0 < a
    · have e : lastIdx (a :: b :: l) = 0 := by show (if _ then _ else _) = _; rw [if_pos c]
      rw [e]
      refine ⟨Nat.succ_pos _, fun x hx => ?_, fun j hj hl => ?_⟩
      · show x ≤ a
        rcases List.mem_cons.mp hx with q | q
        · rw [q]; exact Int.le_refl _
        · have := h2 x q; omega
      · cases j with
        | zero => exact absurd hj (Nat.lt_irrefl _)
        | succ j =>
          show (b :: l).getD j 0 < a
          have hm : (b :: l).getD j 0 ∈ b :: l := by
            have hj' : j < (b :: l).length := Nat.lt_of_succ_lt_succ hl
            rw [List.getD_eq_getElem?_getD, List.getElem?_eq_getElem hj']
            exact List.getElem_mem hj'
          have := h2 _ hm
          omega
    · have e : lastIdx (a :: b :: l) = lastIdx (b :: l) + 1 := by show (if _ then _ else _) = _; rw [if_neg c]
      rw [e]
      refine ⟨Nat.succ_lt_succ h1, fun x hx => ?_, fun j hj hl => ?_⟩
      · show x ≤ (b :: l).getD (lastIdx (b :: l)) 0
        rcases List.mem_cons.mp hx with q | q
        · rw [q]; omega
        · exact h2 x q
      · cases j with
        | zero => exact absurd hj (Nat.not_lt_zero _)
        | succ j => exact h3 j (Nat.lt_of_succ_lt_succ hj) (Nat.lt_of_succ_lt_succ hl)
theorem lastIdx_is {l : List Int} {k : Nat} (hk : k < l.length) (h1 : ∀ x ∈ l, x ≤ l.getD k 0) (h2 : ∀ j, k < j → j < l.length → l.getD j 0 < l.getD k 0) : lastIdx l = k := by
  have hne : l ≠ [] := fun z => by rw [z] at hk; exact Nat.not_lt_zero _ hk
  obtain ⟨g1, g2, g3⟩ := lastIdx_spec hne
  have mem : ∀ {j : Nat}, j < l.length → l.getD j 0 ∈ l := fun {j} hj => by
    rw [List.getD_eq_getElem?_getD, List.getElem?_eq_getElem hj]
    exact List.getElem_mem hj
  rcases Nat.lt_trichotomy (lastIdx l) k with c | c | c
  · have a := g3 _ c hk
    have b := h1 _ (mem g1)
    omega
  · exact c
  · have a := h2 _ c g1
    have b := g2 _ (mem hk)
    omega
/-! ### sweeping -/
theorem cnt_set {l : List Row} {h : Nat} {p m : Int} (e : l[h]? = some (p, m)) (hm : m ≠ 0) : cnt l = cnt (l.set h (p, 0)) + 1 := by
  induction l generalizing h with
  | nil => simp at e
  | cons a l ih =>
    cases h with
    | zero =>
      simp at e
      subst e
      simp [cnt, List.countP_cons, hm]
    | succ h =>
      have q := ih (h := h) (by simpa using e)
      unfold cnt at q ⊢
      rw [List.set_cons_succ, List.countP_cons, List.countP_cons, q]
      omega
theorem swept_stop {l : List Row} {h : Nat} {p : Int} (e : l[h]? = some (p, 0)) : swept l h = (l, h) := by
  unfold swept sweep
  rw [e]
  simp
theorem swept_on {l : List Row} {h : Nat} {p m : Int} (e : l[h]? = some (p, m)) (hm : m ≠ 0) : swept l h = swept (l.set h (p, 0)) ((h + 1) % l.length) := by
  have q := cnt_set e hm
  unfold swept
  rw [q]
  conv => lhs; unfold sweep
  rw [e]
  simp [hm]
theorem sweep_len : ∀ (f : Nat) (l : List Row) (h : Nat), (sweep f l h).1.length = l.length
  | 0, _, _ => rfl
  | f + 1, l, h => by
    unfold sweep
    split
    · split
      · rfl
      · rw [sweep_len]; simp
    · rfl
theorem swept_len (l : List Row) (h : Nat) : (swept l h).1.length = l.length := sweep_len _ _ _
theorem sweep_lt : ∀ (f : Nat) (l : List Row) (h : Nat), h < l.length → (sweep f l h).2 < l.length
  | 0, _, _, hl => hl
  | f + 1, l, h, hl => by
    unfold sweep
    split
    · split
      · exact hl
      · rename_i p m _ _
        have q := sweep_lt f (l.set h (p, 0)) ((h + 1) % l.length) (by simp; exact Nat.mod_lt _ (by omega))
        simpa using q
    · exact hl
theorem swept_lt {l : List Row} {h : Nat} (hl : h < l.length) : (swept l h).2 < l.length := sweep_lt _ _ _ hl

/-! ### the law's cache -/
structure W where
  came : List Int
  asked : Int → Option Int
  often : Int → Option Int
  marks : Int → Option Bool
  hand : Nat
  time : Int

def pset {α : Type} (f : Int → Option α) (k : Int) (v : α) : Int → Option α := fun x => if x = k then some v else f x
theorem pset_same {α : Type} {f : Int → Option α} {k : Int} {v : α} : pset f k v k = some v := if_pos rfl
theorem pset_ne {α : Type} {f : Int → Option α} {k x : Int} {v : α} (h : x ≠ k) : pset f k v x = f x := if_neg h

/-- what stays of the loser's candidates -/
def free (w : W) (pins : List Int) : List Int := w.came.filter fun p => !pins.contains p

/-- the clock's hand, with pins: n looks at most -/
def sweepW (pins : List Int) : Nat → W → Option (Int × W)
  | 0, _ => none
  | n + 1, w => match w.came[w.hand]? with
    | none => none
    | some p =>
      if pins.contains p = false ∧ w.marks p = some false then some (p, w)
      else sweepW pins n { w with marks := pset w.marks p ((w.marks p).getD false && pins.contains p), hand := (w.hand + 1) % w.came.length }

/-- g goes by the rule, w' stands then -/
def Loses (r : Rule) (w : W) (pins : List Int) (g : Int) (w' : W) : Prop :=
  match r with
  | .came => w' = w ∧ (free w pins).head? = some g
  | .high => w' = w ∧ g ∈ free w pins ∧ ∀ q ∈ free w pins, q ≤ g
  | .used => w' = w ∧ g ∈ free w pins ∧ ∀ q ∈ free w pins, (w.asked g).getD 0 ≤ (w.asked q).getD 0
  | .last => w' = w ∧ g ∈ free w pins ∧ ∀ q ∈ free w pins, (w.asked q).getD 0 ≤ (w.asked g).getD 0
  | .often => w' = w ∧ (∀ q ∈ free w pins, (w.often g).getD 0 ≤ (w.often q).getD 0) ∧ ((free w pins).filter fun q => decide ((w.often q).getD 0 = (w.often g).getD 0)).head? = some g
  | .clock => ∃ n, sweepW pins n w = some (g, w')

/-- behind the choice: g goes (none: nothing), page comes -/
def comes (r : Rule) (w : W) (g : Option Int) (page : Int) : W :=
  match g with
  | none => { w with came := w.came ++ [page] }
  | some g =>
    let k := w.came.idxOf g
    if r = .clock then { w with came := w.came.set k page, hand := (k + 1) % w.came.length }
    else { w with came := w.came.take k ++ w.came.drop (k + 1) ++ [page] }
def noted (w : W) (page : Int) (often : Int → Option Int) : W :=
  { w with time := w.time + 1, asked := pset w.asked page (w.time + 1), often := pset often page ((often page).getD 0 + 1), marks := pset w.marks page true }
/-- what _law_ask makes of w -/
inductive Asks (r : Rule) (size : Nat) (w : W) (pins : List Int) (page : Int) : Option (Bool × Option Int) → W → Prop
  | held : page ∈ w.came → Asks r size w pins page (some (true, none)) (noted w page w.often)
  | room : page ∉ w.came → w.came.length ≠ size → Asks r size w pins page (some (false, none)) (noted (comes r w none page) page (pset w.often page 0))
  | goes (g : Int) (w' : W) : page ∉ w.came → w.came.length = size → free w pins ≠ [] → Loses r w pins g w' →
      Asks r size w pins page (some (false, some g)) (noted (comes r w' (some g) page) page (pset w'.often page 0))
  | stuck : page ∉ w.came → w.came.length = size → free w pins = [] → Asks r size w pins page none w

theorem sweepW_keeps (pins : List Int) : ∀ (n : Nat) (w : W) (g : Int) (w' : W), sweepW pins n w = some (g, w') → w'.came = w.came ∧ w'.time = w.time ∧ w'.asked = w.asked ∧ w'.often = w.often ∧ g ∈ w.came ∧ pins.contains g = false
  | 0, w, g, w', h => by cases h
  | n + 1, w, g, w', h => by
    unfold sweepW at h
    cases hh : w.came[w.hand]? with
    | none => rw [hh] at h; cases h
    | some p =>
      rw [hh] at h
      simp only at h
      split at h
      · rename_i hc
        cases h
        exact ⟨rfl, rfl, rfl, rfl, List.mem_of_getElem? hh, hc.1⟩
      · have q := sweepW_keeps pins n _ g w' h
        exact q
theorem Loses.keeps {r : Rule} {w : W} {pins : List Int} {g : Int} {w' : W} (h : Loses r w pins g w') : w'.came = w.came ∧ w'.time = w.time ∧ w'.asked = w.asked ∧ w'.often = w.often ∧ g ∈ w.came := by
  have hf : ∀ q ∈ free w pins, q ∈ w.came := fun q hq => (List.mem_filter.mp hq).1
  cases r with
  | clock =>
    obtain ⟨n, hn⟩ := h
    obtain ⟨a, b, c, d, e, _⟩ := sweepW_keeps pins n w g w' hn
    exact ⟨a, b, c, d, e⟩
  | came =>
    obtain ⟨rfl, h⟩ := h
    exact ⟨rfl, rfl, rfl, rfl, hf _ (List.mem_of_mem_head? h)⟩
  | high => obtain ⟨rfl, h, _⟩ := h; exact ⟨rfl, rfl, rfl, rfl, hf _ h⟩
  | used => obtain ⟨rfl, h, _⟩ := h; exact ⟨rfl, rfl, rfl, rfl, hf _ h⟩
  | last => obtain ⟨rfl, h, _⟩ := h; exact ⟨rfl, rfl, rfl, rfl, hf _ h⟩
  | often =>
    obtain ⟨rfl, _, h⟩ := h
    exact ⟨rfl, rfl, rfl, rfl, hf _ (List.mem_filter.mp (List.mem_of_mem_head? h)).1⟩

/-! ### the two say the same -/
structure Sim (r : Rule) (size : Nat) (l : List Row) (h : Nat) (w : W) : Prop where
  nd : w.came.Nodup
  len : w.came.length ≤ size
  asked : ∀ p ∈ w.came, ∃ t, w.asked p = some t ∧ t ≤ w.time
  often : ∀ p ∈ w.came, ∃ t, w.often p = some t
  marks : ∀ p ∈ w.came, ∃ b, w.marks p = some b
  hand : h = w.hand
  rel : match r with
    | .came => l = w.came.map (fun q => (q, 0)) ∧ h = 0
    | .high => l = w.came.map (fun q => (q, 0)) ∧ h = 0
    | .used => (∃ ps : List Int, l = ps.map (fun q => (q, 0)) ∧ ps.Perm w.came ∧ ps.Pairwise fun a b => (w.asked a).getD 0 < (w.asked b).getD 0) ∧ h = 0
    | .last => (∃ ps : List Int, l = ps.map (fun q => (q, 0)) ∧ ps.Perm w.came ∧ ps.Pairwise fun a b => (w.asked a).getD 0 < (w.asked b).getD 0) ∧ h = 0
    | .often => l = w.came.map (fun p => (p, (w.often p).getD 0)) ∧ h = 0
    | .clock => l = w.came.map (fun p => (p, if (w.marks p).getD false then 1 else 0)) ∧ (w.came.length < size → h = 0) ∧ (h = 0 ∨ h < w.came.length)
end CB

namespace CB
open PySem PySem.Spec PyProof.Rows L2
theorem r_callD {sp : Sp} {E : XK} {dvs : List V} {tA : TA} {σ : L2.St} {H : Hp} {Q : VK} (h : tA σ H fun vs H1 => sp (vs ++ dvs) H1 Q E) : tCall sp dvs E tA σ H Q := h
/-- the addresses of the module's own constants and classes -/
structure Glob where
  K : PySem.W.Frag
  aEMPTY : Addr
  aRULES : Addr
  aEQUAL : Addr
  aSTAY : Addr
  c_CacheError : Addr
  c_BadRule : Addr
  c_BadSize : Addr
  c_BadStream : Addr
  c_BadCosts : Addr
  c_BadCount : Addr
/-- built-in names stand -/
structure Bl (mg : Str → Option Value) : Prop where
  n_len : mg "len" = none
  n_list : mg "list" = none
  n_tuple : mg "tuple" = none
  n_sorted : mg "sorted" = none
  n_max : mg "max" = none
  n_min : mg "min" = none
  n_range : mg "range" = none
  n_enumerate : mg "enumerate" = none
  n_isinstance : mg "isinstance" = none
  n_bool : mg "bool" = none
  n_int : mg "int" = none
def Rule.s : Rule → Str
  | .came => "came" | .used => "used" | .last => "last" | .high => "high" | .often => "often" | .clock => "clock"

local macro_rules | `(tactic| walk_at "s1") => `(tactic| (with_reducible first
  | refine r_seq ?_ | refine r_next ?_ | refine r_asg ?_ | refine r_gname ?_ | refine r_ret ?_ | refine r_retN ?_ | refine r_drop ?_ | refine r_ifs ?_ | refine r_c ?_ | refine r_op ?_ | refine r_nil ?_ | refine r_cons ?_
  | refine r_tup ?_ | refine r_lst ?_ | refine r_test ?_ | refine r_tB ?_ | refine r_tru ?_ | refine r_exbl ?_ | refine r_tint ?_ | refine r_and ?_ | refine r_or ?_ | refine r_not ?_ | refine r_notV ?_ | refine r_andV ?_ | refine r_orV ?_ | refine r_ifE ?_ | refine r_call ?_ | refine r_callD ?_ | refine r_CB ?_
  | refine r_kAdd ?_ | refine r_kSub ?_ | refine r_kLt ?_ | refine r_kLe ?_ | refine r_kGt ?_ | refine r_kGe ?_ | refine r_eqI ?_ | refine r_neI ?_ | refine r_eqS ?_ | refine r_isN ?_ | refine r_notN ?_
  | refine r_gcons ?_ | refine r_gnil ?_ | refine r_gsub ?_ | refine r_BM ?_ | refine r_sl ?_ | refine r_nopart ?_ | refine r_part ?_ | refine r_exint ?_ | refine r_par ?_ | refine r_par2 ?_ | refine r_chain ?_
  | refine r_dget ?_ | refine r_dput ?_ | refine iteT ?_ | refine r_for ?_ | refine r_iEnumT ?_ | refine r_iTup ?_ | refine r_iList ?_ | refine r_rng1 ?_ | refine r_rng2 ?_ | refine r_lc ?_ | refine r_gtup2 ?_ | refine r_yes ?_ | refine iteF ?_ | refine r_var (by with_unfolding_all rfl) ?_))
local macro_rules | `(tactic| walk_at "go") => `(tactic| (repeat (walk_at "s1")))

theorem rs_inj {r q : Rule} (h : r.s = q.s) : r = q := by
  cases r <;> cases q <;> first | rfl | exact absurd h (by decide +kernel)
/-! ### what stands for a row, the rows, a state -/
def RowV (K : PySem.W.Frag) (H : Hp) (x : V) (p : Row) : Prop := ∃ b, x = .ref b ∧ SqT K H b [.int p.1, .int p.2]
def RowsV (K : PySem.W.Frag) (H : Hp) (xs : List V) (l : List Row) : Prop := Paired (RowV K H) xs l
def RsV (K : PySem.W.Frag) (H : Hp) (v : V) (l : List Row) : Prop := ∃ a xs, v = .ref a ∧ SqT K H a xs ∧ RowsV K H xs l ∧ l.length ≤ 100
def StV (K : PySem.W.Frag) (H : Hp) (v : V) (l : List Row) (h : Nat) : Prop := ∃ a x, v = .ref a ∧ SqT K H a [x, .int (h : Int)] ∧ RsV K H x l
section
variable {K : PySem.W.Frag} {H H' : Hp} {x v : V} {xs : List V} {l : List Row} {p : Row} {h : Nat}
theorem RowV.mono (e : Same H H') (r : RowV K H x p) : RowV K H' x p := let ⟨b, h1, h2⟩ := r; ⟨b, h1, sqT_same e h2⟩
theorem RowsV.mono (e : Same H H') (r : RowsV K H xs l) : RowsV K H' xs l := Paired.mapP r fun _ _ z => z.mono e
theorem RsV.mono (e : Same H H') (r : RsV K H v l) : RsV K H' v l := let ⟨a, xs, h1, h2, h3, h4⟩ := r; ⟨a, xs, h1, sqT_same e h2, h3.mono e, h4⟩
theorem StV.mono (e : Same H H') (r : StV K H v l h) : StV K H' v l h := let ⟨a, x, h1, h2, h3⟩ := r; ⟨a, x, h1, sqT_same e h2, h3.mono e⟩
theorem RowsV.len (r : RowsV K H xs l) : xs.length = l.length := Paired.length r
theorem RowsV.get {i : Nat} (r : RowsV K H xs l) (e : l[i]? = some p) : ∃ x, xs[i]? = some x ∧ RowV K H x p := by
  have hl := r.len
  have hi := (List.getElem?_eq_some_iff.mp e).1
  have hx : xs[i]? = some (xs[i]'(by omega)) := by simp
  obtain ⟨b, hb, q⟩ := paired_get r hx
  rw [e] at hb
  cases hb
  exact ⟨_, hx, q⟩
theorem RowsV.get' {i : Nat} (r : RowsV K H xs l) (e : xs[i]? = some x) : ∃ p, l[i]? = some p ∧ RowV K H x p := paired_get r e
theorem paired_append {α β : Type} {F : α → β → Prop} : ∀ {l₁ l₂ : List α} {m₁ m₂ : List β}, Paired F l₁ m₁ → Paired F l₂ m₂ → Paired F (l₁ ++ l₂) (m₁ ++ m₂)
  | _, _, _, _, .nil, s => s
  | _, _, _, _, .cons r t, s => .cons r (paired_append t s)
theorem paired_take {α β : Type} {F : α → β → Prop} : ∀ {l : List α} {m : List β} (n : Nat), Paired F l m → Paired F (l.take n) (m.take n)
  | _, _, 0, _ => .nil
  | _, _, _ + 1, .nil => .nil
  | _, _, n + 1, .cons r t => .cons r (paired_take n t)
theorem paired_drop {α β : Type} {F : α → β → Prop} : ∀ {l : List α} {m : List β} (n : Nat), Paired F l m → Paired F (l.drop n) (m.drop n)
  | _, _, 0, r => r
  | _, _, _ + 1, .nil => .nil
  | _, _, n + 1, .cons _ t => paired_drop n t
end

/-! ### the promises -/
def goneV : Option Int → V
  | some g => .int g
  | none => .non
def sp_step (G : Glob) : Sp := fun vs H Q _ => ∃ (r : Rule) (size : Nat) (v : V) (l : List Row) (h : Nat) (p : Int), vs = [.str r.s, .int (size : Int), v, .int p, .ref G.aSTAY] ∧ StV G.K H v l h ∧ 1 ≤ size ∧ l.length ≤ size ∧ size ≤ 6 ∧ (r = .clock → l.length = size → h < l.length) ∧
  ∀ a x H', Same H H' → H' a = some (.tup [.bl (step r size l h p).held, goneV (step r size l h p).gone, x]) → StV G.K H' x (step r size l h p).rows (step r size l h p).hand → Q (.ref a) H'
def sp_pages_held (G : Glob) : Sp := fun vs H Q _ => ∃ (v : V) (l : List Row) (h : Nat), vs = [v] ∧ StV G.K H v l h ∧ l.length < 64 ∧ ∀ a (ps : List Int) H', Same H H' → ps.Perm (l.map (·.1)) → ps.Pairwise (· ≤ ·) → H' a = some (.tup (ps.map V.int)) → Q (.ref a) H'
end CB

namespace CB
open PySem PySem.Spec PyProof.Rows L2
local macro_rules | `(tactic| walk_at "s1") => `(tactic| (with_reducible first
  | refine r_seq ?_ | refine r_next ?_ | refine r_asg ?_ | refine r_gname ?_ | refine r_ret ?_ | refine r_retN ?_ | refine r_drop ?_ | refine r_ifs ?_ | refine r_c ?_ | refine r_op ?_ | refine r_nil ?_ | refine r_cons ?_
  | refine r_tup ?_ | refine r_lst ?_ | refine r_test ?_ | refine r_tB ?_ | refine r_tru ?_ | refine r_exbl ?_ | refine r_tint ?_ | refine r_and ?_ | refine r_or ?_ | refine r_not ?_ | refine r_notV ?_ | refine r_andV ?_ | refine r_orV ?_ | refine r_ifE ?_ | refine r_call ?_ | refine r_callD ?_ | refine r_CB ?_
  | refine r_kAdd ?_ | refine r_kSub ?_ | refine r_kLt ?_ | refine r_kLe ?_ | refine r_kGt ?_ | refine r_kGe ?_ | refine r_eqI ?_ | refine r_neI ?_ | refine r_eqS ?_ | refine r_isN ?_ | refine r_notN ?_
  | refine r_gcons ?_ | refine r_gnil ?_ | refine r_gsub ?_ | refine r_BM ?_ | refine r_sl ?_ | refine r_nopart ?_ | refine r_part ?_ | refine r_exint ?_ | refine r_par ?_ | refine r_par2 ?_ | refine r_chain ?_
  | refine r_dget ?_ | refine r_dput ?_ | refine iteT ?_ | refine r_for ?_ | refine r_iEnumT ?_ | refine r_iTup ?_ | refine r_iList ?_ | refine r_rng1 ?_ | refine r_rng2 ?_ | refine r_lc ?_ | refine r_gtup2 ?_ | refine r_yes ?_ | refine iteF ?_ | refine r_var (by with_unfolding_all rfl) ?_))
local macro_rules | `(tactic| walk_at "go") => `(tactic| (repeat (walk_at "s1")))


/-! ### the readings -/
theorem if_dt {c : Prop} [Decidable c] {A B : Prop} (h1 : c → A) (h2 : ¬ c → B) : if decide c = true then A else B := by
  by_cases h : c
  · rw [if_pos (decide_eq_true h)]; exact h1 h
  · rw [if_neg (by rw [decide_eq_false h]; exact Bool.false_ne_true)]; exact h2 h
theorem if_dn {c : Prop} [Decidable c] {A B : Prop} (h1 : ¬ c → A) (h2 : c → B) : if (!decide c) = true then A else B := by
  by_cases h : c
  · rw [if_neg (by rw [decide_eq_true h]; exact Bool.false_ne_true)]; exact h2 h
  · rw [if_pos (by rw [decide_eq_false h]; rfl)]; exact h1 h

theorem RowV.of {K : PySem.W.Frag} {H : Hp} {p : Addr} {x : Row} (h : H p = some (.tup [.int x.1, .int x.2])) : RowV K H (.ref p) x := ⟨p, rfl, SqT.of h⟩
/-- rows[:k] + rows[k+1:] + (x,) and rows[:k] + (x,) + rows[k+1:] -/
theorem rows_out {K : PySem.W.Frag} {H : Hp} {xs : List V} {l : List Row} {k : Nat} {x : Row} {v : V} (r : RowsV K H xs l) (hv : RowV K H v x) : RowsV K H (xs.take k ++ xs.drop (k + 1) ++ [v]) (outAt l k x) :=
  paired_append (paired_append (paired_take k r) (paired_drop (k + 1) r)) (.cons hv .nil)
theorem rows_put {K : PySem.W.Frag} {H : Hp} {xs : List V} {l : List Row} {k : Nat} {x : Row} {v : V} (r : RowsV K H xs l) (hv : RowV K H v x) : RowsV K H (xs.take k ++ [v] ++ xs.drop (k + 1)) (putAt l k x) := by
  unfold putAt
  rw [List.append_assoc]
  exact paired_append (paired_take k r) (.cons hv (paired_drop (k + 1) r))
theorem out_len {l : List Row} {k : Nat} {x : Row} (h : k < l.length) : (outAt l k x).length = l.length := by
  unfold outAt
  simp
  omega
theorem put_len {l : List Row} {k : Nat} {x : Row} (h : k < l.length) : (putAt l k x).length = l.length := by
  unfold putAt
  simp
  omega

theorem RowsV.upd {K : PySem.W.Frag} {H : Hp} {L : Addr} {ys xs : List V} {l : List Row} {o : HO} (hL : H L = some (.lst ys)) (r : RowsV K H xs l) : RowsV K (upd H L o) xs l :=
  Paired.mapP r fun _ _ ⟨b, h1, h2⟩ => ⟨b, h1, sqT_upd hL h2⟩
theorem paired_set {α β : Type} {F : α → β → Prop} {x : α} {y : β} (h : F x y) : ∀ {l : List α} {m : List β} (n : Nat), Paired F l m → Paired F (l.set n x) (m.set n y)
  | _, _, _, .nil => .nil
  | _, _, 0, .cons _ t => .cons h t
  | _, _, n + 1, .cons r t => .cons r (paired_set h n t)

theorem flat_ints (ns : List Int) : (ns.map V.int).all flatV = true := by
  rw [List.all_eq_true]
  intro x hx
  obtain ⟨n, _, rfl⟩ := List.mem_map.mp hx
  rfl
/-- pages.index(m): the first place -/
theorem r_indexI {K : PySem.W.Frag} {H : Hp} {Q : VK} {p : Addr} {ns : List Int} {m : Int} {j : Nat} (hs : SqL K H p (ns.map V.int)) (hj : ns[j]? = some m) (hn : ∀ k, k < j → ns[k]? ≠ some m) (h : Q (.int (j : Int)) H) : rIndex K (.ref p) [.int m] H Q := by
  refine ⟨p, _, .int m, j, .int m, rfl, rfl, hs, rfl, flat_ints ns, by rw [List.getElem?_map, hj]; rfl, by show (m == m) = true; exact beq_self_eq_true m, fun k z hk hz => ?_, h⟩
  rw [List.getElem?_map] at hz
  cases e : ns[k]? with
  | none => rw [e] at hz; cases hz
  | some y =>
    rw [e] at hz
    have hz' : V.int y = z := Option.some.inj hz
    rw [← hz']
    show (y == m) = false
    refine beq_eq_false_iff_ne.mpr fun q => hn k hk ?_
    rw [e, q]
theorem map_snoc_take {α β : Type} {l : List α} {i : Nat} {x : α} (f : α → β) (h : l[i]? = some x) : (l.take (i + 1)).map f = (l.take i).map f ++ [f x] := by
  rw [List.take_add_one, h]
  simp
theorem wipe_set1 {s0 : L2.St} {n : Nat} (v : Option V) (hn : n < s0.length) : wipe ((wipe s0 [n]).set n v) [n] = wipe s0 [n] := by
  simp [wipe]
/-- [row[j] for row in rows] -/
theorem lc_rows {K : PySem.W.Frag} {H : Hp} {a D : Addr} {xs : List V} {l : List Row} {s0 : L2.St} {n : Nat} {te : TE} {Qd : Hp → Prop} (f : Row → Int) (hs : SqT K H a xs) (hr : RowsV K H xs l) (hl : l.length ≤ 100) (hn : n < s0.length) (nD : H D = none)
    (ht : ∀ (H' : Hp) (b : Addr) (x : Row) (Q : VK), SqT K H' b [.int x.1, .int x.2] → Q (.int (f x)) H' → te ((wipe s0 [n]).set n (some (.ref b))) H' Q)
    (hd : ∀ H', Same H H' → H' D = some (.lst ((l.map f).map V.int)) → Qd H') :
    ∃ W : Nat → Nat → Hp → Prop, (∃ m, W 0 m (upd H D (.lst []))) ∧ ∀ i m H, W i m H →
      ((Itt K a).stop i H ∧ Qd H) ∨ ((Itt K a).go i H ∧ ∃ Nx : Hp → Prop, (∀ H', Nx H' → ∃ m', m' < m ∧ W (i + 1) m' H') ∧ ∀ x H', (Itt K a).yld i H x H' → gName n x (wipe s0 [n]) H' fun σ2 H2 => wipe σ2 [n] = wipe s0 [n] ∧ tYes σ2 H2 fun b H3 =>
        if b = true then te σ2 H3 fun y H4 => ∃ acc, H4 D = some (.lst acc) ∧ acc.length < sizeLine ∧ Nx (upd H4 D (.lst (acc ++ [y]))) else Nx H3) := by
  have xl := hr.len
  refine lc_tup (K := K) (a := a) (xs := xs) (fun i H' => Same H H' ∧ H' D = some (.lst (((l.take i).map f).map V.int))) ⟨Same.new nD, upd_same⟩ (fun i H' _ z => sqT_same z.1 hs) ?_ (fun H' z => hd H' z.1 (by have q := z.2; rw [xl, List.take_length] at q; exact q))
  rintro i x H' hx ⟨sm, hD⟩
  obtain ⟨q, hq, b, rfl, hb⟩ := hr.get' hx
  refine ⟨?_, ?_⟩
  · exact wipe_set1 _ hn
  · refine r_yes ?_
    refine iteT ?_
    refine ht _ _ _ _ (sqT_same sm hb) ?_
    refine ⟨_, hD, ?_, Same.mut sm nD, ?_⟩
    · refine sz10' ?_
      simp
      omega
    · rw [upd_same, map_snoc_take f hq]
      simp

theorem StV.mk {K : PySem.W.Frag} {H : Hp} {p : Addr} {x : V} {l : List Row} {h : Nat} (hp : H p = some (.tup [x, .int (h : Int)])) (hx : RsV K H x l) : StV K H (.ref p) l h := ⟨p, x, rfl, SqT.of hp, hx⟩
end CB

namespace CB
open PySem PySem.Spec PyProof.Rows L2
local macro_rules | `(tactic| walk_at "s1") => `(tactic| (with_reducible first
  | refine r_seq ?_ | refine r_next ?_ | refine r_asg ?_ | refine r_gname ?_ | refine r_ret ?_ | refine r_retN ?_ | refine r_drop ?_ | refine r_ifs ?_ | refine r_c ?_ | refine r_op ?_ | refine r_nil ?_ | refine r_cons ?_
  | refine r_tup ?_ | refine r_lst ?_ | refine r_test ?_ | refine r_tB ?_ | refine r_tru ?_ | refine r_exbl ?_ | refine r_tint ?_ | refine r_and ?_ | refine r_or ?_ | refine r_not ?_ | refine r_notV ?_ | refine r_andV ?_ | refine r_orV ?_ | refine r_ifE ?_ | refine r_call ?_ | refine r_callD ?_ | refine r_CB ?_
  | refine r_kAdd ?_ | refine r_kSub ?_ | refine r_kLt ?_ | refine r_kLe ?_ | refine r_kGt ?_ | refine r_kGe ?_ | refine r_eqI ?_ | refine r_neI ?_ | refine r_eqS ?_ | refine r_isN ?_ | refine r_notN ?_
  | refine r_gcons ?_ | refine r_gnil ?_ | refine r_gsub ?_ | refine r_BM ?_ | refine r_sl ?_ | refine r_nopart ?_ | refine r_part ?_ | refine r_exint ?_ | refine r_par ?_ | refine r_par2 ?_ | refine r_chain ?_
  | refine r_dget ?_ | refine r_dput ?_ | refine iteT ?_ | refine r_for ?_ | refine r_iEnumT ?_ | refine r_iTup ?_ | refine r_iList ?_ | refine r_rng1 ?_ | refine r_rng2 ?_ | refine r_lc ?_ | refine r_gtup2 ?_ | refine r_yes ?_ | refine iteF ?_ | refine r_var (by with_unfolding_all rfl) ?_))
local macro_rules | `(tactic| walk_at "go") => `(tactic| (repeat (walk_at "s1")))


/-! ### the law's draws -/
/-- the list that drawing works on, at st -/
def DrS (scr : Addr) (i m r : Int) : HO := .lst [.ref scr, .int i, .int m, .int r]
structure DrV (K : PySem.W.Frag) (H : Hp) (st scr : Addr) (ns : List Int) (i m r : Int) : Prop where
  at_ : H st = some (DrS scr i m r)
  scr : SqL K H scr (ns.map V.int)
  i0 : 0 ≤ i
  m0 : 0 ≤ m
  m1 : m < 2147483647
  r0 : 0 ≤ r
def sp__law_start (G : Glob) : Sp := fun vs H Q _ => ∃ (scr : Addr) (ns : List Int), vs = [.ref scr] ∧ SqL G.K H scr (ns.map V.int) ∧ ∀ st m H', H st = none → Same H H' → DrV G.K H' st scr ns 0 m 0 → Q (.ref st) H'
def sp__law_drawn (G : Glob) : Sp := fun vs H Q _ => ∃ (st scr : Addr) (ns : List Int) (i m r n : Int), vs = [.ref st, .int n] ∧ DrV G.K H st scr ns i m r ∧ 0 < n ∧ n < 1073741824 ∧
  ∀ x i' m' r', 0 ≤ x → x < n → DrV G.K (upd H st (DrS scr i' m' r')) st scr ns i' m' r' → Q (.int x) (upd H st (DrS scr i' m' r'))
def ruleAt : Nat → Rule
  | 0 => .came | 1 => .used | 2 => .last | 3 => .often | 4 => .clock | _ => .high
def sp__law_rule (G : Glob) : Sp := fun vs H Q _ => ∃ (st scr : Addr) (ns : List Int) (i m r : Int), vs = [.ref st] ∧ DrV G.K H st scr ns i m r ∧
  ∀ (ru : Rule) i' m' r' H', (∀ b o, b ≠ st → H b = some o → H' b = some o) → DrV G.K H' st scr ns i' m' r' → Q (.str ru.s) H'
def t__law_start (G : Glob) : TS := (tSeq (tAsg (tC (.int 1)) (gName 1))
    (tSeq (tFor (iList G.K (tVar 0)) (gName 2) (tAsg (tOp kMod (tOp kAdd (tOp kAdd (tOp kMul (tVar 1) (tC (.int 48271))) (tVar 2)) (tC (.int 7))) (tC (.int 2147483647))) (gName 1)))
    (tRet (tLst (tCons (tVar 0) (tCons (tC (.int 0)) (tCons (tVar 1) (tCons (tC (.int 0)) tNil))))))))
def t__law_drawn (G : Glob) : TS := (tSeq (tIfS (tTest (tOp kGt (tOp (rIxL G.K) (tVar 0) (tC (.int 3))) (tC (.int 0)))) (tSeq (tAsg (tOp kMod (tOp (rIxL G.K) (tVar 0) (tC (.int 3))) (tVar 1)) (gName 2))
    (tSeq (tAsg (tOp kFdiv (tOp (rIxL G.K) (tVar 0) (tC (.int 3))) (tVar 1)) (gSub (tVar 0) (tC (.int 3)) rSetL))
    (tRet (tVar 2)))) tNext)
    (tSeq (tAsg (tOp kAdd (tOp (rIxL G.K) (tVar 0) (tC (.int 1))) (tC (.int 1))) (gSub (tVar 0) (tC (.int 1)) rSetL))
    (tSeq (tIfS (tTest (tOp kLe (tOp (rIxL G.K) (tVar 0) (tC (.int 1))) (tCB (bLen G.K) (tCons (tOp (rIxL G.K) (tVar 0) (tC (.int 0))) tNil)))) (tSeq (tAsg (tOp (rIxL G.K) (tOp (rIxL G.K) (tVar 0) (tC (.int 0))) (tOp kSub (tOp (rIxL G.K) (tVar 0) (tC (.int 1))) (tC (.int 1)))) (gName 3))
    (tSeq (tAsg (tIf (tTest (tOp kGe (tVar 3) (tOp kPow (tC (.int 10)) (tC (.int 18))))) (tOp kFdiv (tVar 3) (tVar 1)) (tC (.int 0))) (gSub (tVar 0) (tC (.int 3)) rSetL))
    (tRet (tOp kMod (tVar 3) (tVar 1))))) tNext)
    (tSeq (tAsg (tOp kMod (tOp kAdd (tOp kMul (tOp (rIxL G.K) (tVar 0) (tC (.int 2))) (tC (.int 48271))) (tC (.int 11))) (tC (.int 2147483647))) (gSub (tVar 0) (tC (.int 2)) rSetL))
    (tRet (tOp kMod (tOp kFdiv (tOp (rIxL G.K) (tVar 0) (tC (.int 2))) (tC (.int 7))) (tVar 1)))))))
def t__law_rule (G : Glob) : TS := (tRet (tOp (rIxL G.K) (tLst (tCons (tC (.str "came")) (tCons (tC (.str "used")) (tCons (tC (.str "last")) (tCons (tC (.str "often")) (tCons (tC (.str "clock")) (tCons (tC (.str "high")) tNil))))))) (tCall (sp__law_drawn G) [] E0 (tCons (tVar 0) (tCons (tC (.int 6)) tNil)))))
theorem sqL_updL {K : PySem.W.Frag} {H : Hp} {L b : Addr} {xs : List V} {o : HO} (hne : b ≠ L) (h : SqL K H b xs) : SqL K (upd H L o) b xs := by
  rcases h with (h | ⟨u, h⟩) | h
  · exact .inl (.inl (by rw [upd_ne hne]; exact h))
  · exact .inl (.inr ⟨u, by rw [upd_ne hne]; exact h⟩)
  · exact .inr h
theorem len__law_start (G : Glob) (vs : List V) (H : Hp) (Q : VK) (E : XK) (h : sp__law_start G vs H Q E) : vs.length = 1 := by
  obtain ⟨_, _, rfl, _⟩ := h
  rfl
theorem rd__law_start (G : Glob) (vs : List V) (H : Hp) (Q : VK) (E : XK) (h : sp__law_start G vs H Q E) : t__law_start G { nx := fun _ H' => Q .non H', rt := Q } (start ["_law_script", "_law_mixed", "_law_cell"] vs) H := by
  obtain ⟨scr, ns, rfl, hs, q⟩ := h
  unfold t__law_start
  walk_at "go"
  refine ⟨scr, rfl, ⟨_, hs⟩, for_list (K := G.K) (a := scr) (xs := ns.map V.int) (fun i σ H' => ∃ (m : Int) (v : Option V), σ = [some (.ref scr), some (.int m), v] ∧ 0 ≤ m ∧ m < 2147483647 ∧ H' = H) ⟨1, none, rfl, by decide, by decide, rfl⟩ (fun i σ H' _ ⟨_, _, _, _, _, e⟩ => by rw [e]; exact hs) ?_ ?_⟩
  · rintro i x σ H' hx ⟨m, v, rfl, m0, m1, rfl⟩
    obtain ⟨z, hz, rfl⟩ : ∃ z, ns[i]? = some z ∧ x = V.int z := by
      rw [List.getElem?_map] at hx
      cases e : ns[i]? with
      | none => rw [e] at hx; cases hx
      | some z => rw [e] at hx; exact ⟨z, rfl, (Option.some.inj hx).symm⟩
    walk_at "go"
    refine r_kMul (.inl ⟨by omega, by omega⟩) ?_
    walk_at "go"
    refine r_kMod (by decide) ?_
    walk_at "go"
    exact ⟨_, _, rfl, Int.emod_nonneg _ (by decide), Int.emod_lt_of_pos _ (by decide), rfl⟩
  · rintro σ H' ⟨m, v, rfl, m0, m1, rfl⟩
    walk_at "go"
    refine r_newL szd fun p H1 np s1 hp => ?_
    exact q p m H1 np s1 ⟨hp, s1.seq hs, Int.le_refl _, m0, m1, Int.le_refl _⟩
theorem len__law_drawn (G : Glob) (vs : List V) (H : Hp) (Q : VK) (E : XK) (h : sp__law_drawn G vs H Q E) : vs.length = 2 := by
  obtain ⟨_, _, _, _, _, _, _, rfl, _⟩ := h
  rfl
theorem sqL_dr {K : PySem.W.Frag} {H : Hp} {st scr sc2 : Addr} {ns : List Int} {i m r : Int} {o : HO} (hst : H st = some (DrS sc2 i m r)) (h : SqL K H scr (ns.map V.int)) : SqL K (upd H st o) scr (ns.map V.int) := by
  by_cases e : scr = st
  · subst e
    rcases h with (h | ⟨u, h⟩) | h
    · rw [hst] at h
      unfold DrS at h
      injection h with h
      injection h with h
      cases ns with
      | nil => cases h
      | cons a l => injection h with h1 _; cases h1
    · rw [hst] at h
      unfold DrS at h
      injection h with h
      cases h
    · exact .inr h
  · exact sqL_updL e h
theorem DrV.next {K : PySem.W.Frag} {H : Hp} {st scr : Addr} {ns : List Int} {i m r i' m' r' : Int} (d : DrV K H st scr ns i m r) (hi : 0 ≤ i') (h0 : 0 ≤ m') (h1 : m' < 2147483647) (hr : 0 ≤ r') : DrV K (upd H st (DrS scr i' m' r')) st scr ns i' m' r' :=
  ⟨upd_same, sqL_dr d.at_ d.scr, hi, h0, h1, hr⟩
theorem fdiv_nn {a b : Int} (ha : 0 ≤ a) (hb : 0 < b) : 0 ≤ a.fdiv b := by
  rw [Int.fdiv_eq_ediv_of_nonneg _ (Int.le_of_lt hb)]
  exact Int.ediv_nonneg ha (Int.le_of_lt hb)
theorem at_i {ns : List Int} {i : Int} (h0 : 0 ≤ i) (hl : i < ns.length) : ∃ z, atI (ns.map V.int) i = some (.int z) := by
  have h1 : i.toNat < ns.length := by omega
  have q : atI (ns.map V.int) ((i.toNat : Nat) : Int) = some (.int ns[i.toNat]) := atI_nat (by rw [List.getElem?_map, List.getElem?_eq_getElem h1]; rfl)
  rw [Int.toNat_of_nonneg h0] at q
  exact ⟨_, q⟩
theorem r_setD {K : PySem.W.Frag} {H : Hp} {st scr : Addr} {i m r : Int} {k : Nat} {v : V} {QH : Hp → Prop} (hs : H st = some (DrS scr i m r)) (hk : k < 4) (h : QH (upd H st (.lst ([V.ref scr, .int i, .int m, .int r].set k v)))) : rSetL (.ref st) (.int (k : Int)) v H QH :=
  r_setL hs (ixN_nat hk) h
theorem rd__law_drawn (G : Glob) (vs : List V) (H : Hp) (Q : VK) (E : XK) (h : sp__law_drawn G vs H Q E) : t__law_drawn G { nx := fun _ H' => Q .non H', rt := Q } (start ["_law_state", "_law_many", "_law_found", "_law_cell"] vs) H := by
  obtain ⟨st, scr, ns, i, m, r, n, rfl, d, n0, n1, q⟩ := h
  unfold t__law_drawn
  walk_at "go"
  refine r_ixL (i := ((3 : Nat) : Int)) (SqL.of d.at_) (atI_nat rfl) ?_
  walk_at "go"
  refine if_dt (fun c => ?_) (fun c => ?_)
  · walk_at "go"
    refine r_ixL (i := ((3 : Nat) : Int)) (SqL.of d.at_) (atI_nat rfl) ?_
    walk_at "go"
    refine r_kMod n0 ?_
    walk_at "go"
    refine r_ixL (i := ((3 : Nat) : Int)) (SqL.of d.at_) (atI_nat rfl) ?_
    walk_at "go"
    refine r_kFdiv ⟨by omega, by omega⟩ ?_
    walk_at "go"
    refine r_setD (K := G.K) (k := 3) d.at_ (by decide) ?_
    walk_at "go"
    exact q _ _ _ _ (Int.emod_nonneg _ (by omega)) (Int.emod_lt_of_pos _ n0) (d.next d.i0 d.m0 d.m1 (fdiv_nn d.r0 n0))
  · have r0 : r = 0 := by have := d.r0; omega
    walk_at "go"
    refine r_ixL (i := ((1 : Nat) : Int)) (SqL.of d.at_) (atI_nat rfl) ?_
    walk_at "go"
    refine r_setD (K := G.K) (k := 1) d.at_ (by decide) ?_
    walk_at "go"
    have d1 : DrV G.K (upd H st (DrS scr (i + 1) m r)) st scr ns (i + 1) m r := d.next (by have := d.i0; omega) d.m0 d.m1 d.r0
    refine r_ixL (i := ((1 : Nat) : Int)) (SqL.of d1.at_) (atI_nat rfl) ?_
    walk_at "go"
    refine r_ixL (i := ((0 : Nat) : Int)) (SqL.of d1.at_) (atI_nat rfl) ?_
    walk_at "go"
    refine r_lenL d1.scr ?_
    walk_at "go"
    refine if_dt (fun c2 => ?_) (fun c2 => ?_)
    · walk_at "go"
      refine r_ixL (i := ((0 : Nat) : Int)) (SqL.of d1.at_) (atI_nat rfl) ?_
      walk_at "go"
      refine r_ixL (i := ((1 : Nat) : Int)) (SqL.of d1.at_) (atI_nat rfl) ?_
      walk_at "go"
      obtain ⟨z, hz⟩ := at_i (ns := ns) (i := i + 1 - 1) (by have := d.i0; omega) (by simp at c2; omega)
      refine r_ixL d1.scr hz ?_
      walk_at "go"
      refine ⟨10, 18, rfl, rfl, ⟨by decide, by decide, by decide⟩, ?_⟩
      walk_at "go"
      refine if_dt (fun c3 => ?_) (fun c3 => ?_)
      · walk_at "go"
        refine r_kFdiv ⟨by omega, by omega⟩ ?_
        walk_at "go"
        refine r_setD (K := G.K) (k := 3) d1.at_ (by decide) ?_
        walk_at "go"
        refine r_kMod n0 ?_
        walk_at "go"
        have z0 : 0 ≤ z := Int.le_trans (by decide) c3
        have e : upd (upd H st (DrS scr (i + 1) m r)) st (DrS scr (i + 1) m (z.fdiv n)) = upd H st (DrS scr (i + 1) m (z.fdiv n)) := upd_upd
        have := q (z % n) (i + 1) m (z.fdiv n) (Int.emod_nonneg _ (by omega)) (Int.emod_lt_of_pos _ n0) (d.next (by have := d.i0; omega) d.m0 d.m1 (fdiv_nn z0 n0))
        rw [← e] at this
        exact this
      · walk_at "go"
        refine r_setD (K := G.K) (k := 3) d1.at_ (by decide) ?_
        walk_at "go"
        refine r_kMod n0 ?_
        walk_at "go"
        have e : upd (upd H st (DrS scr (i + 1) m r)) st (DrS scr (i + 1) m 0) = upd H st (DrS scr (i + 1) m 0) := upd_upd
        have := q (z % n) (i + 1) m 0 (Int.emod_nonneg _ (by omega)) (Int.emod_lt_of_pos _ n0) (d.next (by have := d.i0; omega) d.m0 d.m1 (Int.le_refl _))
        rw [← e] at this
        exact this
    · walk_at "go"
      refine r_ixL (i := ((2 : Nat) : Int)) (SqL.of d1.at_) (atI_nat rfl) ?_
      walk_at "go"
      refine r_kMul (.inl ⟨by have := d.m0; omega, by have := d.m1; omega⟩) ?_
      walk_at "go"
      refine r_kMod (by decide) ?_
      walk_at "go"
      refine r_setD (K := G.K) (k := 2) d1.at_ (by decide) ?_
      walk_at "go"
      have d2 : DrV G.K (upd H st (DrS scr (i + 1) ((m * 48271 + 11) % 2147483647) r)) st scr ns (i + 1) ((m * 48271 + 11) % 2147483647) r := d.next (by have := d.i0; omega) (Int.emod_nonneg _ (by decide)) (Int.emod_lt_of_pos _ (by decide)) d.r0
      have e : upd (upd H st (DrS scr (i + 1) m r)) st (DrS scr (i + 1) ((m * 48271 + 11) % 2147483647) r) = upd H st (DrS scr (i + 1) ((m * 48271 + 11) % 2147483647) r) := upd_upd
      refine r_ixL (i := ((2 : Nat) : Int)) (SqL.of (xs := [.ref scr, .int (i + 1), .int ((m * 48271 + 11) % 2147483647), .int r]) upd_same) (atI_nat rfl) ?_
      walk_at "go"
      refine r_kFdiv ⟨by decide, by decide⟩ ?_
      walk_at "go"
      refine r_kMod n0 ?_
      have := q (((m * 48271 + 11) % 2147483647).fdiv 7 % n) _ _ _ (Int.emod_nonneg _ (by omega)) (Int.emod_lt_of_pos _ n0) d2
      rw [← e] at this
      exact this
theorem len__law_rule (G : Glob) (vs : List V) (H : Hp) (Q : VK) (E : XK) (h : sp__law_rule G vs H Q E) : vs.length = 1 := by
  obtain ⟨_, _, _, _, _, _, rfl, _⟩ := h
  rfl
theorem rd__law_rule (G : Glob) (vs : List V) (H : Hp) (Q : VK) (E : XK) (h : sp__law_rule G vs H Q E) : t__law_rule G { nx := fun _ H' => Q .non H', rt := Q } (start ["_law_state"] vs) H := by
  obtain ⟨st, scr, ns, i, m, r, rfl, d, q⟩ := h
  unfold t__law_rule
  walk_at "go"
  refine r_newL szd fun p H1 np s1 hp => ?_
  walk_at "go"
  have nps : p ≠ st := fun z => by rw [z, d.at_] at np; cases np
  refine ⟨st, scr, ns, i, m, r, 6, rfl, ⟨s1 _ _ d.at_, s1.seq d.scr, d.i0, d.m0, d.m1, d.r0⟩, by decide, by decide, fun x i' m' r' x0 x6 d' => ?_⟩
  have hx : x = 0 ∨ x = 1 ∨ x = 2 ∨ x = 3 ∨ x = 4 ∨ x = 5 := by omega
  have hp' : SqL G.K (upd H1 st (DrS scr i' m' r')) p [.str "came", .str "used", .str "last", .str "often", .str "clock", .str "high"] := SqL.of (by rw [upd_ne nps]; exact hp)
  have fr : ∀ b o, b ≠ st → H b = some o → upd H1 st (DrS scr i' m' r') b = some o := fun b o hb e => by rw [upd_ne hb]; exact s1 _ _ e
  rcases hx with e | e | e | e | e | e <;> subst e
  · exact r_ixL (i := ((0 : Nat) : Int)) hp' (atI_nat rfl) (q .came _ _ _ _ fr d')
  · exact r_ixL (i := ((1 : Nat) : Int)) hp' (atI_nat rfl) (q .used _ _ _ _ fr d')
  · exact r_ixL (i := ((2 : Nat) : Int)) hp' (atI_nat rfl) (q .last _ _ _ _ fr d')
  · exact r_ixL (i := ((3 : Nat) : Int)) hp' (atI_nat rfl) (q .often _ _ _ _ fr d')
  · exact r_ixL (i := ((4 : Nat) : Int)) hp' (atI_nat rfl) (q .clock _ _ _ _ fr d')
  · exact r_ixL (i := ((5 : Nat) : Int)) hp' (atI_nat rfl) (q .high _ _ _ _ fr d')
end CB

namespace CB
open PySem PySem.Spec PyProof.Rows L2
local macro_rules | `(tactic| walk_at "s1") => `(tactic| (with_reducible first
  | refine r_seq ?_ | refine r_next ?_ | refine r_asg ?_ | refine r_gname ?_ | refine r_ret ?_ | refine r_retN ?_ | refine r_drop ?_ | refine r_ifs ?_ | refine r_c ?_ | refine r_op ?_ | refine r_nil ?_ | refine r_cons ?_
  | refine r_tup ?_ | refine r_lst ?_ | refine r_test ?_ | refine r_tB ?_ | refine r_tru ?_ | refine r_exbl ?_ | refine r_tint ?_ | refine r_and ?_ | refine r_or ?_ | refine r_not ?_ | refine r_notV ?_ | refine r_andV ?_ | refine r_orV ?_ | refine r_ifE ?_ | refine r_call ?_ | refine r_callD ?_ | refine r_CB ?_
  | refine r_kAdd ?_ | refine r_kSub ?_ | refine r_kLt ?_ | refine r_kLe ?_ | refine r_kGt ?_ | refine r_kGe ?_ | refine r_eqI ?_ | refine r_neI ?_ | refine r_eqS ?_ | refine r_isN ?_ | refine r_notN ?_
  | refine r_gcons ?_ | refine r_gnil ?_ | refine r_gsub ?_ | refine r_BM ?_ | refine r_sl ?_ | refine r_nopart ?_ | refine r_part ?_ | refine r_exint ?_ | refine r_par ?_ | refine r_par2 ?_ | refine r_chain ?_
  | refine r_dget ?_ | refine r_dput ?_ | refine iteT ?_ | refine r_for ?_ | refine r_iEnumT ?_ | refine r_iTup ?_ | refine r_iList ?_ | refine r_rng1 ?_ | refine r_rng2 ?_ | refine r_lc ?_ | refine r_gtup2 ?_ | refine r_yes ?_ | refine iteF ?_ | refine r_var (by with_unfolding_all rfl) ?_))
local macro_rules | `(tactic| walk_at "go") => `(tactic| (repeat (walk_at "s1")))


/-! ### data lemmas -/
theorem dp_ints {K : PySem.W.Frag} {H : Hp} : ∀ ns : List Int, DpAll K H (ns.map V.int) (ns.map PyData.int)
  | [] => .nil
  | n :: ns => .cons (.int n) (dp_ints ns)
theorem ints_lay : ∀ ns : List Int, PyData.canLayAll0 (ns.map PyData.int) = true
  | [] => by simp [PyData.canLayAll0]
  | n :: ns => by simp [PyData.canLayAll0, PyData.canLay0, ints_lay ns]
theorem ints_depth : ∀ ns : List Int, PyData.depthAll (ns.map PyData.int) = 0
  | [] => by simp [PyData.depthAll]
  | n :: ns => by simp [PyData.depthAll, PyData.depth, ints_depth ns]
theorem ints_shaped (ns : List Int) : SeqAt.shaped (.list (ns.map PyData.int)) = true := by
  have h2 : PyData.depth (.list (ns.map PyData.int)) ≤ 64 := by
    simp only [PyData.depth, ints_depth]
    omega
  show (PyData.canLay0 (.list (ns.map PyData.int)) && decide (PyData.depth (.list (ns.map PyData.int)) ≤ 64)) = true
  rw [Bool.and_eq_true]
  exact ⟨by simp only [PyData.canLay0]; exact ints_lay ns, decide_eq_true h2⟩
theorem ints_eqv_nil (ns : List Int) : PyData.eqv (.list (ns.map PyData.int)) (.list []) = decide (ns = []) := by
  cases ns with
  | nil => simp [PyData.eqv, PyData.eqvAll]
  | cons n ns => simp [PyData.eqv, PyData.eqvAll]
/-- xs == [] -/
theorem r_eqNil {K : PySem.W.Frag} {H : Hp} {Q : VK} {p q : Addr} {ns : List Int} (hp : SqL K H p (ns.map V.int)) (hq : H q = some (.lst [])) (h : Q (.bl (decide (ns = []))) H) : rEqD K (.ref p) (.ref q) H Q :=
  ⟨.list (ns.map PyData.int), .list [], .lst hp (dp_ints ns), .lst (SqL.of hq) .nil, ints_shaped ns, ints_shaped [], by rw [ints_eqv_nil]; exact h⟩
theorem r_neNil {K : PySem.W.Frag} {H : Hp} {Q : VK} {p q : Addr} {ns : List Int} (hp : SqL K H p (ns.map V.int)) (hq : H q = some (.lst [])) (h : Q (.bl (!decide (ns = []))) H) : rNeD K (.ref p) (.ref q) H Q :=
  ⟨.list (ns.map PyData.int), .list [], .lst hp (dp_ints ns), .lst (SqL.of hq) .nil, ints_shaped ns, ints_shaped [], by rw [ints_eqv_nil]; exact h⟩
theorem inV_ints (z : Int) (ns : List Int) : inV (.int z) (ns.map V.int) = ns.contains z := by
  unfold inV
  induction ns with
  | nil => rfl
  | cons n ns ih =>
    rw [List.map_cons, List.any_cons, ih, List.contains_cons]
    show ((n == z) || _) = ((z == n) || _)
    rw [show (n == z) = (z == n) from Bool.eq_iff_iff.mpr ⟨fun h => by rw [eq_of_beq h]; exact beq_self_eq_true z, fun h => by rw [eq_of_beq h]; exact beq_self_eq_true n⟩]
theorem r_inI {K : PySem.W.Frag} {H : Hp} {Q : VK} {p : Addr} {ns : List Int} {z : Int} (hp : SqL K H p (ns.map V.int)) (h : Q (.bl (ns.contains z)) H) : kIn K (.int z) (.ref p) H Q :=
  ⟨p, _, rfl, .inl hp, rfl, flat_ints ns, by rw [inV_ints]; exact h⟩
theorem r_notInI {K : PySem.W.Frag} {H : Hp} {Q : VK} {p : Addr} {ns : List Int} {z : Int} (hp : SqL K H p (ns.map V.int)) (h : Q (.bl (!ns.contains z)) H) : kNotIn K (.int z) (.ref p) H Q :=
  ⟨p, _, rfl, .inl hp, rfl, flat_ints ns, by rw [inV_ints]; exact h⟩
/-- what a dict by numbers holds, as a function -/
def DF {α : Type} (inj : α → V) (kvs : List (Key × V)) (f : Int → Option α) : Prop := ∀ k, valV kvs (.inl k) = (f k).map inj
theorem DF.put {α : Type} {inj : α → V} {kvs : List (Key × V)} {f : Int → Option α} (d : DF inj kvs f) (k : Int) (x : α) : DF inj (putK kvs (.inl k) (inj x)) (pset f k x) := fun j => by
  rw [valV_put, d j]
  unfold pset
  by_cases h : j = k
  · subst h; simp
  · have h' : ¬ (Sum.inl j : Key) = Sum.inl k := fun z => h (Sum.inl.inj z)
    rw [if_neg h', if_neg h]
theorem DF.nil {α : Type} {inj : α → V} : DF inj [] (fun _ => (none : Option α)) := fun _ => rfl
/-! ### the law's cache in the heap -/
structure WA where
  w : Addr
  c : Addr
  a : Addr
  o : Addr
  m : Addr
def wkv (r : Rule) (size : Nat) (A : WA) (hand : Nat) (time : Int) : List (Key × V) :=
  [(.inr "rule", .str r.s), (.inr "size", .int (size : Int)), (.inr "came", .ref A.c), (.inr "asked", .ref A.a), (.inr "often", .ref A.o), (.inr "marks", .ref A.m), (.inr "hand", .int (hand : Int)), (.inr "time", .int time)]
structure WV (H : Hp) (A : WA) (r : Rule) (size : Nat) (W : W) (n : Nat) : Prop where
  w : H A.w = some (.dK (wkv r size A W.hand W.time))
  c : H A.c = some (.lst (W.came.map V.int))
  a : ∃ kv, H A.a = some (.dK kv) ∧ DF V.int kv W.asked ∧ kv.length ≤ n
  o : ∃ kv, H A.o = some (.dK kv) ∧ DF V.int kv W.often ∧ kv.length ≤ n
  m : ∃ kv, H A.m = some (.dK kv) ∧ DF V.bl kv W.marks ∧ kv.length ≤ n
  wa : A.w ≠ A.a
  wo : A.w ≠ A.o
  wm : A.w ≠ A.m
  ao : A.a ≠ A.o
  am : A.a ≠ A.m
  om : A.o ≠ A.m
section
variable {r : Rule} {size : Nat} {A : WA} {hand h' : Nat} {time t' : Int} {c' : Addr}
theorem wk_rule : valV (wkv r size A hand time) (.inr "rule") = some (.str r.s) := by kernel_rfl
theorem wk_size : valV (wkv r size A hand time) (.inr "size") = some (.int (size : Int)) := by kernel_rfl
theorem wk_came : valV (wkv r size A hand time) (.inr "came") = some (.ref A.c) := by kernel_rfl
theorem wk_asked : valV (wkv r size A hand time) (.inr "asked") = some (.ref A.a) := by kernel_rfl
theorem wk_often : valV (wkv r size A hand time) (.inr "often") = some (.ref A.o) := by kernel_rfl
theorem wk_marks : valV (wkv r size A hand time) (.inr "marks") = some (.ref A.m) := by kernel_rfl
theorem wk_hand : valV (wkv r size A hand time) (.inr "hand") = some (.int (hand : Int)) := by kernel_rfl
theorem wk_time : valV (wkv r size A hand time) (.inr "time") = some (.int time) := by kernel_rfl
theorem wp_hand : putK (wkv r size A hand time) (.inr "hand") (.int (h' : Int)) = wkv r size A h' time := by with_unfolding_all rfl
theorem wp_time : putK (wkv r size A hand time) (.inr "time") (.int t') = wkv r size A hand t' := by with_unfolding_all rfl
theorem wp_came : putK (wkv r size A hand time) (.inr "came") (.ref c') = wkv r size { A with c := c' } hand time := by with_unfolding_all rfl
end
end CB

namespace CB
open PySem PySem.Spec PyProof.Rows L2
local macro_rules | `(tactic| walk_at "s1") => `(tactic| (with_reducible first
  | refine r_seq ?_ | refine r_next ?_ | refine r_asg ?_ | refine r_gname ?_ | refine r_ret ?_ | refine r_retN ?_ | refine r_drop ?_ | refine r_ifs ?_ | refine r_c ?_ | refine r_op ?_ | refine r_nil ?_ | refine r_cons ?_
  | refine r_tup ?_ | refine r_lst ?_ | refine r_test ?_ | refine r_tB ?_ | refine r_tru ?_ | refine r_exbl ?_ | refine r_tint ?_ | refine r_and ?_ | refine r_or ?_ | refine r_not ?_ | refine r_notV ?_ | refine r_andV ?_ | refine r_orV ?_ | refine r_ifE ?_ | refine r_call ?_ | refine r_callD ?_ | refine r_CB ?_
  | refine r_kAdd ?_ | refine r_kSub ?_ | refine r_kLt ?_ | refine r_kLe ?_ | refine r_kGt ?_ | refine r_kGe ?_ | refine r_eqI ?_ | refine r_neI ?_ | refine r_eqS ?_ | refine r_isN ?_ | refine r_notN ?_
  | refine r_gcons ?_ | refine r_gnil ?_ | refine r_gsub ?_ | refine r_BM ?_ | refine r_sl ?_ | refine r_nopart ?_ | refine r_part ?_ | refine r_exint ?_ | refine r_par ?_ | refine r_par2 ?_ | refine r_chain ?_
  | refine r_dget ?_ | refine r_dput ?_ | refine iteT ?_ | refine r_for ?_ | refine r_iEnumT ?_ | refine r_iTup ?_ | refine r_iList ?_ | refine r_rng1 ?_ | refine r_rng2 ?_ | refine r_lc ?_ | refine r_gtup2 ?_ | refine r_yes ?_ | refine iteF ?_ | refine r_var (by with_unfolding_all rfl) ?_))
local macro_rules | `(tactic| walk_at "go") => `(tactic| (repeat (walk_at "s1")))


def W0 : W := ⟨[], fun _ => none, fun _ => none, fun _ => none, 0, 0⟩
def sp__law_started (G : Glob) : Sp := fun vs H Q _ => ∃ (r : Rule) (size : Nat), vs = [.str r.s, .int (size : Int)] ∧ ∀ A H', Same H H' → H A.w = none → H A.c = none → H A.a = none → H A.o = none → H A.m = none → WV H' A r size W0 0 → Q (.ref A.w) H'
def sp__law_loser (G : Glob) : Sp := fun vs H Q _ => ∃ (A : WA) (r : Rule) (size n : Nat) (W : W) (pa : Addr) (pins : List Int), vs = [.ref A.w, .ref pa] ∧ WV H A r size W n ∧ SqL G.K H pa (pins.map V.int) ∧ W.came.length ≤ 60 ∧ n ≤ 10000 ∧
  (∀ p ∈ W.came, ∃ t, W.asked p = some t) ∧ (∀ p ∈ W.came, ∃ t, W.often p = some t) ∧ (∀ p ∈ W.came, ∃ t, W.marks p = some t) ∧ (r = .clock → free W pins ≠ [] → ∃ k g w', sweepW pins k W = some (g, w')) ∧
  (free W pins = [] → ∀ H', Same H H' → Q .non H') ∧
  (free W pins ≠ [] → ∀ g W' H', Loses r W pins g W' → (∀ b o, b ≠ A.w → b ≠ A.m → H b = some o → H' b = some o) → WV H' A r size W' n → Q (.int g) H')
def t__law_started (G : Glob) : TS := (tRet (tDisp (((tC (.str "rule")), (tVar 0)) :: (((tC (.str "size")), (tVar 1)) :: (((tC (.str "came")), (tLst tNil)) :: (((tC (.str "asked")), tDNewK) :: (((tC (.str "often")), tDNewK) :: (((tC (.str "marks")), tDNewK) :: (((tC (.str "hand")), (tC (.int 0))) :: (((tC (.str "time")), (tC (.int 0))) :: []))))))))))
def t__law_loser (G : Glob) : TS := (tSeq (tAsg (tLc (iList G.K (tDGet (tVar 0) (tC (.str "came")))) (gName 2) (tTest (tOp (kNotIn G.K) (tVar 2) (tVar 1))) (tVar 2) [2]) (gName 3))
    (tSeq (tIfS (tTest (tOp (rEqD G.K) (tVar 3) (tLst tNil))) (tRet (tC .non)) tNext)
    (tSeq (tIfS (tTest (tOp kEq (tDGet (tVar 0) (tC (.str "rule"))) (tC (.str "came")))) (tRet (tOp (rIxL G.K) (tVar 3) (tC (.int 0)))) tNext)
    (tSeq (tIfS (tTest (tOp kEq (tDGet (tVar 0) (tC (.str "rule"))) (tC (.str "high")))) (tRet (tCB (rMax G.K) (tCons (tVar 3) tNil))) tNext)
    (tSeq (tIfS (tTest (tOp (kIn G.K) (tDGet (tVar 0) (tC (.str "rule"))) (tTup (tCons (tC (.str "used")) (tCons (tC (.str "last")) tNil))))) (tSeq (tAsg (tCB (rSortedPO G.K) (tCons (tLc (iList G.K (tVar 3)) (gName 2) tYes (tTup (tCons (tDGet (tDGet (tVar 0) (tC (.str "asked"))) (tVar 2)) (tCons (tVar 2) tNil))) [2]) tNil)) (gName 4))
    (tRet (tOp (rIxT G.K) (tOp (rIxL G.K) (tVar 4) (tIf (tTest (tOp kEq (tDGet (tVar 0) (tC (.str "rule"))) (tC (.str "used")))) (tC (.int 0)) (tOp kSub (tC (.int 0)) (tC (.int 1))))) (tC (.int 1))))) tNext)
    (tSeq (tIfS (tTest (tOp kEq (tDGet (tVar 0) (tC (.str "rule"))) (tC (.str "often")))) (tSeq (tAsg (tCB (rMin G.K) (tCons (tLc (iList G.K (tVar 3)) (gName 2) tYes (tDGet (tDGet (tVar 0) (tC (.str "often"))) (tVar 2)) [2]) tNil)) (gName 5))
    (tRet (tOp (rIxL G.K) (tLc (iList G.K (tVar 3)) (gName 2) (tTest (tOp kEq (tDGet (tDGet (tVar 0) (tC (.str "often"))) (tVar 2)) (tVar 5))) (tVar 2) [2]) (tC (.int 0))))) tNext)
    (tWhile (tB (tC (.bl true))) (tSeq (tAsg (tOp (rIxL G.K) (tDGet (tVar 0) (tC (.str "came"))) (tDGet (tVar 0) (tC (.str "hand")))) (gName 2))
    (tSeq (tIfS (tAnd (tTest (tOp (kNotIn G.K) (tVar 2) (tVar 1))) (tNot (tB (tDGet (tDGet (tVar 0) (tC (.str "marks"))) (tVar 2))))) (tRet (tVar 2)) tNext)
    (tSeq (sDPut (tDGet (tVar 0) (tC (.str "marks"))) (tVar 2) (tAndV (tDGet (tDGet (tVar 0) (tC (.str "marks"))) (tVar 2)) (tOp (kIn G.K) (tVar 2) (tVar 1))))
    (sDPut (tVar 0) (tC (.str "hand")) (tOp kMod (tOp kAdd (tDGet (tVar 0) (tC (.str "hand"))) (tC (.int 1))) (tCB (bLen G.K) (tCons (tDGet (tVar 0) (tC (.str "came"))) tNil))))))))))))))
theorem len__law_started (G : Glob) (vs : List V) (H : Hp) (Q : VK) (E : XK) (h : sp__law_started G vs H Q E) : vs.length = 2 := by
  obtain ⟨_, _, rfl, _⟩ := h
  rfl
theorem mergeK_cons (kvs : List (Key × V)) (p : Key × V) (l : List (Key × V)) : mergeK kvs (p :: l) = mergeK (putK kvs p.1 p.2) l := rfl
theorem rd__law_started (G : Glob) (vs : List V) (H : Hp) (Q : VK) (E : XK) (h : sp__law_started G vs H Q E) : t__law_started G { nx := fun _ H' => Q .non H', rt := Q } (start ["_law_rule_here", "_law_size"] vs) H := by
  obtain ⟨r, size, rfl, q⟩ := h
  unfold t__law_started
  refine r_ret ?_
  refine fun w nw => ?_
  have s0 : Same H (upd H w (.dK [])) := .new nw
  unfold tPairs
  walk_at "go"
  unfold tPairs
  walk_at "go"
  unfold tPairs
  walk_at "go"
  refine r_newL (Nat.zero_le _) fun c H1 nc s1 hc => ?_
  unfold tPairs
  walk_at "go"
  refine fun a na => ?_
  have s2 : Same H1 (upd H1 a (.dK [])) := .new na
  unfold tPairs
  walk_at "go"
  refine fun o no => ?_
  have s3 : Same (upd H1 a (.dK [])) (upd (upd H1 a (.dK [])) o (.dK [])) := .new no
  unfold tPairs
  walk_at "go"
  refine fun m nm => ?_
  have s4 : Same (upd (upd H1 a (.dK [])) o (.dK [])) (upd (upd (upd H1 a (.dK [])) o (.dK [])) m (.dK [])) := .new nm
  generalize hH2 : upd H1 a (.dK []) = H2 at *
  have ha : H2 a = some (.dK []) := by rw [← hH2]; exact upd_same
  generalize hH3 : upd H2 o (.dK []) = H3 at *
  have ho : H3 o = some (.dK []) := by rw [← hH3]; exact upd_same
  generalize hH4 : upd H3 m (.dK []) = H4 at *
  have hm : H4 m = some (.dK []) := by rw [← hH4]; exact upd_same
  unfold tPairs
  walk_at "go"
  unfold tPairs
  walk_at "go"
  unfold tPairs
  have sw : Same (upd H w (.dK [])) H4 := ((s1.trans s2).trans s3).trans s4
  have hw : H4 w = some (.dK []) := sw _ _ upd_same
  refine ⟨hw, wkv r size ⟨w, c, a, o, m⟩ 0 0, rfl, Nat.le_of_ble_eq_true rfl, ?_⟩
  have em : mergeK [] (wkv r size ⟨w, c, a, o, m⟩ 0 0) = wkv r size ⟨w, c, a, o, m⟩ 0 0 := by kernel_rfl
  have h4c : H4 c = some (.lst []) := ((s2.trans s3).trans s4) _ _ hc
  have h4a : H4 a = some (.dK []) := (s3.trans s4) _ _ ha
  have h4o : H4 o = some (.dK []) := s4 _ _ ho
  have ncw : c ≠ w := fun z => by rw [z, upd_same] at nc; cases nc
  have naw : a ≠ w := fun z => by rw [z, s1 _ _ upd_same] at na; cases na
  have now : o ≠ w := fun z => by rw [z, (s1.trans s2) _ _ upd_same] at no; cases no
  have nmw : m ≠ w := fun z => by rw [z, ((s1.trans s2).trans s3) _ _ upd_same] at nm; cases nm
  have noa : o ≠ a := fun z => by rw [z, ha] at no; cases no
  have nma : m ≠ a := fun z => by rw [z, s3 _ _ ha] at nm; cases nm
  have nmo : m ≠ o := fun z => by rw [z, ho] at nm; cases nm
  refine q ⟨w, c, a, o, m⟩ _ ?_ nw ?_ ?_ ?_ ?_ ⟨?_, ?_, ⟨[], ?_, .nil, Nat.le_refl _⟩, ⟨[], ?_, .nil, Nat.le_refl _⟩, ⟨[], ?_, .nil, Nat.le_refl _⟩, naw.symm, now.symm, nmw.symm, noa.symm, nma.symm, nmo.symm⟩
  · exact Same.mut (s0.trans sw) nw
  · exact s0.free nc
  · exact (s0.trans s1).free na
  · exact ((s0.trans s1).trans s2).free no
  · exact (((s0.trans s1).trans s2).trans s3).free nm
  · rw [em]
    exact upd_same
  · exact (upd_ne ncw).trans h4c
  · exact (upd_ne naw).trans h4a
  · exact (upd_ne now).trans h4o
  · exact (upd_ne nmw).trans hm
theorem len__law_loser (G : Glob) (vs : List V) (H : Hp) (Q : VK) (E : XK) (h : sp__law_loser G vs H Q E) : vs.length = 2 := by
  obtain ⟨_, _, _, _, _, _, _, rfl, _⟩ := h
  rfl
/-- [e for z in ns if t], ns a list of numbers at a; R tells what an item's value stands for -/
theorem lc_ints {K : PySem.W.Frag} {H : Hp} {a D : Addr} {ns : List Int} {s0 : L2.St} {n : Nat} {tt : TT} {te : TE} {Qd : Hp → Prop} (t : Int → Bool) (R : Hp → V → Int → Prop) (hs : SqL K H a (ns.map V.int)) (hl : ns.length ≤ 1000) (hn : n < s0.length) (nD : H D = none)
    (hR : ∀ H1 H2 x z, (∀ b xs, H1 b = some (.tup xs) → H2 b = some (.tup xs)) → R H1 x z → R H2 x z)
    (ht : ∀ (H' : Hp) (z : Int) (QT : Bool → Hp → Prop), Same H H' → z ∈ ns → QT (t z) H' → tt ((wipe s0 [n]).set n (some (.int z))) H' QT)
    (he : ∀ (H' : Hp) (z : Int) (Q : VK), Same H H' → z ∈ ns → t z = true → (∀ x H'', Same H' H'' → R H'' x z → Q x H'') → te ((wipe s0 [n]).set n (some (.int z))) H' Q)
    (hd : ∀ H' xs, Same H H' → H' D = some (.lst xs) → Paired (R H') xs (ns.filter t) → Qd H') :
    ∃ W : Nat → Nat → Hp → Prop, (∃ m, W 0 m (upd H D (.lst []))) ∧ ∀ i m H, W i m H →
      ((Itl K a).stop i H ∧ Qd H) ∨ ((Itl K a).go i H ∧ ∃ Nx : Hp → Prop, (∀ H', Nx H' → ∃ m', m' < m ∧ W (i + 1) m' H') ∧ ∀ x H', (Itl K a).yld i H x H' → gName n x (wipe s0 [n]) H' fun σ2 H2 => wipe σ2 [n] = wipe s0 [n] ∧ tt σ2 H2 fun b H3 =>
        if b = true then te σ2 H3 fun y H4 => ∃ acc, H4 D = some (.lst acc) ∧ acc.length < sizeLine ∧ Nx (upd H4 D (.lst (acc ++ [y]))) else Nx H3) := by
  refine lc_list (K := K) (a := a) (xs := ns.map V.int) (fun i H' => Same H H' ∧ ∃ xs, H' D = some (.lst xs) ∧ Paired (R H') xs ((ns.take i).filter t)) ⟨Same.new nD, [], upd_same, .nil⟩ (fun i H' _ z => z.1.seq hs) ?_ (fun H' z => ?_)
  · rintro i x H' hx ⟨sm, xs, hD, hP⟩
    obtain ⟨z, hz, rfl⟩ : ∃ z, ns[i]? = some z ∧ x = V.int z := by
      rw [List.getElem?_map] at hx
      cases e : ns[i]? with
      | none => rw [e] at hx; cases hx
      | some z => rw [e] at hx; exact ⟨z, rfl, (Option.some.inj hx).symm⟩
    have hmem : z ∈ ns := List.mem_of_getElem? hz
    have e1 : ns.take (i + 1) = ns.take i ++ [z] := by rw [List.take_add_one, hz]; rfl
    refine ⟨wipe_set1 _ hn, ?_⟩
    refine ht _ _ _ sm hmem ?_
    cases c : t z with
    | false =>
      refine iteF ⟨sm, xs, hD, ?_⟩
      rw [e1, List.filter_append, List.filter_cons_of_neg (by rw [c]; exact Bool.false_ne_true), List.filter_nil, List.append_nil]
      exact hP
    | true =>
      refine iteT ?_
      refine he _ _ _ sm hmem c fun y H2 s2 hy => ?_
      have hD2 : H2 D = some (.lst xs) := s2 _ _ hD
      have lx : xs.length = ((ns.take i).filter t).length := Paired.length hP
      refine ⟨xs, hD2, sz10' ?_, Same.mut (sm.trans s2) nD, xs ++ [y], upd_same, ?_⟩
      · have z1 : ((ns.take i).filter t).length ≤ ns.length := Nat.le_trans (List.length_filter_le _ _) (by simp; omega)
        omega
      · have k2 : ∀ b ys, H2 b = some (.tup ys) → upd H2 D (.lst (xs ++ [y])) b = some (.tup ys) := fun b ys e => by rw [upd_ne (ne_of e hD2 (fun z => by cases z))]; exact e
        rw [e1, List.filter_append, List.filter_cons_of_pos c, List.filter_nil]
        exact paired_append (Paired.mapP hP fun x z r => hR _ _ _ _ k2 (hR _ _ _ _ (fun b ys e => s2 _ _ e) r)) (.cons (hR _ _ _ _ k2 hy) .nil)
  · obtain ⟨sm, xs, hD, hP⟩ := z
    rw [List.length_map, List.take_length] at hP
    exact hd H' xs sm hD hP
theorem paired_eqInt {f : Int → V} : ∀ {xs : List V} {ns : List Int}, Paired (fun x z => x = f z) xs ns → xs = ns.map f
  | _, _, .nil => rfl
  | _, _, .cons r t => by rw [List.map_cons, r, paired_eqInt t]
theorem sqL_updK {K : PySem.W.Frag} {H : Hp} {L b : Addr} {xs : List V} {kvs : List (Key × V)} {o : HO} (hL : H L = some (.dK kvs)) (h : SqL K H b xs) : SqL K (upd H L o) b xs := by
  rcases h with (h | ⟨u, h⟩) | h
  · exact .inl (.inl (by rw [upd_ne (ne_of h hL (fun z => by cases z))]; exact h))
  · exact .inl (.inr ⟨u, by rw [upd_ne (ne_of h hL (fun z => by cases z))]; exact h⟩)
  · exact .inr h
theorem WV.same {H H' : Hp} {A : WA} {r : Rule} {size n : Nat} {W : W} (e : Same H H') (w : WV H A r size W n) : WV H' A r size W n :=
  ⟨e _ _ w.w, e _ _ w.c, let ⟨k, h1, h2⟩ := w.a; ⟨k, e _ _ h1, h2⟩, let ⟨k, h1, h2⟩ := w.o; ⟨k, e _ _ h1, h2⟩, let ⟨k, h1, h2⟩ := w.m; ⟨k, e _ _ h1, h2⟩, w.wa, w.wo, w.wm, w.ao, w.am, w.om⟩
theorem length_putK_in {kvs : List (Key × V)} {k : Key} {v x : V} (h : valV kvs k = some x) : (putK kvs k v).length = kvs.length := by
  have q := valV_any k kvs
  rw [h] at q
  unfold putK
  rw [if_pos (by rw [q]; rfl)]
  simp
def pairOf (H : Hp) (x : V) : Int × Int := match x with
  | .ref t => (match H t with | some (.tup [.int i, .int j]) => (i, j) | _ => (0, 0))
  | _ => (0, 0)
theorem pairOf_at {H : Hp} {t : Addr} {i j : Int} (h : H t = some (.tup [.int i, .int j])) : pairOf H (.ref t) = (i, j) := by
  simp only [pairOf, h]
theorem paired_mem {α β : Type} {F : α → β → Prop} : ∀ {l : List α} {m : List β} {x : α}, Paired F l m → x ∈ l → ∃ y, y ∈ m ∧ F x y
  | _, _, x, .nil, h => by cases h
  | _, _, x, .cons r t, h => by
    rcases List.mem_cons.mp h with e | h
    · subst e; exact ⟨_, List.mem_cons_self, r⟩
    · obtain ⟨y, h1, h2⟩ := paired_mem t h
      exact ⟨y, List.mem_cons_of_mem _ h1, h2⟩
theorem paired_mem' {α β : Type} {F : α → β → Prop} : ∀ {l : List α} {m : List β} {y : β}, Paired F l m → y ∈ m → ∃ x, x ∈ l ∧ F x y
  | _, _, y, .nil, h => by cases h
  | _, _, y, .cons r t, h => by
    rcases List.mem_cons.mp h with e | h
    · subst e; exact ⟨_, List.mem_cons_self, r⟩
    · obtain ⟨x, h1, h2⟩ := paired_mem' t h
      exact ⟨x, List.mem_cons_of_mem _ h1, h2⟩
theorem s_str {r : Rule} (c : r.s = Str.ofString "used" ∨ r.s = Str.ofString "last") : r = .used ∨ r = .last := c.imp (rs_inj (q := .used)) (rs_inj (q := .last))
theorem rd__law_loser (G : Glob) (vs : List V) (H : Hp) (Q : VK) (E : XK) (h : sp__law_loser G vs H Q E) : t__law_loser G { nx := fun _ H' => Q .non H', rt := Q } (start ["_law_w", "_law_pins", "_law_page", "_law_some", "_law_turns", "_law_least"] vs) H := by
  obtain ⟨A, r, size, n, W, pa, pins, rfl, wv, hp, h60, hn, dA, dO, dM, hck, q0, q1⟩ := h
  unfold t__law_loser
  walk_at "go"
  refine r_dgK wv.w wk_came rfl ?_
  refine ⟨A.c, rfl, ⟨_, SqL.of wv.c⟩, fun D nD => lc_ints (fun p => !pins.contains p) (fun _ x z => x = .int z) (SqL.of wv.c) (by omega) (by show 2 < 6; decide) nD (fun _ _ _ _ _ e => e) (fun H' z QT sm hz hq => ?_) (fun H' z Q sm hz ht hq => ?_) (fun H1 xs s1 hD hP => ?_)⟩
  · walk_at "go"
    refine r_notInI (sm.seq hp) ?_
    walk_at "go"
    exact hq
  · walk_at "go"
    exact hq _ _ (.refl H') rfl
  have exs := paired_eqInt hP
  subst exs
  have hD' : H1 D = some (.lst ((free W pins).map V.int)) := hD
  clear hD hP
  walk_at "go"
  refine r_newL (Nat.zero_le _) fun p2 H2 np2 s2 hp2 => ?_
  refine r_eqNil (SqL.of (s2 _ _ hD')) hp2 ?_
  walk_at "go"
  have sA : Same H H2 := s1.trans s2
  have wv2 := wv.same sA
  have hD2 : H2 D = some (.lst ((free W pins).map V.int)) := s2 _ _ hD'
  refine if_dt (fun c => ?_) (fun c => ?_)
  · walk_at "go"
    exact q0 c _ sA
  have hfc : ∀ g ∈ free W pins, g ∈ W.came := fun g hg => (List.mem_filter.mp hg).1
  walk_at "go"
  refine r_dgK wv2.w wk_rule rfl ?_
  walk_at "go"
  refine if_dt (fun c1 => ?_) (fun c1 => ?_)
  · cases rs_inj (q := .came) c1
    walk_at "go"
    cases hf : free W pins with
    | nil => exact absurd hf c
    | cons g l =>
      rw [hf] at hD2
      refine r_ixL (i := ((0 : Nat) : Int)) (SqL.of hD2) (atI_nat rfl) ?_
      exact q1 c g W H2 ⟨rfl, by rw [hf]; rfl⟩ (fun b o _ _ e => sA _ _ e) wv2
  walk_at "go"
  refine r_dgK wv2.w wk_rule rfl ?_
  walk_at "go"
  refine if_dt (fun c2 => ?_) (fun c2 => ?_)
  · cases rs_inj (q := .high) c2
    walk_at "go"
    refine ⟨D, _, rfl, SqL.of hD2, List.length_pos_iff.mpr c, fun m hm hle => ?_⟩
    exact q1 c m W H2 ⟨rfl, hm, hle⟩ (fun b o _ _ e => sA _ _ e) wv2
  walk_at "go"
  refine r_dgK wv2.w wk_rule rfl ?_
  walk_at "go"
  refine r_newT szd fun p3 H3 np3 s3 hp3 => ?_
  have wv3 := wv2.same s3
  have hD3 := s3 _ _ hD2
  have sB : Same H H3 := sA.trans s3
  refine ⟨p3, _, rfl, .inr (SqT.of hp3), rfl, rfl, ?_⟩
  have ein : inV (V.str r.s) [V.str "used", V.str "last"] = decide (r = .used ∨ r = .last) := by cases r <;> decide +kernel
  have ein2 : (if false = true then !inV (V.str r.s) [V.str "used", V.str "last"] else inV (V.str r.s) [V.str "used", V.str "last"]) = decide (r = .used ∨ r = .last) := by
    rw [if_neg Bool.false_ne_true]; exact ein
  rw [ein2]
  walk_at "go"
  refine if_dt (fun c3 => ?_) (fun c3 => ?_)
  · walk_at "go"
    refine ⟨D, rfl, ⟨_, SqL.of hD3⟩, fun D2 nD2 => lc_ints (fun _ => true) (fun H' x z => ∃ t tm, x = .ref t ∧ H' t = some (.tup [.int tm, .int z]) ∧ W.asked z = some tm) (SqL.of hD3) (Nat.le_trans (List.length_filter_le _ _) (by omega)) (by show 2 < 6; decide) nD2
      (fun H1 H2 x z k ⟨t, tm, e1, e2, e3⟩ => ⟨t, tm, e1, k _ _ e2, e3⟩) (fun H' z QT sm hz hq => ?_) (fun H' z Q sm hz ht hq => ?_) (fun H4 xs s4 hD4 hP => ?_)⟩
    · exact r_yes hq
    · obtain ⟨tm, htm⟩ := dA z (hfc z hz)
      have wv' := wv3.same sm
      obtain ⟨ka, ha, fa, la⟩ := wv'.a
      walk_at "go"
      refine r_dgK wv'.w wk_asked rfl ?_
      walk_at "go"
      refine r_dgK (k := .inl z) ha (by rw [fa z, htm]; rfl) rfl ?_
      walk_at "go"
      refine r_newT szd fun t H'' nt st ht' => ?_
      exact hq _ _ st ⟨t, tm, rfl, ht', htm⟩
    rw [List.filter_eq_self.mpr (fun _ _ => rfl)] at hP
    walk_at "go"
    have wv4 := wv3.same s4
    refine ⟨D2, xs, pairOf H4, rfl, SqL.of hD4, fun x hx => ?_, fun ys p5 hsr hst np5 => ?_⟩
    · obtain ⟨z, _, t, tm, e1, e2, _⟩ := paired_mem hP hx
      subst e1
      exact ⟨t, rfl, by rw [pairOf_at e2]; exact e2⟩
    have wv5 := wv4.same (.new (o := .lst ys) np5)
    have s5 : Same H4 (upd H4 p5 (.lst ys)) := .new np5
    have hperm := hst.perm
    have hys : ∀ y ∈ ys, ∃ z t tm, z ∈ free W pins ∧ y = .ref t ∧ H4 t = some (.tup [.int tm, .int z]) ∧ W.asked z = some tm := fun y hy => by
      obtain ⟨z, hz, t, tm, e1, e2, e3⟩ := paired_mem hP (hperm.mem_iff.mp hy)
      exact ⟨z, t, tm, hz, e1, e2, e3⟩
    have hall : ∀ z ∈ free W pins, ∃ y ∈ ys, ∃ tm, pairOf H4 y = (tm, z) ∧ W.asked z = some tm := fun z hz => by
      obtain ⟨x, hx, t, tm, e1, e2, e3⟩ := paired_mem' hP hz
      exact ⟨x, hperm.mem_iff.mpr hx, tm, by rw [e1]; exact pairOf_at e2, e3⟩
    have yne : ys ≠ [] := fun z => by
      rw [z] at hperm
      have l1 := hperm.length_eq
      have l2 : xs.length = (free W pins).length := Paired.length hP
      have l3 := List.length_pos_iff.mpr c
      simp at l1
      omega
    walk_at "go"
    refine r_dgK wv5.w wk_rule rfl ?_
    walk_at "go"
    refine if_dt (fun c4 => ?_) (fun c4 => ?_)
    · cases rs_inj (q := .used) c4
      walk_at "go"
      cases ys with
      | nil => exact absurd rfl yne
      | cons y0 ys' =>
        obtain ⟨z0, t0, tm0, hz0, rfl, ht0, ha0⟩ := hys y0 List.mem_cons_self
        refine r_ixL (i := ((0 : Nat) : Int)) (SqL.of upd_same) (atI_nat rfl) ?_
        walk_at "go"
        refine r_ixT (i := ((1 : Nat) : Int)) (SqT.of (s5 _ _ ht0)) (atI_nat rfl) ?_
        refine q1 c z0 W _ ⟨rfl, hz0, fun q hq => ?_⟩ (fun b o _ _ e => (sB.trans s4).trans s5 _ _ e) wv5
        obtain ⟨y, hy, tm, e1, e2⟩ := hall q hq
        rw [ha0, e2]
        rcases List.mem_cons.mp hy with e | hy
        · rw [e, pairOf_at ht0] at e1
          cases e1
          exact Int.le_refl _
        · have z := SrtO.lexB_no.mp (SrtO.srtd_head hsr y hy)
          rw [pairOf_at ht0, e1] at z
          simp at z
          exact z.1
    · have c5 : r = .last := c3.resolve_left (fun e => c4 (by rw [e]; rfl))
      subst c5
      walk_at "go"
      obtain ⟨ys', y0, rfl⟩ : ∃ l y, ys = l ++ [y] := ⟨_, _, (List.dropLast_concat_getLast yne).symm⟩
      obtain ⟨z0, t0, tm0, hz0, rfl, ht0, ha0⟩ := hys y0 (by simp)
      refine r_ixL (i := 0 - 1) (SqL.of upd_same) (atI_last _ _) ?_
      walk_at "go"
      refine r_ixT (i := ((1 : Nat) : Int)) (SqT.of (s5 _ _ ht0)) (atI_nat rfl) ?_
      refine q1 c z0 W _ ⟨rfl, hz0, fun q hq => ?_⟩ (fun b o _ _ e => (sB.trans s4).trans s5 _ _ e) wv5
      obtain ⟨y, hy, tm, e1, e2⟩ := hall q hq
      rw [ha0, e2]
      rcases List.mem_append.mp hy with hy | hy
      · have z := SrtO.lexB_no.mp ((List.pairwise_append.mp hsr).2.2 y hy _ (List.mem_singleton.mpr rfl))
        rw [pairOf_at ht0, e1] at z
        simp at z
        exact z.1
      · rw [List.mem_singleton.mp hy, pairOf_at ht0] at e1
        cases e1
        exact Int.le_refl _
  walk_at "go"
  refine r_dgK wv3.w wk_rule rfl ?_
  walk_at "go"
  refine if_dt (fun c4 => ?_) (fun c4 => ?_)
  · cases rs_inj (q := .often) c4
    walk_at "go"
    refine ⟨D, rfl, ⟨_, SqL.of hD3⟩, fun D2 nD2 => lc_ints (fun _ => true) (fun H' x z => x = .int ((W.often z).getD 0)) (SqL.of hD3) (Nat.le_trans (List.length_filter_le _ _) (by omega)) (by show 2 < 6; decide) nD2
      (fun _ _ _ _ _ e => e) (fun H' z QT sm hz hq => r_yes hq) (fun H' z Q sm hz ht hq => ?_) (fun H4 xs s4 hD4 hP => ?_)⟩
    · obtain ⟨tm, htm⟩ := dO z (hfc z hz)
      have wv' := wv3.same sm
      obtain ⟨ka, ha, fa, la⟩ := wv'.o
      walk_at "go"
      refine r_dgK wv'.w wk_often rfl ?_
      walk_at "go"
      refine r_dgK (k := .inl z) ha (by rw [fa z, htm]; rfl) rfl ?_
      exact hq _ _ (.refl _) (by rw [htm]; rfl)
    rw [List.filter_eq_self.mpr (fun _ _ => rfl)] at hP
    have exs := paired_eqInt hP
    have exs' : xs = ((free W pins).map fun z => (W.often z).getD 0).map V.int := by rw [exs, List.map_map]; rfl
    rw [exs'] at hD4
    walk_at "go"
    have wv4 := wv3.same s4
    refine ⟨D2, _, rfl, SqL.of hD4, by rw [List.length_map]; exact List.length_pos_iff.mpr c, fun m hm hle => ?_⟩
    walk_at "go"
    have hD5 : H4 D = some (.lst ((free W pins).map V.int)) := s4 _ _ hD3
    refine ⟨D, rfl, ⟨_, SqL.of hD5⟩, fun D3 nD3 => lc_ints (fun z => decide ((W.often z).getD 0 = m)) (fun H' x z => x = .int z) (SqL.of hD5) (Nat.le_trans (List.length_filter_le _ _) (by omega)) (by show 2 < 6; decide) nD3
      (fun _ _ _ _ _ e => e) (fun H' z QT sm hz hq => ?_) (fun H' z Q sm hz ht hq => ?_) (fun H6 xs6 s6 hD6 hP6 => ?_)⟩
    · obtain ⟨tm, htm⟩ := dO z (hfc z hz)
      have wv' := wv4.same sm
      obtain ⟨ka, ha, fa, la⟩ := wv'.o
      walk_at "go"
      refine r_dgK wv'.w wk_often rfl ?_
      walk_at "go"
      refine r_dgK (k := .inl z) ha (by rw [fa z, htm]; rfl) rfl ?_
      walk_at "go"
      rw [htm] at hq
      exact hq
    · walk_at "go"
      exact hq _ _ (.refl _) rfl
    have e6 := paired_eqInt hP6
    subst e6
    obtain ⟨z0, hz0, ez0⟩ := List.mem_map.mp hm
    have hmin : ∀ q ∈ free W pins, m ≤ (W.often q).getD 0 := fun q hq => hle _ (List.mem_map.mpr ⟨q, hq, rfl⟩)
    cases hf : (free W pins).filter (fun z => decide ((W.often z).getD 0 = m)) with
    | nil =>
      have z1 : z0 ∈ (free W pins).filter (fun z => decide ((W.often z).getD 0 = m)) := List.mem_filter.mpr ⟨hz0, decide_eq_true ez0⟩
      rw [hf] at z1
      cases z1
    | cons g l =>
      rw [hf] at hD6
      have hg : g ∈ (free W pins).filter (fun z => decide ((W.often z).getD 0 = m)) := by rw [hf]; exact List.mem_cons_self
      have hg2 := of_decide_eq_true (List.mem_filter.mp hg).2
      walk_at "go"
      refine r_ixL (i := ((0 : Nat) : Int)) (SqL.of hD6) (atI_nat rfl) ?_
      refine q1 c g W H6 ⟨rfl, fun q hq => ?_, ?_⟩ (fun b o _ _ e => ((sB.trans s4).trans s6) _ _ e) (wv4.same s6)
      · rw [hg2]; exact hmin q hq
      · rw [hg2, hf]; rfl
  walk_at "go"
  have hrk : r = .clock := by
    cases r with
    | clock => rfl
    | came => exact absurd rfl c1
    | high => exact absurd rfl c2
    | used => exact absurd (.inl rfl) c3
    | last => exact absurd (.inr rfl) c3
    | often => exact absurd rfl c4
  subst hrk
  obtain ⟨k0, g, w', hk0⟩ := hck rfl c
  have hp3' : SqL G.K H3 pa (pins.map V.int) := sB.seq hp
  refine r_while (fun k σ' H' => ∃ (W1 : CB.W) (pg s4 s5 : Option V), σ' = [some (.ref A.w), some (.ref pa), pg, some (.ref D), s4, s5] ∧ WV H' A .clock size W1 n ∧ SqL G.K H' pa (pins.map V.int) ∧ sweepW pins k W1 = some (g, w') ∧ W1.came = W.came ∧ (∀ p ∈ W.came, ∃ t, W1.marks p = some t) ∧ (∀ b o, b ≠ A.w → b ≠ A.m → H b = some o → H' b = some o))
    k0 ⟨W, none, none, none, rfl, wv3, hp3', hk0, rfl, dM, fun b o _ _ e => sB _ _ e⟩ ?_
  rintro k σ' H4 ⟨W1, pg, s4, s5, rfl, wv4, hp4, hk4, ec, dm, fr⟩
  walk_at "go"
  refine ⟨_, fun _ _ n => n, ?_⟩
  walk_at "go"
  refine r_dgK wv4.w wk_came rfl ?_
  walk_at "go"
  refine r_dgK wv4.w wk_hand rfl ?_
  cases k with
  | zero => cases hk4
  | succ k =>
  unfold sweepW at hk4
  cases hh : W1.came[W1.hand]? with
  | none => rw [hh] at hk4; cases hk4
  | some p =>
  rw [hh] at hk4
  simp only at hk4
  have hpc : p ∈ W.came := by rw [← ec]; exact List.mem_of_getElem? hh
  obtain ⟨mb, hmb⟩ := dm p hpc
  obtain ⟨km, hm, fm, lm⟩ := wv4.m
  have hgm : valV km (.inl p) = some (.bl mb) := by rw [fm p, hmb]; rfl
  refine r_ixL (SqL.of wv4.c) (atI_nat (by rw [List.getElem?_map, hh]; rfl)) ?_
  walk_at "go"
  refine r_notInI hp4 ?_
  walk_at "go"
  have step : ∀ b : Bool, b = (mb && pins.contains p) → ¬ (pins.contains p = false ∧ W1.marks p = some false) →
      (fun σ' H' => ∃ m', m' < k + 1 ∧ ∃ (W1 : CB.W) (pg s4 s5 : Option V), σ' = [some (.ref A.w), some (.ref pa), pg, some (.ref D), s4, s5] ∧ WV H' A .clock size W1 n ∧ SqL G.K H' pa (pins.map V.int) ∧ sweepW pins m' W1 = some (g, w') ∧ W1.came = W.came ∧ (∀ p ∈ W.came, ∃ t, W1.marks p = some t) ∧ (∀ b o, b ≠ A.w → b ≠ A.m → H b = some o → H' b = some o))
        [some (.ref A.w), some (.ref pa), some (.int p), some (.ref D), s4, s5]
        (upd (upd H4 A.m (.dK (putK km (.inl p) (.bl b)))) A.w (.dK (wkv .clock size A ((W1.hand + 1) % W1.came.length) W1.time))) := by
    intro b hb hno
    rw [if_neg hno] at hk4
    rw [hmb] at hk4
    have hb' : ((some mb).getD false && pins.contains p) = b := hb.symm
    rw [hb'] at hk4
    refine ⟨k, Nat.lt_succ_self k, _, _, _, _, rfl, ⟨upd_same, ?_, ?_, ?_, ⟨putK km (.inl p) (.bl b), ?_, fm.put p b, ?_⟩, wv4.wa, wv4.wo, wv4.wm, wv4.ao, wv4.am, wv4.om⟩, ?_, hk4, ec, ?_, ?_⟩
    · rw [upd_ne (ne_of wv4.c wv4.w (fun z => by cases z)), upd_ne (ne_of wv4.c hm (fun z => by cases z))]; exact wv4.c
    · obtain ⟨kv, h1, h2⟩ := wv4.a
      exact ⟨kv, by rw [upd_ne wv4.wa.symm, upd_ne wv4.am]; exact h1, h2⟩
    · obtain ⟨kv, h1, h2⟩ := wv4.o
      exact ⟨kv, by rw [upd_ne wv4.wo.symm, upd_ne wv4.om]; exact h1, h2⟩
    · rw [upd_ne wv4.wm.symm]; exact upd_same
    · rw [length_putK_in hgm]; exact lm
    · refine sqL_updK (kvs := wkv .clock size A W1.hand W1.time) ?_ (sqL_updK hm hp4)
      rw [upd_ne wv4.wm]; exact wv4.w
    · intro q hq
      by_cases e : q = p
      · subst e; exact ⟨b, pset_same⟩
      · obtain ⟨t, ht⟩ := dm q hq
        exact ⟨t, by show pset _ _ _ q = _; rw [pset_ne e]; exact ht⟩
    · intro x o h1 h2 e
      rw [upd_ne h1, upd_ne h2]; exact fr x o h1 h2 e
  have fin : ∀ D' : Ends, (∀ σ' H', (∃ m', m' < k + 1 ∧ ∃ (W1 : CB.W) (pg s4 s5 : Option V), σ' = [some (.ref A.w), some (.ref pa), pg, some (.ref D), s4, s5] ∧ WV H' A .clock size W1 n ∧ SqL G.K H' pa (pins.map V.int) ∧ sweepW pins m' W1 = some (g, w') ∧ W1.came = W.came ∧ (∀ p ∈ W.came, ∃ t, W1.marks p = some t) ∧ (∀ b o, b ≠ A.w → b ≠ A.m → H b = some o → H' b = some o)) → D'.nx σ' H') →
    ¬ (pins.contains p = false ∧ W1.marks p = some false) → tSeq (sDPut (tDGet (tVar 0) (tC (.str "marks"))) (tVar 2) (tAndV (tDGet (tDGet (tVar 0) (tC (.str "marks"))) (tVar 2)) (tOp (kIn G.K) (tVar 2) (tVar 1))))
    (sDPut (tVar 0) (tC (.str "hand")) (tOp kMod (tOp kAdd (tDGet (tVar 0) (tC (.str "hand"))) (tC (.int 1))) (tCB (bLen G.K) (tCons (tDGet (tVar 0) (tC (.str "came"))) tNil))))
      D' [some (.ref A.w), some (.ref pa), some (.int p), some (.ref D), s4, s5] H4 := by
    intro D' hD' hno
    have st2 := hD' _ _ (step _ rfl hno)
    have e1 : (W1.came.map V.int).length = W1.came.length := List.length_map ..
    have hl0 : 0 < W1.came.length := by
      have := (List.getElem?_eq_some_iff.mp hh).1
      omega
    walk_at "go"
    refine r_dgK wv4.w wk_marks rfl ?_
    walk_at "go"
    refine r_dgK (k := .inl p) hm hgm rfl ?_
    have tail : ∀ b, b = (mb && pins.contains p) → tDGet (tVar 0) (tC (V.str "marks")) [some (V.ref A.w), some (V.ref pa), some (V.int p), some (V.ref D), s4, s5] H4 fun x H2 => tVar 2 [some (V.ref A.w), some (V.ref pa), some (V.int p), some (V.ref D), s4, s5] H2 fun y H3 => ∃ a H4, x = .ref a ∧ DPut H3 a y (.bl b) H4 ∧
        sDPut (tVar 0) (tC (.str "hand")) (tOp kMod (tOp kAdd (tDGet (tVar 0) (tC (.str "hand"))) (tC (.int 1))) (tCB (bLen G.K) (tCons (tDGet (tVar 0) (tC (.str "came"))) tNil)))
          D' [some (V.ref A.w), some (V.ref pa), some (V.int p), some (V.ref D), s4, s5] H4 := by
      intro b hb
      subst hb
      walk_at "go"
      refine r_dgK wv4.w wk_marks rfl ?_
      walk_at "go"
      refine r_dpK (k := .inl p) hm (by exact sz10' (by omega)) rfl ?_
      walk_at "go"
      have hw5 : upd H4 A.m (.dK (putK km (.inl p) (.bl (mb && pins.contains p)))) A.w = some (.dK (wkv .clock size A W1.hand W1.time)) := by rw [upd_ne wv4.wm]; exact wv4.w
      have hc5 : upd H4 A.m (.dK (putK km (.inl p) (.bl (mb && pins.contains p)))) A.c = some (.lst (W1.came.map V.int)) := by rw [upd_ne (ne_of wv4.c hm (fun z => by cases z))]; exact wv4.c
      refine r_dgK hw5 wk_hand rfl ?_
      walk_at "go"
      refine r_dgK hw5 wk_came rfl ?_
      walk_at "go"
      refine r_lenL (SqL.of hc5) ?_
      walk_at "go"
      refine r_kMod (by omega) ?_
      walk_at "go"
      refine r_dpK (k := .inr "hand") hw5 (sz10' (by show 8 < 100000; decide)) rfl ?_
      have e2 : ((W1.hand : Int) + 1) % (((W1.came.map V.int).length : Nat) : Int) = (((W1.hand + 1) % W1.came.length : Nat) : Int) := by
        rw [e1, Int.natCast_emod]; rfl
      rw [e2, wp_hand]
      exact st2
    refine ⟨mb, rfl, ?_⟩
    cases mb with
    | false =>
      refine iteF ?_
      exact tail false rfl
    | true =>
      refine iteT ?_
      walk_at "go"
      refine r_inI hp4 ?_
      exact tail (pins.contains p) (by simp)
  cases hpin : pins.contains p with
  | true =>
    refine iteF ?_
    refine iteF ?_
    refine r_next ?_
    exact fin _ (fun _ _ z => z) (fun z => by rw [hpin] at z; cases z.1)
  | false =>
    refine iteT ?_
    walk_at "go"
    refine r_dgK wv4.w wk_marks rfl ?_
    walk_at "go"
    refine r_dgK (k := .inl p) hm hgm rfl ?_
    walk_at "go"
    cases mb with
    | true =>
      refine iteF ?_
      refine r_next ?_
      exact fin _ (fun _ _ z => z) (fun z => by rw [hmb] at z; cases z.2)
    | false =>
      refine iteT ?_
      walk_at "go"
      rw [if_pos ⟨hpin, hmb⟩] at hk4
      cases hk4
      exact q1 c g w' H4 ⟨k0, hk0⟩ fr wv4
end CB

namespace CB
open PySem PySem.Spec PyProof.Rows L2
local macro_rules | `(tactic| walk_at "s1") => `(tactic| (with_reducible first
  | refine r_seq ?_ | refine r_next ?_ | refine r_asg ?_ | refine r_gname ?_ | refine r_ret ?_ | refine r_retN ?_ | refine r_drop ?_ | refine r_ifs ?_ | refine r_c ?_ | refine r_op ?_ | refine r_nil ?_ | refine r_cons ?_
  | refine r_tup ?_ | refine r_lst ?_ | refine r_test ?_ | refine r_tB ?_ | refine r_tru ?_ | refine r_exbl ?_ | refine r_tint ?_ | refine r_and ?_ | refine r_or ?_ | refine r_not ?_ | refine r_notV ?_ | refine r_andV ?_ | refine r_orV ?_ | refine r_ifE ?_ | refine r_call ?_ | refine r_callD ?_ | refine r_CB ?_
  | refine r_kAdd ?_ | refine r_kSub ?_ | refine r_kLt ?_ | refine r_kLe ?_ | refine r_kGt ?_ | refine r_kGe ?_ | refine r_eqI ?_ | refine r_neI ?_ | refine r_eqS ?_ | refine r_isN ?_ | refine r_notN ?_
  | refine r_gcons ?_ | refine r_gnil ?_ | refine r_gsub ?_ | refine r_BM ?_ | refine r_sl ?_ | refine r_nopart ?_ | refine r_part ?_ | refine r_exint ?_ | refine r_par ?_ | refine r_par2 ?_ | refine r_chain ?_
  | refine r_dget ?_ | refine r_dput ?_ | refine iteT ?_ | refine r_for ?_ | refine r_iEnumT ?_ | refine r_iTup ?_ | refine r_iList ?_ | refine r_rng1 ?_ | refine r_rng2 ?_ | refine r_lc ?_ | refine r_gtup2 ?_ | refine r_yes ?_ | refine iteF ?_ | refine r_var (by with_unfolding_all rfl) ?_))
local macro_rules | `(tactic| walk_at "go") => `(tactic| (repeat (walk_at "s1")))


section
variable {H : Hp} {A : WA} {r : Rule} {size n : Nat} {W : CB.W} {p : Int}
theorem WV.grow (w : WV H A r size W n) {m : Nat} (h : n ≤ m) : WV H A r size W m :=
  ⟨w.w, w.c, let ⟨k, h1, h2, h3⟩ := w.a; ⟨k, h1, h2, Nat.le_trans h3 h⟩, let ⟨k, h1, h2, h3⟩ := w.o; ⟨k, h1, h2, Nat.le_trans h3 h⟩, let ⟨k, h1, h2, h3⟩ := w.m; ⟨k, h1, h2, Nat.le_trans h3 h⟩, w.wa, w.wo, w.wm, w.ao, w.am, w.om⟩
theorem WV.ca (w : WV H A r size W n) : A.c ≠ A.a := let ⟨_, h, _⟩ := w.a; ne_of w.c h fun z => by cases z
theorem WV.co (w : WV H A r size W n) : A.c ≠ A.o := let ⟨_, h, _⟩ := w.o; ne_of w.c h fun z => by cases z
theorem WV.cm (w : WV H A r size W n) : A.c ≠ A.m := let ⟨_, h, _⟩ := w.m; ne_of w.c h fun z => by cases z
theorem WV.cw (w : WV H A r size W n) : A.c ≠ A.w := ne_of w.c w.w fun z => by cases z
theorem WV.putA (w : WV H A r size W n) {kv : List (Key × V)} (h1 : DF V.int kv W.asked) (h2 : kv.length ≤ n) (t : Int) : WV (upd H A.a (.dK (putK kv (.inl p) (.int t)))) A r size { W with asked := pset W.asked p t } (n + 1) := by
  refine ⟨by rw [upd_ne w.wa]; exact w.w, by rw [upd_ne w.ca]; exact w.c, ⟨_, upd_same, h1.put p t, Nat.le_trans (length_putK _ _ _) (Nat.succ_le_succ h2)⟩, ?_, ?_, w.wa, w.wo, w.wm, w.ao, w.am, w.om⟩
  · obtain ⟨k, g1, g2, g3⟩ := w.o
    exact ⟨k, by rw [upd_ne w.ao.symm]; exact g1, g2, Nat.le_succ_of_le g3⟩
  · obtain ⟨k, g1, g2, g3⟩ := w.m
    exact ⟨k, by rw [upd_ne w.am.symm]; exact g1, g2, Nat.le_succ_of_le g3⟩
theorem WV.putO (w : WV H A r size W n) {kv : List (Key × V)} (h1 : DF V.int kv W.often) (h2 : (putK kv (.inl p) (.int t)).length ≤ n + 1) : WV (upd H A.o (.dK (putK kv (.inl p) (.int t)))) A r size { W with often := pset W.often p t } (n + 1) := by
  refine ⟨by rw [upd_ne w.wo]; exact w.w, by rw [upd_ne w.co]; exact w.c, ?_, ⟨_, upd_same, h1.put p t, h2⟩, ?_, w.wa, w.wo, w.wm, w.ao, w.am, w.om⟩
  · obtain ⟨k, g1, g2, g3⟩ := w.a
    exact ⟨k, by rw [upd_ne w.ao]; exact g1, g2, Nat.le_succ_of_le g3⟩
  · obtain ⟨k, g1, g2, g3⟩ := w.m
    exact ⟨k, by rw [upd_ne w.om.symm]; exact g1, g2, Nat.le_succ_of_le g3⟩
theorem WV.putM (w : WV H A r size W n) {kv : List (Key × V)} (h1 : DF V.bl kv W.marks) (h2 : kv.length ≤ n) (t : Bool) : WV (upd H A.m (.dK (putK kv (.inl p) (.bl t)))) A r size { W with marks := pset W.marks p t } (n + 1) := by
  refine ⟨by rw [upd_ne w.wm]; exact w.w, by rw [upd_ne w.cm]; exact w.c, ?_, ?_, ⟨_, upd_same, h1.put p t, Nat.le_trans (length_putK _ _ _) (Nat.succ_le_succ h2)⟩, w.wa, w.wo, w.wm, w.ao, w.am, w.om⟩
  · obtain ⟨k, g1, g2, g3⟩ := w.a
    exact ⟨k, by rw [upd_ne w.am]; exact g1, g2, Nat.le_succ_of_le g3⟩
  · obtain ⟨k, g1, g2, g3⟩ := w.o
    exact ⟨k, by rw [upd_ne w.om]; exact g1, g2, Nat.le_succ_of_le g3⟩
theorem WV.putW (w : WV H A r size W n) {hand : Nat} {time : Int} : WV (upd H A.w (.dK (wkv r size A hand time))) A r size { W with hand := hand, time := time } n := by
  refine ⟨upd_same, by rw [upd_ne w.cw]; exact w.c, ?_, ?_, ?_, w.wa, w.wo, w.wm, w.ao, w.am, w.om⟩
  · obtain ⟨k, g1, g2, g3⟩ := w.a
    exact ⟨k, by rw [upd_ne w.wa.symm]; exact g1, g2, g3⟩
  · obtain ⟨k, g1, g2, g3⟩ := w.o
    exact ⟨k, by rw [upd_ne w.wo.symm]; exact g1, g2, g3⟩
  · obtain ⟨k, g1, g2, g3⟩ := w.m
    exact ⟨k, by rw [upd_ne w.wm.symm]; exact g1, g2, g3⟩
theorem WV.putC (w : WV H A r size W n) (l : List Int) : WV (upd H A.c (.lst (l.map V.int))) A r size { W with came := l } n := by
  refine ⟨by rw [upd_ne w.cw.symm]; exact w.w, upd_same, ?_, ?_, ?_, w.wa, w.wo, w.wm, w.ao, w.am, w.om⟩
  · obtain ⟨k, g1, g2, g3⟩ := w.a
    exact ⟨k, by rw [upd_ne w.ca.symm]; exact g1, g2, g3⟩
  · obtain ⟨k, g1, g2, g3⟩ := w.o
    exact ⟨k, by rw [upd_ne w.co.symm]; exact g1, g2, g3⟩
  · obtain ⟨k, g1, g2, g3⟩ := w.m
    exact ⟨k, by rw [upd_ne w.cm.symm]; exact g1, g2, g3⟩
/-- another list of what is held -/
theorem WV.newC (w : WV H A r size W n) {c : Addr} {l : List Int} (hc : H c = some (.lst (l.map V.int))) : WV (upd H A.w (.dK (wkv r size { A with c := c } W.hand W.time))) { A with c := c } r size { W with came := l } n := by
  refine ⟨upd_same, by rw [upd_ne (ne_of hc w.w fun z => by cases z)]; exact hc, ?_, ?_, ?_, w.wa, w.wo, w.wm, w.ao, w.am, w.om⟩
  · obtain ⟨k, g1, g2, g3⟩ := w.a
    exact ⟨k, by rw [upd_ne w.wa.symm]; exact g1, g2, g3⟩
  · obtain ⟨k, g1, g2, g3⟩ := w.o
    exact ⟨k, by rw [upd_ne w.wo.symm]; exact g1, g2, g3⟩
  · obtain ⟨k, g1, g2, g3⟩ := w.m
    exact ⟨k, by rw [upd_ne w.wm.symm]; exact g1, g2, g3⟩
end
/-- all but the cache's own objects is kept -/
def Frame (A : WA) (H H' : Hp) : Prop := ∀ b o, b ≠ A.w → b ≠ A.c → b ≠ A.a → b ≠ A.o → b ≠ A.m → H b = some o → H' b = some o
structure WNext (A A' : WA) (H : Hp) : Prop where
  w : A'.w = A.w
  a : A'.a = A.a
  o : A'.o = A.o
  m : A'.m = A.m
  c : A'.c = A.c ∨ H A'.c = none
def resV (H : Hp) (res : Option (Bool × Option Int)) (v : V) : Prop := match res with
  | none => v = .non
  | some (b, g) => ∃ t, v = .ref t ∧ H t = some (.tup [.bl b, goneV g])
def sp__law_ask (G : Glob) : Sp := fun vs H Q _ => ∃ (A : WA) (r : Rule) (size n : Nat) (W : CB.W) (p : Int) (pa : Addr) (pins : List Int), vs = [.ref A.w, .int p, .ref pa] ∧ WV H A r size W n ∧ SqL G.K H pa (pins.map V.int) ∧ W.came.length ≤ 60 ∧ n ≤ 9000 ∧
  (∀ p ∈ W.came, ∃ t, W.asked p = some t) ∧ (∀ p ∈ W.came, ∃ t, W.often p = some t) ∧ (∀ p ∈ W.came, ∃ t, W.marks p = some t) ∧ (r = .clock → W.came.length = size → free W pins ≠ [] → ∃ k g w', sweepW pins k W = some (g, w')) ∧
  ∀ res W' A' v H', Asks r size W pins p res W' → Frame A H H' → WNext A A' H → WV H' A' r size W' (n + 4) → resV H' res v → Q v H'
def t__law_ask (G : Glob) : TS := (tSeq (tAsg (tC .non) (gName 3))
    (tSeq (tAsg (tOp (kIn G.K) (tVar 1) (tDGet (tVar 0) (tC (.str "came")))) (gName 4))
    (tSeq (tIfS (tNot (tB (tVar 4))) (tSeq (tIfS (tTest (tOp kEq (tCB (bLen G.K) (tCons (tDGet (tVar 0) (tC (.str "came"))) tNil)) (tDGet (tVar 0) (tC (.str "size"))))) (tSeq (tAsg (tCall (sp__law_loser G) [] E0 (tCons (tVar 0) (tCons (tVar 2) tNil))) (gName 3))
    (tSeq (tIfS (tTest (tOp kIsN (tVar 3) (tC .non))) (tRet (tC .non)) tNext)
    (tSeq (tAsg (tBM G.K "list" (rIndex G.K) (tDGet (tVar 0) (tC (.str "came"))) (tCons (tVar 3) tNil)) (gName 5))
    (tIfS (tTest (tOp kEq (tDGet (tVar 0) (tC (.str "rule"))) (tC (.str "clock")))) (tSeq (tAsg (tVar 1) (gSub (tDGet (tVar 0) (tC (.str "came"))) (tVar 5) rSetL))
    (sDPut (tVar 0) (tC (.str "hand")) (tOp kMod (tOp kAdd (tVar 5) (tC (.int 1))) (tCB (bLen G.K) (tCons (tDGet (tVar 0) (tC (.str "came"))) tNil))))) (sDPut (tVar 0) (tC (.str "came")) (tOp rCat (tOp rCat (tSl (rSlL G.K) (tDGet (tVar 0) (tC (.str "came"))) tNoPart (tPart (tVar 5))) (tSl (rSlL G.K) (tDGet (tVar 0) (tC (.str "came"))) (tPart (tOp kAdd (tVar 5) (tC (.int 1)))) tNoPart)) (tLst (tCons (tVar 1) tNil)))))))) (tDrop (tBM G.K "list" rAppend (tDGet (tVar 0) (tC (.str "came"))) (tCons (tVar 1) tNil))))
    (sDPut (tDGet (tVar 0) (tC (.str "often"))) (tVar 1) (tC (.int 0)))) tNext)
    (tSeq (sDPut (tVar 0) (tC (.str "time")) (tOp kAdd (tDGet (tVar 0) (tC (.str "time"))) (tC (.int 1))))
    (tSeq (sDPut (tDGet (tVar 0) (tC (.str "asked"))) (tVar 1) (tDGet (tVar 0) (tC (.str "time"))))
    (tSeq (sDPut (tDGet (tVar 0) (tC (.str "often"))) (tVar 1) (tOp kAdd (tDGet (tDGet (tVar 0) (tC (.str "often"))) (tVar 1)) (tC (.int 1))))
    (tSeq (sDPut (tDGet (tVar 0) (tC (.str "marks"))) (tVar 1) (tC (.bl true)))
    (tRet (tTup (tCons (tVar 4) (tCons (tVar 3) tNil)))))))))))
theorem len__law_ask (G : Glob) (vs : List V) (H : Hp) (Q : VK) (E : XK) (h : sp__law_ask G vs H Q E) : vs.length = 3 := by
  obtain ⟨_, _, _, _, _, _, _, _, rfl, _⟩ := h
  rfl
abbrev tAskEnd : TS := tSeq (sDPut (tVar 0) (tC (.str "time")) (tOp kAdd (tDGet (tVar 0) (tC (.str "time"))) (tC (.int 1))))
    (tSeq (sDPut (tDGet (tVar 0) (tC (.str "asked"))) (tVar 1) (tDGet (tVar 0) (tC (.str "time"))))
    (tSeq (sDPut (tDGet (tVar 0) (tC (.str "often"))) (tVar 1) (tOp kAdd (tDGet (tDGet (tVar 0) (tC (.str "often"))) (tVar 1)) (tC (.int 1))))
    (tSeq (sDPut (tDGet (tVar 0) (tC (.str "marks"))) (tVar 1) (tC (.bl true)))
    (tRet (tTup (tCons (tVar 4) (tCons (tVar 3) tNil)))))))
/-- the end of _law_ask: W2 stands, with often's entry for the page -/
theorem ask_tail {G : Glob} {H : Hp} {A : WA} {r : Rule} {size n : Nat} {W2 : CB.W} {p : Int} {gone : V} {hb : Bool} {s2 s5 : Option V} {Q : VK} {t0 : Int} {DR : VK} {bk ct nx : L2.St → Hp → Prop} (wv : WV H A r size W2 n) (hn : n ≤ 9001) (ho : W2.often p = some t0)
    (hq : ∀ t H', Frame A H H' → WV H' A r size (noted W2 p W2.often) (n + 3) → H' t = some (.tup [.bl hb, gone]) → DR (.ref t) H') :
    tAskEnd ⟨nx, DR, bk, ct⟩ [some (.ref A.w), some (.int p), s2, some gone, some (.bl hb), s5] H := by
  unfold tAskEnd
  walk_at "go"
  refine r_dgK wv.w wk_time rfl ?_
  walk_at "go"
  refine r_dpK (k := .inr "time") wv.w (sz10' (by show 8 < 100000; decide)) rfl ?_
  rw [wp_time]
  have w1 := wv.putW (hand := W2.hand) (time := W2.time + 1)
  generalize hH1 : upd H A.w (.dK (wkv r size A W2.hand (W2.time + 1))) = H1 at *
  have f1 : ∀ b o, b ≠ A.w → H b = some o → H1 b = some o := fun b o hb e => by rw [← hH1, upd_ne hb]; exact e
  walk_at "go"
  refine r_dgK w1.w wk_time rfl ?_
  walk_at "go"
  refine r_dgK w1.w wk_asked rfl ?_
  walk_at "go"
  obtain ⟨ka, a1, a2, a3⟩ := w1.a
  refine r_dpK (k := .inl p) a1 (sz10' (by omega)) rfl ?_
  have w2 := w1.putA (p := p) a2 a3 (W2.time + 1)
  generalize hH2 : upd H1 A.a (.dK (putK ka (.inl p) (.int (W2.time + 1)))) = H2 at *
  have f2 : ∀ b o, b ≠ A.a → H1 b = some o → H2 b = some o := fun b o hb e => by rw [← hH2, upd_ne hb]; exact e
  walk_at "go"
  obtain ⟨ko, o1, o2, o3⟩ := w2.o
  refine r_dgK w2.w wk_often rfl ?_
  walk_at "go"
  refine r_dgK (k := .inl p) o1 (by rw [o2 p]; show (W2.often p).map V.int = some (.int t0); rw [ho]; rfl) rfl ?_
  walk_at "go"
  refine r_dgK w2.w wk_often rfl ?_
  walk_at "go"
  refine r_dpK (k := .inl p) o1 (sz10' (by omega)) rfl ?_
  have w3 := w2.putO (p := p) (t := t0 + 1) o2 (Nat.le_trans (length_putK _ _ _) (Nat.succ_le_succ o3))
  generalize hH3 : upd H2 A.o (.dK (putK ko (.inl p) (.int (t0 + 1)))) = H3 at *
  have f3 : ∀ b o, b ≠ A.o → H2 b = some o → H3 b = some o := fun b o hb e => by rw [← hH3, upd_ne hb]; exact e
  walk_at "go"
  refine r_dgK w3.w wk_marks rfl ?_
  walk_at "go"
  obtain ⟨km, m1, m2, m3⟩ := w3.m
  refine r_dpK (k := .inl p) m1 (sz10' (by omega)) rfl ?_
  have w4 := w3.putM (p := p) m2 m3 true
  generalize hH4 : upd H3 A.m (.dK (putK km (.inl p) (.bl true))) = H4 at *
  have f4 : ∀ b o, b ≠ A.m → H3 b = some o → H4 b = some o := fun b o hb e => by rw [← hH4, upd_ne hb]; exact e
  walk_at "go"
  refine r_newT szd fun t H5 nt s5 ht => ?_
  refine hq t H5 (fun b o h1 h2 h3 h4 h5 e => s5 _ _ (f4 _ _ h5 (f3 _ _ h4 (f2 _ _ h3 (f1 _ _ h1 e))))) ?_ ht
  have w5 := w4.same s5
  have e : noted W2 p W2.often = { W2 with time := W2.time + 1, asked := pset W2.asked p (W2.time + 1), often := pset W2.often p (t0 + 1), marks := pset W2.marks p true } := by
    unfold noted
    rw [ho]
    rfl
  rw [e]
  exact w5.grow (by omega)
theorem idxOf_first {l : List Int} {g : Int} (h : g ∈ l) : l[l.idxOf g]? = some g ∧ ∀ k, k < l.idxOf g → l[k]? ≠ some g := by
  induction l with
  | nil => cases h
  | cons a l ih =>
    by_cases e : a = g
    · subst e
      simp
    · have hg : g ∈ l := by
        rcases List.mem_cons.mp h with q | q
        · exact absurd q.symm e
        · exact q
      obtain ⟨h1, h2⟩ := ih hg
      have ei : (a :: l).idxOf g = l.idxOf g + 1 := by
        rw [List.idxOf_cons, beq_eq_false_iff_ne.mpr e]
        rfl
      rw [ei]
      refine ⟨by simpa using h1, fun k hk => ?_⟩
      cases k with
      | zero => simpa using e
      | succ k => simpa using h2 k (by omega)
theorem rd__law_ask (G : Glob) (vs : List V) (H : Hp) (Q : VK) (E : XK) (h : sp__law_ask G vs H Q E) : t__law_ask G { nx := fun _ H' => Q .non H', rt := Q } (start ["_law_w", "_law_page", "_law_pins", "_law_gone", "_law_was_held", "_law_k"] vs) H := by
  obtain ⟨A, r, size, n, W, p, pa, pins, rfl, wv, hp, h60, hn, dA, dO, dM, hck, q⟩ := h
  unfold t__law_ask
  walk_at "go"
  refine r_dgK wv.w wk_came rfl ?_
  refine r_inI (SqL.of wv.c) ?_
  walk_at "go"
  cases hc : W.came.contains p with
  | true =>
    refine iteF ?_
    refine r_next ?_
    have hm : p ∈ W.came := by simpa using hc
    obtain ⟨t0, ht0⟩ := dO p hm
    refine ask_tail (n := n) (G := G) (Q := Q) wv (by omega) ht0 fun t H' fr w' ht => ?_
    exact q _ _ A _ H' (.held hm) fr ⟨rfl, rfl, rfl, rfl, .inl rfl⟩ (w'.grow (by omega)) ⟨t, rfl, ht⟩
  | false =>
    have hm : p ∉ W.came := by simpa using hc
    refine iteT ?_
    walk_at "go"
    refine r_dgK wv.w wk_came rfl ?_
    walk_at "go"
    refine r_lenL (SqL.of wv.c) ?_
    walk_at "go"
    refine r_dgK wv.w wk_size rfl ?_
    walk_at "go"
    -- often's entry, and the end
    have rest : ∀ (A1 : WA) (W1 : CB.W) (H1 : Hp) (gv : V) (s2 s5 : Option V) (m : Nat) (D : Ends), m ≤ n → D.rt = Q → WV H1 A1 r size W1 m →
        (∀ t H', Frame A1 H1 H' → WV H' A1 r size (noted W1 p (pset W1.often p 0)) (n + 4) → H' t = some (.tup [.bl false, gv]) → Q (.ref t) H') →
        sDPut (tDGet (tVar 0) (tC (.str "often"))) (tVar 1) (tC (.int 0)) { D with nx := tAskEnd D } [some (.ref A1.w), some (.int p), s2, some gv, some (.bl false), s5] H1 := by
      intro A1 W1 H1 gv s2 s5 m D hmn hD w1 k
      obtain ⟨nx, rt, bk, ct⟩ := D
      subst hD
      walk_at "go"
      refine r_dgK w1.w wk_often rfl ?_
      walk_at "go"
      obtain ⟨ko, o1, o2, o3⟩ := w1.o
      refine r_dpK (k := .inl p) o1 (sz10' (by omega)) rfl ?_
      have w2 := w1.putO (p := p) (t := 0) o2 (Nat.le_trans (length_putK _ _ _) (Nat.succ_le_succ o3))
      refine ask_tail (G := G) (Q := rt) (n := m + 1) w2 (by omega) (t0 := 0) pset_same fun t H' fr w' ht => ?_
      refine k t H' (fun b o a1 a2 a3 a4 a5 e => fr b o a1 a2 a3 a4 a5 (by rw [upd_ne a4]; exact e)) ?_ ht
      have e : noted { W1 with often := pset W1.often p 0 } p (pset W1.often p 0) = noted W1 p (pset W1.often p 0) := rfl
      rw [← e]
      exact w'.grow (by omega)
    refine if_dt (fun c => ?_) (fun c => ?_)
    · have full : W.came.length = size := by rw [List.length_map] at c; omega
      walk_at "go"
      refine ⟨A, r, size, n, W, pa, pins, rfl, wv, hp, h60, by omega, dA, dO, dM, fun e h => hck e full h, fun hf H1 s1 => ?_, fun hf g W1 H1 hl fr1 w1 => ?_⟩
      · walk_at "go"
        refine if_dt (fun _ => ?_) (fun z => absurd rfl z)
        walk_at "go"
        exact q none _ A _ H1 (.stuck hm full hf) (fun b o _ _ _ _ _ e => s1 _ _ e) ⟨rfl, rfl, rfl, rfl, .inl rfl⟩ ((wv.same s1).grow (by omega)) rfl
      · obtain ⟨k1, k2, k3, k4, k5⟩ := hl.keeps
        walk_at "go"
        refine if_dt (fun z => by cases z) (fun _ => ?_)
        walk_at "go"
        refine r_dgK w1.w wk_came rfl ?_
        refine ⟨.inl ⟨rfl, _, .inl (.inl w1.c)⟩, ?_⟩
        walk_at "go"
        have hg1 : g ∈ W1.came := by rw [k1]; exact k5
        obtain ⟨i1, i2⟩ := idxOf_first hg1
        have ilt : W1.came.idxOf g < W1.came.length := (List.getElem?_eq_some_iff.mp i1).1
        refine r_indexI (SqL.of w1.c) i1 i2 ?_
        walk_at "go"
        refine r_dgK w1.w wk_rule rfl ?_
        walk_at "go"
        have fin : ∀ (A2 : WA) (H2 : Hp) (s2 s5 : Option V) (D : Ends), D.rt = Q → WNext A A2 H → Frame A H H2 → WV H2 A2 r size (comes r W1 (some g) p) n → (∀ b o, H b = some o → b ≠ A.c → b ≠ A2.c ∨ A2.c = A.c) →
            sDPut (tDGet (tVar 0) (tC (.str "often"))) (tVar 1) (tC (.int 0)) { D with nx := tAskEnd D } [some (.ref A.w), some (.int p), s2, some (.int g), some (.bl false), s5] H2 := by
          intro A2 H2 s2 s5 D hD hx fr2 w2 hne
          have e0 : A2.w = A.w := hx.w
          rw [← e0]
          refine rest A2 _ H2 (.int g) s2 s5 n D (Nat.le_refl _) hD w2 fun t H' fr w' ht => ?_
          have eo : (comes r W1 (some g) p).often = W1.often := by unfold comes; simp only; split <;> rfl
          rw [eo] at w'
          refine q _ _ A2 _ H' (.goes g W1 hm full hf hl) (fun b o a1 a2 a3 a4 a5 e => ?_) hx w' ⟨t, rfl, ht⟩
          have z := fr2 b o a1 a2 a3 a4 a5 e
          refine fr b o (by rw [hx.w]; exact a1) ?_ (by rw [hx.a]; exact a3) (by rw [hx.o]; exact a4) (by rw [hx.m]; exact a5) z
          rcases hne b o e a2 with z | z
          · exact z
          · rw [z]; exact a2
        refine if_dt (fun c2 => ?_) (fun c2 => ?_)
        · cases rs_inj (q := .clock) c2
          walk_at "go"
          refine r_dgK w1.w wk_came rfl ?_
          walk_at "go"
          refine r_setL w1.c (ixN_nat (by rw [List.length_map]; exact ilt)) ?_
          have w2 := w1.putC (W1.came.set (W1.came.idxOf g) p)
          have e2 : (W1.came.map V.int).set (W1.came.idxOf g) (V.int p) = (W1.came.set (W1.came.idxOf g) p).map V.int := by rw [List.map_set]
          rw [e2]
          generalize hH2 : upd H1 A.c (.lst ((W1.came.set (W1.came.idxOf g) p).map V.int)) = H2 at *
          walk_at "go"
          refine r_dgK w2.w wk_came rfl ?_
          walk_at "go"
          refine r_lenL (SqL.of w2.c) ?_
          walk_at "go"
          have e3 : ((W1.came.set (W1.came.idxOf g) p).map V.int).length = W1.came.length := by rw [List.length_map, List.length_set]
          refine r_kMod (by show (0 : Int) < ((((W1.came.set (W1.came.idxOf g) p).map V.int).length : Nat) : Int); rw [e3]; omega) ?_
          walk_at "go"
          refine r_dpK (k := .inr "hand") w2.w (sz10' (by show 8 < 100000; decide)) rfl ?_
          have e4 : (((W1.came.idxOf g : Nat) : Int) + 1) % ((((W1.came.set (W1.came.idxOf g) p).map V.int).length : Nat) : Int) = (((W1.came.idxOf g + 1) % W1.came.length : Nat) : Int) := by
            rw [e3, Int.natCast_emod]; rfl
          have e5 : (((W1.came.idxOf g : Nat) : Int) + 1) % ((((({ W1 with came := W1.came.set (W1.came.idxOf g) p } : CB.W).came).map V.int).length : Nat) : Int) = (((W1.came.idxOf g + 1) % W1.came.length : Nat) : Int) := e4
          rw [e5, wp_hand]
          have w3 := w2.putW (hand := (W1.came.idxOf g + 1) % W1.came.length) (time := W1.time)
          refine fin A _ _ _ _ rfl ⟨rfl, rfl, rfl, rfl, .inl rfl⟩ (fun b o a1 a2 a3 a4 a5 e => ?_) ?_ (fun _ _ _ _ => .inr rfl)
          · rw [upd_ne a1, ← hH2, upd_ne a2]
            exact fr1 b o a1 a5 e
          · have e6 : comes .clock W1 (some g) p = { W1 with came := W1.came.set (W1.came.idxOf g) p, hand := (W1.came.idxOf g + 1) % W1.came.length } := by
              unfold comes; rfl
            rw [e6]
            exact w3
        · have hrc : r ≠ .clock := fun z => c2 (by rw [z]; rfl)
          walk_at "go"
          refine r_dgK w1.w wk_came rfl ?_
          walk_at "go"
          refine ⟨A.c, _, rfl, SqL.of w1.c, fun p1 n1 => ?_⟩
          have sx1 : Same H1 (upd H1 p1 (.lst (cutV (W1.came.map V.int) none (some ((W1.came.idxOf g : Nat) : Int))))) := .new n1
          have e1 : cutV (W1.came.map V.int) none (some ((W1.came.idxOf g : Nat) : Int)) = (W1.came.take (W1.came.idxOf g)).map V.int := by
            rw [cutV_take (by rw [List.length_map]; omega), List.map_take]
          rw [e1] at sx1 ⊢
          generalize hH2 : upd H1 p1 (.lst ((W1.came.take (W1.came.idxOf g)).map V.int)) = H2 at *
          have hp1 : H2 p1 = some (.lst ((W1.came.take (W1.came.idxOf g)).map V.int)) := by rw [← hH2]; exact upd_same
          have w2 := w1.same sx1
          walk_at "go"
          refine r_dgK w2.w wk_came rfl ?_
          walk_at "go"
          refine ⟨A.c, _, rfl, SqL.of w2.c, fun p2 n2 => ?_⟩
          have ce : ((W1.came.idxOf g : Nat) : Int) + 1 = ((W1.came.idxOf g + 1 : Nat) : Int) := by omega
          have sx2 : Same H2 (upd H2 p2 (.lst (cutV (W1.came.map V.int) (some (((W1.came.idxOf g : Nat) : Int) + 1)) none))) := .new n2
          have e2 : cutV (W1.came.map V.int) (some (((W1.came.idxOf g : Nat) : Int) + 1)) none = (W1.came.drop (W1.came.idxOf g + 1)).map V.int := by
            rw [ce, cutV_drop (by rw [List.length_map]; omega), List.map_drop]
          rw [e2] at sx2 ⊢
          generalize hH3 : upd H2 p2 (.lst ((W1.came.drop (W1.came.idxOf g + 1)).map V.int)) = H3 at *
          have hp2 : H3 p2 = some (.lst ((W1.came.drop (W1.came.idxOf g + 1)).map V.int)) := by rw [← hH3]; exact upd_same
          have w3 := w2.same sx2
          have l60 : W1.came.length ≤ 60 := by rw [k1]; exact h60
          refine ⟨p1, p2, _, _, rfl, rfl, sx2 _ _ hp1, hp2, sz10 (by simp; omega), fun p3 n3 => ?_⟩
          have sx3 : Same H3 (upd H3 p3 (.lst ((W1.came.take (W1.came.idxOf g)).map V.int ++ (W1.came.drop (W1.came.idxOf g + 1)).map V.int))) := .new n3
          generalize hH4 : upd H3 p3 (.lst ((W1.came.take (W1.came.idxOf g)).map V.int ++ (W1.came.drop (W1.came.idxOf g + 1)).map V.int)) = H4 at *
          have hp3 : H4 p3 = some (.lst ((W1.came.take (W1.came.idxOf g)).map V.int ++ (W1.came.drop (W1.came.idxOf g + 1)).map V.int)) := by rw [← hH4]; exact upd_same
          have w4 := w3.same sx3
          walk_at "go"
          refine r_newL szd fun p4 H5 np4 sx4 hp4 => ?_
          have w5 := w4.same sx4
          refine ⟨p3, p4, _, _, rfl, rfl, sx4 _ _ hp3, hp4, sz10 (by simp; omega), fun p5 n5 => ?_⟩
          have sx5 : Same H5 (upd H5 p5 (.lst (((W1.came.take (W1.came.idxOf g)).map V.int ++ (W1.came.drop (W1.came.idxOf g + 1)).map V.int) ++ [V.int p]))) := .new n5
          have e5 : ((W1.came.take (W1.came.idxOf g)).map V.int ++ (W1.came.drop (W1.came.idxOf g + 1)).map V.int) ++ [V.int p] = (W1.came.take (W1.came.idxOf g) ++ W1.came.drop (W1.came.idxOf g + 1) ++ [p]).map V.int := by
            rw [List.map_append, List.map_append]; rfl
          rw [e5] at sx5 ⊢
          generalize hH6 : upd H5 p5 (.lst ((W1.came.take (W1.came.idxOf g) ++ W1.came.drop (W1.came.idxOf g + 1) ++ [p]).map V.int)) = H6 at *
          have hp5 : H6 p5 = some (.lst ((W1.came.take (W1.came.idxOf g) ++ W1.came.drop (W1.came.idxOf g + 1) ++ [p]).map V.int)) := by rw [← hH6]; exact upd_same
          have w6 := w5.same sx5
          walk_at "go"
          refine r_dpK (k := .inr "came") w6.w (sz10' (by show 8 < 100000; decide)) rfl ?_
          rw [wp_came]
          have w7 := w6.newC hp5
          have s16 : Same H1 H6 := (((sx1.trans sx2).trans sx3).trans sx4).trans sx5
          have n5' : H p5 = none := by
            have z1 : H1 p5 = none := (((sx1.trans sx2).trans sx3).trans sx4).free n5
            cases e : H p5 with
            | none => rfl
            | some o =>
              by_cases c3 : p5 = A.w
              · rw [c3, w1.w] at z1; cases z1
              · by_cases c4 : p5 = A.m
                · obtain ⟨km, m1, _⟩ := w1.m
                  rw [c4, m1] at z1; cases z1
                · rw [fr1 p5 o c3 c4 e] at z1; cases z1
          refine fin { A with c := p5 } _ _ _ _ rfl ⟨rfl, rfl, rfl, rfl, .inr n5'⟩ (fun b o a1 a2 a3 a4 a5 e => ?_) ?_ (fun b o e _ => .inl (ne_of_none e n5'))
          · rw [upd_ne a1]
            exact s16 _ _ (fr1 b o a1 a5 e)
          · have e6 : comes r W1 (some g) p = { W1 with came := W1.came.take (W1.came.idxOf g) ++ W1.came.drop (W1.came.idxOf g + 1) ++ [p] } := by
              unfold comes; simp only; rw [if_neg hrc]
            rw [e6]
            exact w7
    · have room : W.came.length ≠ size := fun z => c (by rw [List.length_map, z])
      walk_at "go"
      refine r_dgK wv.w wk_came rfl ?_
      refine ⟨.inl ⟨rfl, _, .inl (.inl wv.c)⟩, ?_⟩
      walk_at "go"
      refine r_append wv.c (sz10' (by rw [List.length_map]; omega)) ?_
      have e1 : W.came.map V.int ++ [V.int p] = (W.came ++ [p]).map V.int := by rw [List.map_append]; rfl
      rw [e1]
      have w1 := wv.putC (W.came ++ [p])
      refine rest A _ _ .non _ none n _ (Nat.le_refl _) rfl w1 fun t H' fr w' ht => ?_
      exact q _ _ A _ H' (.room hm room) (fun b o a1 a2 a3 a4 a5 e => fr b o a1 a2 a3 a4 a5 (by rw [upd_ne a2]; exact e)) ⟨rfl, rfl, rfl, rfl, .inl rfl⟩ w' ⟨t, rfl, ht⟩
end CB

namespace CB
theorem free_nil (w : W) : free w [] = w.came := by
  unfold free
  rw [List.filter_eq_self]
  intro a _
  rfl
theorem idx_ne {q p : Int} {ps : List Int} (c : ¬ q = p) : (q :: ps).idxOf p = ps.idxOf p + 1 := by
  rw [List.idxOf_cons]
  have e : (q == p) = false := by simpa using c
  rw [e]
  rfl
theorem placeOf_map (m : Int → Int) : ∀ {ps : List Int} {p : Int}, p ∈ ps → placeOf (ps.map fun q => (q, m q)) p = some (ps.idxOf p)
  | [], _, h => by cases h
  | q :: ps, p, h => by
    show (if q = p then some 0 else (placeOf (ps.map fun q => (q, m q)) p).map (· + 1)) = _
    by_cases c : q = p
    · rw [if_pos c, c, List.idxOf_cons_self]
    · have h' : p ∈ ps := (List.mem_cons.mp h).resolve_left fun e => c e.symm
      rw [if_neg c, placeOf_map m h', idx_ne c]
      rfl
theorem placeOf_map_none (m : Int → Int) {ps : List Int} {p : Int} (h : p ∉ ps) : placeOf (ps.map fun q => (q, m q)) p = none := by
  refine placeOf_none fun j x e z => ?_
  have hm := List.mem_of_getElem? e
  obtain ⟨q, hq, rfl⟩ := List.mem_map.mp hm
  exact h (z ▸ hq)
theorem take_drop_erase {ps : List Int} {p : Int} (h : p ∈ ps) : ps.take (ps.idxOf p) ++ ps.drop (ps.idxOf p + 1) = ps.erase p := by
  rw [List.erase_eq_eraseIdx_of_idxOf (i := ps.idxOf p) rfl, List.eraseIdx_eq_take_drop_succ]
theorem getD_map (f : Int → Row) {ps : List Int} {k : Nat} {q : Int} (h : ps[k]? = some q) : (ps.map f).getD k (0, 0) = f q := by
  rw [List.getD_eq_getElem?_getD, List.getElem?_map, h]
  rfl
theorem at_idx {ps : List Int} {p : Int} (h : p ∈ ps) : ps[ps.idxOf p]? = some p := by
  rw [List.getElem?_eq_getElem (List.idxOf_lt_length_of_mem h), List.getElem_idxOf]
theorem putAt_map (m m' : Int → Int) {ps : List Int} {p : Int} (nd : ps.Nodup) (h : p ∈ ps) (e : ∀ q, q ≠ p → m' q = m q) : putAt (ps.map fun q => (q, m q)) (ps.idxOf p) (p, m' p) = ps.map fun q => (q, m' q) := by
  unfold putAt
  induction ps with
  | nil => cases h
  | cons q ps ih =>
    obtain ⟨n1, n2⟩ := List.nodup_cons.mp nd
    by_cases c : q = p
    · subst c
      rw [List.idxOf_cons_self]
      show (q, m' q) :: (ps.map fun q => (q, m q)) = (q, m' q) :: _
      congr 1
      refine List.map_congr_left fun x hx => ?_
      rw [e x fun z => n1 (z ▸ hx)]
    · have h' : p ∈ ps := (List.mem_cons.mp h).resolve_left fun e => c e.symm
      rw [idx_ne c]
      show (q, m q) :: _ = (q, m' q) :: _
      rw [e q c]
      congr 1
      exact ih n2 h'
theorem outAt_map {ps : List Int} {p g : Int} (h : g ∈ ps) : outAt (ps.map fun q => (q, (0 : Int))) (ps.idxOf g) (p, 0) = (ps.erase g ++ [p]).map fun q => (q, 0) := by
  unfold outAt
  rw [← take_drop_erase h, List.map_append, List.map_append, List.map_take, List.map_drop]
  rfl
theorem outAt_map' (m : Int → Int) {ps : List Int} {x : Row} {g : Int} (h : g ∈ ps) : outAt (ps.map fun q => (q, m q)) (ps.idxOf g) x = (ps.erase g).map (fun q => (q, m q)) ++ [x] := by
  unfold outAt
  rw [← take_drop_erase h, List.map_append, List.map_take, List.map_drop]
/-- what is noted of a page that came to stand in came -/
theorem noted_sim {r : Rule} {size : Nat} {came : List Int} {w : W} {page : Int} {often : Int → Option Int} (hc : w.came = came) (nd : came.Nodup) (len : came.length ≤ size) (a : ∀ p ∈ came, p ≠ page → ∃ t, w.asked p = some t ∧ t ≤ w.time)
    (o : ∀ p ∈ came, p ≠ page → ∃ t, often p = some t) (m : ∀ p ∈ came, p ≠ page → ∃ b, w.marks p = some b) :
    (∀ p ∈ came, ∃ t, (noted w page often).asked p = some t ∧ t ≤ (noted w page often).time) ∧ (∀ p ∈ came, ∃ t, (noted w page often).often p = some t) ∧ ∀ p ∈ came, ∃ b, (noted w page often).marks p = some b := by
  refine ⟨fun p hp => ?_, fun p hp => ?_, fun p hp => ?_⟩
  · by_cases c : p = page
    · exact ⟨w.time + 1, by rw [c]; exact pset_same, Int.le_refl _⟩
    · obtain ⟨t, h1, h2⟩ := a p hp c
      exact ⟨t, (pset_ne c).trans h1, Int.le_trans h2 (by show w.time ≤ w.time + 1; omega)⟩
  · by_cases c : p = page
    · exact ⟨_, by rw [c]; exact pset_same⟩
    · obtain ⟨t, h1⟩ := o p hp c
      exact ⟨t, (pset_ne c).trans h1⟩
  · by_cases c : p = page
    · exact ⟨_, by rw [c]; exact pset_same⟩
    · obtain ⟨t, h1⟩ := m p hp c
      exact ⟨t, (pset_ne c).trans h1⟩
/-- the turn of the last asks, one more ask at the end -/
theorem order_on {w : W} {page : Int} {often : Int → Option Int} {qs : List Int} (np : page ∉ qs) (a : ∀ p ∈ qs, ∃ t, w.asked p = some t ∧ t ≤ w.time) (h : qs.Pairwise fun a b => (w.asked a).getD 0 < (w.asked b).getD 0) :
    (qs ++ [page]).Pairwise fun a b => ((noted w page often).asked a).getD 0 < ((noted w page often).asked b).getD 0 := by
  have e : ∀ q ∈ qs, (noted w page often).asked q = w.asked q := fun q hq => pset_ne fun z => np (z ▸ hq)
  refine List.pairwise_append.mpr ⟨h.imp_of_mem fun {x y} hx hy q => ?_, List.pairwise_singleton _ _, fun x hx y hy => ?_⟩
  · rw [e x hx, e y hy]
    exact q
  · have ey : y = page := by simpa using hy
    obtain ⟨t, h1, h2⟩ := a x hx
    rw [e x hx, h1, ey, show (noted w page often).asked page = some (w.time + 1) from pset_same]
    show t < w.time + 1
    omega
/-! ### the clock -/
def mk (f : Int → Option Bool) (p : Int) : Int := if (f p).getD false then 1 else 0
theorem sweep_sim : ∀ (n : Nat) (w : W) (g : Int) (w' : W), sweepW [] n w = some (g, w') → w.came.Nodup → (∀ p ∈ w.came, ∃ b, w.marks p = some b) → w.hand < w.came.length →
    swept (w.came.map fun p => (p, mk w.marks p)) w.hand = (w.came.map (fun p => (p, mk w'.marks p)), w'.hand) ∧ w'.came = w.came ∧ w.came[w'.hand]? = some g ∧ (∀ p ∈ w.came, ∃ b, w'.marks p = some b) ∧ w'.hand < w.came.length
  | 0, w, g, w', h, _, _, _ => by cases h
  | n + 1, w, g, w', h, nd, mk_, hl => by
    unfold sweepW at h
    have e := List.getElem?_eq_getElem hl
    rw [e] at h
    simp only at h
    obtain ⟨b, hb⟩ := mk_ _ (List.getElem_mem hl)
    split at h
    · rename_i c
      cases h
      refine ⟨swept_stop (p := w.came[w.hand]) ?_, rfl, e, mk_, hl⟩
      rw [List.getElem?_map, e]
      show some (_, mk w.marks w.came[w.hand]) = _
      unfold mk
      rw [c.2]
      rfl
    · rename_i c
      have bt : b = true := by
        cases b with
        | true => rfl
        | false => exact absurd ⟨rfl, hb⟩ c
      subst bt
      have hf : ((w.marks w.came[w.hand]).getD false && ([] : List Int).contains w.came[w.hand]) = false := by simp
      rw [hf] at h
      have q := sweep_sim n _ g w' h nd (fun p hp => by
        by_cases c2 : p = w.came[w.hand]
        · exact ⟨false, by rw [c2]; exact pset_same⟩
        · obtain ⟨b, hb⟩ := mk_ p hp
          exact ⟨b, (pset_ne c2).trans hb⟩) (Nat.mod_lt _ (by omega))
      obtain ⟨q1, q2, q3, q4, q5⟩ := q
      refine ⟨?_, q2, q3, q4, q5⟩
      have hm : (w.came.map fun p => (p, mk w.marks p))[w.hand]? = some (w.came[w.hand], 1) := by
        rw [List.getElem?_map, e]
        show some (_, mk w.marks w.came[w.hand]) = _
        unfold mk
        rw [hb]
        rfl
      rw [swept_on hm (by decide), List.length_map]
      have hs : (w.came.map fun p => (p, mk w.marks p)).set w.hand (w.came[w.hand], 0) = w.came.map fun p => (p, mk (pset w.marks w.came[w.hand] false) p) := by
        have z := putAt_map (mk w.marks) (mk (pset w.marks w.came[w.hand] false)) nd (List.getElem_mem hl) fun q hq => by
          unfold mk
          rw [pset_ne hq]
        rw [← z]
        have ei : w.came.idxOf w.came[w.hand] = w.hand := List.Nodup.idxOf_getElem nd _ _
        rw [ei]
        unfold putAt
        rw [List.set_eq_take_append_cons_drop, if_pos (by simpa using hl)]
        have : mk (pset w.marks w.came[w.hand] false) w.came[w.hand] = 0 := by
          unfold mk
          rw [pset_same]
          rfl
        rw [this]
      rw [hs]
      exact q1
theorem sweep_ends : ∀ (n : Nat) (w : W), cnt (w.came.map fun p => (p, mk w.marks p)) ≤ n → w.came.Nodup → (∀ p ∈ w.came, ∃ b, w.marks p = some b) → w.hand < w.came.length → ∃ g w', sweepW [] (n + 1) w = some (g, w')
  | n, w, hn, nd, mk_, hl => by
    have e := List.getElem?_eq_getElem hl
    obtain ⟨b, hb⟩ := mk_ _ (List.getElem_mem hl)
    unfold sweepW
    rw [e]
    simp only
    cases b with
    | false => exact ⟨_, _, if_pos ⟨rfl, hb⟩⟩
    | true =>
      rw [if_neg (by rw [hb]; intro z; cases z.2)]
      have hf : ((w.marks w.came[w.hand]).getD false && ([] : List Int).contains w.came[w.hand]) = false := by simp
      rw [hf]
      have hm : (w.came.map fun p => (p, mk w.marks p))[w.hand]? = some (w.came[w.hand], 1) := by
        rw [List.getElem?_map, e]
        show some (_, mk w.marks w.came[w.hand]) = _
        unfold mk
        rw [hb]
        rfl
      have hs : (w.came.map fun p => (p, mk w.marks p)).set w.hand (w.came[w.hand], 0) = w.came.map fun p => (p, mk (pset w.marks w.came[w.hand] false) p) := by
        have z := putAt_map (mk w.marks) (mk (pset w.marks w.came[w.hand] false)) nd (List.getElem_mem hl) fun q hq => by
          unfold mk
          rw [pset_ne hq]
        rw [← z]
        have ei : w.came.idxOf w.came[w.hand] = w.hand := List.Nodup.idxOf_getElem nd _ _
        rw [ei]
        unfold putAt
        rw [List.set_eq_take_append_cons_drop, if_pos (by simpa using hl)]
        have : mk (pset w.marks w.came[w.hand] false) w.came[w.hand] = 0 := by
          unfold mk
          rw [pset_same]
          rfl
        rw [this]
      have hc := cnt_set hm (by decide)
      rw [hs] at hc
      cases n with
      | zero => omega
      | succ n => exact sweep_ends n _ (by show cnt (w.came.map fun p => (p, mk (pset w.marks w.came[w.hand] false) p)) ≤ n; omega) nd (fun p hp => by
          by_cases c2 : p = w.came[w.hand]
          · exact ⟨false, by rw [c2]; exact pset_same⟩
          · obtain ⟨b, hb⟩ := mk_ p hp
            exact ⟨b, (pset_ne c2).trans hb⟩) (Nat.mod_lt _ (by omega))
theorem sim_len {r : Rule} {size : Nat} {l : List Row} {h : Nat} {w : W} (S : Sim r size l h w) : l.length = w.came.length := by
  have R := S.rel
  cases r with
  | came => rw [R.1]; simp
  | high => rw [R.1]; simp
  | often => rw [R.1]; simp
  | clock => rw [R.1]; simp
  | used => obtain ⟨⟨ps, h1, h2, _⟩, _⟩ := R; rw [h1, List.length_map, h2.length_eq]
  | last => obtain ⟨⟨ps, h1, h2, _⟩, _⟩ := R; rw [h1, List.length_map, h2.length_eq]
theorem sim_pages {r : Rule} {size : Nat} {l : List Row} {h : Nat} {w : W} (S : Sim r size l h w) : (l.map (·.1)).Perm w.came := by
  have R := S.rel
  have one : ∀ (m : Int → Int) (ps : List Int), (ps.map fun q => ((q, m q) : Row)).map (·.1) = ps := fun m ps => by
    rw [List.map_map]
    exact List.map_id'' (fun _ => rfl) ps
  cases r with
  | came => rw [R.1, one (fun _ => 0)]
  | high => rw [R.1, one (fun _ => 0)]
  | often => rw [R.1, one]
  | clock => rw [R.1, one]
  | used => obtain ⟨⟨ps, h1, h2, _⟩, _⟩ := R; rw [h1, one (fun _ => 0)]; exact h2
  | last => obtain ⟨⟨ps, h1, h2, _⟩, _⟩ := R; rw [h1, one (fun _ => 0)]; exact h2
/-- the first greatest of a list of values by pages -/
theorem best_at {ps : List Int} (f : Int → Int) {g : Int} (hg : g ∈ ps) (h1 : ∀ q ∈ ps, f q ≤ f g) (h2 : ∀ j, j < ps.idxOf g → ∀ q, ps[j]? = some q → f q < f g) : bestIdx (ps.map f) = ps.idxOf g := by
  have at_ : ∀ j q, ps[j]? = some q → (ps.map f).getD j 0 = f q := fun j q e => by
    rw [List.getD_eq_getElem?_getD, List.getElem?_map, e]
    rfl
  have eg := at_ _ _ (at_idx hg)
  refine bestIdx_is (by rw [List.length_map]; exact List.idxOf_lt_length_of_mem hg) (fun x hx => ?_) fun j hj => ?_
  · obtain ⟨q, hq, rfl⟩ := List.mem_map.mp hx
    rw [eg]
    exact h1 q hq
  · have hjl : j < ps.length := Nat.lt_trans hj (List.idxOf_lt_length_of_mem hg)
    have e := List.getElem?_eq_getElem hjl
    rw [eg, at_ _ _ e]
    exact h2 j hj _ e
theorem last_at {ps : List Int} (nd : ps.Nodup) {g : Int} (hg : g ∈ ps) (h1 : ∀ q ∈ ps, q ≤ g) : lastIdx (ps.map fun q => q) = ps.idxOf g := by
  have e0 : ps.map (fun q => q) = ps := List.map_id' ps
  rw [e0]
  have at_ : ∀ j q, ps[j]? = some q → ps.getD j 0 = q := fun j q e => by
    rw [List.getD_eq_getElem?_getD, e]
    rfl
  have eg := at_ _ _ (at_idx hg)
  have il := List.idxOf_lt_length_of_mem hg
  refine lastIdx_is il (fun x hx => by rw [eg]; exact h1 x hx) fun j hj hl => ?_
  have e := List.getElem?_eq_getElem hl
  rw [eg, at_ _ _ e]
  have n2 := h1 _ (List.getElem_mem hl)
  have n1 : ps[j] ≠ g := fun z => by
    have e2 := at_idx hg
    rw [← z, ← e] at e2
    have q : ps.idxOf g = j := by
      have := (List.getElem?_inj (l := ps) (i := j) (j := ps.idxOf g) hl nd).mp (by rw [e, z, at_idx hg])
      omega
    omega
  omega
theorem before_idx {ps : List Int} {g q : Int} {j : Nat} (hj : j < ps.idxOf g) (e : ps[j]? = some q) : q ≠ g := by
  induction ps generalizing j with
  | nil => simp at e
  | cons a ps ih =>
    by_cases c : a = g
    · rw [c, List.idxOf_cons_self] at hj
      exact absurd hj (Nat.not_lt_zero _)
    · rw [idx_ne c] at hj
      cases j with
      | zero =>
        have e' : a = q := by simpa using e
        rw [← e']
        exact c
      | succ j => exact ih (Nat.lt_of_succ_lt_succ hj) (by simpa using e)
/-- THE STEP, the page not held -/
theorem sim_miss {r : Rule} {size : Nat} {l : List Row} {h : Nat} {w w' : W} {page : Int} {res : Option (Bool × Option Int)} (S : Sim r size l h w) (hs : 1 ≤ size) (np : page ∉ w.came) (A : Asks r size w [] page res w') :
    res = some (false, (step r size l h page).gone) ∧ (step r size l h page).held = false ∧ Sim r size (step r size l h page).rows (step r size l h page).hand w' := by
  have hp : placeOf l page = none := placeOf_none fun j x e z => np ((sim_pages S).mem_iff.mp (List.mem_map.mpr ⟨x, List.mem_of_getElem? e, z⟩))
  have ll := sim_len S
  have R := S.rel
  cases A with
  | held hm => exact absurd hm np
  | stuck _ e1 e2 =>
    rw [free_nil] at e2
    rw [e2] at e1
    simp at e1
    omega
  | room _ hne =>
    have lt : w.came.length < size := Nat.lt_of_le_of_ne S.len hne
    have es : step r size l h page = ⟨false, none, l ++ [(page, firstMark r)], h⟩ := by
      unfold step
      rw [hp]
      simp only
      rw [if_pos (by rw [ll]; exact lt)]
    rw [es]
    refine ⟨rfl, rfl, ?_⟩
    have old : ∀ p ∈ w.came ++ [page], p ≠ page → p ∈ w.came := fun p hp hne => by
      rcases List.mem_append.mp hp with z | z
      · exact z
      · exact absurd (by simpa using z) hne
    obtain ⟨n1, n2, n3⟩ := noted_sim (r := r) (size := size) (came := w.came ++ [page]) (w := comes r w none page) (page := page) (often := pset w.often page 0) rfl (List.nodup_append.mpr ⟨S.nd, by simp, fun a ha b hb => by
        have : b = page := by simpa using hb
        intro z
        exact np (this ▸ z ▸ ha)⟩) (by simp; omega) (fun p hp hne => S.asked p (old p hp hne)) (fun p hp hne => by
          obtain ⟨t, ht⟩ := S.often p (old p hp hne)
          exact ⟨t, (pset_ne hne).trans ht⟩) (fun p hp hne => S.marks p (old p hp hne))
    refine ⟨List.nodup_append.mpr ⟨S.nd, by simp, fun a ha b hb => by
        have : b = page := by simpa using hb
        intro z
        exact np (this ▸ z ▸ ha)⟩, by show (w.came ++ [page]).length ≤ size; simp; omega, n1, n2, n3, S.hand, ?_⟩
    cases r with
    | came => exact ⟨by show _ = (w.came ++ [page]).map _; rw [R.1, List.map_append]; rfl, R.2⟩
    | high => exact ⟨by show _ = (w.came ++ [page]).map _; rw [R.1, List.map_append]; rfl, R.2⟩
    | used =>
      obtain ⟨⟨ps, h1, h2, h3⟩, h4⟩ := R
      exact ⟨⟨ps ++ [page], by rw [h1, List.map_append]; rfl, h2.append_right _, order_on (fun z => np (h2.mem_iff.mp z)) (fun p hp => S.asked p (h2.mem_iff.mp hp)) h3⟩, h4⟩
    | last =>
      obtain ⟨⟨ps, h1, h2, h3⟩, h4⟩ := R
      exact ⟨⟨ps ++ [page], by rw [h1, List.map_append]; rfl, h2.append_right _, order_on (fun z => np (h2.mem_iff.mp z)) (fun p hp => S.asked p (h2.mem_iff.mp hp)) h3⟩, h4⟩
    | often =>
      refine ⟨?_, R.2⟩
      show _ = (w.came ++ [page]).map fun p => (p, ((pset (pset w.often page 0) page (((pset w.often page 0) page).getD 0 + 1)) p).getD 0)
      rw [R.1, List.map_append]
      refine congr (congrArg HAppend.hAppend ?_) ?_
      · refine List.map_congr_left fun q hq => ?_
        have ne : q ≠ page := fun z => np (z ▸ hq)
        rw [pset_ne ne, pset_ne ne]
      · show [(page, 1)] = [(page, _)]
        rw [pset_same, pset_same]
        rfl
    | clock =>
      refine ⟨?_, fun _ => R.2.1 lt, .inl (R.2.1 lt)⟩
      show _ = (w.came ++ [page]).map fun p => (p, if ((pset w.marks page true) p).getD false then 1 else 0)
      rw [R.1, List.map_append]
      refine congr (congrArg HAppend.hAppend ?_) ?_
      · refine List.map_congr_left fun q hq => ?_
        have ne : q ≠ page := fun z => np (z ▸ hq)
        rw [pset_ne ne]
      · show [(page, 1)] = [(page, _)]
        rw [pset_same]
        rfl
  | goes g w1 _ hlen hne L =>
    obtain ⟨k1, k2, k3, k4, hg⟩ := L.keeps
    have nlt : ¬ l.length < size := by rw [ll, hlen]; exact Nat.lt_irrefl _
    have ndg : g ∉ w.came.erase g := fun z => (List.Nodup.mem_erase_iff S.nd).mp z |>.1 rfl
    by_cases hc : r = .clock
    · subst hc
      obtain ⟨n, hn⟩ := L
      have S4 := R.2.2
      have hl0 : w.hand < w.came.length := by
        rw [← S.hand]
        rcases S4 with z | z
        · omega
        · exact z
      obtain ⟨q1, q2, q3, q4, q5⟩ := sweep_sim n w g w1 hn S.nd S.marks hl0
      have el : l = w.came.map fun p => (p, mk w.marks p) := R.1
      have esw : swept l h = (w.came.map (fun p => (p, mk w1.marks p)), w1.hand) := by rw [el, S.hand]; exact q1
      have eg : (w.came.map fun p => (p, mk w1.marks p)).getD w1.hand (0, 0) = (g, mk w1.marks g) := getD_map (fun p => (p, mk w1.marks p)) q3
      have ei : w.came.idxOf g = w1.hand := by
        have z : w.came[w1.hand] = g := by
          have e := List.getElem?_eq_getElem q5
          rw [q3] at e
          exact (Option.some.inj e).symm
        rw [← z]
        exact List.Nodup.idxOf_getElem S.nd _ _
      have es : step .clock size l h page = ⟨false, some g, putAt (w.came.map fun p => (p, mk w1.marks p)) w1.hand (page, 1), (w1.hand + 1) % w.came.length⟩ := by
        unfold step
        rw [hp]
        simp only
        rw [if_neg nlt, if_pos trivial, esw]
        simp only
        rw [eg, List.length_map]
        rfl
      rw [es]
      refine ⟨rfl, rfl, ?_⟩
      have ec : (comes .clock w1 (some g) page).came = w.came.set w1.hand page := by
        show (w1.came.set (w1.came.idxOf g) page) = _
        rw [k1, ei]
      have eh : (comes .clock w1 (some g) page).hand = (w1.hand + 1) % w.came.length := by
        show (w1.came.idxOf g + 1) % w1.came.length = _
        rw [k1, ei]
      have old : ∀ p ∈ w.came.set w1.hand page, p ≠ page → p ∈ w.came := fun p hp hne => by
        rcases List.mem_or_eq_of_mem_set hp with z | z
        · exact z
        · exact absurd z hne
      have nd' : (w.came.set w1.hand page).Nodup := by
        rw [List.set_eq_take_append_cons_drop, if_pos q5]
        have base : (w.came.take w1.hand ++ w.came.drop (w1.hand + 1)).Nodup := by
          have := List.Nodup.eraseIdx w1.hand S.nd
          rw [List.eraseIdx_eq_take_drop_succ] at this
          exact this
        rw [(List.perm_middle (a := page) (l₁ := w.came.take w1.hand) (l₂ := w.came.drop (w1.hand + 1))).nodup_iff]
        refine List.nodup_cons.mpr ⟨fun z => np ?_, base⟩
        rcases List.mem_append.mp z with z | z
        · exact List.mem_of_mem_take z
        · exact List.mem_of_mem_drop z
      obtain ⟨n1, n2, n3⟩ := noted_sim (r := .clock) (size := size) (w := comes .clock w1 (some g) page) (page := page) (often := pset w1.often page 0) ec nd' (by simp; omega) (fun p hp hne => by
          obtain ⟨t, h1, h2⟩ := S.asked p (old p hp hne)
          exact ⟨t, by show w1.asked p = _; rw [k3]; exact h1, by show t ≤ w1.time; rw [k2]; exact h2⟩) (fun p hp hne => by
          obtain ⟨t, ht⟩ := S.often p (old p hp hne)
          exact ⟨t, (pset_ne hne).trans (by rw [k4]; exact ht)⟩) (fun p hp hne => q4 p (old p hp hne))
      have ec' : (noted (comes .clock w1 (some g) page) page (pset w1.often page 0)).came = w.came.set w1.hand page := ec
      refine ⟨by rw [ec']; exact nd', by rw [ec']; simp; omega, by rw [ec']; exact n1, by rw [ec']; exact n2, by rw [ec']; exact n3, eh.symm, ?_⟩
      refine ⟨?_, fun z => ?_, .inr ?_⟩
      · rw [ec']
        show putAt (w.came.map fun p => (p, mk w1.marks p)) w1.hand (page, 1) = (w.came.set w1.hand page).map fun p => (p, if ((pset w1.marks page true) p).getD false then 1 else 0)
        unfold putAt
        rw [List.set_eq_take_append_cons_drop, if_pos q5, List.map_append, List.map_cons, List.map_take, List.map_drop]
        have same : ∀ q ∈ w.came, ((q, mk w1.marks q) : Row) = (q, if ((pset w1.marks page true) q).getD false then 1 else 0) := fun q hq => by
          have ne : q ≠ page := fun z => np (z ▸ hq)
          rw [pset_ne ne]
          rfl
        rw [List.map_congr_left same]
        rw [← List.map_take, ← List.map_drop, pset_same]
        rfl
      · rw [ec', List.length_set, hlen] at z
        exact absurd z (Nat.lt_irrefl _)
      · rw [ec', List.length_set]
        exact Nat.mod_lt _ (by omega)
    · have wk : w1 = w := by
        cases r with
        | clock => exact absurd rfl hc
        | came => exact L.1
        | high => exact L.1
        | used => exact L.1
        | last => exact L.1
        | often => exact L.1
      subst wk
      have ec : (comes r w1 (some g) page).came = w1.came.erase g ++ [page] := by
        show (if r = .clock then _ else _ : W).came = _
        rw [if_neg hc, ← take_drop_erase hg]
      have eh : (comes r w1 (some g) page).hand = w1.hand := by
        show (if r = .clock then _ else _ : W).hand = _
        rw [if_neg hc]
      have ea : (comes r w1 (some g) page).asked = w1.asked ∧ (comes r w1 (some g) page).time = w1.time ∧ (comes r w1 (some g) page).marks = w1.marks := by
        show (if r = .clock then _ else _ : W).asked = _ ∧ (if r = .clock then _ else _ : W).time = _ ∧ (if r = .clock then _ else _ : W).marks = _
        rw [if_neg hc]
        exact ⟨rfl, rfl, rfl⟩
      have old : ∀ p ∈ w1.came.erase g ++ [page], p ≠ page → p ∈ w1.came := fun p hp hne => by
        rcases List.mem_append.mp hp with z | z
        · exact List.mem_of_mem_erase z
        · exact absurd (by simpa using z) hne
      have nd' : (w1.came.erase g ++ [page]).Nodup := List.nodup_append.mpr ⟨S.nd.erase g, by simp, fun a ha b hb => by
        have : b = page := by simpa using hb
        intro z
        exact np (this ▸ z ▸ List.mem_of_mem_erase ha)⟩
      have len' : (w1.came.erase g ++ [page]).length = w1.came.length := by
        rw [List.length_append, List.length_erase_of_mem hg]
        have := List.length_pos_of_mem hg
        simp
        omega
      obtain ⟨n1, n2, n3⟩ := noted_sim (r := r) (size := size) (w := comes r w1 (some g) page) (page := page) (often := pset w1.often page 0) ec nd' (by omega) (fun p hp hne => by
          rw [ea.1, ea.2.1]
          exact S.asked p (old p hp hne)) (fun p hp hne => by
          obtain ⟨t, ht⟩ := S.often p (old p hp hne)
          exact ⟨t, (pset_ne hne).trans ht⟩) (fun p hp hne => by
          rw [ea.2.2]
          exact S.marks p (old p hp hne))
      have ec' : (noted (comes r w1 (some g) page) page (pset w1.often page 0)).came = w1.came.erase g ++ [page] := ec
      have fin : ∀ (rows : List Row), step r size l h page = ⟨false, some g, rows, h⟩ → (match r with
          | .came => rows = (w1.came.erase g ++ [page]).map (fun q => (q, 0))
          | .high => rows = (w1.came.erase g ++ [page]).map (fun q => (q, 0))
          | .used => ∃ ps : List Int, rows = ps.map (fun q => (q, 0)) ∧ ps.Perm (w1.came.erase g ++ [page]) ∧ ps.Pairwise fun a b => ((noted (comes r w1 (some g) page) page (pset w1.often page 0)).asked a).getD 0 < ((noted (comes r w1 (some g) page) page (pset w1.often page 0)).asked b).getD 0
          | .last => ∃ ps : List Int, rows = ps.map (fun q => (q, 0)) ∧ ps.Perm (w1.came.erase g ++ [page]) ∧ ps.Pairwise fun a b => ((noted (comes r w1 (some g) page) page (pset w1.often page 0)).asked a).getD 0 < ((noted (comes r w1 (some g) page) page (pset w1.often page 0)).asked b).getD 0
          | .often => rows = (w1.came.erase g ++ [page]).map (fun p => (p, ((pset (pset w1.often page 0) page (((pset w1.often page 0) page).getD 0 + 1)) p).getD 0))
          | .clock => True) → some (false, some g) = some (false, (step r size l h page).gone) ∧ (step r size l h page).held = false ∧ Sim r size (step r size l h page).rows (step r size l h page).hand (noted (comes r w1 (some g) page) page (pset w1.often page 0)) := by
        intro rows es hrel
        rw [es]
        refine ⟨rfl, rfl, by rw [ec']; exact nd', by rw [ec']; omega, by rw [ec']; exact n1, by rw [ec']; exact n2, by rw [ec']; exact n3, S.hand.trans eh.symm, ?_⟩
        cases r with
        | clock => exact absurd rfl hc
        | came => exact ⟨by rw [ec']; exact hrel, R.2⟩
        | high => exact ⟨by rw [ec']; exact hrel, R.2⟩
        | used => exact ⟨by rw [ec']; exact hrel, R.2⟩
        | last => exact ⟨by rw [ec']; exact hrel, R.2⟩
        | often => exact ⟨by rw [ec']; exact hrel, R.2⟩
      have es : ∀ (k : Nat) (x : Row), placeToGo r l = k → l.getD k (0, 0) = x → x.1 = g → step r size l h page = ⟨false, some g, outAt l k (page, firstMark r), h⟩ := fun k x e1 e2 e3 => by
        unfold step
        rw [hp]
        simp only
        rw [if_neg nlt, if_neg hc, e1, e2, e3]
      rw [show w1.often = w1.often from rfl]
      cases r with
      | clock => exact absurd rfl hc
      | came =>
        have hh : w1.came.head? = some g := by
          have := L.2
          rw [free_nil] at this
          exact this
        have hi : w1.came.idxOf g = 0 := by
          cases hq : w1.came with
          | nil => rw [hq] at hh; cases hh
          | cons a t =>
            rw [hq] at hh
            have : a = g := by simpa using hh
            rw [this, List.idxOf_cons_self]
        refine fin _ (es 0 (g, 0) rfl ?_ rfl) ?_
        · rw [R.1, ← hi]
          exact getD_map (fun q => (q, 0)) (at_idx hg)
        · show outAt l 0 (page, 0) = _
          rw [R.1, ← hi]
          exact outAt_map hg
      | high =>
        have hm := L.2.2
        rw [free_nil] at hm
        have hb : placeToGo .high l = w1.came.idxOf g := by
          show lastIdx (l.map (·.1)) = _
          rw [R.1, List.map_map]
          exact last_at S.nd hg hm
        refine fin _ (es _ (g, 0) hb ?_ rfl) ?_
        · rw [R.1]
          exact getD_map (fun q => (q, 0)) (at_idx hg)
        · show outAt l _ (page, 0) = _
          rw [R.1]
          exact outAt_map hg
      | used =>
        obtain ⟨⟨ps, h1, h2, h3⟩, h4⟩ := R
        have hm := L.2.2
        rw [free_nil] at hm
        have gp : g ∈ ps := h2.mem_iff.mpr hg
        have hi : ps.idxOf g = 0 := by
          cases ps with
          | nil => cases gp
          | cons a t =>
            by_cases c : a = g
            · rw [c, List.idxOf_cons_self]
            · have gt : g ∈ t := (List.mem_cons.mp gp).resolve_left fun e => c e.symm
              have b1 := (List.pairwise_cons.mp h3).1 g gt
              have b2 := hm a (h2.mem_iff.mp List.mem_cons_self)
              omega
        refine fin _ (es 0 (g, 0) rfl ?_ rfl) ⟨ps.erase g ++ [page], ?_, (h2.erase g).append_right _, ?_⟩
        · rw [h1, ← hi]
          exact getD_map (fun q => (q, 0)) (at_idx gp)
        · show outAt l 0 (page, 0) = _
          rw [h1, ← hi]
          exact outAt_map gp
        · refine order_on (w := comes .used w1 (some g) page) (fun z => np (h2.mem_iff.mp (List.mem_of_mem_erase z))) (fun p hp => ?_) ?_
          · rw [ea.1, ea.2.1]
            exact S.asked p (h2.mem_iff.mp (List.mem_of_mem_erase hp))
          · rw [ea.1]
            exact h3.sublist List.erase_sublist
      | last =>
        obtain ⟨⟨ps, h1, h2, h3⟩, h4⟩ := R
        have hm := L.2.2
        rw [free_nil] at hm
        have gp : g ∈ ps := h2.mem_iff.mpr hg
        have hi : ps.idxOf g = ps.length - 1 := by
          have q := List.idxOf_lt_length_of_mem gp
          by_cases c : ps.idxOf g = ps.length - 1
          · exact c
          · have lt : ps.idxOf g < ps.length - 1 := by omega
            have lt2 : ps.length - 1 < ps.length := by omega
            have b := List.pairwise_iff_getElem.mp h3 _ _ q lt2 lt
            rw [List.getElem_idxOf] at b
            have b2 := hm _ (h2.mem_iff.mp (List.getElem_mem lt2))
            omega
        have hb : placeToGo .last l = ps.idxOf g := by
          show l.length - 1 = _
          rw [h1, List.length_map, hi]
        refine fin _ (es _ (g, 0) hb ?_ rfl) ⟨ps.erase g ++ [page], ?_, (h2.erase g).append_right _, ?_⟩
        · rw [h1]
          exact getD_map (fun q => (q, 0)) (at_idx gp)
        · show outAt l _ (page, 0) = _
          rw [h1]
          exact outAt_map gp
        · refine order_on (w := comes .last w1 (some g) page) (fun z => np (h2.mem_iff.mp (List.mem_of_mem_erase z))) (fun p hp => ?_) ?_
          · rw [ea.1, ea.2.1]
            exact S.asked p (h2.mem_iff.mp (List.mem_of_mem_erase hp))
          · rw [ea.1]
            exact h3.sublist List.erase_sublist
      | often =>
        have hm := L.2.1
        have hf := L.2.2
        rw [free_nil] at hm hf
        have hb : placeToGo .often l = w1.came.idxOf g := by
          show bestIdx (l.map fun x => - x.2) = _
          rw [R.1, List.map_map]
          refine best_at (fun q => - (w1.often q).getD 0) hg (fun q hq => by have := hm q hq; omega) fun j hj q e => ?_
          have hq := List.mem_of_getElem? e
          have b1 := hm q hq
          show - (w1.often q).getD 0 < - (w1.often g).getD 0
          by_cases c : (w1.often q).getD 0 = (w1.often g).getD 0
          · exfalso
            have key : ∀ (xs : List Int) (j : Nat), j < xs.idxOf g → xs[j]? = some q → (xs.filter fun q => decide ((w1.often q).getD 0 = (w1.often g).getD 0)).head? = some g → False := by
              intro xs
              induction xs with
              | nil => intro j _ e _; simp at e
              | cons a xs ih =>
                intro j hj e hh
                by_cases ca : a = g
                · rw [ca, List.idxOf_cons_self] at hj
                  exact absurd hj (Nat.not_lt_zero _)
                · by_cases cb : (w1.often a).getD 0 = (w1.often g).getD 0
                  · rw [List.filter_cons, if_pos (by simpa using cb)] at hh
                    exact ca (by simpa using hh)
                  · rw [List.filter_cons, if_neg (by simpa using cb)] at hh
                    rw [idx_ne ca] at hj
                    cases j with
                    | zero =>
                      have : a = q := by simpa using e
                      exact cb (this ▸ c)
                    | succ j => exact ih j (Nat.lt_of_succ_lt_succ hj) (by simpa using e) hh
            exact key w1.came j hj e hf
          · omega
        refine fin _ (es _ (g, (w1.often g).getD 0) hb ?_ rfl) ?_
        · rw [R.1]
          exact getD_map (fun q => (q, (w1.often q).getD 0)) (at_idx hg)
        · show outAt l _ (page, 1) = _
          rw [R.1, outAt_map' (fun q => (w1.often q).getD 0) hg, List.map_append]
          refine congr (congrArg HAppend.hAppend ?_) ?_
          · refine List.map_congr_left fun q hq => ?_
            have ne : q ≠ page := fun z => np (z ▸ List.mem_of_mem_erase hq)
            rw [pset_ne ne, pset_ne ne]
          · show [(page, 1)] = [(page, _)]
            rw [pset_same, pset_same]
            rfl
/-- at first -/
theorem sim_start (r : Rule) (size : Nat) {w : W} (h1 : w.came = []) (h2 : w.hand = 0) : Sim r size [] 0 w := by
  have no : ∀ p, p ∉ w.came := fun p z => by rw [h1] at z; cases z
  refine ⟨by rw [h1]; exact List.nodup_nil, by rw [h1]; exact Nat.zero_le _, fun p z => absurd z (no p), fun p z => absurd z (no p), fun p z => absurd z (no p), h2.symm, ?_⟩
  cases r with
  | came => exact ⟨by rw [h1]; rfl, rfl⟩
  | high => exact ⟨by rw [h1]; rfl, rfl⟩
  | often => exact ⟨by rw [h1]; rfl, rfl⟩
  | used => exact ⟨⟨[], rfl, by rw [h1], List.Pairwise.nil⟩, rfl⟩
  | last => exact ⟨⟨[], rfl, by rw [h1], List.Pairwise.nil⟩, rfl⟩
  | clock => exact ⟨by rw [h1]; rfl, fun _ => rfl, .inl rfl⟩
end CB

namespace CB
/-- the least number that is not in ps -/
def IsLeast (ps : List Int) (k : Nat) : Prop := (k : Int) ∉ ps ∧ ∀ j : Nat, j < k → (j : Int) ∈ ps
theorem IsLeast.uniq {ps qs : List Int} {k j : Nat} (h : IsLeast ps k) (h' : IsLeast qs j) (e : ∀ x, x ∈ ps ↔ x ∈ qs) : k = j := by
  rcases Nat.lt_trichotomy k j with c | c | c
  · exact absurd ((e _).mpr (h'.2 k c)) h.1
  · exact c
  · exact absurd ((e _).mp (h.2 j c)) h'.1
theorem all_le : ∀ (m : Nat) (ps : List Int), (∀ k : Nat, k < m → (k : Int) ∈ ps) → m ≤ ps.length
  | 0, _, _ => Nat.zero_le _
  | m + 1, ps, h => by
    have hm := h m (Nat.lt_succ_self m)
    have q := all_le m (ps.erase (m : Int)) fun k hk => (List.mem_erase_of_ne (by omega)).mpr (h k (Nat.lt_succ_of_lt hk))
    rw [List.length_erase_of_mem hm] at q
    have := List.length_pos_of_mem hm
    omega
theorem least_some : ∀ (f k : Nat) (ps : List Int), ps.length ≤ k + f → (∀ j : Nat, j < k → (j : Int) ∈ ps) → ∃ m, m ≤ ps.length ∧ IsLeast ps m
  | 0, k, ps, hl, h => by
    have q := all_le k ps h
    by_cases c : (k : Int) ∈ ps
    · have q2 := all_le (k + 1) ps fun j hj => by
        by_cases e : j = k
        · rw [e]; exact c
        · exact h j (by omega)
      omega
    · exact ⟨k, q, c, h⟩
  | f + 1, k, ps, hl, h => by
    by_cases c : (k : Int) ∈ ps
    · refine least_some f (k + 1) ps (by omega) fun j hj => ?_
      by_cases e : j = k
      · rw [e]; exact c
      · exact h j (by omega)
    · exact ⟨k, all_le k ps h, c, h⟩
theorem least_is (ps : List Int) : ∃ m, m ≤ ps.length ∧ IsLeast ps m := least_some ps.length 0 ps (by omega) fun j hj => absurd hj (Nat.not_lt_zero _)
/-- the program's way: rows, hand, stream behind n asks -/
inductive Cr (r : Rule) (s : Nat) : Nat → List Row → Nat → List Int → Prop
  | zero : Cr r s 0 [] 0 []
  | succ {n l h st k} : Cr r s n l h st → IsLeast (l.map (·.1)) k → Cr r s (n + 1) (step r s l h k).rows (step r s l h k).hand (st ++ [(k : Int)])
/-- the law's way -/
inductive Du (r : Rule) (s : Nat) (w0 : W) : Nat → W → List Int → Prop
  | zero : Du r s w0 0 w0 []
  | succ {n w due k res w'} : Du r s w0 n w due → IsLeast w.came k → Asks r s w [] k res w' → Du r s w0 (n + 1) w' (due ++ [(k : Int)])
theorem Cr.len {r : Rule} {s n : Nat} {l : List Row} {h : Nat} {st : List Int} (c : Cr r s n l h st) : st.length = n := by
  induction c with
  | zero => rfl
  | succ _ _ ih => rw [List.length_append, ih]; rfl
theorem Cr.inv {r : Rule} {s n : Nat} {l : List Row} {h : Nat} {st : List Int} (hs : 1 ≤ s) (c : Cr r s n l h st) : l.length ≤ s ∧ (r = .clock → (l.length < s → h = 0) ∧ (l.length = s → h < l.length)) := by
  induction c with
  | zero => exact ⟨Nat.zero_le _, fun _ => ⟨fun _ => rfl, fun e => by simp at e; omega⟩⟩
  | @succ n l h st k c hk ih =>
    have hp : placeOf l k = none := placeOf_none fun j x e z => hk.1 (List.mem_map.mpr ⟨x, List.mem_of_getElem? e, z⟩)
    unfold step
    rw [hp]
    simp only
    by_cases c1 : l.length < s
    · rw [if_pos c1]
      refine ⟨by show (l ++ [_]).length ≤ s; simp; omega, fun hr => ?_⟩
      have h0 := (ih.2 hr).1 c1
      exact ⟨fun _ => h0, fun e => by show h < (l ++ [_]).length; rw [h0]; simp⟩
    · have e1 : l.length = s := Nat.le_antisymm ih.1 (Nat.le_of_not_lt c1)
      rw [if_neg c1]
      by_cases c2 : r = .clock
      · rw [if_pos c2]
        have hl := (ih.2 c2).2 e1
        have q1 := swept_len l h
        have q2 := swept_lt hl
        have pl : ∀ x, (putAt (swept l h).1 (swept l h).2 x).length = l.length := fun x => by
          unfold putAt
          simp
          omega
        refine ⟨by show (putAt _ _ _).length ≤ s; rw [pl]; omega, fun _ => ⟨fun z => ?_, fun _ => ?_⟩⟩
        · have z' : (putAt (swept l h).1 (swept l h).2 (((k : Int), firstMark r) : Row)).length < s := z
          rw [pl] at z'
          omega
        · show ((swept l h).2 + 1) % (swept l h).1.length < (putAt _ _ _).length
          rw [pl, q1]
          exact Nat.mod_lt _ (by omega)
      · rw [if_neg c2]
        refine ⟨?_, fun hr => absurd hr c2⟩
        show (outAt l (placeToGo r l) _).length ≤ s
        unfold outAt
        have hp : placeToGo r l < l.length := by
          have ne : l ≠ [] := fun z => by rw [z] at e1; simp at e1; omega
          have pos : 0 < l.length := by omega
          cases r with
          | came => exact pos
          | used => exact pos
          | clock => exact absurd rfl c2
          | last => show l.length - 1 < l.length; omega
          | high =>
            have q := (lastIdx_spec (l := l.map (·.1)) (by simpa using ne)).1
            rw [List.length_map] at q
            exact q
          | often =>
            have q := (bestIdx_spec (l := l.map fun x => - x.2) (by simpa using ne)).1
            rw [List.length_map] at q
            exact q
        simp
        omega
theorem cr_du {r : Rule} {s : Nat} (hs : 1 ≤ s) {w0 : W} (h1 : w0.came = []) (h2 : w0.hand = 0) : ∀ {n l h st w due}, Cr r s n l h st → Du r s w0 n w due → st = due ∧ Sim r s l h w := by
  intro n l h st w due c
  induction c generalizing w due with
  | zero =>
    intro d
    cases d
    exact ⟨rfl, sim_start r s h1 h2⟩
  | @succ n l h st k c hk ih =>
    intro d
    cases d with
    | @succ _ w1 due1 j res _ d' hj ha =>
      obtain ⟨e1, S⟩ := ih d'
      have e2 : k = j := hk.uniq hj fun x => (sim_pages S).mem_iff
      subst e2
      obtain ⟨_, _, S'⟩ := sim_miss S hs hj.1 ha
      exact ⟨by rw [e1], S'⟩
/-- what stands in the law's cache, as long as it is asked for pages that it lacks: it is of the form that the next ask wants -/
structure WOk (r : Rule) (s : Nat) (w : W) : Prop where
  nd : w.came.Nodup
  len : w.came.length ≤ s
  asked : ∀ p ∈ w.came, ∃ t, w.asked p = some t
  often : ∀ p ∈ w.came, ∃ t, w.often p = some t
  marks : ∀ p ∈ w.came, ∃ b, w.marks p = some b
  hand : r = .clock → w.came.length = s → w.hand < w.came.length
theorem Sim.ok {r : Rule} {s : Nat} {l : List Row} {h : Nat} {w : W} (S : Sim r s l h w) (hs : 1 ≤ s) : WOk r s w := by
  refine ⟨S.nd, S.len, fun p hp => let ⟨t, h, _⟩ := S.asked p hp; ⟨t, h⟩, S.often, S.marks, fun hr e => ?_⟩
  subst hr
  have R := S.rel
  have h3 := S.hand
  rcases R.2.2 with z | z
  · omega
  · omega
/-- the law's way has a partner -/
theorem du_sim {r : Rule} {s : Nat} (hs : 1 ≤ s) {w0 : W} (h1 : w0.came = []) (h2 : w0.hand = 0) {n : Nat} {w : W} {due : List Int} (d : Du r s w0 n w due) : ∃ l h, Sim r s l h w := by
  induction d with
  | zero => exact ⟨[], 0, sim_start r s h1 h2⟩
  | succ d hk ha ih =>
    obtain ⟨l, h, S⟩ := ih
    exact ⟨_, _, (sim_miss S hs hk.1 ha).2.2⟩
theorem clock_goes {r : Rule} {s : Nat} {w : W} (o : WOk r s w) (hr : r = .clock) (hl : w.came.length = s) : ∃ k g w', sweepW [] k w = some (g, w') := by
  obtain ⟨g, w', e⟩ := sweep_ends _ w (Nat.le_refl _) o.nd o.marks (o.hand hr hl)
  exact ⟨_, g, w', e⟩
end CB

namespace CB
open PySem PySem.Spec PyProof.Rows L2
local macro_rules | `(tactic| walk_at "s1") => `(tactic| (with_reducible first
  | refine r_seq ?_ | refine r_next ?_ | refine r_asg ?_ | refine r_gname ?_ | refine r_ret ?_ | refine r_retN ?_ | refine r_drop ?_ | refine r_ifs ?_ | refine r_c ?_ | refine r_op ?_ | refine r_nil ?_ | refine r_cons ?_
  | refine r_tup ?_ | refine r_lst ?_ | refine r_test ?_ | refine r_tB ?_ | refine r_tru ?_ | refine r_exbl ?_ | refine r_tint ?_ | refine r_and ?_ | refine r_or ?_ | refine r_not ?_ | refine r_notV ?_ | refine r_andV ?_ | refine r_orV ?_ | refine r_ifE ?_ | refine r_call ?_ | refine r_callD ?_ | refine r_CB ?_
  | refine r_kAdd ?_ | refine r_kSub ?_ | refine r_kLt ?_ | refine r_kLe ?_ | refine r_kGt ?_ | refine r_kGe ?_ | refine r_eqI ?_ | refine r_neI ?_ | refine r_eqS ?_ | refine r_isN ?_ | refine r_notN ?_
  | refine r_gcons ?_ | refine r_gnil ?_ | refine r_gsub ?_ | refine r_BM ?_ | refine r_sl ?_ | refine r_nopart ?_ | refine r_part ?_ | refine r_exint ?_ | refine r_par ?_ | refine r_par2 ?_ | refine r_chain ?_
  | refine r_dget ?_ | refine r_dput ?_ | refine iteT ?_ | refine r_for ?_ | refine r_iEnumT ?_ | refine r_iTup ?_ | refine r_iList ?_ | refine r_rng1 ?_ | refine r_rng2 ?_ | refine r_lc ?_ | refine r_gtup2 ?_ | refine r_yes ?_ | refine iteF ?_ | refine r_var (by with_unfolding_all rfl) ?_))
local macro_rules | `(tactic| walk_at "go") => `(tactic| (repeat (walk_at "s1")))


/-- a refusal's class, as the program raises it -/
structure XF (K : PySem.W.Frag) (mg : Str → Option Value) (n : Str) (c : Addr) : Prop where
  x : PySem.W.excIn K c [.type "ValueError", .type "Exception", .type "BaseException", .type "object"] "ValueError.__new__" = true
  g : mg n = some (.ref c)
  k : PySem.W.keepIn K (.ref c) = true
  b : PySem.W.subIn K (.ref c) (.type "BaseException") = some true
  t : PySem.W.typeIn K (.ref c) = some (.type "type")
/-- raise X(e) -/
def tRs (ta : TE) (c : Addr) (E : XK) : TS := fun _ σ H => ta σ H fun _ H1 => E (.ref c) none H1
theorem ps_rs {X : Cx} {x : Str} {C : Addr} {e : Expr} {ta : TE} {E : XK} {p pos pos2 : Pos} (xf : XF X.K X.mg x C) (hc : X.calm = true) (tk : Takes X (fun cls d _ H => E cls d H)) (hg : Gl X x) (he : PE X e ta)
    (hs : starEach [e] X.env = (false, eval e X.env) :: starEach [] X.env := by rfl) (hdb : (x == ("__debug__" : Str)) = false := by decide) : PS X (.Raise (some (.Call (.Name x p) [e] [] pos)) none pos2) (tRs ta C E) :=
  ps_raise hc tk (SkE.pmk_own1 PySem.F.excBase_ValueError xf.x xf.g xf.k (raises_own xf.b xf.t) hg he hs hdb)
/-- f'..' -/
def tFS (ts : List TE) : TE := fun σ H Q => tJs ts Str.empty σ H fun out H1 => Q (.str out) H1
/-- what may be handed in where a number is due -/
inductive NumV : V → Prop
  | non : NumV .non
  | bl (b : Bool) : NumV (.bl b)
  | int (n : Int) : NumV (.int n)
  | str (x : Str) : NumV (.str x)
def numIn : V → Int → Int → Bool
  | .int n, lo, hi => decide (lo ≤ n) && decide (n ≤ hi)
  | _, _, _ => false
def sp_is_number (G : Glob) : Sp := fun vs H Q _ => ∃ (x : V) (lo hi : Int), vs = [x, .int lo, .int hi] ∧ NumV x ∧ Q (.bl (numIn x lo hi)) H
def rulesV : List V := [.str "came", .str "used", .str "last", .str "high", .str "often", .str "clock"]
def sp_check_rule (G : Glob) (ea : Str → Addr) : Sp := fun vs H Q E => ∃ (x : Str), vs = [.str x] ∧ (∀ H, SqT G.K H G.aRULES rulesV) ∧ ((∃ r : Rule, x = r.s) → Q .non H) ∧ ((∀ r : Rule, x ≠ r.s) → E (.ref (ea "BadRule")) none H)
def sp_check_size (G : Glob) (ea : Str → Addr) : Sp := fun vs H Q E => ∃ (x : V), vs = [x] ∧ NumV x ∧ (numIn x 1 6 = true → Q .non H) ∧ (numIn x 1 6 = false → E (.ref (ea "BadSize")) none H)
def sp_check_count (G : Glob) (ea : Str → Addr) : Sp := fun vs H Q E => ∃ (x : V) (lo hi : Nat), vs = [x, .int (lo : Int), .int (hi : Int)] ∧ NumV x ∧ lo < 100 ∧ hi < 100 ∧ (numIn x lo hi = true → Q .non H) ∧ (numIn x lo hi = false → E (.ref (ea "BadCount")) none H)
/-- the first stream that r misses throughout -/
def CruelOf (r : Rule) (s n : Nat) (st : List Int) : Prop := ∃ l h, Cr r s n l h st
def sp_cruel (G : Glob) (ea : Str → Addr) : Sp := fun vs H Q E => ∃ (x : Str) (vs_ vp vl : V), vs = [.str x, vs_, vp, vl] ∧ (∀ H, SqT G.K H G.aRULES rulesV) ∧ (∃ b, (∀ H, SqT G.K H G.aEMPTY [.ref b, .int 0]) ∧ ∀ H, SqT G.K H b []) ∧ NumV vs_ ∧ NumV vp ∧ NumV vl ∧
  ((∀ r : Rule, x ≠ r.s) → ∀ H', Same H H' → E (.ref (ea "BadRule")) none H') ∧ ((∃ r : Rule, x = r.s) → numIn vs_ 1 6 = false → ∀ H', Same H H' → E (.ref (ea "BadSize")) none H') ∧
  ∀ (r : Rule) (s : Nat), x = r.s → vs_ = .int (s : Int) → 1 ≤ s → s ≤ 6 → (numIn vp (s + 1 : Nat) 10 = false ∨ (numIn vl 0 60 = false) → ∀ H', Same H H' → E (.ref (ea "BadCount")) none H') ∧
    ∀ n : Nat, numIn vp (s + 1 : Nat) 10 = true → vl = .int (n : Int) → n ≤ 60 → ∀ a H' st, Same H H' → CruelOf r s n st → SqT G.K H' a (st.map V.int) → Q (.ref a) H'
def t_is_number (G : Glob) : TS := (tSeq (tIfS (tOr (tB (tCB (rIsi G.K) (tCons (tVar 0) (tCons (tC (.ty "bool")) tNil)))) (tNot (tB (tCB (rIsi G.K) (tCons (tVar 0) (tCons (tC (.ty "int")) tNil)))))) (tRet (tC (.bl false))) tNext)
    (tRet (tChain kLe kLe (tVar 1) (tVar 0) (tVar 2))))
def t_check_rule (G : Glob) (ea : Str → Addr) (E : XK) : TS := (tIfS (tTest (tOp (kNotIn G.K) (tVar 0) (tC (.ref G.aRULES)))) (tRs (tC (.str "no such rule")) (ea "BadRule") E) tNext)
def t_check_size (G : Glob) (ea : Str → Addr) (E : XK) : TS := (tIfS (tNot (tB (tCall (sp_is_number G) [] E0 (tCons (tVar 0) (tCons (tC (.int 1)) (tCons (tC (.int 6)) tNil)))))) (tRs (tFS ((tC (.str "a size is a number from 1 to ")) :: ((tFmt (tC (.int 6))) :: []))) (ea "BadSize") E) tNext)
def t_check_count (G : Glob) (ea : Str → Addr) (E : XK) : TS := (tIfS (tNot (tB (tCall (sp_is_number G) [] E0 (tCons (tVar 0) (tCons (tVar 1) (tCons (tVar 2) tNil)))))) (tRs (tFS ((tC (.str "not a number from ")) :: ((tFmt (tVar 1)) :: ((tC (.str " to ")) :: ((tFmt (tVar 2)) :: []))))) (ea "BadCount") E) tNext)
theorem len_is_number (G : Glob) (vs : List V) (H : Hp) (Q : VK) (E : XK) (h : sp_is_number G vs H Q E) : vs.length = 3 := by
  obtain ⟨_, _, _, rfl, _⟩ := h
  rfl
theorem kt_nb {K : PySem.W.Frag} : PySem.W.kitOne K (.type "NoneType") (.type "bool") = some false := by kernel_rfl
theorem kt_ni {K : PySem.W.Frag} : PySem.W.kitOne K (.type "NoneType") (.type "int") = some false := by kernel_rfl
theorem kt_bb {K : PySem.W.Frag} : PySem.W.kitOne K (.type "bool") (.type "bool") = some true := by kernel_rfl
theorem kt_bi {K : PySem.W.Frag} : PySem.W.kitOne K (.type "bool") (.type "int") = some true := by kernel_rfl
theorem kt_ib {K : PySem.W.Frag} : PySem.W.kitOne K (.type "int") (.type "bool") = some false := by kernel_rfl
theorem kt_ii {K : PySem.W.Frag} : PySem.W.kitOne K (.type "int") (.type "int") = some true := by kernel_rfl
theorem kt_sb {K : PySem.W.Frag} : PySem.W.kitOne K (.type "str") (.type "bool") = some false := by kernel_rfl
theorem kt_si {K : PySem.W.Frag} : PySem.W.kitOne K (.type "str") (.type "int") = some false := by kernel_rfl
theorem r_isi {K : PySem.W.Frag} {H : Hp} {Q : VK} {x c : V} {t u : Value} {b : Bool} (hc : ClsV c u) (ht : TyX K H x t) (hk : PySem.W.kitOne K t u = some b) (h : Q (.bl b) H) : rIsi K [x, c] H Q := ⟨x, c, t, u, b, rfl, hc, ht, hk, h⟩
theorem rd_is_number (G : Glob) (vs : List V) (H : Hp) (Q : VK) (E : XK) (h : sp_is_number G vs H Q E) : t_is_number G { nx := fun _ H' => Q .non H', rt := Q } (start ["value", "low", "high"] vs) H := by
  obtain ⟨x, lo, hi, rfl, hx, q⟩ := h
  unfold t_is_number
  walk_at "go"
  cases hx with
  | non =>
    refine r_isi (b := false) (.ty "bool") (.base .non) kt_nb ?_
    walk_at "go"
    refine r_isi (b := false) (.ty "int") (.base .non) kt_ni ?_
    walk_at "go"
    exact q
  | str z =>
    refine r_isi (b := false) (.ty "bool") (.base (.str z)) kt_sb ?_
    walk_at "go"
    refine r_isi (b := false) (.ty "int") (.base (.str z)) kt_si ?_
    walk_at "go"
    exact q
  | bl b =>
    refine r_isi (b := true) (.ty "bool") (.base (.bl b)) kt_bb ?_
    walk_at "go"
    exact q
  | int n =>
    refine r_isi (b := false) (.ty "bool") (.base (.int n)) kt_ib ?_
    walk_at "go"
    refine r_isi (b := true) (.ty "int") (.base (.int n)) kt_ii ?_
    walk_at "go"
    have q : Q (.bl (decide (lo ≤ n) && decide (n ≤ hi))) H := q
    rw [if_neg (by decide)]
    walk_at "go"
    by_cases c1 : lo ≤ n
    · rw [decide_eq_true c1] at q ⊢
      rw [if_pos rfl]
      walk_at "go"
      exact q
    · rw [decide_eq_false c1] at q ⊢
      rw [if_neg Bool.false_ne_true]
      exact q
theorem len_check_rule (G : Glob) (ea : Str → Addr) (vs : List V) (H : Hp) (Q : VK) (E : XK) (h : sp_check_rule G ea vs H Q E) : vs.length = 1 := by
  obtain ⟨_, rfl, _⟩ := h
  rfl
theorem in_rules (r : Rule) : inV (.str r.s) rulesV = true := by
  cases r <;> decide +kernel
theorem not_rules {x : Str} (h : ∀ r : Rule, x ≠ r.s) : inV (.str x) rulesV = false := by
  have h1 := h .came
  have h2 := h .used
  have h3 := h .last
  have h4 := h .high
  have h5 := h .often
  have h6 := h .clock
  unfold inV
  rw [List.any_eq_false]
  intro y hy
  have e : y = .str "came" ∨ y = .str "used" ∨ y = .str "last" ∨ y = .str "high" ∨ y = .str "often" ∨ y = .str "clock" := by
    unfold rulesV at hy
    simpa using hy
  have ne : ∀ z : Str, x ≠ z → ¬ eqV (.str z) (.str x) = true := fun z hz q => hz ((beq_iff_eq.mp (show (z == x) = true from q)).symm)
  rcases e with rfl | rfl | rfl | rfl | rfl | rfl
  · exact ne _ h1
  · exact ne _ h2
  · exact ne _ h3
  · exact ne _ h4
  · exact ne _ h5
  · exact ne _ h6
theorem r_rs {ta : TE} {c : Addr} {E : XK} {D : Ends} {σ : L2.St} {H : Hp} (h : ta σ H fun _ H1 => E (.ref c) none H1) : tRs ta c E D σ H := h
theorem rule_or (x : Str) : (∃ r : Rule, x = r.s) ∨ ∀ r : Rule, x ≠ r.s := by
  by_cases h : ∃ r : Rule, x = r.s
  · exact .inl h
  · exact .inr fun r e => h ⟨r, e⟩
theorem rd_check_rule (G : Glob) (ea : Str → Addr) (vs : List V) (H : Hp) (Q : VK) (E : XK) (h : sp_check_rule G ea vs H Q E) : t_check_rule G ea E { nx := fun _ H' => Q .non H', rt := Q } (start ["rule"] vs) H := by
  obtain ⟨x, rfl, hR, q1, q2⟩ := h
  unfold t_check_rule
  walk_at "go"
  refine ⟨G.aRULES, rulesV, rfl, .inr (hR H), rfl, by decide, ?_⟩
  rw [if_pos rfl]
  rcases rule_or x with ⟨r, rfl⟩ | c
  · rw [in_rules r]
    walk_at "go"
    exact q1 ⟨r, rfl⟩
  · rw [not_rules c]
    walk_at "go"
    exact q2 c
theorem len_check_size (G : Glob) (ea : Str → Addr) (vs : List V) (H : Hp) (Q : VK) (E : XK) (h : sp_check_size G ea vs H Q E) : vs.length = 1 := by
  obtain ⟨_, rfl, _⟩ := h
  rfl
theorem num_len : ∀ n : Nat, n < 100 → (Str.ofString (toString (n : Int))).length ≤ 2 := by decide +kernel
theorem num_log {n : Nat} (h : n < 100) : ((n : Int)).natAbs.log2 < 1920 := by
  have e : ((n : Int)).natAbs = n := by omega
  rw [e]
  by_cases c : n = 0
  · rw [c]; decide
  · exact Nat.lt_of_le_of_lt (Nat.log2_le_self n) (by omega)
theorem r_rsF {ts : List TE} {c : Addr} {E : XK} {D : Ends} {σ : L2.St} {H : Hp} (h : tJs ts Str.empty σ H fun _ H1 => E (.ref c) none H1) : tRs (tFS ts) c E D σ H := h
theorem r_fs {ts : List TE} {σ : L2.St} {H : Hp} {Q : VK} (h : tJs ts Str.empty σ H fun out H1 => Q (.str out) H1) : tFS ts σ H Q := h
theorem r_jC {x : Str} {ts : List TE} {acc : Str} {σ : L2.St} {H : Hp} {Q : Str → Hp → Prop} (hl : (acc ++ x).length ≤ 100000) (h : tJs ts (acc ++ x) σ H Q) : tJs (tC (.str x) :: ts) acc σ H Q := ⟨x, rfl, sz10 hl, h⟩
theorem r_jN {te : TE} {n : Nat} {ts : List TE} {acc : Str} {σ : L2.St} {H : Hp} {Q : Str → Hp → Prop} (hn : n < 100) (ht : ∀ R : VK, R (.int (n : Int)) H → te σ H R) (hl : acc.length + 2 ≤ 100000) (h : tJs ts (acc ++ Str.ofString (toString (n : Int))) σ H Q) : tJs (tFmt te :: ts) acc σ H Q := by
  refine ht _ (.inr ⟨(n : Int), rfl, num_log hn, Str.ofString (toString (n : Int)), rfl, sz10 ?_, h⟩)
  rw [Str.length_append]
  have := num_len n hn
  omega
theorem r_jE {acc : Str} {σ : L2.St} {H : Hp} {Q : Str → Hp → Prop} (h : Q acc H) : tJs [] acc σ H Q := h
theorem rd_check_size (G : Glob) (ea : Str → Addr) (vs : List V) (H : Hp) (Q : VK) (E : XK) (h : sp_check_size G ea vs H Q E) : t_check_size G ea E { nx := fun _ H' => Q .non H', rt := Q } (start ["size"] vs) H := by
  obtain ⟨x, rfl, hx, q1, q2⟩ := h
  unfold t_check_size
  walk_at "go"
  refine ⟨x, 1, 6, rfl, hx, ?_⟩
  cases c : numIn x 1 6 with
  | true =>
    walk_at "go"
    exact q1 c
  | false =>
    walk_at "go"
    rw [if_pos (by decide)]
    refine r_rsF ?_
    refine r_jC (by decide) ?_
    refine r_jN (n := 6) (by decide) (fun R h => h) (by decide) ?_
    exact q2 c
theorem len_check_count (G : Glob) (ea : Str → Addr) (vs : List V) (H : Hp) (Q : VK) (E : XK) (h : sp_check_count G ea vs H Q E) : vs.length = 3 := by
  obtain ⟨_, _, _, rfl, _⟩ := h
  rfl
theorem rd_check_count (G : Glob) (ea : Str → Addr) (vs : List V) (H : Hp) (Q : VK) (E : XK) (h : sp_check_count G ea vs H Q E) : t_check_count G ea E { nx := fun _ H' => Q .non H', rt := Q } (start ["count", "low", "high"] vs) H := by
  obtain ⟨x, lo, hi, rfl, hx, l1, l2, q1, q2⟩ := h
  unfold t_check_count
  walk_at "go"
  refine ⟨x, lo, hi, rfl, hx, ?_⟩
  cases c : numIn x lo hi with
  | true =>
    walk_at "go"
    exact q1 c
  | false =>
    walk_at "go"
    have n1 := num_len lo l1
    rw [if_pos (by decide)]
    refine r_rsF ?_
    refine r_jC (by decide) ?_
    refine r_jN (n := lo) l1 (fun R h => ⟨_, rfl, h⟩) (by decide) ?_
    refine r_jC ?_ ?_
    rotate_left
    refine r_jN (n := hi) l2 (fun R h => ⟨_, rfl, h⟩) ?_ (q2 c)
    rotate_left
    · rw [Str.length_append, Str.length_append]
      exact Nat.le_trans (Nat.add_le_add_right (Nat.add_le_add_left n1 _) _) (by decide)
    · rw [Str.length_append, Str.length_append]
      exact Nat.le_trans (Nat.add_le_add_right (Nat.add_le_add_right (Nat.add_le_add_left n1 _) _) _) (by decide)
theorem len_cruel (G : Glob) (ea : Str → Addr) (vs : List V) (H : Hp) (Q : VK) (E : XK) (h : sp_cruel G ea vs H Q E) : vs.length = 4 := by
  obtain ⟨_, _, _, _, rfl, _⟩ := h
  rfl
theorem numIn_int {x : V} {lo hi : Int} (h : numIn x lo hi = true) : ∃ n : Int, x = .int n ∧ lo ≤ n ∧ n ≤ hi := by
  cases x with
  | int n =>
    have h : (decide (lo ≤ n) && decide (n ≤ hi)) = true := h
    rw [Bool.and_eq_true, decide_eq_true_eq, decide_eq_true_eq] at h
    exact ⟨n, rfl, h.1, h.2⟩
  | _ => cases h
end CB

namespace CB
open PySem PySem.Spec PyProof.Rows L2
local macro_rules | `(tactic| walk_at "s1") => `(tactic| (with_reducible first
  | refine r_seq ?_ | refine r_next ?_ | refine r_asg ?_ | refine r_gname ?_ | refine r_ret ?_ | refine r_retN ?_ | refine r_drop ?_ | refine r_ifs ?_ | refine r_c ?_ | refine r_op ?_ | refine r_nil ?_ | refine r_cons ?_
  | refine r_tup ?_ | refine r_lst ?_ | refine r_test ?_ | refine r_tB ?_ | refine r_tru ?_ | refine r_exbl ?_ | refine r_tint ?_ | refine r_and ?_ | refine r_or ?_ | refine r_not ?_ | refine r_notV ?_ | refine r_andV ?_ | refine r_orV ?_ | refine r_ifE ?_ | refine r_call ?_ | refine r_callD ?_ | refine r_CB ?_
  | refine r_kAdd ?_ | refine r_kSub ?_ | refine r_kLt ?_ | refine r_kLe ?_ | refine r_kGt ?_ | refine r_kGe ?_ | refine r_eqI ?_ | refine r_neI ?_ | refine r_eqS ?_ | refine r_isN ?_ | refine r_notN ?_
  | refine r_gcons ?_ | refine r_gnil ?_ | refine r_gsub ?_ | refine r_BM ?_ | refine r_sl ?_ | refine r_nopart ?_ | refine r_part ?_ | refine r_exint ?_ | refine r_par ?_ | refine r_par2 ?_ | refine r_chain ?_
  | refine r_dget ?_ | refine r_dput ?_ | refine iteT ?_ | refine r_for ?_ | refine r_iEnumT ?_ | refine r_iTup ?_ | refine r_iList ?_ | refine r_rng1 ?_ | refine r_rng2 ?_ | refine r_lc ?_ | refine r_gtup2 ?_ | refine r_yes ?_ | refine iteF ?_ | refine r_var (by with_unfolding_all rfl) ?_))
local macro_rules | `(tactic| walk_at "go") => `(tactic| (repeat (walk_at "s1")))


/-! ### the same, and of the same kinds: what holds of equal data -/
inductive SameD (K : PySem.W.Frag) (H : Hp) : Nat → V → V → Prop
  | non (n : Nat) : SameD K H n .non .non
  | bl (n : Nat) (b : Bool) : SameD K H n (.bl b) (.bl b)
  | int (n : Nat) (i : Int) : SameD K H n (.int i) (.int i)
  | str (n : Nat) (x : Str) : SameD K H n (.str x) (.str x)
  | tup {n : Nat} {a b : Addr} {xs ys : List V} : SqT K H a xs → SqT K H b ys → xs.length = ys.length → xs.length ≤ 1000 → (∀ (i : Nat) (x y : V), xs[i]? = some x → ys[i]? = some y → SameD K H n x y) → SameD K H (n + 1) (.ref a) (.ref b)
  | lst {n : Nat} {a b : Addr} {xs ys : List V} : SqL K H a xs → SqL K H b ys → xs.length = ys.length → xs.length ≤ 1000 → (∀ (i : Nat) (x y : V), xs[i]? = some x → ys[i]? = some y → SameD K H n x y) → SameD K H (n + 1) (.ref a) (.ref b)
theorem SameD.mono {K : PySem.W.Frag} {H H' : Hp} (e : Same H H') {n : Nat} {x y : V} (d : SameD K H n x y) : SameD K H' n x y := by
  induction d with
  | non n => exact .non n
  | bl n b => exact .bl n b
  | int n i => exact .int n i
  | str n z => exact .str n z
  | tup h1 h2 h3 h4 _ ih => exact .tup (sqT_same e h1) (sqT_same e h2) h3 h4 ih
  | lst h1 h2 h3 h4 _ ih => exact .lst (e.seq h1) (e.seq h2) h3 h4 ih
/-- n: how deep, and one (0: never) -/
def sp__law_same (G : Glob) : Nat → Sp
  | 0 => fun _ _ _ _ => False
  | n + 1 => fun vs H Q _ => ∃ x y, vs = [x, y] ∧ SameD G.K H n x y ∧ ∀ H', Same H H' → Q (.bl true) H'
/-- an item of a list or a tuple -/
def rIxA (K : PySem.W.Frag) : R2 := fun x y H Q => rIxL K x y H Q ∨ rIxT K x y H Q
theorem ix_any {X : Cx} : IxR X (rIxA X.K) := IxR.or ix_list ix_tup
def t__law_same (G : Glob) (n : Nat) : TS := (tSeq (tIfS (tB (tCB (rIsiT G.K) (tCons (tVar 1) (tCons (tTup (tCons (tC (.ty "tuple")) (tCons (tC (.ty "list")) tNil))) tNil)))) (tSeq (tIfS (tOr (tNot (tB (tCB (rIsiT G.K) (tCons (tVar 0) (tCons (tTup (tCons (tC (.ty "tuple")) (tCons (tC (.ty "list")) tNil))) tNil))))) (tTest (tOp kNe (tCB (rIsi G.K) (tCons (tVar 0) (tCons (tC (.ty "list")) tNil))) (tCB (rIsi G.K) (tCons (tVar 1) (tCons (tC (.ty "list")) tNil)))))) (tRet (tC (.bl false))) tNext)
    (tSeq (tIfS (tTest (tOp kNe (tCB (bLen G.K) (tCons (tVar 0) tNil)) (tCB (bLen G.K) (tCons (tVar 1) tNil)))) (tRet (tC (.bl false))) tNext)
    (tRet (tOp (rEqD G.K) (tLc (iRng1 (tCons (tCB (bLen G.K) (tCons (tVar 1) tNil)) tNil)) (gName 3) (tNot (tB (tCall (sp__law_same G n) [] E0 (tCons (tOp (rIxA G.K) (tVar 0) (tVar 3)) (tCons (tOp (rIxA G.K) (tVar 1) (tVar 3)) tNil))))) (tVar 3) [3]) (tLst tNil))))) tNext)
    (tSeq (tAsg (tAndV (tOp kEq (tCB (rIsi G.K) (tCons (tVar 0) (tCons (tC (.ty "bool")) tNil))) (tCB (rIsi G.K) (tCons (tVar 1) (tCons (tC (.ty "bool")) tNil)))) (tOp kEq (tCB (rIsi G.K) (tCons (tVar 0) (tCons (tC (.ty "int")) tNil))) (tCB (rIsi G.K) (tCons (tVar 1) (tCons (tC (.ty "int")) tNil))))) (gName 2))
    (tRet (tAndV (tVar 2) (tOp kEq (tVar 0) (tVar 1))))))
theorem tyT {K : PySem.W.Frag} {H : Hp} {a : Addr} {xs : List V} (h : SqT K H a xs) : TyX K H (.ref a) (.type "tuple") := by
  rcases h with (h | ⟨o, h⟩) | ⟨o, its, n, h1, h2, _⟩
  · exact .base (.tup h)
  · exact .fTuple h
  · exact .kTuple h1 h2
theorem tyL {K : PySem.W.Frag} {H : Hp} {a : Addr} {xs : List V} (h : SqL K H a xs) : TyX K H (.ref a) (.type "list") := by
  rcases h with (h | ⟨o, h⟩) | ⟨o, its, n, h1, h2, _⟩
  · exact .base (.lst h)
  · exact .base (.frz h)
  · exact .kList h1 h2
theorem kt_tT {K : PySem.W.Frag} : PySem.W.kitAny K (.type "tuple") [.type "tuple", .type "list"] = some true := by kernel_rfl
theorem kt_lT {K : PySem.W.Frag} : PySem.W.kitAny K (.type "list") [.type "tuple", .type "list"] = some true := by kernel_rfl
theorem kt_nT {K : PySem.W.Frag} : PySem.W.kitAny K (.type "NoneType") [.type "tuple", .type "list"] = some false := by kernel_rfl
theorem kt_bT {K : PySem.W.Frag} : PySem.W.kitAny K (.type "bool") [.type "tuple", .type "list"] = some false := by kernel_rfl
theorem kt_iT {K : PySem.W.Frag} : PySem.W.kitAny K (.type "int") [.type "tuple", .type "list"] = some false := by kernel_rfl
theorem kt_sT {K : PySem.W.Frag} : PySem.W.kitAny K (.type "str") [.type "tuple", .type "list"] = some false := by kernel_rfl
theorem kt_tl {K : PySem.W.Frag} : PySem.W.kitOne K (.type "tuple") (.type "list") = some false := by kernel_rfl
theorem kt_ll {K : PySem.W.Frag} : PySem.W.kitOne K (.type "list") (.type "list") = some true := by kernel_rfl
theorem r_isiT {K : PySem.W.Frag} {H : Hp} {Q : VK} {x : V} {p : Addr} {t : Value} {b : Bool} (hp : H p = some (.tup [.ty "tuple", .ty "list"])) (ht : TyX K H x t) (hk : PySem.W.kitAny K t [.type "tuple", .type "list"] = some b) (h : Q (.bl b) H) : rIsiT K [x, .ref p] H Q :=
  ⟨x, p, _, t, _, b, rfl, hp, .cons (.ty _) (.cons (.ty _) .nil), ht, hk, h⟩
theorem r_neB {b c : Bool} {H : Hp} {Q : VK} (h : Q (.bl (!decide (b = c))) H) : kNe (.bl b) (.bl c) H Q := ⟨rfl, by
  have e : decide (V.bl b = V.bl c) = decide (b = c) := by cases b <;> cases c <;> decide
  rw [e]
  exact h⟩
theorem r_eqB {b c : Bool} {H : Hp} {Q : VK} (h : Q (.bl (decide (b = c))) H) : kEq (.bl b) (.bl c) H Q := ⟨rfl, by
  have e : decide (V.bl b = V.bl c) = decide (b = c) := by cases b <;> cases c <;> decide
  rw [e]
  exact h⟩
theorem len__law_same (G : Glob) (n : Nat) (vs : List V) (H : Hp) (Q : VK) (E : XK) (h : sp__law_same G n vs H Q E) : vs.length = 2 := by
  cases n with
  | zero => exact h.elim
  | succ n =>
    obtain ⟨_, _, rfl, _⟩ := h
    rfl
/-- a leaf -/
theorem rd_leaf (G : Glob) (n : Nat) {x : V} {t : Value} {H : Hp} {Q : VK} {b1 b2 : Bool} (ht : ∀ H, TyX G.K H x t) (k0 : PySem.W.kitAny G.K t [.type "tuple", .type "list"] = some false) (k1 : PySem.W.kitOne G.K t (.type "bool") = some b1) (k2 : PySem.W.kitOne G.K t (.type "int") = some b2)
    (he : ∀ (H : Hp) (R : VK), R (.bl true) H → kEq x x H R) (q : ∀ H', Same H H' → Q (.bl true) H') : t__law_same G n { nx := fun _ H' => Q .non H', rt := Q } (start ["_law_found", "_law_due", "_law_alike", "_law_k"] [x, x]) H := by
  unfold t__law_same
  walk_at "go"
  refine r_newT szd fun p H1 np s1 hp => ?_
  walk_at "go"
  refine r_isiT hp (ht H1) k0 ?_
  walk_at "go"
  refine r_isi (.ty "bool") (ht H1) k1 ?_
  walk_at "go"
  refine r_isi (.ty "bool") (ht H1) k1 ?_
  refine r_eqB ?_
  rw [decide_eq_true rfl]
  refine ⟨true, rfl, ?_⟩
  rw [if_pos rfl]
  walk_at "go"
  refine r_isi (.ty "int") (ht H1) k2 ?_
  walk_at "go"
  refine r_isi (.ty "int") (ht H1) k2 ?_
  refine r_eqB ?_
  rw [decide_eq_true rfl]
  walk_at "go"
  refine he _ _ ?_
  exact q H1 s1
theorem kEq_non (H : Hp) (R : VK) (h : R (.bl true) H) : kEq .non .non H R := ⟨rfl, by rw [decide_eq_true rfl]; exact h⟩
theorem ifnt {A B : Prop} (h : B) : if (!true) = true then A else B := by rw [if_neg (by decide)]; exact h
theorem ifnf {A B : Prop} (h : A) : if (!false) = true then A else B := by rw [if_pos (by decide)]; exact h
/-- a list or a tuple -/
theorem rd_branch (G : Glob) (n : Nat) {a b : Addr} {T : Value} {bl : Bool} {xs ys : List V} {H : Hp} {Q : VK} (ta : ∀ H', Same H H' → TyX G.K H' (.ref a) T) (tb : ∀ H', Same H H' → TyX G.K H' (.ref b) T)
    (k0 : PySem.W.kitAny G.K T [.type "tuple", .type "list"] = some true) (k1 : PySem.W.kitOne G.K T (.type "list") = some bl) (la : ∀ H', Same H H' → ∀ R : VK, R (.int xs.length) H' → bLen G.K [.ref a] H' R) (lb : ∀ H', Same H H' → ∀ R : VK, R (.int ys.length) H' → bLen G.K [.ref b] H' R)
    (ia : ∀ H' (i : Nat) x, Same H H' → xs[i]? = some x → ∀ R : VK, R x H' → rIxA G.K (.ref a) (.int (i : Int)) H' R) (ib : ∀ H' (i : Nat) x, Same H H' → ys[i]? = some x → ∀ R : VK, R x H' → rIxA G.K (.ref b) (.int (i : Int)) H' R)
    (hl : xs.length = ys.length) (hz : xs.length ≤ 1000) (items : ∀ (i : Nat) (x y : V), xs[i]? = some x → ys[i]? = some y → SameD G.K H n x y) (q : ∀ H', Same H H' → Q (.bl true) H') :
    t__law_same G (n + 1) { nx := fun _ H' => Q .non H', rt := Q } (start ["_law_found", "_law_due", "_law_alike", "_law_k"] [.ref a, .ref b]) H := by
  unfold t__law_same
  walk_at "go"
  refine r_newT szd fun p H1 np s1 hp => ?_
  walk_at "go"
  refine r_isiT hp (tb H1 s1) k0 ?_
  walk_at "go"
  refine r_newT szd fun p2 H2 np2 s2 hp2 => ?_
  have sm2 : Same H H2 := fun b o e => s2 _ _ (s1 _ _ e)
  walk_at "go"
  refine r_isiT hp2 (ta H2 sm2) k0 ?_
  walk_at "go"
  refine ifnt ?_
  walk_at "go"
  refine r_isi (.ty "list") (ta H2 sm2) k1 ?_
  walk_at "go"
  refine r_isi (.ty "list") (tb H2 sm2) k1 ?_
  refine r_neB ?_
  rw [decide_eq_true rfl]
  walk_at "go"
  refine ifnt ?_
  walk_at "go"
  refine la H2 sm2 _ ?_
  walk_at "go"
  refine lb H2 sm2 _ ?_
  rw [hl]
  walk_at "go"
  rw [decide_eq_true rfl]
  refine ifnt ?_
  walk_at "go"
  refine lb H2 sm2 _ ?_
  refine ⟨_, rfl, by omega, by omega, fun D nD => ?_⟩
  rw [Int.toNat_natCast]
  refine lc_range (fun i H' => Same H2 H' ∧ H' D = some (.lst [])) ⟨.new nD, upd_same⟩ (fun i H3 hi ⟨s3, hD⟩ => ?_) fun H3 ⟨s3, hD⟩ => ?_
  · have sm3 : Same H H3 := fun b o e => s3 _ _ (sm2 _ _ e)
    obtain ⟨y, hy⟩ : ∃ y, ys[i]? = some y := ⟨_, List.getElem?_eq_getElem hi⟩
    obtain ⟨x, hx⟩ : ∃ x, xs[i]? = some x := ⟨_, List.getElem?_eq_getElem (by omega)⟩
    rw [Int.zero_add]
    walk_at "go"
    refine ⟨rfl, ?_⟩
    walk_at "go"
    refine ia H3 i x sm3 hx _ ?_
    walk_at "go"
    refine ib H3 i y sm3 hy _ ?_
    walk_at "go"
    refine ⟨x, y, rfl, (items i x y hx hy).mono sm3, fun H4 s4 => ?_⟩
    walk_at "go"
    exact ⟨fun b o e => s4 _ _ (s3 _ _ e), s4 _ _ hD⟩
  · walk_at "go"
    refine r_newL szd fun D2 H4 n4 s4 h4 => ?_
    refine r_eqNil (ns := []) (SqL.of (s4 _ _ hD)) h4 ?_
    exact q H4 fun b o e => s4 _ _ (s3 _ _ (sm2 _ _ e))
theorem rd__law_same (G : Glob) (n : Nat) (vs : List V) (H : Hp) (Q : VK) (E : XK) (h : sp__law_same G (n + 1) vs H Q E) : t__law_same G n { nx := fun _ H' => Q .non H', rt := Q } (start ["_law_found", "_law_due", "_law_alike", "_law_k"] vs) H := by
  obtain ⟨x, y, rfl, d, q⟩ := h
  cases d with
  | non _ => exact rd_leaf G n (fun _ => .base .non) kt_nT kt_nb kt_ni kEq_non q
  | bl _ b => exact rd_leaf G n (fun _ => .base (.bl b)) kt_bT kt_bb kt_bi (fun H R h => r_eqB (by rw [decide_eq_true rfl]; exact h)) q
  | int _ i => exact rd_leaf G n (fun _ => .base (.int i)) kt_iT kt_ib kt_ii (fun H R h => r_eqI (by rw [decide_eq_true rfl]; exact h)) q
  | str _ z => exact rd_leaf G n (fun _ => .base (.str z)) kt_sT kt_sb kt_si (fun H R h => r_eqS (by rw [decide_eq_true rfl]; exact h)) q
  | @tup n a b xs ys h1 h2 hl hz items =>
    exact rd_branch G n (fun H' e => tyT (sqT_same e h1)) (fun H' e => tyT (sqT_same e h2)) kt_tT kt_tl (fun H' e R r => r_lenT (sqT_same e h1) r) (fun H' e R r => r_lenT (sqT_same e h2) r)
      (fun H' i x e hx R r => .inr (r_ixT (sqT_same e h1) (atI_nat hx) r)) (fun H' i x e hx R r => .inr (r_ixT (sqT_same e h2) (atI_nat hx) r)) hl hz items q
  | @lst n a b xs ys h1 h2 hl hz items =>
    exact rd_branch G n (fun H' e => tyL (e.seq h1)) (fun H' e => tyL (e.seq h2)) kt_lT kt_ll (fun H' e R r => r_lenL (e.seq h1) r) (fun H' e R r => r_lenL (e.seq h2) r)
      (fun H' i x e hx R r => .inl (r_ixL (e.seq h1) (atI_nat hx) r)) (fun H' i x e hx R r => .inl (r_ixL (e.seq h2) (atI_nat hx) r)) hl hz items q
end CB

namespace DW
open PySem PySem.Spec PyProof.Rows L2
/-! ### values as data, objects that change as cells -/
inductive VX where
  | d (d : PyData)
  | r (v : V)
inductive OC where
  | lst (xs : List VX)
  | dK (kvs : List (Key × VX))
  | dT (kvs : List (List Key × VX))
  | ins (C : Addr) (fs : List (Str × VX))
  | tbl (ps : Array Value)
structure Wd where
  c : List (Addr × OC)
  g : Hp → Prop
mutual
theorem dp_mono {K : PySem.W.Frag} {H H' : Hp} (e : Same H H') : ∀ {d : PyData} {v : V}, Dp K H v d → Dp K H' v d
  | _, _, .non => .non
  | _, _, .bl b => .bl b
  | _, _, .int i => .int i
  | _, _, .str x => .str x
  | _, _, .lst h a => .lst (e.seq h) (dpAll_mono e a)
  | _, _, .tup h a => .tup (sqT_same e h) (dpAll_mono e a)
theorem dpAll_mono {K : PySem.W.Frag} {H H' : Hp} (e : Same H H') : ∀ {ds : List PyData} {vs : List V}, DpAll K H vs ds → DpAll K H' vs ds
  | _, _, .nil => .nil
  | _, _, .cons h a => .cons (dp_mono e h) (dpAll_mono e a)
end
def VR (K : PySem.W.Frag) (M : Hp) : VX → V → Prop
  | .d d, v => Dp K M v d
  | .r w, v => v = w
def CR (K : PySem.W.Frag) (M H : Hp) (a : Addr) : OC → Prop
  | .lst xs => ∃ vs, H a = some (.lst vs) ∧ Paired (VR K M) xs vs
  | .dK kvs => ∃ ks, H a = some (.dK ks) ∧ Paired (fun (p : Key × VX) (q : Key × V) => p.1 = q.1 ∧ VR K M p.2 q.2) kvs ks
  | .dT kvs => ∃ ks, H a = some (.dT ks) ∧ Paired (fun (p : List Key × VX) (q : List Key × V) => p.1 = q.1 ∧ VR K M p.2 q.2) kvs ks
  | .tbl ps => H a = some (.tbl ps)
  | .ins C fs => ∃ dx ks, H a = some (.ins C dx ks) ∧ Paired (fun (p : Str × VX) (q : Str × V) => p.1 = q.1 ∧ VR K M p.2 q.2) fs ks
/-- what may change, among what is tracked -/
def cellO : HO → Prop
  | .lst _ => True
  | .dK _ => True
  | .dT _ => True
  | .ins _ _ _ => True
  | .tbl _ => True
  | _ => False
/-- what is told of the rest stays, whatever cells do -/
def GOk (g : Hp → Prop) : Prop := ∀ H H', (∀ b o, H b = some o → ¬ cellO o → H' b = some o) → g H → g H'
structure Rp (K : PySem.W.Frag) (H M : Hp) (W : Wd) : Prop where
  sm : Same M H
  nd : (W.c.map (·.1)).Nodup
  out : ∀ p ∈ W.c, M p.1 = none
  cell : ∀ p ∈ W.c, CR K M H p.1 p.2
  gok : GOk W.g
  g : W.g H
structure Tr (H M : Hp) (W : Wd) (H' M' : Hp) (W' : Wd) : Prop where
  sm : Same M M'
  st : ∀ b o, H b = some o → ¬ cellO o → H' b = some o
  fr : ∀ b o, H b = some o → cellO o → M b = none → b ∉ W.c.map (·.1) → H' b = some o ∧ M' b = none ∧ b ∉ W'.c.map (·.1)
theorem Tr.refl (H M : Hp) (W : Wd) : Tr H M W H M W := ⟨.refl M, fun _ _ h _ => h, fun _ _ h _ n c => ⟨h, n, c⟩⟩
theorem Tr.trans {H M H1 M1 H2 M2 : Hp} {W W1 W2 : Wd} (a : Tr H M W H1 M1 W1) (b : Tr H1 M1 W1 H2 M2 W2) : Tr H M W H2 M2 W2 :=
  ⟨a.sm.trans b.sm, fun x o h z => b.st x o (a.st x o h z) z, fun x o h z n c => let ⟨h1, n1, c1⟩ := a.fr x o h z n c; b.fr x o h1 z n1 c1⟩
theorem VR.mono {K : PySem.W.Frag} {M M' : Hp} (e : Same M M') : ∀ {x : VX} {v : V}, VR K M x v → VR K M' x v
  | .d _, _, h => dp_mono e h
  | .r _, _, h => h
theorem VRs.mono {K : PySem.W.Frag} {M M' : Hp} (e : Same M M') {xs : List VX} {vs : List V} (h : Paired (VR K M) xs vs) : Paired (VR K M') xs vs := Paired.mapP h fun _ _ z => z.mono e
theorem CR.mono {K : PySem.W.Frag} {M M' H H' : Hp} (e : Same M M') {a : Addr} (ha : ∀ o, H a = some o → H' a = some o) : ∀ {o : OC}, CR K M H a o → CR K M' H' a o
  | .lst _, ⟨vs, h, p⟩ => ⟨vs, ha _ h, VRs.mono e p⟩
  | .dK _, ⟨vs, h, p⟩ => ⟨vs, ha _ h, Paired.mapP p fun _ _ z => ⟨z.1, z.2.mono e⟩⟩
  | .dT _, ⟨vs, h, p⟩ => ⟨vs, ha _ h, Paired.mapP p fun _ _ z => ⟨z.1, z.2.mono e⟩⟩
  | .ins _ _, ⟨dx, vs, h, p⟩ => ⟨dx, vs, ha _ h, Paired.mapP p fun _ _ z => ⟨z.1, z.2.mono e⟩⟩
  | .tbl _, h => ha _ h
theorem CR.some {K : PySem.W.Frag} {M H : Hp} {a : Addr} : ∀ {o : OC}, CR K M H a o → ∃ u, H a = some u ∧ cellO u
  | .lst _, ⟨_, h, _⟩ => ⟨_, h, trivial⟩
  | .dK _, ⟨_, h, _⟩ => ⟨_, h, trivial⟩
  | .dT _, ⟨_, h, _⟩ => ⟨_, h, trivial⟩
  | .ins _ _, ⟨_, _, h, _⟩ => ⟨_, h, trivial⟩
  | .tbl _, h => ⟨_, h, trivial⟩
abbrev Ts := List (Option VX)
def SR1 (K : PySem.W.Frag) (M : Hp) (x : Option VX) (v : Option V) : Prop := ∀ y, x = some y → ∃ u, v = some u ∧ VR K M y u
abbrev SR (K : PySem.W.Frag) (M : Hp) : Ts → L2.St → Prop := Paired (SR1 K M)
theorem SR.mono {K : PySem.W.Frag} {M M' : Hp} (e : Same M M') {τ : Ts} {σ : L2.St} (h : SR K M τ σ) : SR K M' τ σ := Paired.mapP h fun _ _ z y hy => let ⟨u, h1, h2⟩ := z y hy; ⟨u, h1, h2.mono e⟩
theorem paired_set' {α β : Type} {F : α → β → Prop} {x : α} {y : β} (h : F x y) : ∀ {l : List α} {m : List β} (n : Nat), Paired F l m → Paired F (l.set n x) (m.set n y)
  | _, _, _, .nil => .nil
  | _, _, 0, .cons _ t => .cons h t
  | _, _, n + 1, .cons r t => .cons r (paired_set' h n t)
theorem SR.set {K : PySem.W.Frag} {M : Hp} {τ : Ts} {σ : L2.St} {x : VX} {v : V} (h : SR K M τ σ) (i : Nat) (r : VR K M x v) : SR K M (τ.set i (some x)) (σ.set i (some v)) :=
  paired_set' (fun y hy => by cases hy; exact ⟨v, rfl, r⟩) i h
theorem SR.get {K : PySem.W.Frag} {M : Hp} : ∀ {τ : Ts} {σ : L2.St} {i : Nat} {x : VX}, SR K M τ σ → τ[i]? = some (some x) → ∃ v, σ[i]? = some (some v) ∧ VR K M x v
  | _, _, _, _, .nil, e => by simp at e
  | _, _, 0, x, .cons r _, e => by
    simp at e
    obtain ⟨u, h1, h2⟩ := r x e
    exact ⟨u, by simp [h1], h2⟩
  | _, _, i + 1, x, .cons _ t, e => by
    obtain ⟨v, h1, h2⟩ := SR.get (i := i) (x := x) t (by simpa using e)
    exact ⟨v, by simpa using h1, h2⟩
/-! ### what is refused -/
structure XC where
  E : XK
  ea : Str → Addr
  ex : Str → Option (Str × VX) → Wd → Prop
def Kx (K : PySem.W.Frag) (X : XC) (H M : Hp) (W : Wd) : Prop := ∀ c n H' M' W', X.ex c n W' → Rp K H' M' W' → Tr H M W H' M' W' →
  match n with
  | none => X.E (.ref (X.ea c)) none H'
  | some (f, x) => ∀ p v, H' p = some (.xd [(f, v)]) → VR K M' x v → X.E (.ref (X.ea c)) (some p) H'
theorem Kx.on {K : PySem.W.Frag} {X : XC} {H M H1 M1 : Hp} {W W1 : Wd} (k : Kx K X H M W) (t : Tr H M W H1 M1 W1) : Kx K X H1 M1 W1 := fun c n H' M' W' h r t' => k c n H' M' W' h r (t.trans t')
def Kt (K : PySem.W.Frag) (H M : Hp) (W : Wd) (Φ : VX → Wd → Prop) (Q : VK) : Prop := ∀ x v H' M' W', Φ x W' → Rp K H' M' W' → Tr H M W H' M' W' → VR K M' x v → Q v H'
theorem Kt.on {K : PySem.W.Frag} {H M H1 M1 : Hp} {W W1 : Wd} {Φ : VX → Wd → Prop} {Q : VK} (k : Kt K H M W Φ Q) (t : Tr H M W H1 M1 W1) : Kt K H1 M1 W1 Φ Q := fun x v H' M' W' h r t' => k x v H' M' W' h r (t.trans t')
/-! ### judgements -/
section
variable (K : PySem.W.Frag) (X : XC)
def WE (te : TE) (τ : Ts) (W : Wd) (Φ : VX → Wd → Prop) : Prop := ∀ σ H M Q, SR K M τ σ → Rp K H M W → Kx K X H M W → Kt K H M W Φ Q → te σ H Q
def WT (tt : TT) (τ : Ts) (W : Wd) (Φ : Bool → Wd → Prop) : Prop := ∀ σ H M Q, SR K M τ σ → Rp K H M W → Kx K X H M W → (∀ b H' M' W', Φ b W' → Rp K H' M' W' → Tr H M W H' M' W' → Q b H') → tt σ H Q
def WA (ta : TA) (τ : Ts) (W : Wd) (Φ : List VX → Wd → Prop) : Prop := ∀ σ H M Q, SR K M τ σ → Rp K H M W → Kx K X H M W → (∀ xs vs H' M' W', Φ xs W' → Rp K H' M' W' → Tr H M W H' M' W' → Paired (VR K M') xs vs → Q vs H') → ta σ H Q
def WO (to : TO) (τ : Ts) (W : Wd) (Φ : Option Int → Wd → Prop) : Prop := ∀ σ H M Q, SR K M τ σ → Rp K H M W → Kx K X H M W → (∀ b H' M' W', Φ b W' → Rp K H' M' W' → Tr H M W H' M' W' → Q b H') → to σ H Q
/-- of values -/
def W2 (r : R2) (x y : VX) (W : Wd) (Φ : VX → Wd → Prop) : Prop := ∀ H M u v Q, Rp K H M W → VR K M x u → VR K M y v → Kt K H M W Φ Q → r u v H Q
def WB (r : List V → Hp → VK → Prop) (xs : List VX) (W : Wd) (Φ : VX → Wd → Prop) : Prop := ∀ H M vs Q, Rp K H M W → Paired (VR K M) xs vs → Kx K X H M W → Kt K H M W Φ Q → r vs H Q
def WG (g : TG) (x : VX) (τ : Ts) (W : Wd) (Φ : Ts → Wd → Prop) : Prop := ∀ σ H M v Q, SR K M τ σ → Rp K H M W → Kx K X H M W → VR K M x v → (∀ τ' σ' H' M' W', Φ τ' W' → SR K M' τ' σ' → Rp K H' M' W' → Tr H M W H' M' W' → Q σ' H') → g v σ H Q
def WGs (g : TGs) (xs : List VX) (τ : Ts) (W : Wd) (Φ : Ts → Wd → Prop) : Prop := ∀ σ H M vs Q, SR K M τ σ → Rp K H M W → Kx K X H M W → Paired (VR K M) xs vs → (∀ τ' σ' H' M' W', Φ τ' W' → SR K M' τ' σ' → Rp K H' M' W' → Tr H M W H' M' W' → Q σ' H') → g vs σ H Q
structure Pst where
  nx : Ts → Wd → Prop
  rt : VX → Wd → Prop
  bk : Ts → Wd → Prop
  ct : Ts → Wd → Prop
def Kn (H M : Hp) (W : Wd) (Φ : Ts → Wd → Prop) (N : L2.St → Hp → Prop) : Prop := ∀ τ' σ' H' M' W', Φ τ' W' → SR K M' τ' σ' → Rp K H' M' W' → Tr H M W H' M' W' → N σ' H'
structure KS (H M : Hp) (W : Wd) (P : Pst) (D : Ends) : Prop where
  nx : Kn K H M W P.nx D.nx
  rt : Kt K H M W P.rt D.rt
  bk : Kn K H M W P.bk D.bk
  ct : Kn K H M W P.ct D.ct
def WS (t : TS) (τ : Ts) (W : Wd) (P : Pst) : Prop := ∀ σ H M D, SR K M τ σ → Rp K H M W → Kx K X H M W → KS K H M W P D → t D σ H
end
theorem Kn.on {K : PySem.W.Frag} {H M H1 M1 : Hp} {W W1 : Wd} {Φ : Ts → Wd → Prop} {N : L2.St → Hp → Prop} (k : Kn K H M W Φ N) (t : Tr H M W H1 M1 W1) : Kn K H1 M1 W1 Φ N := fun a b H' M' W' h s r t' => k a b H' M' W' h s r (t.trans t')
theorem KS.on {K : PySem.W.Frag} {H M H1 M1 : Hp} {W W1 : Wd} {P : Pst} {D : Ends} (k : KS K H M W P D) (t : Tr H M W H1 M1 W1) : KS K H1 M1 W1 P D := ⟨k.nx.on t, k.rt.on t, k.bk.on t, k.ct.on t⟩
section
variable {K : PySem.W.Frag} {X : XC} {τ : Ts} {W : Wd} {Φ : VX → Wd → Prop} {Ψ : Bool → Wd → Prop} {ΦA : List VX → Wd → Prop} {te ta tb tc : TE} {tt tt2 : TT} {tA tR : TA} {t u : TS} {P : Pst} {n : Nat} {x y : VX} {r r' : R2}
theorem we_var (e : τ[n]? = some (some x)) (h : Φ x W) : WE K X (tVar n) τ W Φ := fun σ H M Q s R _ k => by
  obtain ⟨v, h1, h2⟩ := s.get e
  exact ⟨v, h1, k _ _ _ _ _ h R (.refl ..) h2⟩
theorem we_c {v : V} (e : ∀ M, VR K M x v) (h : Φ x W) : WE K X (tC v) τ W Φ := fun σ H M Q s R _ k => k _ _ _ _ _ h R (.refl ..) (e M)
theorem we_int {i : Int} (h : Φ (.d (.int i)) W) : WE K X (tC (.int i)) τ W Φ := we_c (x := .d (.int i)) (fun _ => Dp.int i) h
theorem we_bl {i : Bool} (h : Φ (.d (.bool i)) W) : WE K X (tC (.bl i)) τ W Φ := we_c (x := .d (.bool i)) (fun _ => Dp.bl i) h
theorem we_str {i : Str} (h : Φ (.d (.str i)) W) : WE K X (tC (.str i)) τ W Φ := we_c (x := .d (.str i)) (fun _ => Dp.str i) h
theorem we_non (h : Φ (.d .none) W) : WE K X (tC .non) τ W Φ := we_c (x := .d .none) (fun _ => Dp.non) h
theorem we_ty {z : String} (h : Φ (.r (.ty z)) W) : WE K X (tC (.ty z)) τ W Φ := we_c (x := .r (.ty z)) (fun _ => rfl) h
theorem we_op (h : WE K X ta τ W fun x W1 => WE K X tb τ W1 fun y W2_ => W2 K r x y W2_ Φ) : WE K X (tOp r ta tb) τ W Φ := fun σ H M Q s R kx k =>
  h σ H M _ s R kx fun x u H1 M1 W1 h1 R1 t1 r1 => h1 σ H1 M1 _ (s.mono t1.sm) R1 (kx.on t1) fun y v H2 M2 W2_ h2 R2 t2 r2 => h2 H2 M2 u v Q R2 (r1.mono t2.sm) r2 (k.on (t1.trans t2))
theorem wa_nil (h : ΦA [] W) : WA K X tNil τ W ΦA := fun σ H M Q s R kx k => k _ _ _ _ _ h R (.refl ..) .nil
theorem wa_cons (h : WE K X ta τ W fun x W1 => WA K X tA τ W1 fun xs W2_ => ΦA (x :: xs) W2_) : WA K X (tCons ta tA) τ W ΦA := fun σ H M Q s R kx k =>
  h σ H M _ s R kx fun x u H1 M1 W1 h1 R1 t1 r1 => h1 σ H1 M1 _ (s.mono t1.sm) R1 (kx.on t1) fun xs vs H2 M2 W2_ h2 R2 t2 r2 => k _ _ _ _ _ h2 R2 (t1.trans t2) (.cons (r1.mono t2.sm) r2)
theorem dpAll_of {M : Hp} : ∀ {ds : List PyData} {vs : List V}, Paired (VR K M) (ds.map .d) vs → DpAll K M vs ds
  | [], _, .nil => .nil
  | _ :: _, _, .cons h t => .cons h (dpAll_of t)
theorem of_dpAll {M : Hp} : ∀ {ds : List PyData} {vs : List V}, DpAll K M vs ds → Paired (VR K M) (ds.map .d) vs
  | [], _, .nil => .nil
  | _ :: _, _, .cons h t => .cons h (of_dpAll t)
theorem paired_len {α β : Type} {F : α → β → Prop} {l : List α} {m : List β} (h : Paired F l m) : l.length = m.length := Paired.length h
/-- data, all of them -/
def asD : List VX → Option (List PyData)
  | [] => some []
  | .d d :: xs => (asD xs).map (d :: ·)
  | _ :: _ => none
theorem asD_is : ∀ {xs : List VX} {ds : List PyData}, asD xs = some ds → xs = ds.map .d
  | [], ds, h => by cases h; rfl
  | .d d :: xs, ds, h => by
    unfold asD at h
    cases e : asD xs with
    | none => rw [e] at h; cases h
    | some es => rw [e] at h; cases h; rw [asD_is e]; rfl
  | .r _ :: _, _, h => by cases h
theorem asD_map : ∀ ds : List PyData, asD (ds.map .d) = some ds
  | [] => rfl
  | d :: ds => by show (asD (ds.map .d)).map _ = _; rw [asD_map ds]; rfl
/-- a new object that does not change any more -/
theorem Rp.new {H M : Hp} {p : Addr} {o : HO} (R : Rp K H M W) (np : H p = none) : Rp K (upd H p o) (upd M p o) W ∧ Tr H M W (upd H p o) (upd M p o) W ∧ Same M (upd M p o) := by
  have mp : M p = none := by
    cases e : M p with
    | none => rfl
    | some u => have := R.sm _ _ e; rw [np] at this; cases this
  have sM : Same M (upd M p o) := .new mp
  have nc : ∀ q ∈ W.c, q.1 ≠ p := fun q hq z => by
    obtain ⟨u, h1, _⟩ := (R.cell q hq).some
    rw [z, np] at h1; cases h1
  refine ⟨⟨fun b u e => ?_, R.nd, fun q hq => ?_, fun q hq => (R.cell q hq).mono sM fun u e => ?_, R.gok, R.gok H _ (fun b u e _ => ?_) R.g⟩, ⟨sM, fun b u h1 _ => ?_, fun b u h1 _ h2 h3 => ⟨?_, ?_, h3⟩⟩, sM⟩
  · by_cases c : b = p
    · subst c; rw [upd_same] at e ⊢; exact e
    · rw [upd_ne c] at e ⊢; exact R.sm _ _ e
  · rw [upd_ne (nc q hq)]; exact R.out q hq
  · rw [upd_ne (nc q hq)]; exact e
  · rw [upd_ne (ne_of_none e np)]; exact e
  · rw [upd_ne (ne_of_none h1 np)]; exact h1
  · rw [upd_ne (ne_of_none h1 np)]; exact h1
  · rw [upd_ne (ne_of_none h1 np)]; exact h2
/-- a new cell -/
theorem Rp.cnew {H M : Hp} {p : Addr} {u : HO} {o : OC} (R : Rp K H M W) (np : H p = none) (hc : CR K M (upd H p u) p o) : Rp K (upd H p u) M ⟨(p, o) :: W.c, W.g⟩ ∧ Tr H M W (upd H p u) M ⟨(p, o) :: W.c, W.g⟩ := by
  have mp : M p = none := by
    cases e : M p with
    | none => rfl
    | some u => have := R.sm _ _ e; rw [np] at this; cases this
  have nc : ∀ q ∈ W.c, q.1 ≠ p := fun q hq z => by
    obtain ⟨u, h1, _⟩ := (R.cell q hq).some
    rw [z, np] at h1; cases h1
  refine ⟨⟨fun b w e => ?_, ?_, fun q hq => ?_, fun q hq => ?_, R.gok, R.gok H _ (fun b w e _ => ?_) R.g⟩, ⟨.refl M, fun b w h1 _ => ?_, fun b w h1 _ h2 h3 => ⟨?_, h2, ?_⟩⟩⟩
  · rw [upd_ne (ne_of_none (R.sm _ _ e) np)]; exact R.sm _ _ e
  · rw [List.map_cons, List.nodup_cons]
    refine ⟨fun z => ?_, R.nd⟩
    obtain ⟨q, hq, e⟩ := List.mem_map.mp z
    exact nc q hq e
  · rcases List.mem_cons.mp hq with rfl | hq
    · exact mp
    · exact R.out q hq
  · rcases List.mem_cons.mp hq with rfl | hq
    · exact hc
    · exact (R.cell q hq).mono (.refl M) fun w e => by rw [upd_ne (nc q hq)]; exact e
  · rw [upd_ne (ne_of_none e np)]; exact e
  · rw [upd_ne (ne_of_none h1 np)]; exact h1
  · rw [upd_ne (ne_of_none h1 np)]; exact h1
  · rw [List.map_cons, List.mem_cons]
    rintro (z | z)
    · rw [z, np] at h1; cases h1
    · exact h3 z
/-- the cells by place: a has o there; f puts another one in its place -/
inductive Cut (a : Addr) (o : OC) : List (Addr × OC) → (OC → List (Addr × OC)) → Prop
  | hd {c : List (Addr × OC)} : Cut a o ((a, o) :: c) fun o' => (a, o') :: c
  | tl {p : Addr × OC} {c : List (Addr × OC)} {f : OC → List (Addr × OC)} : Cut a o c f → Cut a o (p :: c) fun o' => p :: f o'
theorem Cut.mem {a : Addr} {o : OC} {c : List (Addr × OC)} {f : OC → List (Addr × OC)} (h : Cut a o c f) : (a, o) ∈ c := by
  induction h with
  | hd => exact List.mem_cons_self ..
  | tl _ ih => exact List.mem_cons_of_mem _ ih
theorem Cut.fst {a : Addr} {o : OC} {c : List (Addr × OC)} {f : OC → List (Addr × OC)} (h : Cut a o c f) (o' : OC) : (f o').map (·.1) = c.map (·.1) := by
  induction h with
  | hd => rfl
  | tl _ ih => rw [List.map_cons, List.map_cons, ih]
theorem Cut.mem' {a : Addr} {o o' : OC} {c : List (Addr × OC)} {f : OC → List (Addr × OC)} (h : Cut a o c f) (nd : (c.map (·.1)).Nodup) {q : Addr × OC} (hq : q ∈ f o') : q = (a, o') ∨ (q ∈ c ∧ q.1 ≠ a) := by
  induction h with
  | hd =>
    rw [List.map_cons, List.nodup_cons] at nd
    rcases List.mem_cons.mp hq with e | e
    · exact .inl e
    · exact .inr ⟨List.mem_cons_of_mem _ e, fun z => nd.1 (List.mem_map.mpr ⟨q, e, z⟩)⟩
  | @tl p c f h ih =>
    rw [List.map_cons, List.nodup_cons] at nd
    rcases List.mem_cons.mp hq with e | e
    · refine .inr ⟨by rw [e]; exact List.mem_cons_self .., fun z => nd.1 ?_⟩
      rw [e] at z
      rw [z]
      exact List.mem_map.mpr ⟨(a, o), h.mem, rfl⟩
    · rcases ih nd.2 e with e | ⟨e, z⟩
      · exact .inl e
      · exact .inr ⟨List.mem_cons_of_mem _ e, z⟩
/-- a cell changes -/
theorem Rp.put {H M : Hp} {a : Addr} {o o' : OC} {u : HO} {f : OC → List (Addr × OC)} (R : Rp K H M W) (c : Cut a o W.c f) (hc : CR K M (upd H a u) a o') : Rp K (upd H a u) M ⟨f o', W.g⟩ ∧ Tr H M W (upd H a u) M ⟨f o', W.g⟩ := by
  have ma := R.out _ c.mem
  obtain ⟨w, hw, cw⟩ := (R.cell _ c.mem).some
  refine ⟨⟨fun b z e => ?_, by show ((f o').map (·.1)).Nodup; rw [c.fst]; exact R.nd, fun q hq => ?_, fun q hq => ?_, R.gok, R.gok H _ (fun b z e nz => ?_) R.g⟩, ⟨.refl M, fun b z h1 nz => ?_, fun b z h1 _ h2 h3 => ⟨?_, h2, by show b ∉ (f o').map (·.1); rw [c.fst]; exact h3⟩⟩⟩
  · rw [upd_ne (ne_of_none e ma)]; exact R.sm _ _ e
  · rcases c.mem' R.nd hq with e | ⟨e, _⟩
    · rw [e]; exact ma
    · exact R.out q e
  · rcases c.mem' R.nd hq with e | ⟨e, n⟩
    · rw [e]; exact hc
    · exact (R.cell q e).mono (.refl M) fun z e => by rw [upd_ne n]; exact e
  · by_cases d : b = a
    · subst d
      rw [show H b = some w from hw] at e
      cases e
      exact absurd cw nz
    · rw [upd_ne d]; exact e
  · by_cases d : b = a
    · subst d
      rw [show H b = some w from hw] at h1
      cases h1
      exact absurd cw nz
    · rw [upd_ne d]; exact h1
  · have : b ≠ a := fun d => h3 (by rw [d]; exact List.mem_map.mpr ⟨_, c.mem, rfl⟩)
    rw [upd_ne this]; exact h1
/-- a list of data changes no more -/
theorem Rp.fz {H M : Hp} {a : Addr} {ds : List PyData} {c : List (Addr × OC)} {g : Hp → Prop} (R : Rp K H M ⟨(a, .lst (ds.map .d)) :: c, g⟩) : ∃ M', Rp K H M' ⟨c, g⟩ ∧ Tr H M ⟨(a, .lst (ds.map .d)) :: c, g⟩ H M' ⟨c, g⟩ ∧ Dp K M' (.ref a) (.list ds) := by
  obtain ⟨vs, h1, h2⟩ := R.cell _ (List.mem_cons_self ..)
  have ma := R.out _ (List.mem_cons_self ..)
  have nd := R.nd
  have sM : Same M (upd M a (.lst vs)) := .new ma
  rw [List.map_cons, List.nodup_cons] at nd
  have nc : ∀ q ∈ c, q.1 ≠ a := fun q hq z => nd.1 (List.mem_map.mpr ⟨q, hq, z⟩)
  refine ⟨upd M a (.lst vs), ⟨fun b u e => ?_, nd.2, fun q hq => ?_, fun q hq => (R.cell q (List.mem_cons_of_mem _ hq)).mono sM fun _ e => e, R.gok, R.g⟩, ⟨sM, fun _ _ e _ => e, fun b u e1 _ e2 e3 => ⟨e1, ?_, fun z => e3 (List.mem_cons_of_mem _ z)⟩⟩, .lst (SqL.of upd_same) (dpAll_mono sM (dpAll_of h2))⟩
  · by_cases c : b = a
    · subst c; rw [upd_same] at e; rw [← e]; exact h1
    · rw [upd_ne c] at e; exact R.sm _ _ e
  · rw [upd_ne (nc q hq)]; exact R.out q (List.mem_cons_of_mem _ hq)
  · have : b ≠ a := fun z => e3 (by rw [z]; exact List.mem_cons_self ..)
    rw [upd_ne this]; exact e2
/-- a cell is forgotten -/
theorem Rp.drop {H M : Hp} {p : Addr × OC} {c : List (Addr × OC)} {g : Hp → Prop} (R : Rp K H M ⟨p :: c, g⟩) : Rp K H M ⟨c, g⟩ ∧ Tr H M ⟨p :: c, g⟩ H M ⟨c, g⟩ := by
  have nd := R.nd
  rw [List.map_cons, List.nodup_cons] at nd
  exact ⟨⟨R.sm, nd.2, fun q hq => R.out q (List.mem_cons_of_mem _ hq), fun q hq => R.cell q (List.mem_cons_of_mem _ hq), R.gok, R.g⟩, ⟨.refl M, fun _ _ e _ => e, fun b o h1 _ h2 h3 => ⟨h1, h2, fun z => h3 (List.mem_cons_of_mem _ z)⟩⟩⟩
/-- cells in another turn -/
theorem Rp.perm {H M : Hp} {c c' : List (Addr × OC)} {g : Hp → Prop} (p : c.Perm c') (R : Rp K H M ⟨c, g⟩) : Rp K H M ⟨c', g⟩ ∧ Tr H M ⟨c, g⟩ H M ⟨c', g⟩ :=
  ⟨⟨R.sm, (p.map _).nodup_iff.mp R.nd, fun q hq => R.out q (p.mem_iff.mpr hq), fun q hq => R.cell q (p.mem_iff.mpr hq), R.gok, R.g⟩, ⟨.refl M, fun _ _ e _ => e, fun b o h1 _ h2 h3 => ⟨h1, h2, fun z => h3 ((p.map (·.1)).mem_iff.mpr z)⟩⟩⟩
/-! ### what never changes -/
def strip (H : Hp) : Hp := fun b => match H b with
  | some (.lst _) => none
  | some (.dK _) => none
  | some (.dT _) => none
  | some (.ins _ _ _) => none
  | some (.tbl _) => none
  | x => x
theorem strip_eq {H : Hp} {b : Addr} {o : HO} (h : H b = some o) (n : ¬ cellO o) : strip H b = some o := by
  unfold strip
  rw [h]
  cases o <;> first | rfl | exact absurd trivial n
theorem strip_cell {H : Hp} {b : Addr} {o : HO} (h : H b = some o) (n : cellO o) : strip H b = none := by
  unfold strip
  rw [h]
  cases o <;> first | rfl | exact n.elim
theorem strip_of {H : Hp} {b : Addr} {o : HO} (h : strip H b = some o) : H b = some o ∧ ¬ cellO o := by
  cases e : H b with
  | none => unfold strip at h; rw [e] at h; cases h
  | some u =>
    by_cases n : cellO u
    · rw [strip_cell e n] at h; cases h
    · rw [strip_eq e n] at h; cases h; exact ⟨rfl, n⟩
theorem strip_same (H : Hp) : Same (strip H) H := fun b o h => (strip_of h).1
theorem strip_st {H H' : Hp} (h : ∀ b o, H b = some o → ¬ cellO o → H' b = some o) : Same (strip H) (strip H') := fun b o e => strip_eq (h b o (strip_of e).1 (strip_of e).2) (strip_of e).2
def addS (M H : Hp) : Hp := fun b => match M b with
  | some o => some o
  | none => strip H b
theorem addS_l (M H : Hp) : Same M (addS M H) := fun b o e => by unfold addS; rw [e]
theorem addS_r {M H : Hp} (sm : Same M H) : Same (strip H) (addS M H) := fun b o e => by
  unfold addS
  cases z : M b with
  | none => exact e
  | some u =>
    have := sm _ _ z
    rw [(strip_of e).1] at this
    exact this.symm
/-- all that never changes may be taken for data -/
theorem Rp.solid {H M : Hp} (R : Rp K H M W) : Rp K H (addS M H) W ∧ Tr H M W H (addS M H) W ∧ Same (strip H) (addS M H) := by
  have no : ∀ b o, H b = some o → cellO o → M b = none → addS M H b = none := fun b o e c n => by
    unfold addS
    rw [n]
    exact strip_cell e c
  refine ⟨⟨fun b o e => ?_, R.nd, fun q hq => ?_, fun q hq => (R.cell q hq).mono (addS_l M H) fun _ e => e, R.gok, R.g⟩, ⟨addS_l M H, fun _ _ e _ => e, fun b o e c n m => ⟨e, no b o e c n, m⟩⟩, addS_r R.sm⟩
  · unfold addS at e
    cases z : M b with
    | none => rw [z] at e; exact strip_same H b o e
    | some u => rw [z] at e; rw [← e]; exact R.sm _ _ z
  · obtain ⟨u, h1, h2⟩ := (R.cell q hq).some
    exact no _ _ h1 h2 (R.out q hq)
mutual
/-- no list in it -/
def noL : PyData → Bool
  | .list _ => false
  | .tuple ds => noLs ds
  | _ => true
def noLs : List PyData → Bool
  | [] => true
  | d :: ds => noL d && noLs ds
end
theorem sqT_strip {M H : Hp} (sm : Same M H) {a : Addr} {xs : List V} (h : SqT K M a xs) : SqT K (strip H) a xs := by
  rcases h with (h | ⟨o, h⟩) | h
  · exact .inl (.inl (strip_eq (sm _ _ h) fun z => z))
  · exact .inl (.inr ⟨o, strip_eq (sm _ _ h) fun z => z⟩)
  · exact .inr h
mutual
theorem dp_strip {M H : Hp} (sm : Same M H) : ∀ {d : PyData} {v : V}, noL d = true → Dp K M v d → Dp K (strip H) v d
  | _, _, _, .non => .non
  | _, _, _, .bl b => .bl b
  | _, _, _, .int i => .int i
  | _, _, _, .str x => .str x
  | _, _, n, .lst _ _ => by simp [noL] at n
  | _, _, n, .tup h a => .tup (sqT_strip sm h) (dpAll_strip sm (by simpa [noL] using n) a)
theorem dpAll_strip {M H : Hp} (sm : Same M H) : ∀ {ds : List PyData} {vs : List V}, noLs ds = true → DpAll K M vs ds → DpAll K (strip H) vs ds
  | _, _, _, .nil => .nil
  | _, _, n, .cons h a => by
    simp [noLs] at n
    exact .cons (dp_strip sm n.1 h) (dpAll_strip sm n.2 a)
end
/-- an item of a tuple, as it is remembered -/
def VN (K : PySem.W.Frag) (H : Hp) : VX → V → Prop
  | .d d, v => noL d = true → Dp K (strip H) v d
  | .r w, v => v = w
theorem VN.ok {H H' : Hp} (h : ∀ b o, H b = some o → ¬ cellO o → H' b = some o) : ∀ {x : VX} {v : V}, VN K H x v → VN K H' x v
  | .d _, _, z => fun n => dp_mono (strip_st h) (z n)
  | .r _, _, z => z
def gTupA (K : PySem.W.Frag) (g : Hp → Prop) (p : Addr) (xs : List VX) (vs : List V) : Hp → Prop := fun H => g H ∧ H p = some (.tup vs) ∧ Paired (VN K H) xs vs
theorem gTupA_ok {g : Hp → Prop} (h : GOk g) (p : Addr) (xs : List VX) (vs : List V) : GOk (gTupA K g p xs vs) := fun H H' k ⟨h1, h2, h3⟩ => ⟨h H H' k h1, k _ _ h2 fun z => z, Paired.mapP h3 fun _ _ z => z.ok k⟩
end
end DW

namespace DW
open PySem PySem.Spec PyProof.Rows L2
section
variable {K : PySem.W.Frag} {X : XC} {τ : Ts} {W : Wd} {Φ : VX → Wd → Prop} {Ψ : Bool → Wd → Prop} {ΦA : List VX → Wd → Prop} {ΦT : Ts → Wd → Prop} {ΦO : Option Int → Wd → Prop} {te ta tb tc : TE} {tt tt2 : TT} {tA tR : TA} {t u : TS} {P : Pst} {n : Nat} {x y z : VX} {r r' : R2} {g : TG} {tg : TGs} {ds es : List PyData} {d e : PyData} {i j : Int} {a b : Addr} {o : OC} {f : OC → List (Addr × OC)}
theorem sz5 {n : Nat} (h : n ≤ 100000) : n ≤ sizeLine := Nat.le_trans h (by decide)
theorem we_tup (h : WA K X tA τ W fun xs W1 => ∃ ds, asD xs = some ds ∧ ds.length ≤ 100000 ∧ Φ (.d (.tuple ds)) W1) : WE K X (tTup tA) τ W Φ := fun σ H M Q s R kx k =>
  h σ H M _ s R kx fun xs vs H1 M1 W1 ⟨ds, e, hl, q⟩ R1 t1 p => by
    rw [asD_is e] at p
    refine ⟨sz5 (by rw [← paired_len p, List.length_map]; exact hl), fun p0 np => ?_⟩
    obtain ⟨R2, t2, s2⟩ := R1.new (o := .tup vs) np
    exact k _ _ _ _ _ q R2 (t1.trans t2) (Dp.tup (SqT.of upd_same) (dpAll_mono s2 (dpAll_of p)))
theorem we_lstD (h : WA K X tA τ W fun xs W1 => ∃ ds, asD xs = some ds ∧ ds.length ≤ 100000 ∧ Φ (.d (.list ds)) W1) : WE K X (tLst tA) τ W Φ := fun σ H M Q s R kx k =>
  h σ H M _ s R kx fun xs vs H1 M1 W1 ⟨ds, e, hl, q⟩ R1 t1 p => by
    rw [asD_is e] at p
    refine ⟨sz5 (by rw [← paired_len p, List.length_map]; exact hl), fun p0 np => ?_⟩
    obtain ⟨R2, t2, s2⟩ := R1.new (o := .lst vs) np
    exact k _ _ _ _ _ q R2 (t1.trans t2) (Dp.lst (SqL.of upd_same) (dpAll_mono s2 (dpAll_of p)))
theorem we_lstO (h : WA K X tA τ W fun xs W1 => xs.length ≤ 100000 ∧ ∀ a, Φ (.r (.ref a)) ⟨(a, .lst xs) :: W1.c, W1.g⟩) : WE K X (tLst tA) τ W Φ := fun σ H M Q s R kx k =>
  h σ H M _ s R kx fun xs vs H1 M1 W1 ⟨hl, q⟩ R1 t1 p => by
    refine ⟨sz5 (by rw [← paired_len p]; exact hl), fun p0 np => ?_⟩
    obtain ⟨R2, t2⟩ := R1.cnew (u := .lst vs) (o := .lst xs) np ⟨vs, upd_same, p⟩
    exact k _ _ _ _ _ (q p0) R2 (t1.trans t2) rfl
theorem we_dnew (h : ∀ a, Φ (.r (.ref a)) ⟨(a, .dK []) :: W.c, W.g⟩) : WE K X tDNewK τ W Φ := fun σ H M Q s R kx k p np => by
  obtain ⟨R2, t2⟩ := R.cnew (u := .dK []) (o := .dK []) np ⟨[], upd_same, .nil⟩
  exact k _ _ _ _ _ (h p) R2 t2 rfl
theorem we_notV (h : WE K X te τ W fun x W1 => ∃ c, x = .d (.bool c) ∧ Φ (.d (.bool (!c))) W1) : WE K X (tNotV te) τ W Φ := fun σ H M Q s R kx k =>
  h σ H M _ s R kx fun x v H1 M1 W1 ⟨c, e, q⟩ R1 t1 p => by
    subst e
    cases p
    exact ⟨c, rfl, k _ _ _ _ _ q R1 t1 (Dp.bl _)⟩
theorem we_andV (h : WE K X ta τ W fun x W1 => ∃ c, x = .d (.bool c) ∧ ((c = true → WE K X tb τ W1 Φ) ∧ (c = false → Φ (.d (.bool false)) W1))) : WE K X (tAndV ta tb) τ W Φ := fun σ H M Q s R kx k =>
  h σ H M _ s R kx fun x v H1 M1 W1 ⟨c, e, q1, q2⟩ R1 t1 p => by
    subst e
    cases p
    refine ⟨c, rfl, ?_⟩
    cases c with
    | true => exact q1 rfl σ H1 M1 Q (s.mono t1.sm) R1 (kx.on t1) (k.on t1)
    | false => exact k _ _ _ _ _ (q2 rfl) R1 t1 (Dp.bl _)
theorem we_orV (h : WE K X ta τ W fun x W1 => ∃ c, x = .d (.bool c) ∧ ((c = false → WE K X tb τ W1 Φ) ∧ (c = true → Φ (.d (.bool true)) W1))) : WE K X (tOrV ta tb) τ W Φ := fun σ H M Q s R kx k =>
  h σ H M _ s R kx fun x v H1 M1 W1 ⟨c, e, q1, q2⟩ R1 t1 p => by
    subst e
    cases p
    refine ⟨c, rfl, ?_⟩
    cases c with
    | false => exact q1 rfl σ H1 M1 Q (s.mono t1.sm) R1 (kx.on t1) (k.on t1)
    | true => exact k _ _ _ _ _ (q2 rfl) R1 t1 (Dp.bl _)
theorem we_ifE (h : WT K X tt τ W fun c W1 => (c = true → WE K X ta τ W1 Φ) ∧ (c = false → WE K X tb τ W1 Φ)) : WE K X (tIf tt ta tb) τ W Φ := fun σ H M Q s R kx k =>
  h σ H M _ s R kx fun c H1 M1 W1 ⟨q1, q2⟩ R1 t1 => by
    cases c with
    | true => exact q1 rfl σ H1 M1 Q (s.mono t1.sm) R1 (kx.on t1) (k.on t1)
    | false => exact q2 rfl σ H1 M1 Q (s.mono t1.sm) R1 (kx.on t1) (k.on t1)
/-! tests -/
theorem wt_test (h : WE K X te τ W fun x W1 => ∃ c, x = .d (.bool c) ∧ Ψ c W1) : WT K X (tTest te) τ W Ψ := fun σ H M Q s R kx k =>
  h σ H M _ s R kx fun x v H1 M1 W1 ⟨c, e, q⟩ R1 t1 p => by
    subst e
    cases p
    exact ⟨c, rfl, k _ _ _ _ q R1 t1⟩
theorem wt_B (h : WE K X te τ W fun x W1 => ∃ c, x = .d (.bool c) ∧ Ψ c W1) : WT K X (tB te) τ W Ψ := fun σ H M Q s R kx k =>
  h σ H M _ s R kx fun x v H1 M1 W1 ⟨c, e, q⟩ R1 t1 p => by
    subst e
    cases p
    exact ⟨c, rfl, k _ _ _ _ q R1 t1⟩
def truD : PyData → Option Bool
  | .none => some false
  | .bool b => some b
  | .int i => some (i != 0)
  | .tuple ds => some (!ds.isEmpty)
  | .list ds => some (!ds.isEmpty)
  | _ => none
theorem dpAll_empty {M : Hp} {ds : List PyData} {vs : List V} (h : DpAll K M vs ds) : ds.isEmpty = vs.isEmpty := by cases h <;> rfl
theorem truD_ok {H M : Hp} {v : V} {c : Bool} (sm : Same M H) (p : Dp K M v d) (h : truD d = some c) : TruV K v H c := by
  cases p with
  | non => cases h; rfl
  | bl b => cases h; rfl
  | int i => cases h; rfl
  | str => cases h
  | lst h1 h2 => cases h; exact .inl ⟨_, sm.seq h1, by rw [dpAll_empty h2]⟩
  | tup h1 h2 => cases h; exact .inr (.inl ⟨_, sqT_same sm h1, by rw [dpAll_empty h2]⟩)
theorem wt_tru (h : WE K X te τ W fun x W1 => ∃ d c, x = .d d ∧ truD d = some c ∧ Ψ c W1) : WT K X (tTru K te) τ W Ψ := fun σ H M Q s R kx k =>
  h σ H M _ s R kx fun x v H1 M1 W1 ⟨d, c, e, e2, q⟩ R1 t1 p => by
    subst e
    exact ⟨c, truD_ok R1.sm p e2, k _ _ _ _ q R1 t1⟩
theorem wt_and (h : WT K X tt τ W fun c W1 => (c = true → WT K X tt2 τ W1 Ψ) ∧ (c = false → Ψ false W1)) : WT K X (tAnd tt tt2) τ W Ψ := fun σ H M Q s R kx k =>
  h σ H M _ s R kx fun c H1 M1 W1 ⟨q1, q2⟩ R1 t1 => by
    cases c with
    | true => exact q1 rfl σ H1 M1 Q (s.mono t1.sm) R1 (kx.on t1) fun b H' M' W' h r t => k b H' M' W' h r (t1.trans t)
    | false => exact k _ _ _ _ (q2 rfl) R1 t1
theorem wt_or (h : WT K X tt τ W fun c W1 => (c = false → WT K X tt2 τ W1 Ψ) ∧ (c = true → Ψ true W1)) : WT K X (tOr tt tt2) τ W Ψ := fun σ H M Q s R kx k =>
  h σ H M _ s R kx fun c H1 M1 W1 ⟨q1, q2⟩ R1 t1 => by
    cases c with
    | false => exact q1 rfl σ H1 M1 Q (s.mono t1.sm) R1 (kx.on t1) fun b H' M' W' h r t => k b H' M' W' h r (t1.trans t)
    | true => exact k _ _ _ _ (q2 rfl) R1 t1
theorem wt_not (h : WT K X tt τ W fun c W1 => Ψ (!c) W1) : WT K X (tNot tt) τ W Ψ := fun σ H M Q s R kx k =>
  h σ H M _ s R kx fun c H1 M1 W1 q R1 t1 => k _ _ _ _ q R1 t1
theorem wt_yes (h : Ψ true W) : WT K X tYes τ W Ψ := fun σ H M Q s R kx k => k _ _ _ _ h R (.refl ..)
/-! operators by values -/
theorem w2_add (h : Φ (.d (.int (i + j))) W) : W2 K kAdd (.d (.int i)) (.d (.int j)) W Φ := fun H M u v Q R p q k => by
  cases p; cases q; exact r_kAdd (k _ _ _ _ _ h R (.refl ..) (Dp.int _))
theorem w2_sub (h : Φ (.d (.int (i - j))) W) : W2 K kSub (.d (.int i)) (.d (.int j)) W Φ := fun H M u v Q R p q k => by
  cases p; cases q; exact r_kSub (k _ _ _ _ _ h R (.refl ..) (Dp.int _))
theorem w2_mul (c : CMul i j) (h : Φ (.d (.int (i * j))) W) : W2 K kMul (.d (.int i)) (.d (.int j)) W Φ := fun H M u v Q R p q k => by
  cases p; cases q; exact r_kMul c (k _ _ _ _ _ h R (.refl ..) (Dp.int _))
theorem w2_mod (c : 0 < j) (h : Φ (.d (.int (i % j))) W) : W2 K kMod (.d (.int i)) (.d (.int j)) W Φ := fun H M u v Q R p q k => by
  cases p; cases q; exact r_kMod c (k _ _ _ _ _ h R (.refl ..) (Dp.int _))
theorem w2_fdiv (c : CDivN i j) (h : Φ (.d (.int (i.fdiv j))) W) : W2 K kFdiv (.d (.int i)) (.d (.int j)) W Φ := fun H M u v Q R p q k => by
  cases p; cases q; exact r_kFdiv c (k _ _ _ _ _ h R (.refl ..) (Dp.int _))
theorem w2_lt (h : Φ (.d (.bool (decide (i < j)))) W) : W2 K kLt (.d (.int i)) (.d (.int j)) W Φ := fun H M u v Q R p q k => by
  cases p; cases q; exact r_kLt (k _ _ _ _ _ h R (.refl ..) (Dp.bl _))
theorem w2_le (h : Φ (.d (.bool (decide (i ≤ j)))) W) : W2 K kLe (.d (.int i)) (.d (.int j)) W Φ := fun H M u v Q R p q k => by
  cases p; cases q; exact r_kLe (k _ _ _ _ _ h R (.refl ..) (Dp.bl _))
theorem w2_gt (h : Φ (.d (.bool (decide (j < i)))) W) : W2 K kGt (.d (.int i)) (.d (.int j)) W Φ := fun H M u v Q R p q k => by
  cases p; cases q; exact r_kGt (k _ _ _ _ _ h R (.refl ..) (Dp.bl _))
theorem w2_ge (h : Φ (.d (.bool (decide (j ≤ i)))) W) : W2 K kGe (.d (.int i)) (.d (.int j)) W Φ := fun H M u v Q R p q k => by
  cases p; cases q; exact r_kGe (k _ _ _ _ _ h R (.refl ..) (Dp.bl _))
theorem w2_eqI (h : Φ (.d (.bool (decide (i = j)))) W) : W2 K kEq (.d (.int i)) (.d (.int j)) W Φ := fun H M u v Q R p q k => by
  cases p; cases q; exact r_eqI (k _ _ _ _ _ h R (.refl ..) (Dp.bl _))
theorem w2_neI (h : Φ (.d (.bool (!decide (i = j)))) W) : W2 K kNe (.d (.int i)) (.d (.int j)) W Φ := fun H M u v Q R p q k => by
  cases p; cases q; exact r_neI (k _ _ _ _ _ h R (.refl ..) (Dp.bl _))
theorem w2_eqS {a b : Str} (h : Φ (.d (.bool (decide (a = b)))) W) : W2 K kEq (.d (.str a)) (.d (.str b)) W Φ := fun H M u v Q R p q k => by
  cases p; cases q; exact r_eqS (k _ _ _ _ _ h R (.refl ..) (Dp.bl _))
def isNon : PyData → Bool
  | .none => true
  | _ => false
theorem w2_isN (h : Φ (.d (.bool (isNon d))) W) : W2 K kIsN (.d d) (.d .none) W Φ := fun H M u v Q R p q k => by
  cases q
  refine r_isN ?_
  have e : decide (u = .non) = isNon d := by
    cases p <;> first | rfl | exact decide_eq_false fun z => by cases z
  rw [e]
  exact k _ _ _ _ _ h R (.refl ..) (Dp.bl _)
theorem w2_notN (h : Φ (.d (.bool (!isNon d))) W) : W2 K kNotN (.d d) (.d .none) W Φ := fun H M u v Q R p q k => by
  cases q
  refine r_notN ?_
  have e : decide (u = .non) = isNon d := by
    cases p <;> first | rfl | exact decide_eq_false fun z => by cases z
  rw [e]
  exact k _ _ _ _ _ h R (.refl ..) (Dp.bl _)
theorem dpAll_get {M : Hp} : ∀ {ds : List PyData} {vs : List V} {i : Nat} {d : PyData}, DpAll K M vs ds → ds[i]? = some d → ∃ v, vs[i]? = some v ∧ Dp K M v d
  | _, _, _, _, .nil, h => by simp at h
  | _, _, 0, d, .cons h _, e => by simp at e; subst e; exact ⟨_, rfl, h⟩
  | _, _, i + 1, d, .cons _ t, e => by
    obtain ⟨v, h1, h2⟩ := dpAll_get (i := i) (d := d) t (by simpa using e)
    exact ⟨v, by simpa using h1, h2⟩
theorem dpAll_len {M : Hp} {ds : List PyData} {vs : List V} (h : DpAll K M vs ds) : ds.length = vs.length := by
  have := paired_len (of_dpAll h)
  simpa using this
theorem atI_get {α : Type} {xs : List α} {x : α} {i : Int} (h : atI xs i = some x) : ∃ j, ixN xs.length i = some j ∧ xs[j]? = some x := by
  unfold atI at h
  cases e : ixN xs.length i with
  | none => rw [e] at h; cases h
  | some j => rw [e] at h; exact ⟨j, rfl, h⟩
theorem dpAll_atI {M : Hp} {ds : List PyData} {vs : List V} (h : DpAll K M vs ds) (e : atI ds i = some d) : ∃ v, atI vs i = some v ∧ Dp K M v d := by
  obtain ⟨j, h1, h2⟩ := atI_get e
  obtain ⟨v, h3, h4⟩ := dpAll_get h h2
  refine ⟨v, ?_, h4⟩
  unfold atI
  rw [← dpAll_len h, h1]
  exact h3
theorem w2_ixT (e : atI ds i = some d) (h : Φ (.d d) W) : W2 K (rIxT K) (.d (.tuple ds)) (.d (.int i)) W Φ := fun H M u v Q R p q k => by
  cases q
  cases p with
  | tup h1 h2 =>
    obtain ⟨w, h3, h4⟩ := dpAll_atI h2 e
    exact r_ixT (sqT_same R.sm h1) h3 (k _ _ _ _ _ h R (.refl ..) h4)
theorem w2_ixL (e : atI ds i = some d) (h : Φ (.d d) W) : W2 K (rIxL K) (.d (.list ds)) (.d (.int i)) W Φ := fun H M u v Q R p q k => by
  cases q
  cases p with
  | lst h1 h2 =>
    obtain ⟨w, h3, h4⟩ := dpAll_atI h2 e
    exact r_ixL (R.sm.seq h1) h3 (k _ _ _ _ _ h R (.refl ..) h4)
theorem paired_get' {α β : Type} {F : α → β → Prop} : ∀ {l : List α} {m : List β} {i : Nat} {x : α}, Paired F l m → l[i]? = some x → ∃ y, m[i]? = some y ∧ F x y
  | _, _, _, _, .nil, e => by simp at e
  | _, _, 0, x, .cons r _, e => by simp at e; subst e; exact ⟨_, rfl, r⟩
  | _, _, i + 1, x, .cons _ t, e => by
    obtain ⟨u, h1, h2⟩ := paired_get' (i := i) (x := x) t (by simpa using e)
    exact ⟨u, by simpa using h1, h2⟩
theorem w2_ixO {xs : List VX} (c : Cut a (.lst xs) W.c f) (e : atI xs i = some x) (h : Φ x W) : W2 K (rIxL K) (.r (.ref a)) (.d (.int i)) W Φ := fun H M u v Q R p q k => by
  cases q
  cases p
  obtain ⟨vs, h1, h2⟩ := R.cell _ c.mem
  obtain ⟨j, h3, h4⟩ := atI_get e
  obtain ⟨w, h5, h6⟩ := paired_get' h2 h4
  refine r_ixL (SqL.of h1) (v := w) ?_ (k _ _ _ _ _ h R (.refl ..) h6)
  unfold atI
  rw [← paired_len h2, h3]
  exact h5
theorem dpAll_app {M : Hp} : ∀ {ds es : List PyData} {vs ws : List V}, DpAll K M vs ds → DpAll K M ws es → DpAll K M (vs ++ ws) (ds ++ es)
  | _, _, _, _, .nil, s => s
  | _, _, _, _, .cons r t, s => .cons r (dpAll_app t s)
theorem dpAll_take {M : Hp} : ∀ {ds : List PyData} {vs : List V} (n : Nat), DpAll K M vs ds → DpAll K M (vs.take n) (ds.take n)
  | _, _, 0, _ => .nil
  | _, _, _ + 1, .nil => .nil
  | _, _, n + 1, .cons r t => .cons r (dpAll_take n t)
theorem dpAll_drop {M : Hp} : ∀ {ds : List PyData} {vs : List V} (n : Nat), DpAll K M vs ds → DpAll K M (vs.drop n) (ds.drop n)
  | _, _, 0, r => r
  | _, _, _ + 1, .nil => .nil
  | _, _, n + 1, .cons _ t => dpAll_drop n t
/-- a tuple, new or not, as data -/
theorem k_tupA {H M : Hp} {Q : VK} (R : Rp K H M W) (k : Kt K H M W Φ Q) (h : Φ (.d (.tuple ds)) W) {vs : List V} (p : DpAll K M vs ds) : ∀ q, H q = none → Q (.ref q) (upd H q (.tup vs)) := fun q nq => by
  obtain ⟨R2, t2, s2⟩ := R.new (o := .tup vs) nq
  exact k _ _ _ _ _ h R2 t2 (Dp.tup (SqT.of upd_same) (dpAll_mono s2 p))
theorem k_lstA {H M : Hp} {Q : VK} (R : Rp K H M W) (k : Kt K H M W Φ Q) (h : Φ (.d (.list ds)) W) {vs : List V} (p : DpAll K M vs ds) : ∀ q, H q = none → Q (.ref q) (upd H q (.lst vs)) := fun q nq => by
  obtain ⟨R2, t2, s2⟩ := R.new (o := .lst vs) nq
  exact k _ _ _ _ _ h R2 t2 (Dp.lst (SqL.of upd_same) (dpAll_mono s2 p))
theorem w2_catA (hl : ds.length + es.length ≤ 100000) (h : Φ (.d (.tuple (ds ++ es))) W) : W2 K (rCatA K) (.d (.tuple ds)) (.d (.tuple es)) W Φ := fun H M u v Q R p q k => by
  cases p with
  | @tup a xs _ h1 h2 =>
    cases q with
    | @tup b ys _ h3 h4 =>
      refine ⟨a, b, xs, ys, rfl, rfl, sqT_same R.sm h1, sqT_same R.sm h3, sz5 (by rw [← dpAll_len h2, ← dpAll_len h4]; exact hl), fun c => ?_, fun _ c => ?_, fun _ _ => k_tupA R k h (dpAll_app h2 h4)⟩
      · subst c
        cases h2
        exact k _ _ _ _ _ h R (.refl ..) (Dp.tup h3 h4)
      · subst c
        cases h4
        rw [List.append_nil] at h
        exact k _ _ _ _ _ h R (.refl ..) (Dp.tup h1 h2)
def cutD (xs : List PyData) (lo hi : Option Int) : List PyData := (xs.drop (HT.sIx xs.length 0 lo)).take (HT.sIx xs.length xs.length hi - HT.sIx xs.length 0 lo)
theorem dpAll_cut {M : Hp} {vs : List V} {lo hi : Option Int} (h : DpAll K M vs ds) : DpAll K M (cutV vs lo hi) (cutD ds lo hi) := by
  unfold cutV cutD
  rw [← dpAll_len h]
  exact dpAll_take _ (dpAll_drop _ h)
theorem cutD_take {k : Nat} (hk : k ≤ ds.length) : cutD ds none (some (k : Int)) = ds.take k := by
  unfold cutD
  rw [HT.sIx_none, HT.sIx_nat]
  simp [Nat.min_eq_left hk]
theorem cutD_drop {k : Nat} (hk : k ≤ ds.length) : cutD ds (some (k : Int)) none = ds.drop k := by
  unfold cutD
  rw [HT.sIx_none, HT.sIx_nat, Nat.min_eq_left hk]
  exact List.take_of_length_le (by simp)
def W3 (K : PySem.W.Frag) (rs : V → Option Int → Option Int → Hp → VK → Prop) (x : VX) (lo hi : Option Int) (W : Wd) (Φ : VX → Wd → Prop) : Prop := ∀ H M u Q, Rp K H M W → VR K M x u → Kt K H M W Φ Q → rs u lo hi H Q
theorem w3_slA {lo hi : Option Int} (h : Φ (.d (.tuple (cutD ds lo hi))) W) : W3 K (rSlA K) (.d (.tuple ds)) lo hi W Φ := fun H M u Q R p k => by
  cases p with
  | @tup a xs _ h1 h2 =>
    refine ⟨a, xs, rfl, sqT_same R.sm h1, fun c => ?_, fun _ => k_tupA R k h (dpAll_cut h2)⟩
    refine k _ _ _ _ _ h R (.refl ..) (Dp.tup h1 ?_)
    have := dpAll_cut (lo := lo) (hi := hi) h2
    rwa [cutV_all c] at this
theorem w3_slL {lo hi : Option Int} (h : Φ (.d (.list (cutD ds lo hi))) W) : W3 K (rSlL K) (.d (.list ds)) lo hi W Φ := fun H M u Q R p k => by
  cases p with
  | @lst a xs _ h1 h2 => exact ⟨a, xs, rfl, R.sm.seq h1, k_lstA R k h (dpAll_cut h2)⟩
theorem w3_slO {lo hi : Option Int} (c : Cut a (.lst (ds.map .d)) W.c f) (h : Φ (.d (.list (cutD ds lo hi))) W) : W3 K (rSlL K) (.r (.ref a)) lo hi W Φ := fun H M u Q R p k => by
  cases p
  obtain ⟨vs, h1, h2⟩ := R.cell _ c.mem
  exact ⟨a, vs, rfl, SqL.of h1, k_lstA R k h (dpAll_cut (dpAll_of h2))⟩
theorem we_sl {rs : V → Option Int → Option Int → Hp → VK → Prop} {tl th : TO} (h : WE K X te τ W fun x W1 => WO K X tl τ W1 fun l W2_ => WO K X th τ W2_ fun u W3_ => W3 K rs x l u W3_ Φ) : WE K X (tSl rs te tl th) τ W Φ := fun σ H M Q s R kx k =>
  h σ H M _ s R kx fun x v H1 M1 W1 q1 R1 t1 p => q1 σ H1 M1 _ (s.mono t1.sm) R1 (kx.on t1) fun l H2 M2 W2_ q2 R2 t2 => q2 σ H2 M2 _ (s.mono (t1.trans t2).sm) R2 (kx.on (t1.trans t2)) fun u H3 M3 W3_ q3 R3 t3 =>
    q3 H3 M3 v Q R3 (p.mono (t2.trans t3).sm) (k.on ((t1.trans t2).trans t3))
theorem wo_none (h : ΦO none W) : WO K X tNoPart τ W ΦO := fun σ H M Q s R kx k => k _ _ _ _ h R (.refl ..)
theorem wo_some (h : WE K X te τ W fun x W1 => ∃ i, x = .d (.int i) ∧ ΦO (some i) W1) : WO K X (tPart te) τ W ΦO := fun σ H M Q s R kx k =>
  h σ H M _ s R kx fun x v H1 M1 W1 ⟨i, e, q⟩ R1 t1 p => by
    subst e
    cases p
    exact ⟨i, rfl, k _ _ _ _ q R1 t1⟩
/-! targets -/
theorem wg_name (h : ΦT (τ.set n (some x)) W) : WG K X (gName n) x τ W ΦT := fun σ H M v Q s R kx p k => k _ _ _ _ _ h (s.set n p) R (.refl ..)
theorem wgs_nil (h : ΦT τ W) : WGs K X gNil [] τ W ΦT := fun σ H M vs Q s R kx p k => by cases p; exact ⟨rfl, k _ _ _ _ _ h s R (.refl ..)⟩
theorem wgs_cons {xs : List VX} (h : WG K X g x τ W fun τ1 W1 => WGs K X tg xs τ1 W1 ΦT) : WGs K X (gCons g tg) (x :: xs) τ W ΦT := fun σ H M vs Q s R kx p k => by
  cases p with
  | cons p1 p2 => exact ⟨_, _, rfl, h σ H M _ _ s R kx p1 fun τ1 σ1 H1 M1 W1 q1 s1 R1 t1 => q1 σ1 H1 M1 _ Q s1 R1 (kx.on t1) (VRs.mono t1.sm p2) fun a b c d e f g h t => k a b c d e f g h (t1.trans t)⟩
theorem wg_tup (hn : ds.length = n) (h : WGs K X tg (ds.map .d) τ W ΦT) : WG K X (gTup K n tg) (.d (.tuple ds)) τ W ΦT := fun σ H M v Q s R kx p k => by
  cases p with
  | @tup a xs _ h1 h2 => exact ⟨a, xs, rfl, sqT_same R.sm h1, by rw [← dpAll_len h2]; exact hn, h σ H M xs Q s R kx (of_dpAll h2) k⟩
theorem wg_tup2 {d1 d2 : PyData} (h : WGs K X tg [.d d1, .d d2] τ W ΦT) : WG K X (gTup K 2 tg) (.d (.tuple [d1, d2])) τ W ΦT := wg_tup rfl h
theorem wg_tup3 {d1 d2 d3 : PyData} (h : WGs K X tg [.d d1, .d d2, .d d3] τ W ΦT) : WG K X (gTup K 3 tg) (.d (.tuple [d1, d2, d3])) τ W ΦT := wg_tup rfl h
/-! statements -/
theorem ws_seq (h : WS K X t τ W { P with nx := fun τ1 W1 => WS K X u τ1 W1 P }) : WS K X (tSeq t u) τ W P := fun σ H M D s R kx k =>
  h σ H M { D with nx := u D } s R kx ⟨fun τ1 σ1 H1 M1 W1 q1 s1 R1 t1 => q1 σ1 H1 M1 D s1 R1 (kx.on t1) (k.on t1), k.rt, k.bk, k.ct⟩
theorem ws_next (h : P.nx τ W) : WS K X tNext τ W P := fun σ H M D s R kx k => k.nx _ _ _ _ _ h s R (.refl ..)
theorem ws_asgG (h : WE K X te τ W fun x W1 => WG K X g x τ W1 P.nx) : WS K X (tAsg te g) τ W P := fun σ H M D s R kx k =>
  h σ H M _ s R kx fun x v H1 M1 W1 q1 R1 t1 p => q1 σ H1 M1 v _ (s.mono t1.sm) R1 (kx.on t1) p (k.on t1).nx
theorem ws_asg (h : WE K X te τ W fun x W1 => P.nx (τ.set n (some x)) W1) : WS K X (tAsg te (gName n)) τ W P := fun σ H M D s R kx k =>
  h σ H M _ s R kx fun x v H1 M1 W1 q1 R1 t1 p => (k.on t1).nx _ _ _ _ _ q1 ((s.mono t1.sm).set n p) R1 (.refl ..)
theorem ws_par {a b : Nat} (h : WA K X tA τ W fun xs W1 => ∃ x y, xs = [x, y] ∧ P.nx ((τ.set a (some x)).set b (some y)) W1) : WS K X (tPar a b tA) τ W P := fun σ H M D s R kx k =>
  h σ H M _ s R kx fun xs vs H1 M1 W1 ⟨x, y, e, q1⟩ R1 t1 p => by
    subst e
    cases p with
    | cons p1 p => cases p with
      | cons p2 p => cases p; exact ⟨_, _, rfl, (k.on t1).nx _ _ _ _ _ q1 (((s.mono t1.sm).set a p1).set b p2) R1 (.refl ..)⟩
theorem ws_ret (h : WE K X te τ W P.rt) : WS K X (tRet te) τ W P := fun σ H M D s R kx k => h σ H M _ s R kx k.rt
theorem ws_retN (h : P.rt (.d .none) W) : WS K X tRetN τ W P := fun σ H M D s R kx k => k.rt _ _ _ _ _ h R (.refl ..) Dp.non
theorem ws_drop (h : WE K X te τ W fun _ W1 => P.nx τ W1) : WS K X (tDrop te) τ W P := fun σ H M D s R kx k =>
  h σ H M _ s R kx fun x v H1 M1 W1 q1 R1 t1 p => (k.on t1).nx _ _ _ _ _ q1 (s.mono t1.sm) R1 (.refl ..)
theorem ws_ifs (h : WT K X tt τ W fun c W1 => (c = true → WS K X t τ W1 P) ∧ (c = false → WS K X u τ W1 P)) : WS K X (tIfS tt t u) τ W P := fun σ H M D s R kx k =>
  h σ H M _ s R kx fun c H1 M1 W1 ⟨q1, q2⟩ R1 t1 => by
    cases c with
    | true => exact q1 rfl σ H1 M1 D (s.mono t1.sm) R1 (kx.on t1) (k.on t1)
    | false => exact q2 rfl σ H1 M1 D (s.mono t1.sm) R1 (kx.on t1) (k.on t1)
theorem ws_augI {f : Int → Int → Int} (e : τ[n]? = some (some (.d (.int i)))) (h : WE K X te τ W fun x W1 => ∃ j, x = .d (.int j) ∧ P.nx (τ.set n (some (.d (.int (f i j))))) W1) : WS K X (tAug n te (ipI f)) τ W P := fun σ H M D s R kx k => by
  obtain ⟨v, h1, h2⟩ := s.get e
  cases h2
  exact ⟨_, h1, h σ H M _ s R kx fun x v H1 M1 W1 ⟨j, e, q1⟩ R1 t1 p => by
    subst e
    cases p
    exact ⟨_, _, rfl, rfl, (k.on t1).nx _ _ _ _ _ q1 ((s.mono t1.sm).set n (Dp.int _)) R1 (.refl ..)⟩⟩
/-! while: I by a measure -/
theorem ws_while (I : Nat → Ts → Wd → Prop) (m : Nat) (h0 : I m τ W) (h : ∀ m τ W, I m τ W → WT K X tt τ W fun c W1 => (c = true → WS K X t τ W1 { P with nx := fun τ2 W2_ => ∃ m', m' < m ∧ I m' τ2 W2_, ct := fun τ2 W2_ => ∃ m', m' < m ∧ I m' τ2 W2_, bk := P.nx }) ∧ (c = false → P.nx τ W1)) :
    WS K X (tWhile tt t) τ W P := fun σ H M D s R kx k => by
  refine ⟨fun m' σ' H' => ∃ τ' M' W', I m' τ' W' ∧ SR K M' τ' σ' ∧ Rp K H' M' W' ∧ Tr H M W H' M' W', ⟨m, τ, M, W, h0, s, R, .refl ..⟩, ?_⟩
  rintro m1 σ1 H1 ⟨τ1, M1, W1, i1, s1, R1, t1⟩
  refine h m1 τ1 W1 i1 σ1 H1 M1 _ s1 R1 (kx.on t1) fun c H2 M2 W2_ ⟨q1, q2⟩ R2 t2 => ?_
  cases c with
  | false => exact k.nx _ _ _ _ _ (q2 rfl) (s1.mono t2.sm) R2 (t1.trans t2)
  | true =>
    rw [if_pos rfl]
    refine ⟨fun σ' H' => ∃ m', m' < m1 ∧ ∃ τ' M' W', I m' τ' W' ∧ SR K M' τ' σ' ∧ Rp K H' M' W' ∧ Tr H M W H' M' W', fun σ' H' ⟨m', hm, z⟩ => ⟨m', hm, z⟩, ?_⟩
    refine q1 rfl σ1 H2 M2 _ (s1.mono t2.sm) R2 (kx.on (t1.trans t2)) ⟨?_, (k.on (t1.trans t2)).rt, (k.on (t1.trans t2)).nx, ?_⟩
    · exact fun τ3 σ3 H3 M3 W3_ ⟨m', hm, q⟩ s3 R3 t3 => ⟨m', hm, τ3, M3, W3_, q, s3, R3, (t1.trans t2).trans t3⟩
    · exact fun τ3 σ3 H3 M3 W3_ ⟨m', hm, q⟩ s3 R3 t3 => ⟨m', hm, τ3, M3, W3_, q, s3, R3, (t1.trans t2).trans t3⟩
/-! walks -/
/-- n turns, item i; what must stay -/
def WI (K : PySem.W.Frag) (X : XC) (wi : TI) (τ : Ts) (W : Wd) (Ξ : Nat → (Nat → VX) → (Wd → Prop) → Wd → Prop) : Prop := ∀ σ H M (R_ : It → Hp → Prop), SR K M τ σ → Rp K H M W → Kx K X H M W →
  (∀ J H1 M1 W1 n it st, Ξ n it st W1 → Rp K H1 M1 W1 → Tr H M W H1 M1 W1 →
    (∀ i H2 M2 W2_, i ≤ n → Rp K H2 M2 W2_ → Same M1 M2 → st W2_ → (i < n → J.go i H2 ∧ ∀ x H3, J.yld i H2 x H3 → ∃ M3, Rp K H3 M3 W2_ ∧ Tr H2 M2 W2_ H3 M3 W2_ ∧ VR K M3 (it i) x) ∧ (i = n → J.stop i H2)) → R_ J H1) → wi σ H R_
theorem ws_for {wi : TI} (h : WI K X wi τ W fun n it st W1 => ∃ I : Nat → Ts → Wd → Prop, I 0 τ W1 ∧ (∀ i τ' W', i ≤ n → I i τ' W' → st W') ∧
    (∀ i τ' W', i < n → I i τ' W' → WG K X g (it i) τ' W' fun τ2 W2_ => WS K X t τ2 W2_ { P with nx := I (i + 1), ct := I (i + 1), bk := P.nx }) ∧ (∀ τ' W', I n τ' W' → P.nx τ' W')) : WS K X (tFor wi g t) τ W P := fun σ H M D s R kx k => by
  refine h σ H M _ s R kx fun J H1 M1 W1 n it st ⟨I, h0, hst, hstep, hend⟩ R1 t1 hJ => ?_
  refine ⟨fun i m σ' H' => m = n - i ∧ i ≤ n ∧ ∃ τ' M' W', I i τ' W' ∧ SR K M' τ' σ' ∧ Rp K H' M' W' ∧ Tr H1 M1 W1 H' M' W', ⟨n, by simp, Nat.zero_le _, τ, M1, W1, h0, s.mono t1.sm, R1, .refl ..⟩, ?_⟩
  rintro i m σ2 H2 ⟨rfl, hi, τ2, M2, W2_, i2, s2, R2, t2⟩
  obtain ⟨go, stop⟩ := hJ i H2 M2 W2_ hi R2 t2.sm (hst i τ2 W2_ hi i2)
  by_cases hlt : i < n
  · obtain ⟨g1, y1⟩ := go hlt
    refine .inr ⟨g1, fun σ' H' => ∃ τ' M' W', I (i + 1) τ' W' ∧ SR K M' τ' σ' ∧ Rp K H' M' W' ∧ Tr H1 M1 W1 H' M' W', fun σ' H' z => ⟨n - (i + 1), by omega, rfl, hlt, z⟩, fun x H3 hy => ?_⟩
    obtain ⟨M3, R3, t3, p3⟩ := y1 x H3 hy
    have t23 := t2.trans t3
    refine hstep i τ2 W2_ hlt i2 σ2 H3 M3 x _ (s2.mono t3.sm) R3 (kx.on (t1.trans t23)) p3 fun τ4 σ4 H4 M4 W4 q4 s4 R4 t4 => ?_
    have t24 := t23.trans t4
    refine q4 σ4 H4 M4 _ s4 R4 (kx.on (t1.trans t24)) ⟨?_, (k.on (t1.trans t24)).rt, (k.on (t1.trans t24)).nx, ?_⟩
    · exact fun τ5 σ5 H5 M5 W5 q s5 R5 t5 => ⟨τ5, M5, W5, q, s5, R5, t24.trans t5⟩
    · exact fun τ5 σ5 H5 M5 W5 q s5 R5 t5 => ⟨τ5, M5, W5, q, s5, R5, t24.trans t5⟩
  · have e : i = n := by omega
    subst e
    exact .inl ⟨stop rfl, k.nx _ _ _ _ _ (hend _ _ i2) s2 R2 (t1.trans t2)⟩
theorem wi_tup {Ξ : Nat → (Nat → VX) → (Wd → Prop) → Wd → Prop} (h : WE K X te τ W fun x W1 => ∃ ds, x = .d (.tuple ds) ∧ Ξ ds.length (fun i => .d (ds.getD i .none)) (fun _ => True) W1) : WI K X (iTup K te) τ W Ξ := fun σ H M R_ s R kx k =>
  h σ H M _ s R kx fun x v H1 M1 W1 ⟨ds, e, q⟩ R1 t1 p => by
    subst e
    cases p with
    | @tup a xs _ h1 h2 =>
      refine ⟨a, rfl, ⟨xs, sqT_same R1.sm h1⟩, k _ H1 M1 W1 _ _ _ q R1 t1 fun i H2 M2 W2_ hi R2 sm _ => ?_⟩
      have hs : SqT K H2 a xs := sqT_same (sm.trans R2.sm) h1
      have hl := dpAll_len h2
      refine ⟨fun hlt => ?_, fun e => ⟨xs, hs, by omega⟩⟩
      obtain ⟨u, hu, du⟩ := dpAll_get h2 (i := i) (d := ds.getD i .none) (by simp [hlt])
      exact ⟨⟨xs, u, hs, hu⟩, fun y H3 ⟨e, z⟩ => by
        subst e
        have := z xs hs
        rw [hu] at this
        cases this
        exact ⟨M2, R2, .refl .., dp_mono sm du⟩⟩
theorem wi_list {Ξ : Nat → (Nat → VX) → (Wd → Prop) → Wd → Prop} (h : WE K X te τ W fun x W1 => ∃ ds, x = .d (.list ds) ∧ Ξ ds.length (fun i => .d (ds.getD i .none)) (fun _ => True) W1) : WI K X (iList K te) τ W Ξ := fun σ H M R_ s R kx k =>
  h σ H M _ s R kx fun x v H1 M1 W1 ⟨ds, e, q⟩ R1 t1 p => by
    subst e
    cases p with
    | @lst a xs _ h1 h2 =>
      refine ⟨a, rfl, ⟨xs, R1.sm.seq h1⟩, k _ H1 M1 W1 _ _ _ q R1 t1 fun i H2 M2 W2_ hi R2 sm _ => ?_⟩
      have hs : SqL K H2 a xs := (sm.trans R2.sm).seq h1
      have hl := dpAll_len h2
      refine ⟨fun hlt => ?_, fun e => ⟨xs, hs, by omega⟩⟩
      obtain ⟨u, hu, du⟩ := dpAll_get h2 (i := i) (d := ds.getD i .none) (by simp [hlt])
      exact ⟨⟨xs, u, hs, hu⟩, fun y H3 ⟨e, z⟩ => by
        subst e
        have := z xs hs
        rw [hu] at this
        cases this
        exact ⟨M2, R2, .refl .., dp_mono sm du⟩⟩
/-- over a cell that stays as it is -/
theorem wi_listO {Ξ : Nat → (Nat → VX) → (Wd → Prop) → Wd → Prop} (h : WE K X te τ W fun x W1 => ∃ a xs, x = .r (.ref a) ∧ (a, OC.lst xs) ∈ W1.c ∧ Ξ xs.length (fun i => xs.getD i (.d .none)) (fun W2_ => (a, OC.lst xs) ∈ W2_.c) W1) : WI K X (iList K te) τ W Ξ := fun σ H M R_ s R kx k =>
  h σ H M _ s R kx fun x v H1 M1 W1 ⟨a, xs, e, m, q⟩ R1 t1 p => by
    subst e
    cases p
    obtain ⟨vs, h1, h2⟩ := R1.cell _ m
    refine ⟨a, rfl, ⟨vs, SqL.of h1⟩, k _ H1 M1 W1 _ _ _ q R1 t1 fun i H2 M2 W2_ hi R2 sm m2 => ?_⟩
    obtain ⟨ws, h3, h4⟩ := R2.cell _ m2
    have hs : SqL K H2 a ws := SqL.of h3
    have hl := paired_len h4
    refine ⟨fun hlt => ?_, fun e => ⟨ws, hs, by omega⟩⟩
    obtain ⟨u, hu, du⟩ := paired_get' h4 (i := i) (x := xs.getD i (.d .none)) (by simp [hlt])
    exact ⟨⟨ws, u, hs, hu⟩, fun y H3 ⟨e, z⟩ => by
      subst e
      have := z ws hs
      rw [hu] at this
      cases this
      exact ⟨M2, R2, .refl .., du⟩⟩
theorem wi_rng1 {Ξ : Nat → (Nat → VX) → (Wd → Prop) → Wd → Prop} (h : WA K X tA τ W fun xs W1 => ∃ j : Int, xs = [.d (.int j)] ∧ -(2 ^ 62) ≤ j ∧ j < 2 ^ 62 ∧ Ξ j.toNat (fun i => .d (.int (i : Nat))) (fun _ => True) W1) : WI K X (iRng1 tA) τ W Ξ := fun σ H M R_ s R kx k =>
  h σ H M _ s R kx fun xs vs H1 M1 W1 ⟨j, e, l, u, q⟩ R1 t1 p => by
    subst e
    cases p with
    | cons p1 p => cases p; cases p1; exact ⟨j, rfl, l, u, k _ H1 M1 W1 _ _ _ q R1 t1 fun i H2 M2 W2_ hi R2 sm _ => ⟨fun hlt => ⟨hlt, fun y H3 ⟨e, z⟩ => by
        subst e; subst z
        exact ⟨M2, R2, .refl .., by rw [Int.zero_add]; exact Dp.int _⟩⟩, fun e => Nat.le_of_eq e.symm⟩⟩
theorem wi_rng2 {Ξ : Nat → (Nat → VX) → (Wd → Prop) → Wd → Prop} (h : WA K X tA τ W fun xs W1 => ∃ l j : Int, xs = [.d (.int l), .d (.int j)] ∧ (-(2 ^ 62) ≤ l ∧ l < 2 ^ 62 ∧ -(2 ^ 62) ≤ j ∧ j < 2 ^ 62) ∧ Ξ (j - l).toNat (fun i => .d (.int (l + (i : Nat)))) (fun _ => True) W1) : WI K X (iRng2 tA) τ W Ξ := fun σ H M R_ s R kx k =>
  h σ H M _ s R kx fun xs vs H1 M1 W1 ⟨l, j, e, b, q⟩ R1 t1 p => by
    subst e
    cases p with
    | cons p1 p => cases p with
      | cons p2 p => cases p; cases p1; cases p2; exact ⟨l, j, rfl, b, k _ H1 M1 W1 _ _ _ q R1 t1 fun i H2 M2 W2_ hi R2 sm _ => ⟨fun hlt => ⟨hlt, fun y H3 ⟨e, z⟩ => by
          subst e; subst z
          exact ⟨M2, R2, .refl .., Dp.int _⟩⟩, fun e => Nat.le_of_eq e.symm⟩⟩
theorem wi_enumT {Ξ : Nat → (Nat → VX) → (Wd → Prop) → Wd → Prop} (h : WA K X tA τ W fun xs W1 => ∃ ds, xs = [.d (.tuple ds)] ∧ Ξ ds.length (fun i => .d (.tuple [.int (i : Nat), ds.getD i .none])) (fun _ => True) W1) : WI K X (iEnumT K tA) τ W Ξ := fun σ H M R_ s R kx k =>
  h σ H M _ s R kx fun xs vs H1 M1 W1 ⟨ds, e, q⟩ R1 t1 p => by
    subst e
    cases p with
    | cons p1 p =>
      cases p
      cases p1 with
      | @tup a xs _ h1 h2 =>
        refine ⟨a, xs, rfl, sqT_same R1.sm h1, k _ H1 M1 W1 _ _ _ q R1 t1 fun i H2 M2 W2_ hi R2 sm _ => ?_⟩
        have hs : SqT K H2 a xs := sqT_same (sm.trans R2.sm) h1
        have hl := dpAll_len h2
        refine ⟨fun hlt => ?_, fun e => ⟨xs, hs, by omega⟩⟩
        obtain ⟨u, hu, du⟩ := dpAll_get h2 (i := i) (d := ds.getD i .none) (by simp [hlt])
        refine ⟨⟨xs, u, hs, hu⟩, fun y H3 ⟨T, x, e1, nT, e2, z⟩ => ?_⟩
        subst e1; subst e2
        have := z xs hs
        rw [hu] at this
        cases this
        obtain ⟨R3, t3, s3⟩ := R2.new (o := .tup [.int ((i : Nat) : Int), u]) nT
        exact ⟨_, R3, t3, Dp.tup (SqT.of upd_same) (.cons (.int _) (.cons (dp_mono (sm.trans s3) du) .nil))⟩
end
end DW

namespace DW
open PySem PySem.Spec PyProof.Rows L2
section
variable {K : PySem.W.Frag} {X : XC} {τ : Ts} {W : Wd} {Φ : VX → Wd → Prop} {Ψ : Bool → Wd → Prop} {ΦA : List VX → Wd → Prop} {ΦT : Ts → Wd → Prop} {ΦO : Option Int → Wd → Prop} {te ta tb tc td ty tv : TE} {tt tt2 : TT} {tA tR : TA} {t u : TS} {P : Pst} {n : Nat} {x y z : VX} {r r' : R2} {g : TG} {tg : TGs} {ds es : List PyData} {d e : PyData} {i j : Int} {a b : Addr} {o : OC} {f : OC → List (Addr × OC)}
/-! ### comprehensions -/
def setAll (σ : L2.St) : List (Nat × V) → L2.St
  | [] => σ
  | p :: l => setAll (σ.set p.1 (some p.2)) l
def setT (τ : Ts) : List (Nat × VX) → Ts
  | [] => τ
  | p :: l => setT (τ.set p.1 (some p.2)) l
def wipeT (τ : Ts) : List Nat → Ts
  | [] => τ
  | v :: vs => (wipeT τ vs).set v none
theorem wipe_len (σ : L2.St) : ∀ vs : List Nat, (wipe σ vs).length = σ.length
  | [] => rfl
  | v :: vs => by unfold wipe; rw [List.length_set, wipe_len σ vs]
theorem wipe_at (σ : L2.St) : ∀ (vs : List Nat) (i : Nat), i < σ.length → (wipe σ vs)[i]? = if i ∈ vs then some none else σ[i]?
  | [], i, _ => by unfold wipe; simp
  | v :: vs, i, h => by
    unfold wipe
    by_cases c : v = i
    · subst c
      rw [List.getElem?_set_self (by rw [wipe_len]; exact h), if_pos (List.mem_cons_self ..)]
    · rw [List.getElem?_set_ne c, wipe_at σ vs i h]
      have e : i ∈ v :: vs ↔ i ∈ vs := ⟨fun z => (List.mem_cons.mp z).elim (fun q => absurd q.symm c) id, fun z => List.mem_cons_of_mem _ z⟩
      simp only [e]
theorem setAll_len : ∀ (l : List (Nat × V)) (σ : L2.St), (setAll σ l).length = σ.length
  | [], _ => rfl
  | p :: l, σ => by unfold setAll; rw [setAll_len l]; exact List.length_set
theorem setAll_at : ∀ (l : List (Nat × V)) (σ : L2.St) (i : Nat), i ∉ l.map (·.1) → (setAll σ l)[i]? = σ[i]?
  | [], _, _, _ => rfl
  | p :: l, σ, i, h => by
    unfold setAll
    rw [List.map_cons, List.mem_cons, not_or] at h
    rw [setAll_at l _ i h.2, List.getElem?_set_ne (fun z => h.1 z.symm)]
theorem wipe_setAll {σ : L2.St} {vs : List Nat} {l : List (Nat × V)} (h : ∀ p ∈ l, p.1 ∈ vs) : wipe (setAll (wipe σ vs) l) vs = wipe σ vs := by
  apply List.ext_getElem?
  intro i
  by_cases hi : i < σ.length
  · rw [wipe_at _ vs i (by rw [setAll_len, wipe_len]; exact hi), wipe_at σ vs i hi]
    by_cases c : i ∈ vs
    · rw [if_pos c, if_pos c]
    · rw [if_neg c, if_neg c, setAll_at _ _ _ (fun z => ?_), wipe_at σ vs i hi, if_neg c]
      obtain ⟨p, hp, e⟩ := List.mem_map.mp z
      exact c (e ▸ h p hp)
  · rw [List.getElem?_eq_none (by rw [wipe_len, setAll_len, wipe_len]; omega), List.getElem?_eq_none (by rw [wipe_len]; omega)]
theorem SR.wipe {M : Hp} {σ : L2.St} (s : SR K M τ σ) : ∀ vs : List Nat, SR K M (wipeT τ vs) (L2.wipe σ vs)
  | [] => s
  | v :: vs => paired_set' (fun y hy => by cases hy) v (s.wipe vs)
theorem SR.setAll {M : Hp} : ∀ {l : List (Nat × VX)} {us : List V} {τ : Ts} {σ : L2.St}, SR K M τ σ → Paired (VR K M) (l.map (·.2)) us → SR K M (setT τ l) (DW.setAll σ ((l.map (·.1)).zip us))
  | [], _, _, _, s, _ => s
  | p :: l, _, _, _, s, .cons r q => SR.setAll (l := l) (s.set p.1 r) q
/-- a target of names: L the slots and what they get -/
def CG (K : PySem.W.Frag) (g : TG) (x : VX) (L : List (Nat × VX)) : Prop := ∀ σ H M W v Q, Rp K H M W → VR K M x v → (∀ us, Paired (VR K M) (L.map (·.2)) us → Q (setAll σ ((L.map (·.1)).zip us)) H) → g v σ H Q
def CGs (K : PySem.W.Frag) (g : TGs) (xs : List VX) (L : List (Nat × VX)) : Prop := ∀ σ H M W vs Q, Rp K H M W → Paired (VR K M) xs vs → (∀ us, Paired (VR K M) (L.map (·.2)) us → Q (setAll σ ((L.map (·.1)).zip us)) H) → g vs σ H Q
theorem cg_name : CG K (gName n) x [(n, x)] := fun σ H M W v Q R p k => k [v] (.cons p .nil)
theorem cgs_nil : CGs K gNil [] [] := fun σ H M W vs Q R p k => by cases p; exact ⟨rfl, k [] .nil⟩
theorem paired_split {α β : Type} {F : α → β → Prop} : ∀ {l l' : List α} {m : List β}, Paired F (l ++ l') m → ∃ m1 m2, m = m1 ++ m2 ∧ Paired F l m1 ∧ Paired F l' m2
  | [], _, m, h => ⟨[], m, rfl, .nil, h⟩
  | _ :: _, _, _, .cons r t => let ⟨m1, m2, e, h1, h2⟩ := paired_split t; ⟨_ :: m1, m2, by rw [e]; rfl, .cons r h1, h2⟩
theorem paired_append {α β : Type} {F : α → β → Prop} : ∀ {l₁ l₂ : List α} {m₁ m₂ : List β}, Paired F l₁ m₁ → Paired F l₂ m₂ → Paired F (l₁ ++ l₂) (m₁ ++ m₂)
  | _, _, _, _, .nil, s => s
  | _, _, _, _, .cons r t, s => .cons r (paired_append t s)
theorem setAll_app : ∀ (l m : List (Nat × V)) (σ : L2.St), setAll σ (l ++ m) = setAll (setAll σ l) m
  | [], _, _ => rfl
  | p :: l, m, σ => setAll_app l m _
theorem cgs_cons {xs : List VX} {L L' : List (Nat × VX)} (h1 : CG K g x L) (h2 : CGs K tg xs L') : CGs K (gCons g tg) (x :: xs) (L ++ L') := fun σ H M W vs Q R p k => by
  cases p with
  | cons p1 p2 => exact ⟨_, _, rfl, h1 σ H M W _ _ R p1 fun us q1 => h2 _ H M W _ Q R p2 fun ws q2 => by
      have z := k (us ++ ws) (by rw [List.map_append]; exact paired_append q1 q2)
      rw [List.map_append, List.zip_append (by rw [List.length_map]; have := paired_len q1; rwa [List.length_map] at this), setAll_app] at z
      exact z⟩
theorem cg_tup {L : List (Nat × VX)} (hn : ds.length = n) (h : CGs K tg (ds.map .d) L) : CG K (gTup K n tg) (.d (.tuple ds)) L := fun σ H M W v Q R p k => by
  cases p with
  | @tup a xs _ h1 h2 => exact ⟨a, xs, rfl, sqT_same R.sm h1, by rw [← dpAll_len h2]; exact hn, h σ H M W xs Q R (of_dpAll h2) k⟩
/-- what is outside becomes data -/
theorem Rp.adopt {H0 M0 H M : Hp} {W0 : Wd} {D : Addr} {vs : List V} (R : Rp K H M W) (t : Tr H0 M0 W0 H M W) (n0 : H0 D = none) (hD : H D = some (.lst vs)) (mD : M D = none) (cD : D ∉ W.c.map (·.1)) (p : DpAll K M vs ds) :
    ∃ M', Rp K H M' W ∧ Tr H0 M0 W0 H M' W ∧ Dp K M' (.ref D) (.list ds) := by
  have sM : Same M (upd M D (.lst vs)) := .new mD
  refine ⟨upd M D (.lst vs), ⟨fun b u e => ?_, R.nd, fun q hq => ?_, fun q hq => (R.cell q hq).mono sM fun _ e => e, R.gok, R.g⟩, ⟨t.sm.trans sM, t.st, fun b u e1 ec e2 e3 => ?_⟩, .lst (SqL.of upd_same) (dpAll_mono sM p)⟩
  · by_cases c : b = D
    · subst c; rw [upd_same] at e; rw [← e]; exact hD
    · rw [upd_ne c] at e; exact R.sm _ _ e
  · have : q.1 ≠ D := fun z => cD (List.mem_map.mpr ⟨q, hq, z⟩)
    rw [upd_ne this]; exact R.out q hq
  · obtain ⟨z1, z2, z3⟩ := t.fr b u e1 ec e2 e3
    refine ⟨z1, ?_, z3⟩
    rw [upd_ne (ne_of_none e1 n0)]; exact z2
theorem Rp.own {H0 M0 H M : Hp} {W0 : Wd} {D : Addr} {vs : List V} {xs : List VX} (R : Rp K H M W) (t : Tr H0 M0 W0 H M W) (n0 : H0 D = none) (hD : H D = some (.lst vs)) (mD : M D = none) (cD : D ∉ W.c.map (·.1)) (p : Paired (VR K M) xs vs) :
    Rp K H M ⟨(D, .lst xs) :: W.c, W.g⟩ ∧ Tr H0 M0 W0 H M ⟨(D, .lst xs) :: W.c, W.g⟩ := by
  refine ⟨⟨R.sm, List.nodup_cons.mpr ⟨cD, R.nd⟩, fun q hq => ?_, fun q hq => ?_, R.gok, R.g⟩, ⟨t.sm, t.st, fun b u e1 ec e2 e3 => ?_⟩⟩
  · rcases List.mem_cons.mp hq with rfl | hq
    · exact mD
    · exact R.out q hq
  · rcases List.mem_cons.mp hq with rfl | hq
    · exact ⟨vs, hD, p⟩
    · exact R.cell q hq
  · obtain ⟨z1, z2, z3⟩ := t.fr b u e1 ec e2 e3
    refine ⟨z1, z2, fun z => ?_⟩
    rcases List.mem_cons.mp z with z | z
    · exact ne_of_none e1 n0 z
    · exact z3 z
/-- the walk's turns; what is made is handed on at the end -/
theorem we_lcG {wi : TI} {vs : List Nat} (h : WI K X wi τ W fun n it st W1 => n ≤ 100000 ∧ ∃ I : Nat → List VX → Wd → Prop, I 0 [] W1 ∧ (∀ i acc W', i ≤ n → I i acc W' → st W') ∧
    (∀ i acc W', i < n → I i acc W' → ∃ L, CG K g (it i) L ∧ (∀ p ∈ L, p.1 ∈ vs) ∧ WT K X tt (setT (wipeT τ vs) L) W' fun b W2_ => (b = true → WE K X te (setT (wipeT τ vs) L) W2_ fun y W3_ => I (i + 1) (acc ++ [y]) W3_) ∧ (b = false → I (i + 1) acc W2_)) ∧
    (∀ acc W', I n acc W' → (∃ ds, acc = ds.map .d ∧ Φ (.d (.list ds)) W') ∨ ∀ D, Φ (.r (.ref D)) ⟨(D, .lst acc) :: W'.c, W'.g⟩)) : WE K X (tLc wi g tt te vs) τ W Φ := fun σ H M Q s R kx k => by
  refine h σ H M _ s R kx fun J H1 M1 W1 n it st ⟨hn, I, h0, hst, hstep, hend⟩ R1 t1 hJ D nD => ?_
  have m1 : M1 D = none := by
    cases e : M1 D with
    | none => rfl
    | some u => have := R1.sm _ _ e; rw [nD] at this; cases this
  have c1 : D ∉ W1.c.map (·.1) := fun z => by
    obtain ⟨q, hq, e⟩ := List.mem_map.mp z
    obtain ⟨u, hu, _⟩ := (R1.cell q hq).some
    rw [e, nD] at hu; cases hu
  refine ⟨fun i m H' => m = n - i ∧ i ≤ n ∧ ∃ acc us M' W', I i acc W' ∧ acc.length ≤ i ∧ H' D = some (.lst us) ∧ Paired (VR K M') acc us ∧ M' D = none ∧ D ∉ W'.c.map (·.1) ∧ Rp K H' M' W' ∧ Tr H1 M1 W1 H' M' W', ⟨n, by simp, Nat.zero_le _, [], [], M1, W1, h0, Nat.zero_le _, upd_same, .nil, m1, c1, ⟨?_, R1.nd, R1.out, fun q hq => (R1.cell q hq).mono (.refl _) fun u e => ?_, R1.gok, R1.gok H1 _ (fun b u e _ => ?_) R1.g⟩, ⟨.refl _, fun b u e1 _ => ?_, fun b u e1 _ e2 e3 => ⟨?_, e2, e3⟩⟩⟩, ?_⟩
  · exact fun b u e => by rw [upd_ne (ne_of_none (R1.sm _ _ e) nD)]; exact R1.sm _ _ e
  · rw [upd_ne (ne_of_none e nD)]; exact e
  · rw [upd_ne (ne_of_none e nD)]; exact e
  · rw [upd_ne (ne_of_none e1 nD)]; exact e1
  · rw [upd_ne (ne_of_none e1 nD)]; exact e1
  rintro i m H2 ⟨rfl, hi, acc, us, M2, W2_, i2, la, hD, pa, mD, cD, R2, t2⟩
  obtain ⟨go, stop⟩ := hJ i H2 M2 W2_ hi R2 t2.sm (hst i acc W2_ hi i2)
  by_cases hlt : i < n
  · obtain ⟨g1, y1⟩ := go hlt
    refine .inr ⟨g1, fun H' => ∃ acc us M' W', I (i + 1) acc W' ∧ acc.length ≤ i + 1 ∧ H' D = some (.lst us) ∧ Paired (VR K M') acc us ∧ M' D = none ∧ D ∉ W'.c.map (·.1) ∧ Rp K H' M' W' ∧ Tr H1 M1 W1 H' M' W', fun H' z => ⟨n - (i + 1), by omega, rfl, hlt, z⟩, fun x H3 hy => ?_⟩
    obtain ⟨M3, R3, t3, p3⟩ := y1 x H3 hy
    obtain ⟨L, hL, hvs, hT⟩ := hstep i acc W2_ hlt i2
    have t23 := t2.trans t3
    refine hL _ H3 M3 W2_ x _ R3 p3 fun ws pw => ?_
    have sT : SR K M3 (setT (wipeT τ vs) L) (setAll (wipe σ vs) ((L.map (·.1)).zip ws)) := ((s.mono (t1.trans t23).sm).wipe vs).setAll pw
    refine ⟨wipe_setAll fun p hp => ?_, hT _ H3 M3 _ sT R3 (kx.on (t1.trans t23)) fun b H4 M4 W4 ⟨q1, q2⟩ R4 t4 => ?_⟩
    · have hp1 : p.1 ∈ L.map (·.1) := (List.of_mem_zip (a := p.1) (b := p.2) hp).1
      obtain ⟨q, hq, e⟩ := List.mem_map.mp hp1
      exact e ▸ hvs q hq
    · obtain ⟨f1, f2, f3⟩ := t3.fr D _ hD trivial mD cD
      obtain ⟨f4, f5, f6⟩ := t4.fr D _ f1 trivial f2 f3
      cases b with
      | false => exact ⟨acc, us, M4, W4, q2 rfl, by omega, f4, VRs.mono (t3.trans t4).sm pa, f5, f6, R4, t23.trans t4⟩
      | true =>
        rw [if_pos rfl]
        refine q1 rfl _ H4 M4 _ (sT.mono t4.sm) R4 (kx.on (t1.trans (t23.trans t4))) fun y v H5 M5 W5 q5 R5 t5 p5 => ?_
        obtain ⟨f7, f8, f9⟩ := t5.fr D _ f4 trivial f5 f6
        have pu := VRs.mono (t3.trans (t4.trans t5)).sm pa
        refine ⟨us, f7, Nat.lt_of_lt_of_le (n := us.length) (m := 100000) ?_ (by decide), acc ++ [y], us ++ [v], M5, W5, q5, by simp; exact la, upd_same, paired_append pu (.cons p5 .nil), f8, f9, ⟨fun b u e => ?_, R5.nd, R5.out, fun q hq => (R5.cell q hq).mono (.refl _) fun u e => ?_, R5.gok, R5.gok H5 _ (fun b u e nz => ?_) R5.g⟩, ⟨(t23.trans (t4.trans t5)).sm, fun b u e1 nz => ?_, fun b u e1 ec e2 e3 => ?_⟩⟩
        · rw [← paired_len pu]; omega
        · rw [upd_ne (ne_of_none e f8)]; exact R5.sm _ _ e
        · have : q.1 ≠ D := fun z => f9 (List.mem_map.mpr ⟨q, hq, z⟩)
          rw [upd_ne this]; exact e
        · by_cases c : b = D
          · subst c; rw [f7] at e; cases e; exact absurd trivial nz
          · rw [upd_ne c]; exact e
        · rw [upd_ne (ne_of_none e1 nD)]; exact (t23.trans (t4.trans t5)).st b u e1 nz
        · rw [upd_ne (ne_of_none e1 nD)]; exact (t23.trans (t4.trans t5)).fr b u e1 ec e2 e3
  · have e : i = n := by omega
    subst e
    refine .inl ⟨stop rfl, ?_⟩
    rcases hend acc W2_ i2 with ⟨ds, rfl, q⟩ | q
    · obtain ⟨M', R', t', p'⟩ := R2.adopt t2 nD hD mD cD (dpAll_of pa)
      exact k _ _ _ _ _ q R' (t1.trans t') p'
    · obtain ⟨R', t'⟩ := R2.own t2 nD hD mD cD pa
      exact k _ _ _ _ _ (q D) R' (t1.trans t') rfl
/-! ### calls -/
theorem we_CB {rb : List V → Hp → VK → Prop} (h : WA K X tA τ W fun xs W1 => WB K X rb xs W1 Φ) : WE K X (tCB rb tA) τ W Φ := fun σ H M Q s R kx k =>
  h σ H M _ s R kx fun xs vs H1 M1 W1 q1 R1 t1 p => q1 H1 M1 vs Q R1 p (kx.on t1) (k.on t1)
def SPC (sp : Sp) (dvs : List V) (E : XK) : List V → Hp → VK → Prop := fun vs H Q => sp (vs ++ dvs) H Q E
theorem we_call {sp : Sp} {dvs : List V} {E : XK} (h : WA K X tA τ W fun xs W1 => WB K X (SPC sp dvs E) xs W1 Φ) : WE K X (tCall sp dvs E tA) τ W Φ := fun σ H M Q s R kx k =>
  h σ H M _ s R kx fun xs vs H1 M1 W1 q1 R1 t1 p => q1 H1 M1 vs Q R1 p (kx.on t1) (k.on t1)
end
/-- a promise, told by data and cells -/
def SPEC0 (K : PySem.W.Frag) (A : List VX → Wd → (VX → Wd → Prop) → Prop) : Sp := fun vs H Q _ => ∃ M W xs Φ, Rp K H M W ∧ Paired (VR K M) xs vs ∧ A xs W Φ ∧ Kt K H M W Φ Q
def SPECX (K : PySem.W.Frag) (ea : Str → Addr) (A : List VX → Wd → (VX → Wd → Prop) → (Str → Option (Str × VX) → Wd → Prop) → Prop) : Sp := fun vs H Q E => ∃ M W xs Φ Ξ, Rp K H M W ∧ Paired (VR K M) xs vs ∧ A xs W Φ Ξ ∧ Kx K ⟨E, ea, Ξ⟩ H M W ∧ Kt K H M W Φ Q
section
variable {K : PySem.W.Frag} {X : XC} {τ : Ts} {W : Wd} {Φ : VX → Wd → Prop} {xs : List VX} {dvs : List V} {t : TS}
theorem wb_spec0 {A : List VX → Wd → (VX → Wd → Prop) → Prop} {E : XK} (h : A xs W Φ) : WB K X (SPC (SPEC0 K A) [] E) xs W Φ := fun H M vs Q R p kx k => ⟨M, W, xs, Φ, R, by rw [List.append_nil]; exact p, h, k⟩
theorem wb_spec0D {A : List VX → Wd → (VX → Wd → Prop) → Prop} {E : XK} {dx : List VX} (hd : ∀ M, Paired (VR K M) dx dvs) (h : A (xs ++ dx) W Φ) : WB K X (SPC (SPEC0 K A) dvs E) xs W Φ := fun H M vs Q R p kx k => ⟨M, W, xs ++ dx, Φ, R, paired_append p (hd M), h, k⟩
theorem wb_specX {A : List VX → Wd → (VX → Wd → Prop) → (Str → Option (Str × VX) → Wd → Prop) → Prop} (h : A xs W Φ X.ex) : WB K X (SPC (SPECX K X.ea A) [] X.E) xs W Φ := fun H M vs Q R p kx k => ⟨M, W, xs, Φ, X.ex, R, by rw [List.append_nil]; exact p, h, kx, k⟩
/-- an older promise, told so -/
theorem wb_old {sp : Sp} {E : XK} (h : ∀ H M vs Q, Rp K H M W → Paired (VR K M) xs vs → Kx K X H M W → Kt K H M W Φ Q → sp vs H Q E) : WB K X (SPC sp [] E) xs W Φ := fun H M vs Q R p kx k => by
  show sp (vs ++ []) H Q E
  rw [List.append_nil]
  exact h H M vs Q R p kx k
theorem len0 {A : List VX → Wd → (VX → Wd → Prop) → Prop} {k : Nat} (hl : ∀ xs W Φ, A xs W Φ → xs.length = k) (vs : List V) (H : Hp) (Q : VK) (E : XK) (h : SPEC0 K A vs H Q E) : vs.length = k := by
  obtain ⟨M, W, xs, Φ, R, p, a, _⟩ := h
  rw [← paired_len p]
  exact hl _ _ _ a
theorem lenX {ea : Str → Addr} {A : List VX → Wd → (VX → Wd → Prop) → (Str → Option (Str × VX) → Wd → Prop) → Prop} {k : Nat} (hl : ∀ xs W Φ Ξ, A xs W Φ Ξ → xs.length = k) (vs : List V) (H : Hp) (Q : VK) (E : XK) (h : SPECX K ea A vs H Q E) : vs.length = k := by
  obtain ⟨M, W, xs, Φ, Ξ, R, p, a, _⟩ := h
  rw [← paired_len p]
  exact hl _ _ _ _ a
def P0 (Φ : VX → Wd → Prop) : Pst := ⟨fun _ W => Φ (.d .none) W, Φ, fun _ _ => False, fun _ _ => False⟩
def st0 (xs : List VX) (n : Nat) : Ts := xs.map some ++ List.replicate n none
theorem sr_some {M : Hp} : ∀ {xs : List VX} {vs : List V}, Paired (VR K M) xs vs → SR K M (xs.map some) (vs.map some)
  | _, _, .nil => .nil
  | _, _, .cons r t => .cons (fun y hy => by cases hy; exact ⟨_, rfl, r⟩) (sr_some t)
theorem sr_none {M : Hp} : ∀ n : Nat, SR K M (List.replicate n none) (List.replicate n none)
  | 0 => .nil
  | n + 1 => .cons (fun y hy => by cases hy) (sr_none n)
theorem sr_start {M : Hp} {N : List Str} {vs : List V} {n : Nat} (p : Paired (VR K M) xs vs) (hn : N.length - vs.length = n) : SR K M (st0 xs n) (L2.start N vs) := by
  unfold st0 L2.start
  rw [hn]
  exact paired_append (sr_some p) (sr_none n)
/-- a body meets its promise -/
theorem rd0 {A : List VX → Wd → (VX → Wd → Prop) → Prop} {N : List Str} {n k : Nat} (hN : N.length = k + n) (h : ∀ X xs W Φ, A xs W Φ → xs.length = k ∧ WS K X t (st0 xs n) W (P0 Φ)) (vs : List V) (H : Hp) (Q : VK) (E : XK) (sp : SPEC0 K A vs H Q E) : t { nx := fun _ H' => Q .non H', rt := Q } (L2.start N vs) H := by
  obtain ⟨M, W, xs, Φ, R, p, a, kt⟩ := sp
  obtain ⟨hl, ws⟩ := h ⟨E, fun _ => 0, fun _ _ _ => False⟩ xs W Φ a
  refine ws _ H M _ (sr_start p (by rw [← paired_len p, hl, hN]; omega)) R (fun _ _ _ _ _ z => z.elim) ⟨?_, kt, fun _ _ _ _ _ z => z.elim, fun _ _ _ _ _ z => z.elim⟩
  exact fun _ _ H' M' W' h1 _ R' t' => kt _ _ _ _ _ h1 R' t' Dp.non
theorem rdX {ea : Str → Addr} {A : List VX → Wd → (VX → Wd → Prop) → (Str → Option (Str × VX) → Wd → Prop) → Prop} {N : List Str} {n k : Nat} {tE : XK → TS} (hN : N.length = k + n) (h : ∀ E xs W Φ Ξ, A xs W Φ Ξ → xs.length = k ∧ WS K ⟨E, ea, Ξ⟩ (tE E) (st0 xs n) W (P0 Φ)) (vs : List V) (H : Hp) (Q : VK) (E : XK) (sp : SPECX K ea A vs H Q E) : tE E { nx := fun _ H' => Q .non H', rt := Q } (L2.start N vs) H := by
  obtain ⟨M, W, xs, Φ, Ξ, R, p, a, kx, kt⟩ := sp
  obtain ⟨hl, ws⟩ := h E xs W Φ Ξ a
  refine ws _ H M _ (sr_start p (by rw [← paired_len p, hl, hN]; omega)) R kx ⟨?_, kt, fun _ _ _ _ _ z => z.elim, fun _ _ _ _ _ z => z.elim⟩
  exact fun _ _ H' M' W' h1 _ R' t' => kt _ _ _ _ _ h1 R' t' Dp.non
theorem Rp.ext {H H' M : Hp} (e : Same H H') (R : Rp K H M W) : Rp K H' M W ∧ Tr H M W H' M W :=
  ⟨⟨R.sm.trans e, R.nd, R.out, fun q hq => (R.cell q hq).mono (.refl _) fun o z => e _ _ z, R.gok, R.gok H _ (fun b o z _ => e _ _ z) R.g⟩, ⟨.refl M, fun b o h _ => e _ _ h, fun b o h _ n c => ⟨e _ _ h, n, c⟩⟩⟩
/-! ### what may be made easier on the way -/
theorem we_imp {te : TE} {Φ' : VX → Wd → Prop} (h : ∀ x W, Φ' x W → Φ x W) (w : WE K X te τ W Φ') : WE K X te τ W Φ := fun σ H M Q s R kx k => w σ H M Q s R kx fun x v H' M' W' q => k x v H' M' W' (h x W' q)
theorem ws_imp {P P' : Pst} (h1 : ∀ τ W, P'.nx τ W → P.nx τ W) (h2 : ∀ x W, P'.rt x W → P.rt x W) (h3 : ∀ τ W, P'.bk τ W → P.bk τ W) (h4 : ∀ τ W, P'.ct τ W → P.ct τ W) (w : WS K X t τ W P') : WS K X t τ W P := fun σ H M D s R kx k =>
  w σ H M D s R kx ⟨fun a b c d e z => k.nx a b c d e (h1 _ _ z), fun a b c d e z => k.rt a b c d e (h2 _ _ z), fun a b c d e z => k.bk a b c d e (h3 _ _ z), fun a b c d e z => k.ct a b c d e (h4 _ _ z)⟩
/-- a value's cell becomes data -/
theorem we_fz {te : TE} (w : WE K X te τ W fun x W1 => ∃ a ds c, x = .r (.ref a) ∧ W1.c = (a, .lst (ds.map .d)) :: c ∧ Φ (.d (.list ds)) ⟨c, W1.g⟩) : WE K X te τ W Φ := fun σ H M Q s R kx k =>
  w σ H M Q s R kx fun x v H1 M1 W1 ⟨a, ds, c, e, e2, q⟩ R1 t1 p => by
    subst e
    cases p
    obtain ⟨c1, g1⟩ := W1
    cases e2
    obtain ⟨M2, R2, t2, p2⟩ := R1.fz
    exact k _ _ _ _ _ q R2 (t1.trans t2) p2
theorem we_drop {te : TE} (w : WE K X te τ W fun x W1 => ∃ p c, W1.c = p :: c ∧ Φ x ⟨c, W1.g⟩) : WE K X te τ W Φ := fun σ H M Q s R kx k =>
  w σ H M Q s R kx fun x v H1 M1 W1 ⟨q0, c, e2, q⟩ R1 t1 p => by
    obtain ⟨c1, g1⟩ := W1
    cases e2
    obtain ⟨R2, t2⟩ := R1.drop
    exact k _ _ _ _ _ q R2 (t1.trans t2) p
theorem ws_perm {c c' : List (Addr × OC)} {g : Hp → Prop} {P : Pst} (p : c.Perm c') (w : WS K X t τ ⟨c', g⟩ P) : WS K X t τ ⟨c, g⟩ P := fun σ H M D s R kx k => by
  obtain ⟨R2, t2⟩ := R.perm p
  exact w σ H M D s R2 (kx.on t2) (k.on t2)
theorem ws_drop1 {q : Addr × OC} {c : List (Addr × OC)} {g : Hp → Prop} {P : Pst} (w : WS K X t τ ⟨c, g⟩ P) : WS K X t τ ⟨q :: c, g⟩ P := fun σ H M D s R kx k => by
  obtain ⟨R2, t2⟩ := R.drop
  exact w σ H M D s R2 (kx.on t2) (k.on t2)
/-- what a slot's cell holds becomes data -/
theorem ws_fz {a : Addr} {ds : List PyData} {c : List (Addr × OC)} {g : Hp → Prop} {P : Pst} {n : Nat} (e : τ[n]? = some (some (.r (.ref a)))) (w : WS K X t (τ.set n (some (.d (.list ds)))) ⟨c, g⟩ P) : WS K X t τ ⟨(a, .lst (ds.map .d)) :: c, g⟩ P := fun σ H M D s R kx k => by
  obtain ⟨M2, R2, t2, p2⟩ := R.fz
  obtain ⟨v, h1, h2⟩ := s.get e
  cases h2
  have s2 := (s.mono t2.sm).set (x := .d (.list ds)) n p2
  have e2 : σ.set n (some (.ref a)) = σ := by
    apply List.ext_getElem?
    intro i
    by_cases z : n = i
    · subst z
      have hl : n < σ.length := (List.getElem?_eq_some_iff.mp h1).1
      rw [List.getElem?_set_self hl, h1]
    · rw [List.getElem?_set_ne z]
  rw [e2] at s2
  exact w σ H M2 D s2 R2 (kx.on t2) (k.on t2)
end
end DW

namespace DW
open PySem PySem.Spec PyProof.Rows L2
open PySem.W (maxD minD AlikeAll iter_listW moved_old cmpIn_gt cmpIn_lt argBest_fold readsAll_len dataLt)
/-! ### max and min of data, the item itself -/
section
variable {prog : Program} {w : World} {A : Around} {E : Value → Shared → Prop} {s : Shared} {l : Addr} {vs : Array Value} {x : PyData} {xs : List PyData} {as : List Addr} {Q : Value → Shared → Prop}
theorem best_len {f : PyData → PyData → Bool} (hn : vs.size = xs.length + 1) : (x :: xs).getD (argBest (fun i j => f ((x :: xs).getD i .none) ((x :: xs).getD j .none)) (vs.size - 1)) .none = xs.foldl (fun a y => if f y a then y else a) x := by
  have e := (argBest_fold f PyData.none x xs xs.length (Nat.le_refl _)).2
  have e1 : vs.size - 1 = xs.length := by omega
  rw [List.take_length] at e
  rw [e1]
  exact e
theorem maxAt (hh : A.handled = none) (isl : s.heap.IsList l vs) (rd : ReadsAll s.heap vs.toList (x :: xs) as) (al : AlikeAll (x :: xs)) (hu : A.units + 1 + PyData.depthAll (x :: xs) < cLine)
    (k : ∀ (i : Nat) v h' tk, vs[i]? = some v → (x :: xs).getD i .none = maxD x xs → (∀ b o, s.heap.get? b = some o → h'.get? b = some o) → Q v { s with heap := h', toks := tk }) : wpAny (model prog w) A (call (.builtin "max") [.ref l]) Q E s := by
  have n1 : vs.size = xs.length + 1 := readsAll_len rd
  refine call_max_walkH (iter_listW (A := A.in1) hh isl fun s2 e wk st f1 f2 f3 => ⟨_, _, _, _, _, _, _, s.heap, _, rfl, wk, st, f1, by omega, f2, f3, cmpIn_gt (A := A.in1) rd al (by show A.units + 1 + _ < _; exact hu), fun v s' hv mv => ?_⟩)
  obtain ⟨h', tk, rfl, kp⟩ := moved_old e rfl mv
  exact k _ v h' tk hv (best_len (f := fun a b => dataLt b a) n1) kp
theorem minAt (hh : A.handled = none) (isl : s.heap.IsList l vs) (rd : ReadsAll s.heap vs.toList (x :: xs) as) (al : AlikeAll (x :: xs)) (hu : A.units + 1 + PyData.depthAll (x :: xs) < cLine)
    (k : ∀ (i : Nat) v h' tk, vs[i]? = some v → (x :: xs).getD i .none = minD x xs → (∀ b o, s.heap.get? b = some o → h'.get? b = some o) → Q v { s with heap := h', toks := tk }) : wpAny (model prog w) A (call (.builtin "min") [.ref l]) Q E s := by
  have n1 : vs.size = xs.length + 1 := readsAll_len rd
  refine call_min_walkH (iter_listW (A := A.in1) hh isl fun s2 e wk st f1 f2 f3 => ⟨_, _, _, _, _, _, _, s.heap, _, rfl, wk, st, f1, by omega, f2, f3, cmpIn_lt (A := A.in1) rd al (by show A.units + 1 + _ < _; exact hu), fun v s' hv mv => ?_⟩)
  obtain ⟨h', tk, rfl, kp⟩ := moved_old e rfl mv
  exact k _ v h' tk hv (best_len (f := fun a b => dataLt a b) n1) kp
end
section
variable {X : Cx}
def rBestD (K : PySem.W.Frag) (f : PyData → List PyData → PyData) : List V → Hp → VK → Prop := fun vs H Q => ∃ (a : Addr) (us : List V) (d : PyData) (ds : List PyData), vs = [.ref a] ∧ SqL K H a us ∧ DpAll K H us (d :: ds) ∧ AlikeAll (d :: ds) ∧ PyData.depthAll (d :: ds) ≤ 8 ∧ ∀ (i : Nat) v, us[i]? = some v → (d :: ds).getD i .none = f d ds → Q v H
theorem item_of {K : PySem.W.Frag} {H : Hp} : ∀ {us : List V} {its : List Value} {ds : List PyData} {i : Nat} {v : Value}, Vals us its → DpAll K H us ds → its[i]? = some v → ∃ u, RelV u v ∧ us[i]? = some u
  | _, _, _, _, _, .nil, _, e => by simp at e
  | _, _, _, 0, v, .cons r _, _, e => by
    simp at e
    subst e
    exact ⟨_, r, rfl⟩
  | _, _, _, i + 1, v, .cons _ t, .cons _ a, e => by
    obtain ⟨u, h1, h2⟩ := item_of (i := i) (v := v) t a (by simpa using e)
    exact ⟨u, h1, by simpa using h2⟩
theorem crMaxD (hc : X.calm = true) (hu : X.A.units + 12 < cLine) : CallR X (.builtin "max") (rBestD X.K maxD) := by
  intro pins s σ H vs us Q I r h
  obtain ⟨a, zs, d, ds, rfl, hs, dp, al, dl, q⟩ := h
  obtain ⟨its, rv, hl, _⟩ := I.list hs
  rw [Vals.ref1 r]
  obtain ⟨as, rd⟩ := Dp.readsAll I (d :: ds) zs its dp rv
  refine maxAt (I.ok.hd hc) hl.isList (by simpa using rd) al (by omega) fun i v h' tk hv e kp => ?_
  obtain ⟨u, h1, h2⟩ := item_of (i := i) rv dp (by simpa using hv)
  exact ⟨u, H, I.kept kp, h1, q i u h2 e⟩
theorem crMaxR {k : Nat} (hc : X.calm = true) (hr : Room k X.A) : CallR X (.builtin "max") (rBestD X.K maxD) := crMaxD hc (by have := hr.units; omega)
theorem crMinD (hc : X.calm = true) (hu : X.A.units + 12 < cLine) : CallR X (.builtin "min") (rBestD X.K minD) := by
  intro pins s σ H vs us Q I r h
  obtain ⟨a, zs, d, ds, rfl, hs, dp, al, dl, q⟩ := h
  obtain ⟨its, rv, hl, _⟩ := I.list hs
  rw [Vals.ref1 r]
  obtain ⟨as, rd⟩ := Dp.readsAll I (d :: ds) zs its dp rv
  refine minAt (I.ok.hd hc) hl.isList (by simpa using rd) al (by omega) fun i v h' tk hv e kp => ?_
  obtain ⟨u, h1, h2⟩ := item_of (i := i) rv dp (by simpa using hv)
  exact ⟨u, H, I.kept kp, h1, q i u h2 e⟩
theorem crMinR {k : Nat} (hc : X.calm = true) (hr : Room k X.A) : CallR X (.builtin "min") (rBestD X.K minD) := crMinD hc (by have := hr.units; omega)
end
section
variable {K : PySem.W.Frag} {X : XC} {τ : Ts} {W : Wd} {Φ : VX → Wd → Prop} {Ψ : Bool → Wd → Prop} {ΦA : List VX → Wd → Prop} {ΦT : Ts → Wd → Prop} {te ta tb tc td ty tv : TE} {tt tt2 : TT} {tA tR : TA} {t u : TS} {P : Pst} {n : Nat} {x y z : VX} {g : TG} {tg : TGs} {ds es : List PyData} {d e : PyData} {i j : Int} {a b : Addr} {o : OC} {f : OC → List (Addr × OC)} {ns : List Int}
/-! ### built-ins -/
theorem wb_lenT (h : Φ (.d (.int ds.length)) W) : WB K X (bLen K) [.d (.tuple ds)] W Φ := fun H M vs Q R p kx k => by
  cases p with
  | cons p1 p => cases p; cases p1 with
    | @tup a xs _ h1 h2 => exact ⟨a, xs, rfl, .inr (sqT_same R.sm h1), by rw [← dpAll_len h2]; exact k _ _ _ _ _ h R (.refl ..) (Dp.int _)⟩
theorem wb_lenL (h : Φ (.d (.int ds.length)) W) : WB K X (bLen K) [.d (.list ds)] W Φ := fun H M vs Q R p kx k => by
  cases p with
  | cons p1 p => cases p; cases p1 with
    | @lst a xs _ h1 h2 => exact ⟨a, xs, rfl, .inl (R.sm.seq h1), by rw [← dpAll_len h2]; exact k _ _ _ _ _ h R (.refl ..) (Dp.int _)⟩
theorem wb_lenO {xs : List VX} (c : Cut a (.lst xs) W.c f) (h : Φ (.d (.int xs.length)) W) : WB K X (bLen K) [.r (.ref a)] W Φ := fun H M vs Q R p kx k => by
  cases p with
  | cons p1 p => cases p; cases p1; obtain ⟨us, h1, h2⟩ := R.cell _ c.mem; exact ⟨a, us, rfl, .inl (SqL.of h1), by rw [← paired_len h2]; exact k _ _ _ _ _ h R (.refl ..) (Dp.int _)⟩
theorem wb_listT (h : ∀ a, Φ (.r (.ref a)) ⟨(a, .lst (ds.map .d)) :: W.c, W.g⟩) : WB K X (bList K) [.d (.tuple ds)] W Φ := fun H M vs Q R p kx k => by
  cases p with
  | cons p1 p => cases p; cases p1 with
    | @tup a xs _ h1 h2 => exact ⟨a, xs, rfl, .inr (sqT_same R.sm h1), fun l nl => by
        obtain ⟨R2, t2⟩ := R.cnew (u := .lst xs) (o := .lst (ds.map .d)) nl ⟨xs, upd_same, of_dpAll h2⟩
        exact k _ _ _ _ _ (h l) R2 t2 rfl⟩
theorem wb_listL (h : ∀ a, Φ (.r (.ref a)) ⟨(a, .lst (ds.map .d)) :: W.c, W.g⟩) : WB K X (bList K) [.d (.list ds)] W Φ := fun H M vs Q R p kx k => by
  cases p with
  | cons p1 p => cases p; cases p1 with
    | @lst a xs _ h1 h2 => exact ⟨a, xs, rfl, .inl (R.sm.seq h1), fun l nl => by
        obtain ⟨R2, t2⟩ := R.cnew (u := .lst xs) (o := .lst (ds.map .d)) nl ⟨xs, upd_same, of_dpAll h2⟩
        exact k _ _ _ _ _ (h l) R2 t2 rfl⟩
theorem wb_listTd (h : Φ (.d (.list ds)) W) : WB K X (bList K) [.d (.tuple ds)] W Φ := fun H M vs Q R p kx k => by
  cases p with
  | cons p1 p => cases p; cases p1 with
    | @tup a xs _ h1 h2 => exact ⟨a, xs, rfl, .inr (sqT_same R.sm h1), k_lstA R k h h2⟩
theorem wb_tupL (h : Φ (.d (.tuple ds)) W) : WB K X (bTuple K) [.d (.list ds)] W Φ := fun H M vs Q R p kx k => by
  cases p with
  | cons p1 p => cases p; cases p1 with
    | @lst a xs _ h1 h2 => exact ⟨a, xs, rfl, .inl ⟨R.sm.seq h1, k_tupA R k h h2⟩⟩
theorem wb_tupO (c : Cut a (.lst (ds.map .d)) W.c f) (h : Φ (.d (.tuple ds)) W) : WB K X (bTuple K) [.r (.ref a)] W Φ := fun H M vs Q R p kx k => by
  cases p with
  | cons p1 p => cases p; cases p1; obtain ⟨us, h1, h2⟩ := R.cell _ c.mem; exact ⟨a, us, rfl, .inl ⟨SqL.of h1, k_tupA R k h (dpAll_of h2)⟩⟩
theorem dpAll_ints {M : Hp} : ∀ {ns : List Int} {vs : List V}, DpAll K M vs (ns.map .int) → vs = ns.map V.int
  | [], _, .nil => rfl
  | n :: ns, _, .cons h t => by cases h; rw [dpAll_ints t]; rfl
theorem ints_dpAll {M : Hp} : ∀ ns : List Int, DpAll K M (ns.map V.int) (ns.map .int)
  | [] => .nil
  | n :: ns => .cons (.int n) (ints_dpAll ns)
theorem wb_sorted (hl : ns.length < 64) (h : ∀ ms : List Int, ms.Perm ns → ms.Pairwise (· ≤ ·) → Φ (.d (.list (ms.map .int))) W) : WB K X (rSorted K) [.d (.list (ns.map .int))] W Φ := fun H M vs Q R p kx k => by
  cases p with
  | cons p1 p => cases p; cases p1 with
    | @lst a xs _ h1 h2 =>
      rw [dpAll_ints h2] at h1
      exact ⟨a, ns, rfl, R.sm.seq h1, hl, fun ms q pm pw nq => k_lstA R k (h ms pm pw) (ints_dpAll ms) q nq⟩
theorem wb_max (hl : 0 < ns.length) (h : ∀ m, m ∈ ns → (∀ y, y ∈ ns → y ≤ m) → Φ (.d (.int m)) W) : WB K X (rMax K) [.d (.list (ns.map .int))] W Φ := fun H M vs Q R p kx k => by
  cases p with
  | cons p1 p => cases p; cases p1 with
    | @lst a xs _ h1 h2 =>
      rw [dpAll_ints h2] at h1
      exact ⟨a, ns, rfl, R.sm.seq h1, hl, fun m hm hy => k _ _ _ _ _ (h m hm hy) R (.refl ..) (Dp.int _)⟩
theorem wb_min (hl : 0 < ns.length) (h : ∀ m, m ∈ ns → (∀ y, y ∈ ns → m ≤ y) → Φ (.d (.int m)) W) : WB K X (rMin K) [.d (.list (ns.map .int))] W Φ := fun H M vs Q R p kx k => by
  cases p with
  | cons p1 p => cases p; cases p1 with
    | @lst a xs _ h1 h2 =>
      rw [dpAll_ints h2] at h1
      exact ⟨a, ns, rfl, R.sm.seq h1, hl, fun m hm hy => k _ _ _ _ _ (h m hm hy) R (.refl ..) (Dp.int _)⟩
theorem wb_best {fb : PyData → List PyData → PyData} (al : AlikeAll (d :: ds)) (dl : PyData.depthAll (d :: ds) ≤ 8) (h : Φ (.d (fb d ds)) W) : WB K X (rBestD K fb) [.d (.list (d :: ds))] W Φ := fun H M vs Q R p kx k => by
  cases p with
  | cons p1 p => cases p; cases p1 with
    | @lst a xs _ h1 h2 =>
      refine ⟨a, xs, d, ds, rfl, R.sm.seq h1, dpAll_mono R.sm h2, al, dl, fun i v hi e => ?_⟩
      obtain ⟨w, h3, h4⟩ := dpAll_get h2 (i := i) (d := fb d ds) (by
        have hl := (List.getElem?_eq_some_iff.mp hi).1
        have hl2 := dpAll_len h2
        rw [← e, List.getD_eq_getElem?_getD, List.getElem?_eq_getElem (by omega)]
        rfl)
      rw [hi] at h3
      cases h3
      exact k _ _ _ _ _ h R (.refl ..) h4
/-! ### in, not in -/
theorem flat_ints' (ns : List Int) : (ns.map V.int).all flatV = true := by
  rw [List.all_eq_true]
  intro x hx
  obtain ⟨n, _, rfl⟩ := List.mem_map.mp hx
  rfl
theorem inV_ints (p : Int) : ∀ ns : List Int, inV (.int p) (ns.map V.int) = decide (p ∈ ns)
  | [] => rfl
  | n :: ns => by
    show (eqV (.int n) (.int p) || inV (.int p) (ns.map V.int)) = _
    rw [inV_ints p ns]
    show ((n == p) || decide (p ∈ ns)) = _
    by_cases h : n = p
    · subst h; simp
    · simp [h, Ne.symm h]
theorem w2_inT {p : Int} (h : Φ (.d (.bool (decide (p ∈ ns)))) W) : W2 K (kIn K) (.d (.int p)) (.d (.tuple (ns.map .int))) W Φ := fun H M u v Q R pu pv k => by
  cases pu
  cases pv with
  | @tup a xs _ h1 h2 =>
    rw [dpAll_ints h2] at h1
    exact ⟨a, _, rfl, .inr (sqT_same R.sm h1), rfl, flat_ints' ns, by rw [if_neg Bool.false_ne_true, inV_ints]; exact k _ _ _ _ _ h R (.refl ..) (Dp.bl _)⟩
theorem w2_notInT {p : Int} (h : Φ (.d (.bool (!decide (p ∈ ns)))) W) : W2 K (kNotIn K) (.d (.int p)) (.d (.tuple (ns.map .int))) W Φ := fun H M u v Q R pu pv k => by
  cases pu
  cases pv with
  | @tup a xs _ h1 h2 =>
    rw [dpAll_ints h2] at h1
    exact ⟨a, _, rfl, .inr (sqT_same R.sm h1), rfl, flat_ints' ns, by rw [if_pos rfl, inV_ints]; exact k _ _ _ _ _ h R (.refl ..) (Dp.bl _)⟩
theorem w2_inL {p : Int} (h : Φ (.d (.bool (decide (p ∈ ns)))) W) : W2 K (kIn K) (.d (.int p)) (.d (.list (ns.map .int))) W Φ := fun H M u v Q R pu pv k => by
  cases pu
  cases pv with
  | @lst a xs _ h1 h2 =>
    rw [dpAll_ints h2] at h1
    exact ⟨a, _, rfl, .inl (R.sm.seq h1), rfl, flat_ints' ns, by rw [if_neg Bool.false_ne_true, inV_ints]; exact k _ _ _ _ _ h R (.refl ..) (Dp.bl _)⟩
theorem w2_notInL {p : Int} (h : Φ (.d (.bool (!decide (p ∈ ns)))) W) : W2 K (kNotIn K) (.d (.int p)) (.d (.list (ns.map .int))) W Φ := fun H M u v Q R pu pv k => by
  cases pu
  cases pv with
  | @lst a xs _ h1 h2 =>
    rw [dpAll_ints h2] at h1
    exact ⟨a, _, rfl, .inl (R.sm.seq h1), rfl, flat_ints' ns, by rw [if_pos rfl, inV_ints]; exact k _ _ _ _ _ h R (.refl ..) (Dp.bl _)⟩
/-! ### stores to a cell, methods -/
theorem wg_setO {xs : List VX} {k : Nat} (h : WE K X ta τ W fun o1 W1 => WE K X tb τ W1 fun i1 W2_ => ∃ a i f xs k, o1 = .r (.ref a) ∧ i1 = .d (.int i) ∧ Cut a (.lst xs) W2_.c f ∧ ixN xs.length i = some k ∧ ΦT τ ⟨f (.lst (xs.set k x)), W2_.g⟩) : WG K X (gSub ta tb rSetL) x τ W ΦT := fun σ H M v Q s R kx p kq =>
  h σ H M _ s R kx fun o1 ov H1 M1 W1 q1 R1 t1 p1 => q1 σ H1 M1 _ (s.mono t1.sm) R1 (kx.on t1) fun i1 iv H2 M2 W2_ ⟨a, i, f, xs, k, e1, e2, c, hk, q2⟩ R2 t2 p2 => by
    subst e1
    subst e2
    cases p1
    cases p2
    obtain ⟨us, h1, h2⟩ := R2.cell _ c.mem
    have pv := (p.mono t1.sm).mono t2.sm
    obtain ⟨R3, t3⟩ := R2.put (u := .lst (us.set k v)) (o' := .lst (xs.set k x)) c ⟨_, upd_same, paired_set' pv k h2⟩
    exact r_setL h1 (by rw [← paired_len h2]; exact hk) (kq _ _ _ _ _ q2 (s.mono (t1.trans (t2.trans t3)).sm) R3 (t1.trans (t2.trans t3)))
/-- o.m(..) of a list that is a cell -/
theorem we_BMc {T : String} {rb : V → List V → Hp → VK → Prop} {to : TE} (hT : T = "list") (h : WE K X to τ W fun o1 W1 => ∃ a xs f, o1 = .r (.ref a) ∧ Cut a (.lst xs) W1.c f ∧ WA K X tA τ W1 fun ys W2_ => ∀ H M vs Q, Rp K H M W2_ → Paired (VR K M) ys vs → Kt K H M W2_ Φ Q → rb (.ref a) vs H Q) : WE K X (tBM K T rb to tA) τ W Φ := fun σ H M Q s R kx k =>
  h σ H M _ s R kx fun o1 ov H1 M1 W1 ⟨a, xs, f, e1, c, q⟩ R1 t1 p1 => by
    subst e1
    cases p1
    obtain ⟨us, h1, h2⟩ := R1.cell _ c.mem
    exact ⟨.inl ⟨hT, us, SqL.of h1⟩, q σ H1 M1 _ (s.mono t1.sm) R1 (kx.on t1) fun ys vs H2 M2 W2_ q2 R2 t2 p2 => q2 H2 M2 vs Q R2 p2 (k.on (t1.trans t2))⟩
theorem we_append {to : TE} (h : WE K X to τ W fun o1 W1 => ∃ a xs0 f0, o1 = .r (.ref a) ∧ Cut a (.lst xs0) W1.c f0 ∧ WA K X tA τ W1 fun ys W2_ => ∃ y xs f, ys = [y] ∧ Cut a (.lst xs) W2_.c f ∧ xs.length < 100000 ∧ Φ (.d .none) ⟨f (.lst (xs ++ [y])), W2_.g⟩) : WE K X (tBM K "list" rAppend to tA) τ W Φ := by
  refine we_BMc rfl (we_imp (fun o1 W1 ⟨a, xs0, f0, e, c, q⟩ => ⟨a, xs0, f0, e, c, ?_⟩) h)
  intro σ H M Q s R kx k
  refine q σ H M Q s R kx fun ys vs H' M' W' ⟨y, xs, f, e1, c1, hl, q1⟩ R1 t1 p1 => k ys vs H' M' W' (fun H2 M2 vs2 Q2 R2 p2 k2 => ?_) R1 t1 p1
  subst e1
  cases p2 with
  | cons p3 p2 =>
    cases p2
    obtain ⟨us, h1, h2⟩ := R2.cell _ c1.mem
    obtain ⟨R3, t3⟩ := R2.put (u := .lst (us ++ [_])) (o' := .lst (xs ++ [y])) c1 ⟨_, upd_same, paired_append h2 (.cons p3 .nil)⟩
    exact r_append h1 (sz10' (by rw [← paired_len h2]; exact hl)) (k2 _ _ _ _ _ q1 R3 t3 Dp.non)
/-! ### what a question looks like -/
theorem exB {c : Bool} {p : Bool → Prop} (h : p c) : ∃ c', VX.d (.bool c) = .d (.bool c') ∧ p c' := ⟨c, rfl, h⟩
theorem exI {c : Int} {p : Int → Prop} (h : p c) : ∃ c', VX.d (.int c) = .d (.int c') ∧ p c' := ⟨c, rfl, h⟩
theorem exT {c : List PyData} {p : List PyData → Prop} (h : p c) : ∃ c', VX.d (.tuple c) = .d (.tuple c') ∧ p c' := ⟨c, rfl, h⟩
theorem exL {c : List PyData} {p : List PyData → Prop} (h : p c) : ∃ c', VX.d (.list c) = .d (.list c') ∧ p c' := ⟨c, rfl, h⟩
theorem exA {xs : List VX} {p : List PyData → Prop} (e : asD xs = some ds) (hl : ds.length ≤ 100000) (h : p ds) : ∃ ds, asD xs = some ds ∧ ds.length ≤ 100000 ∧ p ds := ⟨ds, e, hl, h⟩
theorem exA0 {p : List PyData → Prop} (h : p []) : ∃ ds, asD [] = some ds ∧ ds.length ≤ 100000 ∧ p ds := ⟨_, rfl, szd, h⟩
theorem exA1 {d0 : PyData} {p : List PyData → Prop} (h : p [d0]) : ∃ ds, asD [.d d0] = some ds ∧ ds.length ≤ 100000 ∧ p ds := ⟨_, rfl, szd, h⟩
theorem exA2 {d0 d1 : PyData} {p : List PyData → Prop} (h : p [d0, d1]) : ∃ ds, asD [.d d0, .d d1] = some ds ∧ ds.length ≤ 100000 ∧ p ds := ⟨_, rfl, szd, h⟩
theorem exA3 {d0 d1 d2 : PyData} {p : List PyData → Prop} (h : p [d0, d1, d2]) : ∃ ds, asD [.d d0, .d d1, .d d2] = some ds ∧ ds.length ≤ 100000 ∧ p ds := ⟨_, rfl, szd, h⟩
theorem exA4 {d0 d1 d2 d3 : PyData} {p : List PyData → Prop} (h : p [d0, d1, d2, d3]) : ∃ ds, asD [.d d0, .d d1, .d d2, .d d3] = some ds ∧ ds.length ≤ 100000 ∧ p ds := ⟨_, rfl, szd, h⟩
theorem exA5 {d0 d1 d2 d3 d4 : PyData} {p : List PyData → Prop} (h : p [d0, d1, d2, d3, d4]) : ∃ ds, asD [.d d0, .d d1, .d d2, .d d3, .d d4] = some ds ∧ ds.length ≤ 100000 ∧ p ds := ⟨_, rfl, szd, h⟩
theorem exA6 {d0 d1 d2 d3 d4 d5 : PyData} {p : List PyData → Prop} (h : p [d0, d1, d2, d3, d4, d5]) : ∃ ds, asD [.d d0, .d d1, .d d2, .d d3, .d d4, .d d5] = some ds ∧ ds.length ≤ 100000 ∧ p ds := ⟨_, rfl, szd, h⟩
theorem exA7 {d0 d1 d2 d3 d4 d5 d6 : PyData} {p : List PyData → Prop} (h : p [d0, d1, d2, d3, d4, d5, d6]) : ∃ ds, asD [.d d0, .d d1, .d d2, .d d3, .d d4, .d d5, .d d6] = some ds ∧ ds.length ≤ 100000 ∧ p ds := ⟨_, rfl, szd, h⟩
theorem exT1 {c : List PyData} {p : List PyData → Prop} (h : p c) : ∃ c', [VX.d (.tuple c)] = [.d (.tuple c')] ∧ p c' := ⟨c, rfl, h⟩
theorem exI1 {c : Int} {p : Int → Prop} (h : p c) : ∃ c', [VX.d (.int c)] = [.d (.int c')] ∧ p c' := ⟨c, rfl, h⟩
theorem exV {x y : VX} {p : VX → VX → Prop} (h : p x y) : ∃ x' y', [x, y] = [x', y'] ∧ p x' y' := ⟨x, y, rfl, h⟩
theorem bT {A B : Prop} (h : A) : (true = true → A) ∧ (true = false → B) := ⟨fun _ => h, fun z => by cases z⟩
theorem bF {A B : Prop} (h : B) : (false = true → A) ∧ (false = false → B) := ⟨fun z => (by cases z), fun _ => h⟩
theorem bD {c A B : Prop} [Decidable c] (h1 : c → A) (h2 : ¬ c → B) : (decide c = true → A) ∧ (decide c = false → B) := ⟨fun z => h1 (of_decide_eq_true z), fun z => h2 (of_decide_eq_false z)⟩
theorem bN {c A B : Prop} [Decidable c] (h1 : ¬ c → A) (h2 : c → B) : ((!decide c) = true → A) ∧ ((!decide c) = false → B) := ⟨fun z => h1 (fun q => by rw [decide_eq_true q] at z; cases z), fun z => h2 (Decidable.byContradiction fun q => by rw [decide_eq_false q] at z; cases z)⟩
theorem bFT {c A B : Prop} [Decidable c] (h1 : c → A) (h2 : ¬ c → B) : (decide c = false → B) ∧ (decide c = true → A) := ⟨fun z => h2 (of_decide_eq_false z), fun z => h1 (of_decide_eq_true z)⟩
theorem bT' {A B : Prop} (h : A) : (true = false → B) ∧ (true = true → A) := ⟨fun z => (by cases z), fun _ => h⟩
theorem bF' {A B : Prop} (h : B) : (false = false → B) ∧ (false = true → A) := ⟨fun _ => h, fun z => by cases z⟩
/-! ### a comprehension that changes nothing -/
theorem fm_succ {α : Type} (F : Nat → Option α) (i : Nat) : (List.range (i + 1)).filterMap F = (List.range i).filterMap F ++ (F i).toList := by
  rw [List.range_succ, List.filterMap_append]
  cases h : F i <;> simp [h]
theorem we_lcM {wi : TI} {vs : List Nat} (h : WI K X wi τ W fun n it st W1 => n ≤ 100000 ∧ st W1 ∧ ∃ (F : Nat → Option PyData) (ds : List PyData), (∀ i, i < n → ∃ L, CG K g (it i) L ∧ (∀ p ∈ L, p.1 ∈ vs) ∧ WT K X tt (setT (wipeT τ vs) L) W1 fun b W2_ => W2_ = W1 ∧ (b = true → WE K X te (setT (wipeT τ vs) L) W1 fun y W3_ => W3_ = W1 ∧ ∃ d, y = .d d ∧ F i = some d) ∧ (b = false → F i = none)) ∧
    (List.range n).filterMap F = ds ∧ Φ (.d (.list ds)) W1) : WE K X (tLc wi g tt te vs) τ W Φ := by
  refine we_lcG fun σ H M R_ s R kx k => h σ H M R_ s R kx fun J H1 M1 W1 n it st ⟨hn, hst, F, ds, hs, he, q⟩ R1 t1 hJ => k J H1 M1 W1 n it st ⟨hn, fun i acc W' => W' = W1 ∧ acc = ((List.range i).filterMap F).map .d, ⟨rfl, rfl⟩, fun i acc W' _ ⟨e, _⟩ => e ▸ hst, fun i acc W' hi ⟨e, ea⟩ => ?_, fun acc W' ⟨e, ea⟩ => .inl ⟨ds, by rw [ea, he], e ▸ q⟩⟩ R1 t1 hJ
  subst e
  obtain ⟨L, h1, h2, h3⟩ := hs i hi
  have er := fm_succ F i
  refine ⟨L, h1, h2, fun σ H M Q s R kx k => h3 σ H M Q s R kx fun b H' M' W'' ⟨e, a1, a2⟩ => k b H' M' W'' ?_⟩
  subst e
  constructor
  · intro c
    refine we_imp ?_ (a1 c)
    rintro y W3_ ⟨e3, d, ed, ef⟩
    exact ⟨e3, by rw [er, ea, ed, ef]; simp⟩
  · intro c
    exact ⟨rfl, by rw [er, ea, a2 c]; simp⟩
theorem range_if {α : Type} (p : Nat → Bool) (f : Nat → α) (n : Nat) : (List.range n).filterMap (fun i => if p i = true then some (f i) else none) = ((List.range n).filter p).map f := by
  induction List.range n with
  | nil => rfl
  | cons a l ih =>
    cases h : p a with
    | true => rw [List.filterMap_cons, List.filter_cons, h]; simp [ih]
    | false => rw [List.filterMap_cons, List.filter_cons, h]; simp [ih]
theorem range_map (ds : List PyData) (f : PyData → PyData) : (List.range ds.length).filterMap (fun i => some (f (ds.getD i .none))) = ds.map f := by
  rw [show (fun i => some (f (ds.getD i .none))) = some ∘ (fun i => f (ds.getD i .none)) from rfl, List.filterMap_eq_map]
  apply List.ext_getElem
  · simp
  · intro i h1 h2
    simp at h1
    simp [List.getElem?_eq_getElem h1]
theorem we_un {ru : V → Hp → VK → Prop} (h : WE K X te τ W fun x W1 => ∀ H M u Q, Rp K H M W1 → VR K M x u → Kt K H M W1 Φ Q → ru u H Q) : WE K X (tUn ru te) τ W Φ := fun σ H M Q s R kx k =>
  h σ H M _ s R kx fun x v H1 M1 W1 q1 R1 t1 p => q1 H1 M1 v Q R1 p (k.on t1)
theorem we_neg (h : WE K X te τ W fun x W1 => ∃ i, x = .d (.int i) ∧ Φ (.d (.int (-i))) W1) : WE K X (tUn kNeg te) τ W Φ := by
  refine we_un (we_imp (fun x W1 ⟨i, e, q⟩ => ?_) h)
  subst e
  intro H M u Q R p k
  cases p
  exact ⟨i, rfl, k _ _ _ _ _ q R (.refl ..) (Dp.int _)⟩
/-! ### a tuple of what may change -/
theorem VR.toN {H M : Hp} (sm : Same M H) : ∀ {x : VX} {v : V}, VR K M x v → VN K H x v
  | .d _, _, h => fun n => dp_strip sm n h
  | .r _, _, h => h
theorem we_tupR (h : WA K X tA τ W fun xs W1 => xs.length ≤ 100000 ∧ ∀ p vs, Φ (.r (.ref p)) ⟨W1.c, gTupA K W1.g p xs vs⟩) : WE K X (tTup tA) τ W Φ := fun σ H M Q s R kx k =>
  h σ H M _ s R kx fun xs vs H1 M1 W1 ⟨hl, q⟩ R1 t1 p => by
    refine ⟨sz5 (by rw [← paired_len p]; exact hl), fun p0 np => ?_⟩
    obtain ⟨R2, t2, s2⟩ := R1.new (o := .tup vs) np
    have n2 : Paired (VN K (upd H1 p0 (.tup vs))) xs vs := Paired.mapP (VRs.mono s2 p) fun _ _ z => VR.toN R2.sm z
    exact k _ _ _ _ _ (q p0 vs) ⟨R2.sm, R2.nd, R2.out, R2.cell, gTupA_ok R2.gok p0 xs vs, R2.g, upd_same, n2⟩ (t1.trans ⟨t2.sm, t2.st, t2.fr⟩) rfl
/-- what is known of the rest may be forgotten -/
theorem Rp.weak {H M : Hp} {c : List (Addr × OC)} {g g' : Hp → Prop} (gok : GOk g') (h : g H → g' H) (R : Rp K H M ⟨c, g⟩) : Rp K H M ⟨c, g'⟩ ∧ Tr H M ⟨c, g⟩ H M ⟨c, g'⟩ := ⟨⟨R.sm, R.nd, R.out, R.cell, gok, h R.g⟩, ⟨.refl M, fun _ _ e _ => e, fun b o h1 _ h2 h3 => ⟨h1, h2, h3⟩⟩⟩
end
end DW

namespace CB
theorem noted_held {w : W} {page : Int} (hp : page ∈ w.came) (a : ∀ p ∈ w.came, ∃ t, w.asked p = some t ∧ t ≤ w.time) (o : ∀ p ∈ w.came, ∃ t, w.often p = some t) (m : ∀ p ∈ w.came, ∃ b, w.marks p = some b) :
    (∀ p ∈ w.came, ∃ t, (noted w page w.often).asked p = some t ∧ t ≤ (noted w page w.often).time) ∧ (∀ p ∈ w.came, ∃ t, (noted w page w.often).often p = some t) ∧ ∀ p ∈ w.came, ∃ b, (noted w page w.often).marks p = some b := by
  refine ⟨fun p hp => ?_, fun p hp => ?_, fun p hp => ?_⟩
  · by_cases c : p = page
    · exact ⟨w.time + 1, by rw [c]; exact pset_same, Int.le_refl _⟩
    · obtain ⟨t, h1, h2⟩ := a p hp
      exact ⟨t, (pset_ne c).trans h1, Int.le_trans h2 (by show w.time ≤ w.time + 1; omega)⟩
  · by_cases c : p = page
    · exact ⟨_, by rw [c]; exact pset_same⟩
    · obtain ⟨t, h1⟩ := o p hp
      exact ⟨t, (pset_ne c).trans h1⟩
  · by_cases c : p = page
    · exact ⟨_, by rw [c]; exact pset_same⟩
    · obtain ⟨t, h1⟩ := m p hp
      exact ⟨t, (pset_ne c).trans h1⟩
/-- THE STEP, the page held -/
theorem sim_hit {r : Rule} {size : Nat} {l : List Row} {h : Nat} {w w' : W} {page : Int} {res : Option (Bool × Option Int)} (S : Sim r size l h w) (hp : page ∈ w.came) (A : Asks r size w [] page res w') :
    res = some (true, (step r size l h page).gone) ∧ (step r size l h page).held = true ∧ Sim r size (step r size l h page).rows (step r size l h page).hand w' := by
  have R := S.rel
  obtain ⟨n1, n2, n3⟩ := noted_held hp S.asked S.often S.marks
  have one : ∀ (m : Int → Int) (ps : List Int), page ∈ ps → l = ps.map (fun q => (q, m q)) → step r size l h page = ⟨true, none, rowsAsked r l (ps.idxOf page) (page, m page), h⟩ := fun m ps hm e => by
    unfold step
    rw [e, placeOf_map m hm]
    simp only
    rw [getD_map (fun q => (q, m q)) (at_idx hm)]
  cases A with
  | room h1 _ => exact absurd hp h1
  | goes _ _ h1 _ _ _ => exact absurd hp h1
  | stuck h1 _ _ => exact absurd hp h1
  | held _ =>
    cases r with
    | came =>
      rw [one (fun _ => 0) w.came hp R.1]
      exact ⟨rfl, rfl, S.nd, S.len, n1, n2, n3, S.hand, R⟩
    | high =>
      rw [one (fun _ => 0) w.came hp R.1]
      exact ⟨rfl, rfl, S.nd, S.len, n1, n2, n3, S.hand, R⟩
    | used =>
      obtain ⟨⟨ps, h1, h2, h3⟩, h4⟩ := R
      have pp : page ∈ ps := h2.mem_iff.mpr hp
      rw [one (fun _ => 0) ps pp h1]
      refine ⟨rfl, rfl, S.nd, S.len, n1, n2, n3, S.hand, ⟨ps.erase page ++ [page], ?_, ?_, ?_⟩, h4⟩
      · show outAt l _ (page, 0) = _
        rw [h1]
        exact outAt_map pp
      · exact (List.perm_append_comm.trans (List.perm_cons_erase pp).symm).trans h2
      · have nd : ps.Nodup := h2.nodup_iff.mpr S.nd
        refine order_on (fun z => ((List.Nodup.mem_erase_iff nd).mp z).1 rfl) (fun p hp => S.asked p (h2.mem_iff.mp (List.mem_of_mem_erase hp))) (h3.sublist List.erase_sublist)
    | last =>
      obtain ⟨⟨ps, h1, h2, h3⟩, h4⟩ := R
      have pp : page ∈ ps := h2.mem_iff.mpr hp
      rw [one (fun _ => 0) ps pp h1]
      refine ⟨rfl, rfl, S.nd, S.len, n1, n2, n3, S.hand, ⟨ps.erase page ++ [page], ?_, ?_, ?_⟩, h4⟩
      · show outAt l _ (page, 0) = _
        rw [h1]
        exact outAt_map pp
      · exact (List.perm_append_comm.trans (List.perm_cons_erase pp).symm).trans h2
      · have nd : ps.Nodup := h2.nodup_iff.mpr S.nd
        refine order_on (fun z => ((List.Nodup.mem_erase_iff nd).mp z).1 rfl) (fun p hp => S.asked p (h2.mem_iff.mp (List.mem_of_mem_erase hp))) (h3.sublist List.erase_sublist)
    | often =>
      rw [one (fun p => (w.often p).getD 0) w.came hp R.1]
      refine ⟨rfl, rfl, S.nd, S.len, n1, n2, n3, S.hand, ?_, R.2⟩
      show putAt l _ (page, (w.often page).getD 0 + 1) = w.came.map fun p => (p, ((pset w.often page ((w.often page).getD 0 + 1)) p).getD 0)
      rw [R.1]
      have q := putAt_map (fun p => (w.often p).getD 0) (fun p => ((pset w.often page ((w.often page).getD 0 + 1)) p).getD 0) S.nd hp fun q hq => by rw [pset_ne hq]
      rw [pset_same] at q
      exact q
    | clock =>
      rw [one (fun p => if (w.marks p).getD false then 1 else 0) w.came hp R.1]
      refine ⟨rfl, rfl, S.nd, S.len, n1, n2, n3, S.hand, ?_, R.2⟩
      show putAt l _ (page, 1) = w.came.map fun p => (p, if ((pset w.marks page true) p).getD false then 1 else 0)
      rw [R.1]
      have q := putAt_map (fun p => if (w.marks p).getD false then 1 else 0) (fun p => if ((pset w.marks page true) p).getD false then 1 else 0) S.nd hp fun q hq => by rw [pset_ne hq]
      rw [pset_same] at q
      exact q
/-- THE STEP -/
theorem sim_step {r : Rule} {size : Nat} {l : List Row} {h : Nat} {w w' : W} {page : Int} {res : Option (Bool × Option Int)} (S : Sim r size l h w) (hs : 1 ≤ size) (A : Asks r size w [] page res w') :
    res = some ((step r size l h page).held, (step r size l h page).gone) ∧ Sim r size (step r size l h page).rows (step r size l h page).hand w' := by
  by_cases c : page ∈ w.came
  · obtain ⟨h1, h2, h3⟩ := sim_hit S c A
    rw [h2]
    exact ⟨h1, h3⟩
  · obtain ⟨h1, h2, h3⟩ := sim_miss S hs c A
    rw [h2]
    exact ⟨h1, h3⟩
end CB

namespace CB
def Inv2 (r : Rule) (s : Nat) (l : List Row) (h : Nat) : Prop := l.length ≤ s ∧ (r = .clock → (l.length < s → h = 0) ∧ (l.length = s → h < l.length))
theorem inv2_start (r : Rule) {s : Nat} (hs : 1 ≤ s) : Inv2 r s [] 0 := ⟨Nat.zero_le _, fun _ => ⟨fun _ => rfl, fun e => by simp at e; omega⟩⟩
theorem toGo_lt {r : Rule} {l : List Row} (ne : l ≠ []) (hc : r ≠ .clock) : placeToGo r l < l.length := by
  have pos : 0 < l.length := List.length_pos_iff.mpr ne
  cases r with
  | came => exact pos
  | used => exact pos
  | clock => exact absurd rfl hc
  | last => show l.length - 1 < l.length; omega
  | high =>
    have q := (lastIdx_spec (l := l.map (·.1)) (by simpa using ne)).1
    rw [List.length_map] at q
    exact q
  | often =>
    have q := (bestIdx_spec (l := l.map fun x => - x.2) (by simpa using ne)).1
    rw [List.length_map] at q
    exact q
theorem putAt_len {l : List Row} {k : Nat} (x : Row) (hk : k < l.length) : (putAt l k x).length = l.length := by
  unfold putAt
  simp
  omega
theorem outAt_len {l : List Row} {k : Nat} (x : Row) (hk : k < l.length) : (outAt l k x).length = l.length := by
  unfold outAt
  simp
  omega
theorem asked_len {r : Rule} {l : List Row} {k : Nat} (x : Row) (hk : k < l.length) : (rowsAsked r l k x).length = l.length := by
  cases r with
  | came => rfl
  | high => rfl
  | used => exact outAt_len _ hk
  | last => exact outAt_len _ hk
  | often => exact putAt_len _ hk
  | clock => exact putAt_len _ hk
theorem inv2_step {r : Rule} {s : Nat} {l : List Row} {h : Nat} (p : Int) (hs : 1 ≤ s) (i : Inv2 r s l h) : Inv2 r s (step r s l h p).rows (step r s l h p).hand := by
  unfold step
  cases hp : placeOf l p with
  | some k =>
    obtain ⟨x, hx, _⟩ := placeOf_lt hp
    have hk := (List.getElem?_eq_some_iff.mp hx).1
    simp only
    unfold Inv2
    rw [asked_len _ hk]
    exact i
  | none =>
    simp only
    by_cases c1 : l.length < s
    · rw [if_pos c1]
      refine ⟨by show (l ++ [_]).length ≤ s; simp; omega, fun hr => ?_⟩
      have h0 := (i.2 hr).1 c1
      exact ⟨fun _ => h0, fun e => by show h < (l ++ [_]).length; rw [h0]; simp⟩
    · have e1 : l.length = s := Nat.le_antisymm i.1 (Nat.le_of_not_lt c1)
      rw [if_neg c1]
      by_cases c2 : r = .clock
      · rw [if_pos c2]
        have hl := (i.2 c2).2 e1
        have q1 := swept_len l h
        have q2 := swept_lt hl
        have pl := putAt_len (l := (swept l h).1) (k := (swept l h).2) (p, firstMark r) (by omega)
        refine ⟨by show (putAt _ _ _).length ≤ s; omega, fun _ => ⟨fun z => ?_, fun _ => ?_⟩⟩
        · have z' : (putAt (swept l h).1 (swept l h).2 (p, firstMark r)).length < s := z
          omega
        · show ((swept l h).2 + 1) % (swept l h).1.length < (putAt _ _ _).length
          rw [pl, q1]
          exact Nat.mod_lt _ (by omega)
      · rw [if_neg c2]
        refine ⟨?_, fun hr => absurd hr c2⟩
        show (outAt l (placeToGo r l) _).length ≤ s
        rw [outAt_len _ (toGo_lt (fun z => by rw [z] at e1; simp at e1; omega) c2)]
        exact i.1
/-- what run does: rows, hand, told -/
structure RS where
  rows : List Row
  hand : Nat
  told : List (Bool × Option Int)
def runS (r : Rule) (s : Nat) : List Int → RS → RS
  | [], x => x
  | p :: st, x => runS r s st ⟨(step r s x.rows x.hand p).rows, (step r s x.rows x.hand p).hand, x.told ++ [((step r s x.rows x.hand p).held, (step r s x.rows x.hand p).gone)]⟩
def rs0 : RS := ⟨[], 0, []⟩
def runTo (r : Rule) (s : Nat) (st : List Int) : RS := runS r s st rs0
theorem runS_app (r : Rule) (s : Nat) : ∀ (st : List Int) (p : Int) (x : RS), runS r s (st ++ [p]) x = ⟨(step r s (runS r s st x).rows (runS r s st x).hand p).rows, (step r s (runS r s st x).rows (runS r s st x).hand p).hand,
    (runS r s st x).told ++ [((step r s (runS r s st x).rows (runS r s st x).hand p).held, (step r s (runS r s st x).rows (runS r s st x).hand p).gone)]⟩
  | [], _, _ => rfl
  | q :: st, p, x => runS_app r s st p _
theorem run_inv {r : Rule} {s : Nat} (hs : 1 ≤ s) (st : List Int) : ∀ x : RS, Inv2 r s x.rows x.hand → Inv2 r s (runS r s st x).rows (runS r s st x).hand := by
  induction st with
  | nil => exact fun _ i => i
  | cons p st ih => exact fun x i => ih _ (inv2_step p hs i)
def misses (t : List (Bool × Option Int)) : Nat := t.countP fun x => !x.1
/-- the law's way along a stream -/
inductive Ru (r : Rule) (s : Nat) (w0 : W) : List Int → W → List (Bool × Option Int) → Prop
  | nil : Ru r s w0 [] w0 []
  | snoc {st w rs p held gone w'} : Ru r s w0 st w rs → Asks r s w [] p (some (held, gone)) w' → Ru r s w0 (st ++ [p]) w' (rs ++ [(held, gone)])
theorem ru_run {r : Rule} {s : Nat} (hs : 1 ≤ s) {w0 : W} (h1 : w0.came = []) (h2 : w0.hand = 0) {st : List Int} {w : W} {rs : List (Bool × Option Int)} (d : Ru r s w0 st w rs) : rs = (runTo r s st).told ∧ Sim r s (runTo r s st).rows (runTo r s st).hand w := by
  induction d with
  | nil => exact ⟨rfl, sim_start r s h1 h2⟩
  | snoc d ha ih =>
    obtain ⟨e, S⟩ := ih
    obtain ⟨q1, q2⟩ := sim_step S hs ha
    unfold runTo
    rw [runS_app]
    refine ⟨?_, q2⟩
    show _ ++ [_] = (runTo r s _).told ++ [_]
    rw [e]
    injection q1 with q1
    rw [q1]
    rfl
end CB

namespace CB
/-! ### what goes, with pages that must stay -/
def rowAt (l : List Row) (i : Nat) : Row := l.getD i (0, 0)
def spots (stay : List Int) (l : List Row) : List Nat := (List.range l.length).filter fun i => !decide ((rowAt l i).1 ∈ stay)
def goPlace (r : Rule) (l : List Row) (stay : List Int) : Nat :=
  match r with
  | .last => (spots stay l).getLastD 0
  | .high => (spots stay l).getD (lastIdx ((spots stay l).map fun i => (rowAt l i).1)) 0
  | .often => (spots stay l).getD (bestIdx ((spots stay l).map fun i => - (rowAt l i).2)) 0
  | _ => (spots stay l).headD 0
/-- the clock's hand with pages that must stay -/
def sweepP (stay : List Int) : Nat → List Row → Nat → Option (List Row × Nat)
  | 0, _, _ => none
  | f + 1, l, h => match l[h]? with
    | none => none
    | some x => if x.2 ≠ 0 ∨ x.1 ∈ stay then sweepP stay f (if x.1 ∈ stay then l else l.set h (x.1, 0)) ((h + 1) % l.length) else some (l, h)
def stepP (stay : List Int) (sw : List Row × Nat) (r : Rule) (size : Nat) (l : List Row) (h : Nat) (p : Int) : Told :=
  match placeOf l p with
  | some k => ⟨true, none, rowsAsked r l k (l.getD k (0, 0)), h⟩
  | none =>
    if l.length < size then ⟨false, none, l ++ [(p, firstMark r)], h⟩
    else if r = .clock then ⟨false, some (sw.1.getD sw.2 (0, 0)).1, putAt sw.1 sw.2 (p, firstMark r), (sw.2 + 1) % sw.1.length⟩
    else ⟨false, some (l.getD (goPlace r l stay) (0, 0)).1, outAt l (goPlace r l stay) (p, firstMark r), h⟩
theorem spots_nil (l : List Row) : spots [] l = List.range l.length := by
  unfold spots
  rw [List.filter_eq_self]
  intro a _
  simp
theorem map_rowAt (f : Row → Int) (l : List Row) : (List.range l.length).map (fun i => f (rowAt l i)) = l.map f := by
  apply List.ext_getElem
  · simp
  · intro i h1 h2
    simp [rowAt] at h1 h2 ⊢
    rw [List.getElem?_eq_getElem (by simpa using h1)]
    rfl
theorem sweepP_len {stay : List Int} : ∀ {f : Nat} {l : List Row} {h : Nat} {sw : List Row × Nat}, sweepP stay f l h = some sw → sw.1.length = l.length
  | 0, _, _, _, e => by cases e
  | f + 1, l, h, sw, e => by
    unfold sweepP at e
    split at e
    · cases e
    · split at e
      · have := sweepP_len e
        rw [this]
        split <;> simp
      · cases e; rfl
theorem sweepP_lt {stay : List Int} : ∀ {f : Nat} {l : List Row} {h : Nat} {sw : List Row × Nat}, h < l.length → sweepP stay f l h = some sw → sw.2 < l.length
  | 0, _, _, _, _, e => by cases e
  | f + 1, l, h, sw, hl, e => by
    unfold sweepP at e
    split at e
    · cases e
    · split at e
      · have := sweepP_lt (l := _) (h := (h + 1) % l.length) (by split <;> (try rw [List.length_set]) <;> exact Nat.mod_lt _ (by omega)) e
        split at this <;> simpa using this
      · cases e; exact hl
theorem sweepP_nil : ∀ (f : Nat) (l : List Row) (h : Nat), h < l.length → cnt l < f → sweepP [] f l h = some (sweep f l h)
  | 0, _, _, _, hc => absurd hc (Nat.not_lt_zero _)
  | f + 1, l, h, hl, hc => by
    unfold sweepP sweep
    obtain ⟨⟨p, m⟩, e⟩ : ∃ x, l[h]? = some x := ⟨_, List.getElem?_eq_getElem hl⟩
    rw [e]
    simp only [List.not_mem_nil, or_false, ite_false]
    by_cases c : m = 0
    · simp [c]
    · have q := cnt_set e c
      rw [if_pos c, if_neg c]
      exact sweepP_nil f _ _ (by simp; exact Nat.mod_lt _ (by omega)) (by omega)
theorem sweepP_swept {l : List Row} {h : Nat} (hl : h < l.length) : sweepP [] (cnt l + 1) l h = some (swept l h) := sweepP_nil _ _ _ hl (Nat.lt_succ_self _)
end CB

namespace CB.N
open PySem PySem.Spec PyProof.Rows L2 DW
abbrev rowD (p : Row) : PyData := .tuple [.int p.1, .int p.2]
abbrev rowsD (l : List Row) : PyData := .tuple (l.map rowD)
abbrev stateD (l : List Row) (h : Nat) : PyData := .tuple [rowsD l, .int (h : Int)]
abbrev stayD (s : List Int) : PyData := .tuple (s.map .int)
def plD : Option Nat → PyData
  | some k => .int (k : Int)
  | none => .none
def intD : Option Int → PyData
  | some k => .int k
  | none => .none
def outL (l : List Row) (k : Nat) : List Row := l.take k ++ l.drop (k + 1)
def woHand (l : List Row) (h k : Nat) : Nat := if (if k < h then h - 1 else h) = l.length - 1 then 0 else (if k < h then h - 1 else h)
abbrev AT := List VX → Wd → (VX → Wd → Prop) → Prop
def A_first_mark : AT := fun xs W Φ => ∃ r : Rule, xs = [.d (.str r.s)] ∧ Φ (.d (.int (firstMark r))) W
def A_place_of : AT := fun xs W Φ => ∃ (l : List Row) (p : Int), xs = [.d (rowsD l), .d (.int p)] ∧ Φ (.d (plD (placeOf l p))) W
def A_rows_asked : AT := fun xs W Φ => ∃ (r : Rule) (l : List Row) (k : Nat) (x : Row), xs = [.d (.str r.s), .d (rowsD l), .d (.int (k : Int))] ∧ l[k]? = some x ∧ l.length ≤ 100 ∧ Φ (.d (rowsD (rowsAsked r l k x))) W
def A_place_to_go : AT := fun xs W Φ => ∃ (r : Rule) (l : List Row) (s : List Int), xs = [.d (.str r.s), .d (rowsD l), .d (stayD s)] ∧ spots s l ≠ [] ∧ l.length ≤ 100 ∧ Φ (.d (.int (goPlace r l s : Int))) W
def A_swept : AT := fun xs W Φ => ∃ (l : List Row) (h : Nat) (s : List Int) (f : Nat) (sw : List Row × Nat), xs = [.d (rowsD l), .d (.int (h : Int)), .d (stayD s)] ∧ h < l.length ∧ l.length ≤ 100 ∧ sweepP s f l h = some sw ∧ Φ (.d (.tuple [rowsD sw.1, .int (sw.2 : Int)])) W
def SwOk (r : Rule) (l : List Row) (h : Nat) (s : List Int) (sw : List Row × Nat) : Prop := (r = .clock → h < l.length ∧ ∃ f, sweepP s f l h = some sw) ∧ (r ≠ .clock → spots s l ≠ [])
def A_searched : AT := fun xs W Φ => ∃ (r : Rule) (l : List Row) (h : Nat) (s : List Int) (sw : List Row × Nat), xs = [.d (.str r.s), .d (stateD l h), .d (stayD s)] ∧ l.length ≤ 100 ∧ SwOk r l h s sw ∧
  (r = .clock → Φ (.d (.tuple [rowsD sw.1, .int (sw.2 : Int), .int (sw.2 : Int)])) W) ∧ (r ≠ .clock → Φ (.d (.tuple [rowsD l, .int (h : Int), .int (goPlace r l s : Int)])) W)
def A_step : AT := fun xs W Φ => ∃ (r : Rule) (size : Nat) (l : List Row) (h : Nat) (p : Int) (s : List Int) (sw : List Row × Nat), xs = [.d (.str r.s), .d (.int (size : Int)), .d (stateD l h), .d (.int p), .d (stayD s)] ∧ l.length ≤ 100 ∧
  (placeOf l p = none → ¬ l.length < size → SwOk r l h s sw) ∧ Φ (.d (.tuple [.bool (stepP s sw r size l h p).held, intD (stepP s sw r size l h p).gone, stateD (stepP s sw r size l h p).rows (stepP s sw r size l h p).hand])) W
def A_pages_held : AT := fun xs W Φ => ∃ (l : List Row) (h : Nat), xs = [.d (stateD l h)] ∧ l.length < 64 ∧ ∀ ps : List Int, ps.Perm (l.map (·.1)) → ps.Pairwise (· ≤ ·) → Φ (.d (.tuple (ps.map .int))) W
def A_without : AT := fun xs W Φ => ∃ (l : List Row) (h k : Nat), xs = [.d (stateD l h), .d (.int (k : Int))] ∧ k < l.length ∧ l.length ≤ 100 ∧ Φ (.d (stateD (outL l k) (woHand l h k))) W
def A_let_go : AT := fun xs W Φ => ∃ (r : Rule) (l : List Row) (h : Nat) (s : List Int) (sw : List Row × Nat), xs = [.d (.str r.s), .d (stateD l h), .d (stayD s)] ∧ l.length ≤ 100 ∧ SwOk r l h s sw ∧
  (r = .clock → Φ (.d (.tuple [.int (sw.1.getD sw.2 (0, 0)).1, stateD (outL sw.1 sw.2) (woHand sw.1 sw.2 sw.2)])) W) ∧ (r ≠ .clock → Φ (.d (.tuple [.int (l.getD (goPlace r l s) (0, 0)).1, stateD (outL l (goPlace r l s)) (woHand l h (goPlace r l s))])) W)
def sp_first_mark (G : Glob) : Sp := SPEC0 G.K A_first_mark
def sp_place_of (G : Glob) : Sp := SPEC0 G.K A_place_of
def sp_rows_asked (G : Glob) : Sp := SPEC0 G.K A_rows_asked
def sp_place_to_go (G : Glob) : Sp := SPEC0 G.K A_place_to_go
def sp_searched (G : Glob) : Sp := SPEC0 G.K A_searched
def sp_swept (G : Glob) : Sp := SPEC0 G.K A_swept
def sp_step (G : Glob) : Sp := SPEC0 G.K A_step
def sp_pages_held (G : Glob) : Sp := SPEC0 G.K A_pages_held
def sp_without (G : Glob) : Sp := SPEC0 G.K A_without
def sp_let_go (G : Glob) : Sp := SPEC0 G.K A_let_go
def t_first_mark (G : Glob) : TS := (tSeq (tIfS (tOr (tTest (tOp kEq (tVar 0) (tC (.str "often")))) (tTest (tOp kEq (tVar 0) (tC (.str "clock"))))) (tRet (tC (.int 1))) tNext)
    (tRet (tC (.int 0))))
def t_place_of (G : Glob) : TS := (tSeq (tFor (iEnumT G.K (tCons (tVar 0) tNil)) (gTup G.K 2 (gCons (gName 2) (gCons (gName 3) gNil))) (tIfS (tTest (tOp kEq (tOp (rIxT G.K) (tVar 3) (tC (.int 0))) (tVar 1))) (tRet (tVar 2)) tNext))
    (tRet (tC .non)))
def t_rows_asked (G : Glob) : TS := (tSeq (tAsg (tOp (rIxT G.K) (tVar 1) (tVar 2)) (gTup G.K 2 (gCons (gName 3) (gCons (gName 4) gNil))))
    (tSeq (tIfS (tOr (tTest (tOp kEq (tVar 0) (tC (.str "used")))) (tTest (tOp kEq (tVar 0) (tC (.str "last"))))) (tRet (tOp (rCatA G.K) (tOp (rCatA G.K) (tSl (rSlA G.K) (tVar 1) tNoPart (tPart (tVar 2))) (tSl (rSlA G.K) (tVar 1) (tPart (tOp kAdd (tVar 2) (tC (.int 1)))) tNoPart)) (tTup (tCons (tTup (tCons (tVar 3) (tCons (tVar 4) tNil))) tNil)))) tNext)
    (tSeq (tIfS (tTest (tOp kEq (tVar 0) (tC (.str "often")))) (tRet (tOp (rCatA G.K) (tOp (rCatA G.K) (tSl (rSlA G.K) (tVar 1) tNoPart (tPart (tVar 2))) (tTup (tCons (tTup (tCons (tVar 3) (tCons (tOp kAdd (tVar 4) (tC (.int 1))) tNil))) tNil))) (tSl (rSlA G.K) (tVar 1) (tPart (tOp kAdd (tVar 2) (tC (.int 1)))) tNoPart))) tNext)
    (tSeq (tIfS (tTest (tOp kEq (tVar 0) (tC (.str "clock")))) (tRet (tOp (rCatA G.K) (tOp (rCatA G.K) (tSl (rSlA G.K) (tVar 1) tNoPart (tPart (tVar 2))) (tTup (tCons (tTup (tCons (tVar 3) (tCons (tC (.int 1)) tNil))) tNil))) (tSl (rSlA G.K) (tVar 1) (tPart (tOp kAdd (tVar 2) (tC (.int 1)))) tNoPart))) tNext)
    (tRet (tVar 1))))))
def t_place_to_go (G : Glob) : TS := (tSeq (tAsg (tLc (iEnumT G.K (tCons (tVar 1) tNil)) (gTup G.K 2 (gCons (gName 4) (gCons (gName 5) gNil))) (tTest (tOp (kNotIn G.K) (tOp (rIxT G.K) (tVar 5) (tC (.int 0))) (tVar 2))) (tVar 4) [4, 5]) (gName 3))
    (tSeq (tIfS (tTest (tOp kEq (tVar 0) (tC (.str "last")))) (tRet (tOp (rIxL G.K) (tVar 3) (tUn kNeg (tC (.int 1))))) tNext)
    (tSeq (tIfS (tTest (tOp kEq (tVar 0) (tC (.str "high")))) (tRet (tOp (rIxT G.K) (tCB (DW.rBestD G.K PySem.W.maxD) (tCons (tLc (iList G.K (tVar 3)) (gName 4) tYes (tTup (tCons (tOp (rIxT G.K) (tOp (rIxT G.K) (tVar 1) (tVar 4)) (tC (.int 0))) (tCons (tVar 4) tNil))) [4]) tNil)) (tC (.int 1)))) tNext)
    (tSeq (tIfS (tTest (tOp kEq (tVar 0) (tC (.str "often")))) (tRet (tOp (rIxT G.K) (tCB (DW.rBestD G.K PySem.W.minD) (tCons (tLc (iList G.K (tVar 3)) (gName 4) tYes (tTup (tCons (tOp (rIxT G.K) (tOp (rIxT G.K) (tVar 1) (tVar 4)) (tC (.int 1))) (tCons (tVar 4) tNil))) [4]) tNil)) (tC (.int 1)))) tNext)
    (tRet (tOp (rIxL G.K) (tVar 3) (tC (.int 0))))))))
def t_searched (G : Glob) : TS := (tSeq (tAsg (tVar 1) (gTup G.K 2 (gCons (gName 3) (gCons (gName 4) gNil))))
    (tSeq (tIfS (tTest (tOp kEq (tVar 0) (tC (.str "clock")))) (tSeq (tAsg (tCall (sp_swept G) [] E0 (tCons (tVar 3) (tCons (tVar 4) (tCons (tVar 2) tNil)))) (gTup G.K 2 (gCons (gName 3) (gCons (gName 4) gNil))))
    (tRet (tTup (tCons (tVar 3) (tCons (tVar 4) (tCons (tVar 4) tNil)))))) tNext)
    (tRet (tTup (tCons (tVar 3) (tCons (tVar 4) (tCons (tCall (sp_place_to_go G) [] E0 (tCons (tVar 0) (tCons (tVar 3) (tCons (tVar 2) tNil)))) tNil)))))))
def t_swept (G : Glob) : TS := (tSeq (tAsg (tCB (bList G.K) (tCons (tVar 0) tNil)) (gName 3))
    (tSeq (tWhile (tOr (tTru G.K (tOp (rIxT G.K) (tOp (rIxL G.K) (tVar 3) (tVar 1)) (tC (.int 1)))) (tTest (tOp (kIn G.K) (tOp (rIxT G.K) (tOp (rIxL G.K) (tVar 3) (tVar 1)) (tC (.int 0))) (tVar 2)))) (tSeq (tIfS (tTest (tOp (kNotIn G.K) (tOp (rIxT G.K) (tOp (rIxL G.K) (tVar 3) (tVar 1)) (tC (.int 0))) (tVar 2))) (tAsg (tTup (tCons (tOp (rIxT G.K) (tOp (rIxL G.K) (tVar 3) (tVar 1)) (tC (.int 0))) (tCons (tC (.int 0)) tNil))) (gSub (tVar 3) (tVar 1) rSetL)) tNext)
    (tAsg (tOp kMod (tOp kAdd (tVar 1) (tC (.int 1))) (tCB (bLen G.K) (tCons (tVar 3) tNil))) (gName 1))))
    (tRet (tTup (tCons (tCB (bTuple G.K) (tCons (tVar 3) tNil)) (tCons (tVar 1) tNil))))))
def t_step (G : Glob) : TS := (tSeq (tAsg (tVar 2) (gTup G.K 2 (gCons (gName 5) (gCons (gName 6) gNil))))
    (tSeq (tAsg (tCall (sp_place_of G) [] E0 (tCons (tVar 5) (tCons (tVar 3) tNil))) (gName 7))
    (tSeq (tIfS (tTest (tOp kNotN (tVar 7) (tC .non))) (tRet (tTup (tCons (tC (.bl true)) (tCons (tC .non) (tCons (tTup (tCons (tCall (sp_rows_asked G) [] E0 (tCons (tVar 0) (tCons (tVar 5) (tCons (tVar 7) tNil)))) (tCons (tVar 6) tNil))) tNil))))) tNext)
    (tSeq (tAsg (tTup (tCons (tVar 3) (tCons (tCall (sp_first_mark G) [] E0 (tCons (tVar 0) tNil)) tNil))) (gName 8))
    (tSeq (tIfS (tTest (tOp kLt (tCB (bLen G.K) (tCons (tVar 5) tNil)) (tVar 1))) (tRet (tTup (tCons (tC (.bl false)) (tCons (tC .non) (tCons (tTup (tCons (tOp (rCatA G.K) (tVar 5) (tTup (tCons (tVar 8) tNil))) (tCons (tVar 6) tNil))) tNil))))) tNext)
    (tSeq (tAsg (tCall (sp_searched G) [] E0 (tCons (tVar 0) (tCons (tVar 2) (tCons (tVar 4) tNil)))) (gTup G.K 3 (gCons (gName 5) (gCons (gName 6) (gCons (gName 7) gNil)))))
    (tSeq (tIfS (tTest (tOp kEq (tVar 0) (tC (.str "clock")))) (tAsg (tTup (tCons (tOp (rCatA G.K) (tOp (rCatA G.K) (tSl (rSlA G.K) (tVar 5) tNoPart (tPart (tVar 7))) (tTup (tCons (tVar 8) tNil))) (tSl (rSlA G.K) (tVar 5) (tPart (tOp kAdd (tVar 7) (tC (.int 1)))) tNoPart)) (tCons (tOp kMod (tOp kAdd (tVar 7) (tC (.int 1))) (tCB (bLen G.K) (tCons (tVar 5) tNil))) tNil))) (gName 9)) (tAsg (tTup (tCons (tOp (rCatA G.K) (tOp (rCatA G.K) (tSl (rSlA G.K) (tVar 5) tNoPart (tPart (tVar 7))) (tSl (rSlA G.K) (tVar 5) (tPart (tOp kAdd (tVar 7) (tC (.int 1)))) tNoPart)) (tTup (tCons (tVar 8) tNil))) (tCons (tVar 6) tNil))) (gName 9)))
    (tRet (tTup (tCons (tC (.bl false)) (tCons (tOp (rIxT G.K) (tOp (rIxT G.K) (tVar 5) (tVar 7)) (tC (.int 0))) (tCons (tVar 9) tNil))))))))))))
def t_pages_held (G : Glob) : TS := (tRet (tCB (bTuple G.K) (tCons (tCB (rSorted G.K) (tCons (tLc (iTup G.K (tOp (rIxT G.K) (tVar 0) (tC (.int 0)))) (gName 1) tYes (tOp (rIxT G.K) (tVar 1) (tC (.int 0))) [1]) tNil)) tNil)))
def t_without (G : Glob) : TS := (tSeq (tAsg (tVar 0) (gTup G.K 2 (gCons (gName 2) (gCons (gName 3) gNil))))
    (tSeq (tAsg (tOp (rCatA G.K) (tSl (rSlA G.K) (tVar 2) tNoPart (tPart (tVar 1))) (tSl (rSlA G.K) (tVar 2) (tPart (tOp kAdd (tVar 1) (tC (.int 1)))) tNoPart)) (gName 4))
    (tSeq (tIfS (tTest (tOp kLt (tVar 1) (tVar 3))) (tAug 3 (tC (.int 1)) (ipI fun i j => i - j)) tNext)
    (tSeq (tIfS (tTest (tOp kEq (tVar 3) (tCB (bLen G.K) (tCons (tVar 4) tNil)))) (tAsg (tC (.int 0)) (gName 3)) tNext)
    (tRet (tTup (tCons (tVar 4) (tCons (tVar 3) tNil))))))))
def t_let_go (G : Glob) : TS := (tSeq (tAsg (tCall (sp_searched G) [] E0 (tCons (tVar 0) (tCons (tVar 1) (tCons (tVar 2) tNil)))) (gTup G.K 3 (gCons (gName 3) (gCons (gName 4) (gCons (gName 5) gNil)))))
    (tRet (tTup (tCons (tOp (rIxT G.K) (tOp (rIxT G.K) (tVar 3) (tVar 5)) (tC (.int 0))) (tCons (tCall (sp_without G) [] E0 (tCons (tTup (tCons (tVar 3) (tCons (tVar 4) tNil))) (tCons (tVar 5) tNil))) tNil)))))

local macro_rules | `(tactic| walk_at "e1") => `(tactic| (with_reducible first
  | refine ws_seq ?_ | refine ws_asg ?_ | refine ws_asgG ?_ | refine ws_ret ?_ | refine ws_retN ?_ | refine ws_drop ?_ | refine ws_ifs ?_ | refine ws_par ?_
  | refine we_int ?_ | refine we_bl ?_ | refine we_str ?_ | refine we_non ?_ | refine we_ty ?_ | refine we_op ?_ | refine wa_nil ?_ | refine wa_cons ?_ | refine we_tup ?_ | refine we_notV ?_ | refine we_andV ?_ | refine we_orV ?_ | refine we_ifE ?_ | refine we_neg ?_
  | refine wt_test ?_ | refine wt_B ?_ | refine wt_tru ?_ | refine wt_and ?_ | refine wt_or ?_ | refine wt_not ?_ | refine wt_yes ?_ | refine we_sl ?_ | refine wo_none ?_ | refine wo_some ?_ | refine we_call ?_ | refine we_CB ?_
  | refine wg_name ?_ | refine wgs_nil ?_ | refine wgs_cons ?_ | refine wg_tup2 ?_ | refine wg_tup3 ?_ | refine ws_for ?_ | refine wi_tup ?_ | refine wi_rng1 ?_ | refine wi_rng2 ?_ | refine wi_enumT ?_
  | refine w2_add ?_ | refine w2_sub ?_ | refine w2_lt ?_ | refine w2_le ?_ | refine w2_gt ?_ | refine w2_ge ?_ | refine w2_eqI ?_ | refine w2_neI ?_ | refine w2_eqS ?_ | refine w2_isN ?_ | refine w2_notN ?_ | refine w2_inT ?_ | refine w2_notInT ?_ | refine w2_inL ?_ | refine w2_notInL ?_
  | refine exB ?_ | refine exI ?_ | refine exT ?_ | refine exL ?_ | refine exI1 ?_ | refine exT1 ?_ | refine exV ?_ | refine exA0 ?_ | refine exA1 ?_ | refine exA2 ?_ | refine exA3 ?_ | refine exA4 ?_ | refine exA5 ?_ | refine exA6 ?_ | refine exA7 ?_ | refine bT ?_ | refine bF ?_ | refine bT' ?_ | refine bF' ?_
  | refine w3_slA ?_ | refine wb_lenT ?_ | refine wb_lenL ?_ | refine wb_listT ?_ | refine wb_tupL ?_ | refine ws_next ?_
  | refine we_var (by with_unfolding_all rfl) ?_))
local macro_rules | `(tactic| walk_at "ev") => `(tactic| (repeat (walk_at "e1")))

theorem strR {r q : Rule} {A B : Prop} (h1 : r = q → A) (h2 : r ≠ q → B) : (decide (r.s = q.s) = true → A) ∧ (decide (r.s = q.s) = false → B) := ⟨fun z => h1 (rs_inj (of_decide_eq_true z)), fun z => h2 fun e => of_decide_eq_false z (by rw [e])⟩
theorem strF {r q : Rule} {A B : Prop} (h1 : r = q → A) (h2 : r ≠ q → B) : (decide (r.s = q.s) = false → B) ∧ (decide (r.s = q.s) = true → A) := ⟨(strR h1 h2).2, (strR h1 h2).1⟩
theorem first_mark_ok (G : Glob) (X : XC) (xs : List VX) (W : Wd) (Φ : VX → Wd → Prop) (h : A_first_mark xs W Φ) : xs.length = 1 ∧ WS G.K X (t_first_mark G) (st0 xs 0) W (P0 Φ) := by
  obtain ⟨r, rfl, k⟩ := h
  refine ⟨rfl, ?_⟩
  unfold t_first_mark
  walk_at "ev"
  refine strF (q := .often) (fun c => ?_) (fun c => ?_)
  · walk_at "ev"
    subst c
    exact k
  · walk_at "ev"
    refine strR (q := .clock) (fun c => ?_) (fun c => ?_)
    · walk_at "ev"
      subst c
      exact k
    · walk_at "ev"
      cases r <;> first | exact k | (exfalso; first | exact c rfl | (rename_i c' ; exact c' rfl))
theorem rowsD_len (l : List Row) : (l.map rowD).length = l.length := List.length_map ..
theorem rows_at {l : List Row} {i : Nat} {x : Row} (h : l[i]? = some x) : (l.map rowD)[i]? = some (rowD x) := by rw [List.getElem?_map, h]; rfl
theorem rows_getD {l : List Row} {i : Nat} {x : Row} (h : l[i]? = some x) : (l.map rowD).getD i .none = rowD x := by rw [List.getD_eq_getElem?_getD, rows_at h]; rfl
theorem has_at {α : Type} {l : List α} {i : Nat} (h : i < l.length) : ∃ x, l[i]? = some x := ⟨_, List.getElem?_eq_getElem h⟩
theorem place_of_ok (G : Glob) (X : XC) (xs : List VX) (W : Wd) (Φ : VX → Wd → Prop) (h : A_place_of xs W Φ) : xs.length = 2 ∧ WS G.K X (t_place_of G) (st0 xs 2) W (P0 Φ) := by
  obtain ⟨l, p, rfl, k⟩ := h
  refine ⟨rfl, ?_⟩
  unfold t_place_of
  walk_at "ev"
  refine ⟨fun i τ' W' => W' = W ∧ (∃ s2 s3, τ' = [some (.d (rowsD l)), some (.d (.int p)), s2, s3]) ∧ ∀ (j : Nat) (x : Row), j < i → l[j]? = some x → x.1 ≠ p, ⟨rfl, ⟨none, none, rfl⟩, fun j x hj => absurd hj (Nat.not_lt_zero _)⟩, fun _ _ _ _ _ => trivial, ?_, ?_⟩
  · rintro i τ' W' hi ⟨rfl, ⟨s2, s3, rfl⟩, hb⟩
    rw [rowsD_len] at hi
    obtain ⟨x, hx⟩ := has_at hi
    simp only [rows_getD hx]
    walk_at "ev"
    refine w2_ixT (i := ((0 : Nat) : Int)) rfl ?_
    walk_at "ev"
    refine bD (fun c => ?_) (fun c => ?_)
    · walk_at "ev"
      rw [placeOf_some hx c hb] at k
      exact k
    · walk_at "ev"
      refine ⟨rfl, ⟨_, _, rfl⟩, fun j y hj e => ?_⟩
      rcases Nat.lt_succ_iff_lt_or_eq.mp hj with q' | q'
      · exact hb j y q' e
      · subst q'
        rw [hx] at e
        cases e
        exact c
  · rintro τ' W' ⟨rfl, ⟨s2, s3, rfl⟩, hb⟩
    walk_at "ev"
    rw [rowsD_len] at hb
    rw [placeOf_none fun j x e => hb j x (List.getElem?_eq_some_iff.mp e).1 e] at k
    exact k
theorem outAt_D (l : List Row) (k : Nat) (x : Row) : (l.map rowD).take k ++ (l.map rowD).drop (k + 1) ++ [rowD x] = (outAt l k x).map rowD := by
  unfold outAt
  simp [List.map_take, List.map_drop]
theorem putAt_D (l : List Row) (k : Nat) (x : Row) : (l.map rowD).take k ++ [rowD x] ++ (l.map rowD).drop (k + 1) = (putAt l k x).map rowD := by
  unfold putAt
  simp [List.map_take, List.map_drop]
theorem natS (k : Nat) : ((k : Nat) : Int) + 1 = ((k + 1 : Nat) : Int) := by omega
theorem rows_asked_ok (G : Glob) (X : XC) (xs : List VX) (W : Wd) (Φ : VX → Wd → Prop) (h : A_rows_asked xs W Φ) : xs.length = 3 ∧ WS G.K X (t_rows_asked G) (st0 xs 2) W (P0 Φ) := by
  obtain ⟨r, l, k, ⟨pg, m⟩, rfl, hk, hl, q⟩ := h
  have kl : k < l.length := (List.getElem?_eq_some_iff.mp hk).1
  have ml := rowsD_len l
  refine ⟨rfl, ?_⟩
  unfold t_rows_asked
  walk_at "ev"
  refine w2_ixT (atI_nat (rows_at hk)) ?_
  walk_at "ev"
  refine strF (q := .used) (fun c => ?_) (fun c => ?_)
  · walk_at "ev"
    rw [natS, cutD_take (by omega), cutD_drop (by omega)]
    refine w2_catA ?_ ?_
    · rw [List.length_take, List.length_drop, ml]; omega
    walk_at "ev"
    refine w2_catA ?_ ?_
    · rw [List.length_append, List.length_take, List.length_drop, ml]; show _ + 1 ≤ _; omega
    rw [outAt_D l k (pg, m)]
    subst c
    exact q
  · walk_at "ev"
    refine strR (q := .last) (fun c' => ?_) (fun c' => ?_)
    · walk_at "ev"
      rw [natS, cutD_take (by omega), cutD_drop (by omega)]
      refine w2_catA ?_ ?_
      · rw [List.length_take, List.length_drop, ml]; omega
      walk_at "ev"
      refine w2_catA ?_ ?_
      · rw [List.length_append, List.length_take, List.length_drop, ml]; show _ + 1 ≤ _; omega
      rw [outAt_D l k (pg, m)]
      subst c'
      exact q
    · walk_at "ev"
      refine strR (q := .often) (fun c2 => ?_) (fun c2 => ?_)
      · subst c2
        walk_at "ev"
        rw [cutD_take (by omega)]
        refine w2_catA ?_ ?_
        · rw [List.length_take, ml]; show _ + 1 ≤ _; omega
        walk_at "ev"
        rw [natS, cutD_drop (by omega)]
        refine w2_catA ?_ ?_
        · rw [List.length_append, List.length_take, List.length_drop, ml]; show _ + 1 + _ ≤ _; omega
        rw [putAt_D l k (pg, m + 1)]
        exact q
      · walk_at "ev"
        refine strR (q := .clock) (fun c3 => ?_) (fun c3 => ?_)
        · subst c3
          walk_at "ev"
          rw [cutD_take (by omega)]
          refine w2_catA ?_ ?_
          · rw [List.length_take, ml]; show _ + 1 ≤ _; omega
          walk_at "ev"
          rw [natS, cutD_drop (by omega)]
          refine w2_catA ?_ ?_
          · rw [List.length_append, List.length_take, List.length_drop, ml]; show _ + 1 + _ ≤ _; omega
          rw [putAt_D l k (pg, 1)]
          exact q
        · walk_at "ev"
          have e : rowsAsked r l k (pg, m) = l := by
            cases r <;> first | rfl | (exfalso; first | exact c rfl | exact c' rfl | exact c2 rfl | exact c3 rfl)
          rw [e] at q
          exact q
/-- all pairs can be compared -/
theorem alike_pairs {α : Type} (f g : α → Int) (l : List α) : PySem.W.AlikeAll (l.map fun i => PyData.tuple [.int (f i), .int (g i)]) := by
  refine ⟨fun x hx y hy => ?_, fun x hx => ?_⟩
  · obtain ⟨i, _, rfl⟩ := List.mem_map.mp hx
    obtain ⟨j, _, rfl⟩ := List.mem_map.mp hy
    simp [PySem.W.alike, PySem.W.alikeAll]
  · obtain ⟨i, _, rfl⟩ := List.mem_map.mp hx
    exact fun z => nomatch z
theorem depth_pairs {α : Type} (f g : α → Int) : ∀ l : List α, PyData.depthAll (l.map fun i => PyData.tuple [.int (f i), .int (g i)]) ≤ 8
  | [] => by simp [PyData.depthAll]
  | i :: l => by
    have := depth_pairs f g l
    simp [PyData.depthAll, PyData.depth]
    omega
/-- the first and the last of the best, among pairs (f i, i), i rising -/
theorem maxD_pairs (f : Nat → Int) : ∀ (l : List Nat) (i : Nat), (i :: l).Pairwise (· < ·) → PySem.W.maxD (.tuple [.int (f i), .int (i : Nat)]) (l.map fun j => PyData.tuple [.int (f j), .int (j : Nat)]) = PyData.tuple [.int (f ((i :: l).getD (lastIdx ((i :: l).map f)) 0)), .int (((i :: l).getD (lastIdx ((i :: l).map f)) 0 : Nat))] := by
  intro l i hp
  have key : ∀ (l : List Nat) (b : Nat), (∀ j ∈ l, b < j) → l.Pairwise (· < ·) → ∃ k, k ∈ b :: l ∧ PySem.W.maxD (.tuple [.int (f b), .int (b : Nat)]) (l.map fun j => PyData.tuple [.int (f j), .int (j : Nat)]) = PyData.tuple [.int (f k), .int (k : Nat)] ∧ (∀ j ∈ b :: l, f j ≤ f k) ∧ ∀ j ∈ b :: l, k < j → f j < f k := by
    intro l
    induction l with
    | nil => exact fun b _ _ => ⟨b, List.mem_cons_self, rfl, fun j hj => by simp at hj; subst hj; exact Int.le_refl _, fun j hj hk => by simp at hj; omega⟩
    | cons c l ih =>
      intro b hb hl
      have hbc := hb c List.mem_cons_self
      have hcl := (List.pairwise_cons.mp hl).1
      by_cases c1 : f b ≤ f c
      · obtain ⟨k, h1, h2, h3, h4⟩ := ih c hcl (List.pairwise_cons.mp hl).2
        refine ⟨k, List.mem_cons_of_mem _ h1, ?_, fun j hj => ?_, fun j hj hk => ?_⟩
        · rw [← h2]
          show PySem.W.maxD (if PySem.W.dataLt (.tuple [.int (f b), .int (b : Nat)]) (.tuple [.int (f c), .int (c : Nat)]) = true then _ else _) _ = _
          rw [PySem.W.dataLt_ii, if_pos (decide_eq_true (by omega))]
        · rcases List.mem_cons.mp hj with rfl | hj
          · exact Int.le_trans c1 (h3 c List.mem_cons_self)
          · exact h3 j hj
        · rcases List.mem_cons.mp hj with rfl | hj
          · rcases List.mem_cons.mp h1 with rfl | h1
            · omega
            · have := hb k (List.mem_cons_of_mem _ h1); omega
          · exact h4 j hj hk
      · obtain ⟨k, h1, h2, h3, h4⟩ := ih b (fun j hj => hb j (List.mem_cons_of_mem _ hj)) (List.pairwise_cons.mp hl).2
        have hm : k ∈ b :: c :: l := by
          rcases List.mem_cons.mp h1 with rfl | h1
          · exact List.mem_cons_self
          · exact List.mem_cons_of_mem _ (List.mem_cons_of_mem _ h1)
        have hfb := h3 b List.mem_cons_self
        refine ⟨k, hm, ?_, fun j hj => ?_, fun j hj hk => ?_⟩
        · rw [← h2]
          show PySem.W.maxD (if PySem.W.dataLt (.tuple [.int (f b), .int (b : Nat)]) (.tuple [.int (f c), .int (c : Nat)]) = true then _ else _) _ = _
          rw [PySem.W.dataLt_ii, if_neg (by rw [decide_eq_false (by omega)]; exact Bool.false_ne_true)]
        · rcases List.mem_cons.mp hj with rfl | hj
          · exact hfb
          · rcases List.mem_cons.mp hj with rfl | hj
            · omega
            · exact h3 j (List.mem_cons_of_mem _ hj)
        · rcases List.mem_cons.mp hj with rfl | hj
          · exact h4 _ List.mem_cons_self hk
          · rcases List.mem_cons.mp hj with rfl | hj
            · omega
            · exact h4 j (List.mem_cons_of_mem _ hj) hk
  obtain ⟨k, h1, h2, h3, h4⟩ := key l i (List.pairwise_cons.mp hp).1 (List.pairwise_cons.mp hp).2
  rw [h2]
  obtain ⟨n, hn⟩ := List.mem_iff_getElem?.mp h1
  have hnl := (List.getElem?_eq_some_iff.mp hn).1
  have atf : ∀ (a : Nat), ((i :: l).map f).getD a 0 = if a < (i :: l).length then f ((i :: l).getD a 0) else 0 := fun a => by
    by_cases ha : a < (i :: l).length
    · rw [if_pos ha, List.getD_eq_getElem?_getD, List.getD_eq_getElem?_getD, List.getElem?_map, List.getElem?_eq_getElem ha]; rfl
    · rw [if_neg ha, List.getD_eq_getElem?_getD, List.getElem?_eq_none (by rw [List.length_map]; omega)]; rfl
  have gn : (i :: l).getD n 0 = k := by rw [List.getD_eq_getElem?_getD, hn]; rfl
  have e : lastIdx ((i :: l).map f) = n := by
    refine lastIdx_is (by rw [List.length_map]; exact hnl) (fun x hx => ?_) fun j hj hl => ?_
    · obtain ⟨z, hz, rfl⟩ := List.mem_map.mp hx
      rw [atf, if_pos hnl, gn]
      exact h3 z hz
    · rw [List.length_map] at hl
      rw [atf, atf, if_pos hl, if_pos hnl, gn]
      have hj2 : (i :: l)[j]? = some ((i :: l)[j]) := List.getElem?_eq_getElem hl
      have e2 : (i :: l).getD j 0 = (i :: l)[j] := by rw [List.getD_eq_getElem?_getD, hj2]; rfl
      rw [e2]
      refine h4 _ (List.getElem_mem hl) ?_
      have := List.pairwise_iff_getElem.mp hp n j hnl hl hj
      have e3 : (i :: l)[n] = k := by
        rw [List.getElem?_eq_getElem hnl] at hn
        exact Option.some.inj hn
      omega
  rw [e, gn]
theorem minD_pairs (f : Nat → Int) : ∀ (l : List Nat) (i : Nat), (i :: l).Pairwise (· < ·) → PySem.W.minD (.tuple [.int (f i), .int (i : Nat)]) (l.map fun j => PyData.tuple [.int (f j), .int (j : Nat)]) = PyData.tuple [.int (f ((i :: l).getD (bestIdx ((i :: l).map fun j => - f j)) 0)), .int (((i :: l).getD (bestIdx ((i :: l).map fun j => - f j)) 0 : Nat))] := by
  intro l i hp
  have key : ∀ (l : List Nat) (b : Nat), (∀ j ∈ l, b < j) → l.Pairwise (· < ·) → ∃ k, k ∈ b :: l ∧ PySem.W.minD (.tuple [.int (f b), .int (b : Nat)]) (l.map fun j => PyData.tuple [.int (f j), .int (j : Nat)]) = PyData.tuple [.int (f k), .int (k : Nat)] ∧ (∀ j ∈ b :: l, f k ≤ f j) ∧ ∀ j ∈ b :: l, j < k → f k < f j := by
    intro l
    induction l with
    | nil => exact fun b _ _ => ⟨b, List.mem_cons_self, rfl, fun j hj => by simp at hj; subst hj; exact Int.le_refl _, fun j hj hk => by simp at hj; omega⟩
    | cons c l ih =>
      intro b hb hl
      have hbc := hb c List.mem_cons_self
      have hcl := (List.pairwise_cons.mp hl).1
      by_cases c1 : f c < f b
      · obtain ⟨k, h1, h2, h3, h4⟩ := ih c hcl (List.pairwise_cons.mp hl).2
        have hfc := h3 c List.mem_cons_self
        refine ⟨k, List.mem_cons_of_mem _ h1, ?_, fun j hj => ?_, fun j hj hk => ?_⟩
        · rw [← h2]
          show PySem.W.minD (if PySem.W.dataLt (.tuple [.int (f c), .int (c : Nat)]) (.tuple [.int (f b), .int (b : Nat)]) = true then _ else _) _ = _
          rw [PySem.W.dataLt_ii, if_pos (decide_eq_true (by omega))]
        · rcases List.mem_cons.mp hj with rfl | hj
          · omega
          · exact h3 j hj
        · rcases List.mem_cons.mp hj with rfl | hj
          · omega
          · exact h4 j hj hk
      · obtain ⟨k, h1, h2, h3, h4⟩ := ih b (fun j hj => hb j (List.mem_cons_of_mem _ hj)) (List.pairwise_cons.mp hl).2
        have hm : k ∈ b :: c :: l := by
          rcases List.mem_cons.mp h1 with rfl | h1
          · exact List.mem_cons_self
          · exact List.mem_cons_of_mem _ (List.mem_cons_of_mem _ h1)
        have hfb := h3 b List.mem_cons_self
        refine ⟨k, hm, ?_, fun j hj => ?_, fun j hj hk => ?_⟩
        · rw [← h2]
          show PySem.W.minD (if PySem.W.dataLt (.tuple [.int (f c), .int (c : Nat)]) (.tuple [.int (f b), .int (b : Nat)]) = true then _ else _) _ = _
          rw [PySem.W.dataLt_ii, if_neg (by rw [decide_eq_false (by omega)]; exact Bool.false_ne_true)]
        · rcases List.mem_cons.mp hj with rfl | hj
          · exact hfb
          · rcases List.mem_cons.mp hj with rfl | hj
            · omega
            · exact h3 j (List.mem_cons_of_mem _ hj)
        · rcases List.mem_cons.mp hj with rfl | hj
          · exact h4 _ List.mem_cons_self hk
          · rcases List.mem_cons.mp hj with rfl | hj
            · rcases List.mem_cons.mp h1 with rfl | h1
              · omega
              · have := h4 b List.mem_cons_self (hb k (List.mem_cons_of_mem _ h1)); omega
            · exact h4 j (List.mem_cons_of_mem _ hj) hk
  obtain ⟨k, h1, h2, h3, h4⟩ := key l i (List.pairwise_cons.mp hp).1 (List.pairwise_cons.mp hp).2
  rw [h2]
  obtain ⟨n, hn⟩ := List.mem_iff_getElem?.mp h1
  have hnl := (List.getElem?_eq_some_iff.mp hn).1
  have atf : ∀ (a : Nat), a < (i :: l).length → ((i :: l).map fun j => - f j).getD a 0 = - f ((i :: l).getD a 0) := fun a ha => by
    rw [List.getD_eq_getElem?_getD, List.getD_eq_getElem?_getD, List.getElem?_map, List.getElem?_eq_getElem ha]; rfl
  have gn : (i :: l).getD n 0 = k := by rw [List.getD_eq_getElem?_getD, hn]; rfl
  have e : bestIdx ((i :: l).map fun j => - f j) = n := by
    refine bestIdx_is (by rw [List.length_map]; exact hnl) (fun x hx => ?_) fun j hj => ?_
    · obtain ⟨z, hz, rfl⟩ := List.mem_map.mp hx
      rw [atf n hnl, gn]
      have := h3 z hz
      omega
    · have hl : j < (i :: l).length := Nat.lt_trans hj hnl
      rw [atf j hl, atf n hnl, gn]
      have hj2 : (i :: l)[j]? = some ((i :: l)[j]) := List.getElem?_eq_getElem hl
      have e2 : (i :: l).getD j 0 = (i :: l)[j] := by rw [List.getD_eq_getElem?_getD, hj2]; rfl
      rw [e2]
      have hlt := List.pairwise_iff_getElem.mp hp j n hl hnl hj
      have e3 : (i :: l)[n] = k := by
        rw [List.getElem?_eq_getElem hnl] at hn
        exact Option.some.inj hn
      have := h4 _ (List.getElem_mem hl) (by omega)
      omega
  rw [e, gn]
theorem spots_rise (s : List Int) (l : List Row) : (spots s l).Pairwise (· < ·) := List.Pairwise.filter _ List.pairwise_lt_range
theorem spots_lt {s : List Int} {l : List Row} {i : Nat} (h : i ∈ spots s l) : i < l.length := List.mem_range.mp (List.mem_filter.mp h).1
theorem rowAt_some {l : List Row} {i : Nat} (h : i < l.length) : l[i]? = some (rowAt l i) := by
  unfold rowAt
  rw [List.getD_eq_getElem?_getD, List.getElem?_eq_getElem h]
  rfl
end CB.N

namespace CB.N
open PySem PySem.Spec PyProof.Rows L2 DW
local macro_rules | `(tactic| walk_at "e1") => `(tactic| (with_reducible first
  | refine ws_seq ?_ | refine ws_asg ?_ | refine ws_asgG ?_ | refine ws_ret ?_ | refine ws_retN ?_ | refine ws_drop ?_ | refine ws_ifs ?_ | refine ws_par ?_
  | refine we_int ?_ | refine we_bl ?_ | refine we_str ?_ | refine we_non ?_ | refine we_ty ?_ | refine we_op ?_ | refine wa_nil ?_ | refine wa_cons ?_ | refine we_tup ?_ | refine we_notV ?_ | refine we_andV ?_ | refine we_orV ?_ | refine we_ifE ?_ | refine we_neg ?_
  | refine wt_test ?_ | refine wt_B ?_ | refine wt_tru ?_ | refine wt_and ?_ | refine wt_or ?_ | refine wt_not ?_ | refine wt_yes ?_ | refine we_sl ?_ | refine wo_none ?_ | refine wo_some ?_ | refine we_call ?_ | refine we_CB ?_
  | refine wg_name ?_ | refine wgs_nil ?_ | refine wgs_cons ?_ | refine wg_tup2 ?_ | refine wg_tup3 ?_ | refine ws_for ?_ | refine wi_tup ?_ | refine wi_rng1 ?_ | refine wi_rng2 ?_ | refine wi_enumT ?_
  | refine w2_add ?_ | refine w2_sub ?_ | refine w2_lt ?_ | refine w2_le ?_ | refine w2_gt ?_ | refine w2_ge ?_ | refine w2_eqI ?_ | refine w2_neI ?_ | refine w2_eqS ?_ | refine w2_isN ?_ | refine w2_notN ?_ | refine w2_inT ?_ | refine w2_notInT ?_ | refine w2_inL ?_ | refine w2_notInL ?_
  | refine exB ?_ | refine exI ?_ | refine exT ?_ | refine exL ?_ | refine exI1 ?_ | refine exT1 ?_ | refine exV ?_ | refine exA0 ?_ | refine exA1 ?_ | refine exA2 ?_ | refine exA3 ?_ | refine exA4 ?_ | refine exA5 ?_ | refine exA6 ?_ | refine exA7 ?_ | refine bT ?_ | refine bF ?_ | refine bT' ?_ | refine bF' ?_
  | refine w3_slA ?_ | refine wb_lenT ?_ | refine wb_lenL ?_ | refine wb_listT ?_ | refine wb_tupL ?_ | refine ws_next ?_
  | refine we_var (by with_unfolding_all rfl) ?_))
local macro_rules | `(tactic| walk_at "ev") => `(tactic| (repeat (walk_at "e1")))

theorem nat_ints (l : List Nat) : l.map (fun i => PyData.int ((i : Nat) : Int)) = (l.map fun i => ((i : Nat) : Int)).map PyData.int := by simp
theorem getD_map' {α : Type} (f : α → PyData) {l : List α} {i : Nat} {x : α} (h : l[i]? = some x) : (l.map f).getD i .none = f x := by
  rw [List.getD_eq_getElem?_getD, List.getElem?_map, h]
  rfl
/-- the page, or mark, of the row at each place told -/
theorem lc_places (G : Glob) (X : XC) {Φ : VX → Wd → Prop} {W : Wd} {τ : Ts} {l : List Row} {ps : List Nat} {te : TE} (f : Row → Int) (hs : ∀ i ∈ ps, i < l.length) (hn : ps.length ≤ 100000) (e3 : τ[3]? = some (some (.d (.list (ps.map fun i => .int ((i : Nat) : Int))))))
    (ht : ∀ (i : Nat) (x : Row) (Ψ : VX → Wd → Prop), l[i]? = some x → Ψ (.d (.tuple [.int (f x), .int (i : Nat)])) W → WE G.K X te (setT (wipeT τ [4]) [(4, .d (.int (i : Nat)))]) W Ψ)
    (h : Φ (.d (.list (ps.map fun i => .tuple [.int (f (rowAt l i)), .int (i : Nat)]))) W) : WE G.K X (tLc (iList G.K (tVar 3)) (gName 4) tYes te [4]) τ W Φ := by
  refine we_lcM (wi_list (we_var e3 ?_))
  refine exL ⟨by rw [List.length_map]; exact hn, trivial, fun k => some (.tuple [.int (f (rowAt l (ps.getD k 0))), .int (ps.getD k 0 : Nat)]), _, fun k hk => ?_, ?_, h⟩
  · rw [List.length_map] at hk
    obtain ⟨i, hi⟩ := has_at hk
    have em := getD_map' (fun i : Nat => PyData.int (i : Int)) hi
    have eg : ps.getD k 0 = i := by rw [List.getD_eq_getElem?_getD, hi]; rfl
    have il := hs i (List.mem_of_getElem? hi)
    refine ⟨[(4, .d (.int (i : Nat)))], ?_, fun p hp => by rw [List.mem_singleton.mp hp]; exact List.mem_singleton.mpr rfl, ?_⟩
    · dsimp only
      rw [em]
      exact cg_name
    · refine wt_yes ⟨rfl, fun _ => ?_, fun z => by cases z⟩
      refine ht i (rowAt l i) _ (rowAt_some il) ⟨rfl, _, rfl, ?_⟩
      dsimp only
      rw [eg]
  · rw [List.length_map]
    have e : (fun k => some (PyData.tuple [.int (f (rowAt l (ps.getD k 0))), .int (ps.getD k 0 : Nat)])) = some ∘ (fun k => (PyData.tuple [.int (f (rowAt l (ps.getD k 0))), .int (ps.getD k 0 : Nat)])) := rfl
    rw [e, List.filterMap_eq_map]
    apply List.ext_getElem
    · simp
    · intro i h1 h2
      simp at h1
      simp [List.getElem?_eq_getElem h1]
theorem place_to_go_ok (G : Glob) (X : XC) (xs : List VX) (W : Wd) (Φ : VX → Wd → Prop) (h : A_place_to_go xs W Φ) : xs.length = 3 ∧ WS G.K X (t_place_to_go G) (st0 xs 3) W (P0 Φ) := by
  obtain ⟨r, l, s, rfl, hne, hl, q⟩ := h
  have ml := rowsD_len l
  have sl : (spots s l).length ≤ l.length := by
    have := List.length_filter_le (fun i => !decide ((rowAt l i).1 ∈ s)) (List.range l.length)
    rw [List.length_range] at this
    exact this
  refine ⟨rfl, ?_⟩
  unfold t_place_to_go
  walk_at "ev"
  refine we_lcM ?_
  walk_at "ev"
  refine ⟨by omega, trivial, fun i => if (!decide ((rowAt l i).1 ∈ s)) = true then some (.int (i : Nat)) else none, (spots s l).map fun i => .int (i : Nat), fun i hi => ?_, ?_, ?_⟩
  · rw [ml] at hi
    have hx := rowAt_some hi
    refine ⟨[(4, .d (.int (i : Nat))), (5, .d (rowD (rowAt l i)))], ?_, fun p hp => by
      rcases List.mem_cons.mp hp with e | hp
      · rw [e]; exact List.mem_cons_self
      · rw [List.mem_singleton.mp hp]; exact List.mem_cons_of_mem _ List.mem_cons_self, ?_⟩
    · dsimp only
      rw [rows_getD hx]
      exact cg_tup rfl (cgs_cons cg_name (cgs_cons cg_name cgs_nil))
    · walk_at "ev"
      refine w2_ixT (i := ((0 : Nat) : Int)) rfl ?_
      walk_at "ev"
      refine ⟨rfl, fun c => ?_, fun c => ?_⟩
      · refine we_var rfl ⟨rfl, _, rfl, ?_⟩
        dsimp only
        rw [if_pos c]
      · dsimp only
        rw [if_neg (by rw [c]; exact Bool.false_ne_true)]
  · rw [ml, range_if (fun i => !decide ((rowAt l i).1 ∈ s)) (fun i => PyData.int ((i : Nat) : Int))]
    rfl
  · obtain ⟨i0, t, hit⟩ : ∃ i0 t, spots s l = i0 :: t := by
      cases e : spots s l with
      | nil => exact absurd e hne
      | cons a b => exact ⟨a, b, rfl⟩
    have hr := spots_rise s l
    walk_at "ev"
    refine strR (q := .last) (fun c => ?_) (fun c => ?_)
    · subst c
      walk_at "ev"
      refine w2_ixL (d := .int ((spots s l).getLastD 0 : Nat)) ?_ q
      have hl0 : 0 < (spots s l).length := by rw [hit]; exact Nat.succ_pos _
      unfold atI
      have e1 : ixN ((spots s l).map fun i => PyData.int ((i : Nat) : Int)).length (-1) = some ((spots s l).length - 1) := by
        rw [List.length_map]
        unfold ixN
        rw [if_neg (by omega), if_pos (by omega)]
        congr 1
        omega
      rw [e1]
      show ((spots s l).map fun i => PyData.int ((i : Nat) : Int))[(spots s l).length - 1]? = _
      rw [List.getElem?_map, List.getElem?_eq_getElem (by omega), List.getLastD_eq_getLast?, List.getLast?_eq_getElem?, List.getElem?_eq_getElem (by omega)]
      rfl
    · walk_at "ev"
      refine strR (q := .high) (fun c' => ?_) (fun c' => ?_)
      · subst c'
        walk_at "ev"
        refine lc_places G X (l := l) (fun x => x.1) (fun i hi => spots_lt hi) (by omega) rfl (fun i x Ψ hx hq => ?_) ?_
        · walk_at "ev"
          refine w2_ixT (atI_nat (rows_at hx)) ?_
          walk_at "ev"
          refine w2_ixT (i := ((0 : Nat) : Int)) rfl ?_
          walk_at "ev"
          exact hq
        · walk_at "ev"
          rw [hit]
          refine wb_best (alike_pairs (fun i : Nat => (rowAt l i).1) (fun i : Nat => (i : Int)) (i0 :: t)) (depth_pairs (fun i : Nat => (rowAt l i).1) (fun i : Nat => (i : Int)) (i0 :: t)) ?_
          rw [maxD_pairs (fun i => (rowAt l i).1) t i0 (hit ▸ hr)]
          walk_at "ev"
          refine w2_ixT (i := ((1 : Nat) : Int)) rfl ?_
          rw [← hit]
          exact q
      · walk_at "ev"
        refine strR (q := .often) (fun c2 => ?_) (fun c2 => ?_)
        · subst c2
          walk_at "ev"
          refine lc_places G X (l := l) (fun x => x.2) (fun i hi => spots_lt hi) (by omega) rfl (fun i x Ψ hx hq => ?_) ?_
          · walk_at "ev"
            refine w2_ixT (atI_nat (rows_at hx)) ?_
            walk_at "ev"
            refine w2_ixT (i := ((1 : Nat) : Int)) rfl ?_
            walk_at "ev"
            exact hq
          · walk_at "ev"
            rw [hit]
            refine wb_best (alike_pairs (fun i : Nat => (rowAt l i).2) (fun i : Nat => (i : Int)) (i0 :: t)) (depth_pairs (fun i : Nat => (rowAt l i).2) (fun i : Nat => (i : Int)) (i0 :: t)) ?_
            rw [minD_pairs (fun i => (rowAt l i).2) t i0 (hit ▸ hr)]
            walk_at "ev"
            refine w2_ixT (i := ((1 : Nat) : Int)) rfl ?_
            rw [← hit]
            exact q
        · walk_at "ev"
          refine w2_ixL (i := ((0 : Nat) : Int)) (d := .int ((spots s l).headD 0 : Nat)) ?_ ?_
          · rw [hit]; exact atI_nat rfl
          · have e : goPlace r l s = (spots s l).headD 0 := by
              cases r <;> first | rfl | (exfalso; first | exact c rfl | exact c' rfl | exact c2 rfl)
            rw [e] at q
            exact q
end CB.N

namespace CB.N
open PySem PySem.Spec PyProof.Rows L2 DW
local macro_rules | `(tactic| walk_at "e1") => `(tactic| (with_reducible first
  | refine ws_seq ?_ | refine ws_asg ?_ | refine ws_asgG ?_ | refine ws_ret ?_ | refine ws_retN ?_ | refine ws_drop ?_ | refine ws_ifs ?_ | refine ws_par ?_
  | refine we_int ?_ | refine we_bl ?_ | refine we_str ?_ | refine we_non ?_ | refine we_ty ?_ | refine we_op ?_ | refine wa_nil ?_ | refine wa_cons ?_ | refine we_tup ?_ | refine we_notV ?_ | refine we_andV ?_ | refine we_orV ?_ | refine we_ifE ?_ | refine we_neg ?_
  | refine wt_test ?_ | refine wt_B ?_ | refine wt_tru ?_ | refine wt_and ?_ | refine wt_or ?_ | refine wt_not ?_ | refine wt_yes ?_ | refine we_sl ?_ | refine wo_none ?_ | refine wo_some ?_ | refine we_call ?_ | refine we_CB ?_
  | refine wg_name ?_ | refine wgs_nil ?_ | refine wgs_cons ?_ | refine wg_tup2 ?_ | refine wg_tup3 ?_ | refine ws_for ?_ | refine wi_tup ?_ | refine wi_rng1 ?_ | refine wi_rng2 ?_ | refine wi_enumT ?_
  | refine w2_add ?_ | refine w2_sub ?_ | refine w2_lt ?_ | refine w2_le ?_ | refine w2_gt ?_ | refine w2_ge ?_ | refine w2_eqI ?_ | refine w2_neI ?_ | refine w2_eqS ?_ | refine w2_isN ?_ | refine w2_notN ?_ | refine w2_inT ?_ | refine w2_notInT ?_ | refine w2_inL ?_ | refine w2_notInL ?_
  | refine exB ?_ | refine exI ?_ | refine exT ?_ | refine exL ?_ | refine exI1 ?_ | refine exT1 ?_ | refine exV ?_ | refine exA0 ?_ | refine exA1 ?_ | refine exA2 ?_ | refine exA3 ?_ | refine exA4 ?_ | refine exA5 ?_ | refine exA6 ?_ | refine exA7 ?_ | refine bT ?_ | refine bF ?_ | refine bT' ?_ | refine bF' ?_
  | refine w3_slA ?_ | refine wb_lenT ?_ | refine wb_lenL ?_ | refine wb_listT ?_ | refine wb_tupL ?_ | refine ws_next ?_
  | refine we_var (by with_unfolding_all rfl) ?_))
local macro_rules | `(tactic| walk_at "ev") => `(tactic| (repeat (walk_at "e1")))

theorem rowsO_at {l : List Row} {i : Nat} {x : Row} (h : l[i]? = some x) : ((l.map rowD).map VX.d)[i]? = some (.d (rowD x)) := by rw [List.getElem?_map, rows_at h]; rfl
theorem rowsO_set (l : List Row) (i : Nat) (x : Row) : ((l.map rowD).map VX.d).set i (.d (rowD x)) = ((l.set i x).map rowD).map VX.d := by simp [List.map_set]
theorem swept_ok (G : Glob) (X : XC) (xs : List VX) (W : Wd) (Φ : VX → Wd → Prop) (h : A_swept xs W Φ) : xs.length = 3 ∧ WS G.K X (t_swept G) (st0 xs 1) W (P0 Φ) := by
  obtain ⟨l, h, s, f, sw, rfl, hl, hn, hs, q⟩ := h
  obtain ⟨c, g⟩ := W
  refine ⟨rfl, ?_⟩
  unfold t_swept
  walk_at "ev"
  intro L
  walk_at "ev"
  refine ws_while (fun m τ' W' => ∃ (l' : List Row) (h' : Nat), τ' = [some (.d (rowsD l)), some (.d (.int (h' : Int))), some (.d (stayD s)), some (.r (.ref L))] ∧ W' = ⟨(L, .lst ((l'.map rowD).map VX.d)) :: c, g⟩ ∧ h' < l'.length ∧ l'.length = l.length ∧ sweepP s m l' h' = some sw) f ⟨l, h, rfl, rfl, hl, rfl, hs⟩ ?_
  rintro m τ' W' ⟨l', h', rfl, rfl, hl', hn', hs'⟩
  have ml : ((l'.map rowD).map VX.d).length = l'.length := by rw [List.length_map, List.length_map]
  obtain ⟨⟨p, mk⟩, hx⟩ := has_at hl'
  obtain ⟨m', rfl⟩ : ∃ m', m = m' + 1 := by
    cases m with
    | zero => cases hs'
    | succ m => exact ⟨m, rfl⟩
  have hs2 : (if mk ≠ 0 ∨ p ∈ s then sweepP s m' (if p ∈ s then l' else l'.set h' (p, 0)) ((h' + 1) % l'.length) else some (l', h')) = some sw := by
    have := hs'
    unfold sweepP at this
    rw [hx] at this
    exact this
  have hat := rowsO_at hx
  have step : ∀ (P : Pst) (W2 : Wd) (l2 : List Row), (∀ τ2 W2_, (∃ m2, m2 < m' + 1 ∧ ∃ (l' : List Row) (h' : Nat), τ2 = [some (.d (rowsD l)), some (.d (.int (h' : Int))), some (.d (stayD s)), some (.r (.ref L))] ∧ W2_ = ⟨(L, .lst ((l'.map rowD).map VX.d)) :: c, g⟩ ∧ h' < l'.length ∧ l'.length = l.length ∧ sweepP s m2 l' h' = some sw) → P.nx τ2 W2_) → W2 = ⟨(L, .lst ((l2.map rowD).map VX.d)) :: c, g⟩ → l2.length = l.length → sweepP s m' l2 ((h' + 1) % l'.length) = some sw →
      WS G.K X (tAsg (tOp kMod (tOp kAdd (tVar 1) (tC (.int 1))) (tCB (bLen G.K) (tCons (tVar 3) tNil))) (gName 1)) [some (.d (rowsD l)), some (.d (.int (h' : Int))), some (.d (stayD s)), some (.r (.ref L))] W2 P := fun P W2 l2 hP e1 e2 e3 => by
    subst e1
    walk_at "ev"
    refine wb_lenO .hd ?_
    walk_at "ev"
    refine w2_mod ?_ ?_
    · rw [List.length_map, List.length_map]; omega
    refine hP _ _ ⟨m', Nat.lt_succ_self _, l2, (h' + 1) % l'.length, ?_, rfl, ?_, e2, e3⟩
    · have : ((h' : Int) + 1) % ((((l2.map rowD).map VX.d).length : Nat) : Int) = (((h' + 1) % l'.length : Nat) : Int) := by
        rw [List.length_map, List.length_map, e2, ← hn', Int.natCast_emod]
        rfl
      rw [this]
      rfl
    · rw [e2, ← hn']
      exact Nat.mod_lt _ (by omega)
  have body : ∀ (P : Pst) (b : Bool), (∀ τ2 W2_, (∃ m2, m2 < m' + 1 ∧ ∃ (l' : List Row) (h' : Nat), τ2 = [some (.d (rowsD l)), some (.d (.int (h' : Int))), some (.d (stayD s)), some (.r (.ref L))] ∧ W2_ = ⟨(L, .lst ((l'.map rowD).map VX.d)) :: c, g⟩ ∧ h' < l'.length ∧ l'.length = l.length ∧ sweepP s m2 l' h' = some sw) → P.nx τ2 W2_) → b = decide (mk ≠ 0 ∨ p ∈ s) → (b = true → WS G.K X (tSeq (tIfS (tTest (tOp (kNotIn G.K) (tOp (rIxT G.K) (tOp (rIxL G.K) (tVar 3) (tVar 1)) (tC (.int 0))) (tVar 2))) (tAsg (tTup (tCons (tOp (rIxT G.K) (tOp (rIxL G.K) (tVar 3) (tVar 1)) (tC (.int 0))) (tCons (tC (.int 0)) tNil))) (gSub (tVar 3) (tVar 1) rSetL)) tNext)
      (tAsg (tOp kMod (tOp kAdd (tVar 1) (tC (.int 1))) (tCB (bLen G.K) (tCons (tVar 3) tNil))) (gName 1))) [some (.d (rowsD l)), some (.d (.int (h' : Int))), some (.d (stayD s)), some (.r (.ref L))] ⟨(L, .lst ((l'.map rowD).map VX.d)) :: c, g⟩ P) ∧
      (b = false → WS G.K X (tRet (tTup (tCons (tCB (bTuple G.K) (tCons (tVar 3) tNil)) (tCons (tVar 1) tNil)))) [some (.d (rowsD l)), some (.d (.int (h' : Int))), some (.d (stayD s)), some (.r (.ref L))] ⟨(L, .lst ((l'.map rowD).map VX.d)) :: c, g⟩ (P0 Φ)) := by
    intro P b hP hb
    refine ⟨fun c1 => ?_, fun c1 => ?_⟩
    · have c2 : mk ≠ 0 ∨ p ∈ s := of_decide_eq_true (hb ▸ c1)
      rw [if_pos c2] at hs2
      walk_at "ev"
      refine w2_ixO .hd (atI_nat hat) ?_
      walk_at "ev"
      refine w2_ixT (i := ((0 : Nat) : Int)) rfl ?_
      walk_at "ev"
      refine bN (fun c3 => ?_) (fun c3 => ?_)
      · rw [if_neg c3] at hs2
        walk_at "ev"
        refine w2_ixO .hd (atI_nat hat) ?_
        walk_at "ev"
        refine w2_ixT (i := ((0 : Nat) : Int)) rfl ?_
        walk_at "ev"
        refine wg_setO (k := 0) (xs := []) ?_
        walk_at "ev"
        refine ⟨L, _, _, _, h', rfl, rfl, .hd, ixN_nat (by omega), ?_⟩
        refine step _ _ (l'.set h' (p, 0)) hP ?_ (by rw [List.length_set]; exact hn') hs2
        show (⟨(L, .lst (((l'.map rowD).map VX.d).set h' (.d (rowD (p, 0))))) :: c, g⟩ : Wd) = _
        rw [rowsO_set]
      · rw [if_pos c3] at hs2
        refine ws_next ?_
        exact step _ _ l' hP rfl hn' hs2
    · have c2 : ¬ (mk ≠ 0 ∨ p ∈ s) := of_decide_eq_false (hb ▸ c1)
      rw [if_neg c2] at hs2
      cases hs2
      refine ws_ret (we_drop ?_)
      walk_at "ev"
      refine wb_tupO .hd ?_
      walk_at "ev"
      exact ⟨_, _, rfl, q⟩
  walk_at "ev"
  refine w2_ixO .hd (atI_nat hat) ?_
  walk_at "ev"
  refine w2_ixT (i := ((1 : Nat) : Int)) rfl ?_
  refine ⟨_, mk != 0, rfl, rfl, ?_⟩
  by_cases c1 : mk = 0
  · subst c1
    refine ⟨fun _ => ?_, fun z => by cases z⟩
    walk_at "ev"
    refine w2_ixO .hd (atI_nat hat) ?_
    walk_at "ev"
    refine w2_ixT (i := ((0 : Nat) : Int)) rfl ?_
    walk_at "ev"
    refine body _ _ ?_ (decide_eq_decide.mpr ⟨fun z => .inr z, fun z => z.elim (fun z => absurd rfl z) id⟩)
    exact fun _ _ z => z
  · have c2 : (mk != 0) = true := by simpa using c1
    rw [c2]
    refine bT' ?_
    refine body _ true ?_ (by simp [c1])
    exact fun _ _ z => z
theorem searched_ok (G : Glob) (X : XC) (xs : List VX) (W : Wd) (Φ : VX → Wd → Prop) (h : A_searched xs W Φ) : xs.length = 3 ∧ WS G.K X (t_searched G) (st0 xs 2) W (P0 Φ) := by
  obtain ⟨r, l, h, s, sw, rfl, hl, ok, q1, q2⟩ := h
  refine ⟨rfl, ?_⟩
  unfold t_searched
  walk_at "ev"
  refine strR (q := .clock) (fun c => ?_) (fun c => ?_)
  · obtain ⟨h1, f, h2⟩ := ok.1 c
    walk_at "ev"
    refine wb_spec0 ⟨l, h, s, f, sw, rfl, h1, hl, h2, ?_⟩
    walk_at "ev"
    exact q1 c
  · walk_at "ev"
    refine wb_spec0 ⟨r, l, s, rfl, ok.2 c, hl, ?_⟩
    walk_at "ev"
    exact q2 c
theorem pages_held_ok (G : Glob) (X : XC) (xs : List VX) (W : Wd) (Φ : VX → Wd → Prop) (h : A_pages_held xs W Φ) : xs.length = 1 ∧ WS G.K X (t_pages_held G) (st0 xs 1) W (P0 Φ) := by
  obtain ⟨l, h, rfl, hl, q⟩ := h
  refine ⟨rfl, ?_⟩
  unfold t_pages_held
  walk_at "ev"
  refine we_lcM ?_
  walk_at "ev"
  refine w2_ixT (i := ((0 : Nat) : Int)) rfl ?_
  walk_at "ev"
  have ml := rowsD_len l
  refine ⟨by omega, trivial, fun i => some (.int (rowAt l i).1), (l.map (·.1)).map .int, fun i hi => ?_, ?_, ?_⟩
  · rw [ml] at hi
    have hx := rowAt_some hi
    refine ⟨[(1, .d (rowD (rowAt l i)))], ?_, fun p hp => by rw [List.mem_singleton.mp hp]; exact List.mem_singleton.mpr rfl, ?_⟩
    · dsimp only
      rw [rows_getD hx]
      exact cg_name
    · refine wt_yes ⟨rfl, fun _ => ?_, fun z => by cases z⟩
      walk_at "ev"
      exact w2_ixT (i := ((0 : Nat) : Int)) rfl ⟨rfl, _, rfl, rfl⟩
  · rw [ml]
    have e : (fun i => some (PyData.int (rowAt l i).1)) = some ∘ (fun i => PyData.int (rowAt l i).1) := rfl
    rw [e, List.filterMap_eq_map, ← map_rowAt (fun x => x.1) l, List.map_map]
    rfl
  · walk_at "ev"
    refine wb_sorted (by rw [List.length_map]; exact hl) fun ms pm pw => ?_
    walk_at "ev"
    exact q ms pm pw
end CB.N

namespace CB.N
open PySem PySem.Spec PyProof.Rows L2 DW
local macro_rules | `(tactic| walk_at "e1") => `(tactic| (with_reducible first
  | refine ws_seq ?_ | refine ws_asg ?_ | refine ws_asgG ?_ | refine ws_ret ?_ | refine ws_retN ?_ | refine ws_drop ?_ | refine ws_ifs ?_ | refine ws_par ?_
  | refine we_int ?_ | refine we_bl ?_ | refine we_str ?_ | refine we_non ?_ | refine we_ty ?_ | refine we_op ?_ | refine wa_nil ?_ | refine wa_cons ?_ | refine we_tup ?_ | refine we_notV ?_ | refine we_andV ?_ | refine we_orV ?_ | refine we_ifE ?_ | refine we_neg ?_
  | refine wt_test ?_ | refine wt_B ?_ | refine wt_tru ?_ | refine wt_and ?_ | refine wt_or ?_ | refine wt_not ?_ | refine wt_yes ?_ | refine we_sl ?_ | refine wo_none ?_ | refine wo_some ?_ | refine we_call ?_ | refine we_CB ?_
  | refine wg_name ?_ | refine wgs_nil ?_ | refine wgs_cons ?_ | refine wg_tup2 ?_ | refine wg_tup3 ?_ | refine ws_for ?_ | refine wi_tup ?_ | refine wi_rng1 ?_ | refine wi_rng2 ?_ | refine wi_enumT ?_
  | refine w2_add ?_ | refine w2_sub ?_ | refine w2_lt ?_ | refine w2_le ?_ | refine w2_gt ?_ | refine w2_ge ?_ | refine w2_eqI ?_ | refine w2_neI ?_ | refine w2_eqS ?_ | refine w2_isN ?_ | refine w2_notN ?_ | refine w2_inT ?_ | refine w2_notInT ?_ | refine w2_inL ?_ | refine w2_notInL ?_
  | refine exB ?_ | refine exI ?_ | refine exT ?_ | refine exL ?_ | refine exI1 ?_ | refine exT1 ?_ | refine exV ?_ | refine exA0 ?_ | refine exA1 ?_ | refine exA2 ?_ | refine exA3 ?_ | refine exA4 ?_ | refine exA5 ?_ | refine exA6 ?_ | refine exA7 ?_ | refine bT ?_ | refine bF ?_ | refine bT' ?_ | refine bF' ?_
  | refine w3_slA ?_ | refine wb_lenT ?_ | refine wb_lenL ?_ | refine wb_listT ?_ | refine wb_tupL ?_ | refine ws_next ?_
  | refine we_var (by with_unfolding_all rfl) ?_))
local macro_rules | `(tactic| walk_at "ev") => `(tactic| (repeat (walk_at "e1")))

theorem outL_D (l : List Row) (k : Nat) : (l.map rowD).take k ++ (l.map rowD).drop (k + 1) = (outL l k).map rowD := by
  unfold outL
  simp [List.map_take, List.map_drop]
theorem outL_len {l : List Row} {k : Nat} (h : k < l.length) : (outL l k).length = l.length - 1 := by
  unfold outL
  simp
  omega
theorem without_ok (G : Glob) (X : XC) (xs : List VX) (W : Wd) (Φ : VX → Wd → Prop) (h : A_without xs W Φ) : xs.length = 2 ∧ WS G.K X (t_without G) (st0 xs 3) W (P0 Φ) := by
  obtain ⟨l, h, k, rfl, hk, hl, q⟩ := h
  have ml := rowsD_len l
  have ol := outL_len hk
  refine ⟨rfl, ?_⟩
  unfold t_without
  walk_at "ev"
  rw [natS, cutD_take (by omega), cutD_drop (by omega)]
  refine w2_catA ?_ ?_
  · rw [List.length_take, List.length_drop, ml]; omega
  rw [outL_D]
  have fin : ∀ (P : Pst) (h1 : Nat), P.rt = Φ → (if h1 = l.length - 1 then 0 else h1) = woHand l h k → WS G.K X (tSeq (tIfS (tTest (tOp kEq (tVar 3) (tCB (bLen G.K) (tCons (tVar 4) tNil)))) (tAsg (tC (.int 0)) (gName 3)) tNext)
      (tRet (tTup (tCons (tVar 4) (tCons (tVar 3) tNil))))) [some (.d (stateD l h)), some (.d (.int (k : Int))), some (.d (rowsD l)), some (.d (.int (h1 : Int))), some (.d (rowsD (outL l k)))] W P := fun P h1 eP e1 => by
    walk_at "ev"
    rw [rowsD_len, ol]
    refine bD (fun c => ?_) (fun c => ?_)
    · walk_at "ev"
      rw [if_pos (by omega)] at e1
      rw [eP]
      rw [← e1] at q
      exact q
    · walk_at "ev"
      rw [if_neg (by omega)] at e1
      rw [eP]
      rw [← e1] at q
      exact q
  walk_at "ev"
  refine bD (fun c => ?_) (fun c => ?_)
  · refine ws_augI (i := (h : Int)) rfl (we_int (exI ?_))
    have e : ((h : Int) - 1) = ((h - 1 : Nat) : Int) := by omega
    rw [e]
    refine fin _ (h - 1) ?_ ?_
    · rfl
    unfold woHand
    rw [if_pos (by omega : k < h)]
  · refine ws_next ?_
    refine fin _ h ?_ ?_
    · rfl
    unfold woHand
    rw [if_neg (by omega : ¬ k < h)]
theorem let_go_ok (G : Glob) (X : XC) (xs : List VX) (W : Wd) (Φ : VX → Wd → Prop) (h : A_let_go xs W Φ) : xs.length = 3 ∧ WS G.K X (t_let_go G) (st0 xs 3) W (P0 Φ) := by
  obtain ⟨r, l, h, s, sw, rfl, hl, ok, q1, q2⟩ := h
  refine ⟨rfl, ?_⟩
  unfold t_let_go
  walk_at "ev"
  refine wb_spec0 ⟨r, l, h, s, sw, rfl, hl, ok, fun c => ?_, fun c => ?_⟩
  · obtain ⟨h1, f, h2⟩ := ok.1 c
    have e1 := sweepP_len h2
    have e2 := sweepP_lt h1 h2
    have q1 := q1 c
    obtain ⟨l2, h2'⟩ := sw
    dsimp only at e1 e2 q1 ⊢
    have e3 : h2' < l2.length := by omega
    walk_at "ev"
    refine w2_ixT (atI_nat (rows_at (rowAt_some e3))) ?_
    walk_at "ev"
    refine w2_ixT (i := ((0 : Nat) : Int)) rfl ?_
    walk_at "ev"
    refine wb_spec0 ⟨l2, h2', h2', rfl, e3, by omega, ?_⟩
    walk_at "ev"
    exact q1
  · have hlt : goPlace r l s < l.length := by
      have hne := ok.2 c
      have all : ∀ i ∈ spots s l, i < l.length := fun i hi => spots_lt hi
      have inl : ∀ k, k < (spots s l).length → (spots s l).getD k 0 < l.length := fun k hk => by
        rw [List.getD_eq_getElem?_getD, List.getElem?_eq_getElem hk]
        exact all _ (List.getElem_mem hk)
      have l0 : 0 < (spots s l).length := List.length_pos_iff.mpr hne
      have hd : (spots s l).headD 0 < l.length := by
        cases e : spots s l with
        | nil => exact absurd e hne
        | cons a t => exact all a (by rw [e]; exact List.mem_cons_self)
      cases r with
      | clock => exact absurd rfl c
      | came => exact hd
      | used => exact hd
      | last =>
        show (spots s l).getLastD 0 < _
        rw [List.getLastD_eq_getLast?, List.getLast?_eq_getElem?, List.getElem?_eq_getElem (by omega)]
        exact all _ (List.getElem_mem _)
      | high =>
        have := (lastIdx_spec (l := (spots s l).map fun i => (rowAt l i).1) (by simpa using hne)).1
        rw [List.length_map] at this
        exact inl _ this
      | often =>
        have := (bestIdx_spec (l := (spots s l).map fun i => - (rowAt l i).2) (by simpa using hne)).1
        rw [List.length_map] at this
        exact inl _ this
    have q2 := q2 c
    walk_at "ev"
    refine w2_ixT (atI_nat (rows_at (rowAt_some hlt))) ?_
    walk_at "ev"
    refine w2_ixT (i := ((0 : Nat) : Int)) rfl ?_
    walk_at "ev"
    refine wb_spec0 ⟨l, h, goPlace r l s, rfl, hlt, hl, ?_⟩
    walk_at "ev"
    exact q2
theorem goPlace_lt {r : Rule} {l : List Row} {s : List Int} (c : r ≠ .clock) (hne : spots s l ≠ []) : goPlace r l s < l.length := by
  have all : ∀ i ∈ spots s l, i < l.length := fun i hi => spots_lt hi
  have inl : ∀ k, k < (spots s l).length → (spots s l).getD k 0 < l.length := fun k hk => by
    rw [List.getD_eq_getElem?_getD, List.getElem?_eq_getElem hk]
    exact all _ (List.getElem_mem hk)
  have l0 : 0 < (spots s l).length := List.length_pos_iff.mpr hne
  have hd : (spots s l).headD 0 < l.length := by
    cases e : spots s l with
    | nil => exact absurd e hne
    | cons a t => exact all a (by rw [e]; exact List.mem_cons_self)
  cases r with
  | clock => exact absurd rfl c
  | came => exact hd
  | used => exact hd
  | last =>
    show (spots s l).getLastD 0 < _
    rw [List.getLastD_eq_getLast?, List.getLast?_eq_getElem?, List.getElem?_eq_getElem (by omega)]
    exact all _ (List.getElem_mem _)
  | high =>
    have := (lastIdx_spec (l := (spots s l).map fun i => (rowAt l i).1) (by simpa using hne)).1
    rw [List.length_map] at this
    exact inl _ this
  | often =>
    have := (bestIdx_spec (l := (spots s l).map fun i => - (rowAt l i).2) (by simpa using hne)).1
    rw [List.length_map] at this
    exact inl _ this
theorem step_ok (G : Glob) (X : XC) (xs : List VX) (W : Wd) (Φ : VX → Wd → Prop) (h : A_step xs W Φ) : xs.length = 5 ∧ WS G.K X (t_step G) (st0 xs 5) W (P0 Φ) := by
  obtain ⟨r, size, l, h, p, s, sw, rfl, hl, ok, q⟩ := h
  have ml := rowsD_len l
  refine ⟨rfl, ?_⟩
  unfold t_step
  walk_at "ev"
  refine wb_spec0 ⟨l, p, rfl, ?_⟩
  walk_at "ev"
  cases hp : placeOf l p with
  | some k =>
    have hp0 := hp
    obtain ⟨y, hy, hy2⟩ := placeOf_lt hp
    have ey : l.getD k (0, 0) = y := by rw [List.getD_eq_getElem?_getD, hy]; rfl
    have e : stepP s sw r size l h p = ⟨true, none, rowsAsked r l k y, h⟩ := by unfold stepP; rw [hp]; simp only; rw [ey]
    rw [e] at q
    refine ⟨fun _ => ?_, fun z => (by cases z)⟩
    walk_at "ev"
    refine wb_spec0 ⟨r, l, k, y, rfl, hy, hl, ?_⟩
    walk_at "ev"
    exact q
  | none =>
    have ok := ok hp
    walk_at "ev"
    refine ⟨fun z => (by cases z), fun _ => ?_⟩
    walk_at "ev"
    refine wb_spec0 ⟨r, rfl, ?_⟩
    walk_at "ev"
    rw [ml]
    refine bD (fun c => ?_) (fun c => ?_)
    · have c' : l.length < size := by omega
      have e : stepP s sw r size l h p = ⟨false, none, l ++ [(p, firstMark r)], h⟩ := by unfold stepP; rw [hp]; simp [c']
      rw [e] at q
      walk_at "ev"
      refine w2_catA ?_ ?_
      · rw [ml]; show _ + 1 ≤ _; omega
      walk_at "ev"
      have e2 : l.map rowD ++ [rowD (p, firstMark r)] = (l ++ [(p, firstMark r)]).map rowD := by simp
      have q' : Φ (.d (.tuple [.bool false, .none, .tuple [.tuple (l.map rowD ++ [rowD (p, firstMark r)]), .int (h : Int)]])) W := by rw [e2]; exact q
      exact q'
    · have c' : ¬ l.length < size := by omega
      have ok := ok c'
      walk_at "ev"
      refine wb_spec0 ⟨r, l, h, s, sw, rfl, hl, ok, fun c2 => ?_, fun c2 => ?_⟩
      · obtain ⟨h1, f, h2⟩ := ok.1 c2
        have e1 := sweepP_len h2
        have e2 := sweepP_lt h1 h2
        subst c2
        have e : stepP s sw .clock size l h p = ⟨false, some (sw.1.getD sw.2 (0, 0)).1, putAt sw.1 sw.2 (p, firstMark .clock), (sw.2 + 1) % sw.1.length⟩ := by unfold stepP; rw [hp]; simp [c']
        rw [e] at q
        obtain ⟨l2, h2'⟩ := sw
        dsimp only at e1 e2 q ⊢
        have e3 : h2' < l2.length := by omega
        have ml2 := rowsD_len l2
        walk_at "ev"
        refine ⟨fun _ => ?_, fun z => by cases z⟩
        walk_at "ev"
        rw [cutD_take (by omega)]
        refine w2_catA ?_ ?_
        · rw [List.length_take, ml2]; show _ + 1 ≤ _; omega
        walk_at "ev"
        rw [natS, cutD_drop (by omega)]
        refine w2_catA ?_ ?_
        · rw [List.length_append, List.length_take, List.length_drop, ml2]; show _ + 1 + _ ≤ _; omega
        walk_at "ev"
        refine w2_mod ?_ ?_
        · rw [ml2]; omega
        walk_at "ev"
        refine w2_ixT (atI_nat (rows_at (rowAt_some e3))) ?_
        walk_at "ev"
        refine w2_ixT (i := ((0 : Nat) : Int)) rfl ?_
        walk_at "ev"
        rw [putAt_D l2 h2' (p, firstMark .clock), ml2, natS, ← Int.natCast_emod]
        exact q
      · have e : stepP s sw r size l h p = ⟨false, some (l.getD (goPlace r l s) (0, 0)).1, outAt l (goPlace r l s) (p, firstMark r), h⟩ := by unfold stepP; rw [hp]; simp [c', c2]
        rw [e] at q
        have hlt := goPlace_lt c2 (ok.2 c2)
        walk_at "ev"
        refine strR (q := .clock) (fun z => absurd z c2) (fun _ => ?_)
        walk_at "ev"
        rw [natS, cutD_take (by omega), cutD_drop (by omega)]
        refine w2_catA ?_ ?_
        · rw [List.length_take, List.length_drop, ml]; omega
        walk_at "ev"
        refine w2_catA ?_ ?_
        · rw [List.length_append, List.length_take, List.length_drop, ml]; show _ + 1 ≤ _; omega
        walk_at "ev"
        refine w2_ixT (atI_nat (rows_at (rowAt_some hlt))) ?_
        walk_at "ev"
        refine w2_ixT (i := ((0 : Nat) : Int)) rfl ?_
        walk_at "ev"
        rw [outAt_D l (goPlace r l s) (p, firstMark r)]
        exact q
end CB.N

/-! refusals that tell a number: made by a def of their own -/
namespace CB
open PySem PySem.Spec PyProof.Rows L2
local macro_rules | `(tactic| walk_at "s1") => `(tactic| (with_reducible first
  | refine r_seq ?_ | refine r_next ?_ | refine r_asg ?_ | refine r_gname ?_ | refine r_ret ?_ | refine r_retN ?_ | refine r_drop ?_ | refine r_ifs ?_ | refine r_c ?_ | refine r_op ?_ | refine r_nil ?_ | refine r_cons ?_
  | refine r_tup ?_ | refine r_lst ?_ | refine r_test ?_ | refine r_tB ?_ | refine r_tru ?_ | refine r_exbl ?_ | refine r_tint ?_ | refine r_and ?_ | refine r_or ?_ | refine r_not ?_ | refine r_notV ?_ | refine r_andV ?_ | refine r_orV ?_ | refine r_ifE ?_ | refine r_call ?_ | refine r_callD ?_ | refine r_CB ?_
  | refine r_kAdd ?_ | refine r_kSub ?_ | refine r_kLt ?_ | refine r_kLe ?_ | refine r_kGt ?_ | refine r_kGe ?_ | refine r_eqI ?_ | refine r_neI ?_ | refine r_eqS ?_ | refine r_isN ?_ | refine r_notN ?_
  | refine r_gcons ?_ | refine r_gnil ?_ | refine r_gsub ?_ | refine r_BM ?_ | refine r_sl ?_ | refine r_nopart ?_ | refine r_part ?_ | refine r_exint ?_ | refine r_par ?_ | refine r_par2 ?_ | refine r_chain ?_
  | refine r_dget ?_ | refine r_dput ?_ | refine iteT ?_ | refine r_for ?_ | refine r_iEnumT ?_ | refine r_iTup ?_ | refine r_iList ?_ | refine r_rng1 ?_ | refine r_rng2 ?_ | refine r_lc ?_ | refine r_gtup2 ?_ | refine r_yes ?_ | refine iteF ?_ | refine r_var (by with_unfolding_all rfl) ?_))
local macro_rules | `(tactic| walk_at "go") => `(tactic| (repeat (walk_at "s1")))


section
variable {X : Cx} {e : Expr} {es : List Expr} {ta : TA} {x : Str} {p p1 p2 pos : Pos}
/-- C.__init__(self, ..), C an own class that has none of its own -/
theorem pe_ceinit {pl : Sem Bool} {CE : Addr} {mc : Value} (hg : Gl X x) (hm : X.mg x = some (.ref CE)) (hr : PySem.W.readsIn X.K CE mc = true) (hga : PySem.W.specialIn X.K (.ref CE) "__getattribute__" = some (some (.builtin "type.__getattribute__")))
    (hf : PySem.W.findCls X.K (.ref CE) mc "__init__" = some (.val (.builtin "ValueError.__init__"))) (ha : PA X (e :: es) ta)
    (hc : eval (.Call (.Attribute (.Name x p1) "__init__" p2) (e :: es) [] pos) X.env = (do
      let ov ← eval (.Name x p1) X.env
      standAt p2.atName
      let (f, first) ← holding [ov] (getMethod ov "__init__" pl)
      callWith pos f first (backTo pos (starEach (e :: es) X.env)) (backToKw pos (keywordEach [] X.env))) := by rfl)
    (hdb : (x == ("__debug__" : Str)) = false := by decide)
    (he : starEach (e :: es) X.env = (false, eval e X.env) :: starEach es X.env := by rfl) (hpl : (backTo pos (starEach es X.env)).any (·.1) = false := by rfl) :
    PE X (.Call (.Attribute (.Name x p1) "__init__" p2) (e :: es) [] pos) (tVeI X.K ta) := by
  refine ⟨fun pins s σ H Q I h => ?_⟩
  refine PySem.W.methodCall_KW (ld_glob I hg hm ?_ hdb) hc
  refine PySem.W.method_cls I.kIn hga (PySem.W.cls_value I.kIn hr hf (by decide +kernel) ?_)
  show wpAny _ _ (callWith pos (Value.builtin "ValueError.__init__") [] (backTo pos (starEach (e :: es) X.env)) []) _ _ _
  refine PyProof.Rows.callWith_method1 (thn (ha.run pos pins _ σ H _ (I.tok _) h) fun us s1 ⟨vs, H1, I1, r1, a, C, ws, ev, hl, T, ea, q⟩ => ?_) he hpl
  subst ev
  cases r1 with
  | @cons _ u0 _ ur ra rt =>
    obtain rfl : u0 = Value.ref a := ra
    have many : ur.length ≤ sizeLine := Nat.le_trans (Nat.le_of_eq (Paired.length rt).symm) (Nat.le_trans hl (by decide))
    exact oinit_ok T I1 ea many fun s' J => ⟨.non, H1, J, rfl, q⟩
end
/-- a class with a number: what stands of it -/
structure XN (K : PySem.W.Frag) (mg : Str → Option Value) (n : Str) (c : Addr) : Prop where
  o : OexC K c
  g : mg n = some (.ref c)
  f : PySem.W.findIn K (.ref c) "number" = some none
def sp_init_n (K : PySem.W.Frag) (C : Addr) : Sp := fun vs H Q _ => ∃ (a : Addr) (n : Nat), vs = [.ref a, .int (n : Int)] ∧ n < 100 ∧ H a = some (exo a C none) ∧ OexC K C ∧ PySem.W.findIn K (.ref C) "number" = some none ∧
  ∀ dx, H dx = none → dx ≠ a → Q .non (upd (upd H dx (exd dx [("number", .int (n : Int))])) a (exo a C (some dx)))
def t_init_n (G : Glob) (w : Str) : TS := tSeq (tDrop (tVeI G.K (tCons (tVar 0) (tCons (tFS [tC (.str w), tFmt (tVar 1)]) tNil)))) (tOst G.K "number" (tVar 0) (tVar 1))
theorem len_init_n (G : Glob) (C : Addr) (vs : List V) (H : Hp) (Q : VK) (E : XK) (h : sp_init_n G.K C vs H Q E) : vs.length = 2 := by
  obtain ⟨_, _, rfl, _⟩ := h
  rfl
theorem rd_init_n (G : Glob) (C : Addr) (w : Str) (hw : w.length ≤ 1000) (vs : List V) (H : Hp) (Q : VK) (E : XK) (h : sp_init_n G.K C vs H Q E) : t_init_n G w { nx := fun _ H' => Q .non H', rt := Q } (start ["self", "number"] vs) H := by
  obtain ⟨a, n, rfl, hn, ha, T, hf, q⟩ := h
  have e0 : (Str.empty ++ w).length = w.length := by rw [Str.length_append]; exact Nat.zero_add _
  refine ⟨.ref a, rfl, ?_⟩
  refine r_jC (by rw [e0]; omega) ?_
  refine r_jN (n := n) hn (fun R h => ⟨_, rfl, h⟩) (by rw [e0]; omega) ?_
  refine ⟨a, C, [_], rfl, by show 1 ≤ 1000; omega, T, ha, ?_⟩
  exact ⟨.int (n : Int), rfl, .ref a, rfl, a, C, rfl, T, hf, .inl ⟨ha, fun dx h1 h2 => q dx h1 h2⟩⟩
theorem same_made {H1 : Hp} {a d : Addr} {C : Addr} {n : Int} (ha : H1 a = none) (hd : H1 d = none) (ne : d ≠ a) :
    Same H1 (upd (del (upd (upd (upd H1 a (exo a C none)) d (exd d [("number", .int n)])) a (exo a C (some d))) a) d (.xd [("number", .int n)])) := fun b o e => by
  have n1 : b ≠ a := ne_of_none e ha
  have n2 : b ≠ d := ne_of_none e hd
  rw [upd_ne n2, del_ne n1, upd_ne n1, upd_ne n2, upd_ne n1]
  exact e
/-- raise X(number): what the number's value must be good for -/
def contN (K : PySem.W.Frag) (C : Addr) (E : XK) : VK := fun v H1 => [v].length ≤ 1000 ∧ ∀ a, H1 a = none → sp_init_n K C (.ref a :: ([v] ++ [])) (upd H1 a (exo a C none))
  (fun v H2 => v = .non ∧ ∃ (d : Addr) (fs : List (Str × V)), H2 a = some (exo a C (some d)) ∧ H2 d = some (exd d fs) ∧ H1 d = none ∧ E (.ref C) (some d) (upd (del H2 a) d (.xd fs))) (fun _ _ _ => False)
def tRsN (K : PySem.W.Frag) (te : TE) (C : Addr) (E : XK) : TS := fun _ σ H => te σ H fun v H1 => contN K C E v H1
theorem r_contN {K : PySem.W.Frag} {C : Addr} {E : XK} {H1 : Hp} {n : Nat} (T : OexC K C) (hf : PySem.W.findIn K (.ref C) "number" = some none) (hn : n < 100) (h : ∀ d H', H1 d = none → Same H1 H' → H' d = some (.xd [("number", .int (n : Int))]) → E (.ref C) (some d) H') :
    contN K C E (.int (n : Int)) H1 := by
  refine ⟨by show 1 ≤ 1000; omega, fun a ha => ⟨a, n, rfl, hn, upd_same, T, hf, fun dx hd ne => ⟨rfl, dx, [("number", .int (n : Int))], upd_same, ?_, ?_, ?_⟩⟩⟩
  · rw [upd_ne ne, upd_same]
  · rw [upd_ne ne] at hd
    exact hd
  · rw [upd_ne ne] at hd
    exact h dx _ hd (same_made ha hd ne) upd_same
theorem ps_rsN {X : Cx} {x : Str} {C fI : Addr} {k : Nat} {fd : FuncData} {e : Expr} {te : TE} {E : XK} {p pos pos2 : Pos} (xn : XN X.K X.mg x C) (iC : PySem.W.findIn X.K (.ref C) "__init__" = some (some (.ref fI))) (tI : PySem.W.typeIn X.K (.ref fI) = some (.type "function"))
    (F1 : FnOk X.prog X.w X.K X.mg X.base CX0 k fI fd ["self", "number"] (sp_init_n X.K C)) (hr : Room (k + 1) X.A) (hb : Binds X.K fd ["self", "number"] []) (hc : X.calm = true) (tk : Takes X (fun cls d _ H => E cls d H)) (hg : Gl X x) (he : PE X e te)
    (hs : starEach [e] X.env = (false, eval e X.env) :: starEach [] X.env := by rfl) (hdb : (x == ("__debug__" : Str)) = false := by decide) : PS X (.Raise (some (.Call (.Name x p) [e] [] pos)) none pos2) (tRsN X.K te C E) :=
  ⟨fun pins s σ H D I h => (ps_raise (pos := pos2) hc tk (pmk_oex (p := p) (pos := pos) (dvs := []) (ds := []) xn.o iC tI F1 hr hb .nil pass0 hg xn.g (pa_cons he pa_nil hs) hdb hs)).run pins s σ H D I h⟩
/-- all that is wanted of such a class, so that it is raised -/
structure MkN (P : Program) (w : World) (K : PySem.W.Frag) (mg : Str → Option Value) (base : Heap) (n : Str) (c : Addr) (k : Nat) : Prop where
  xn : XN K mg n c
  ex : ∃ (fI : Addr) (fd : FuncData), PySem.W.findIn K (.ref c) "__init__" = some (some (.ref fI)) ∧ PySem.W.typeIn K (.ref fI) = some (.type "function") ∧ FnOk P w K mg base CX0 k fI fd ["self", "number"] (sp_init_n K c) ∧ Binds K fd ["self", "number"] []
theorem ps_rsM {X : Cx} {x : Str} {C : Addr} {k j : Nat} {e : Expr} {te : TE} {E : XK} {p pos pos2 : Pos} (m : MkN X.prog X.w X.K X.mg X.base x C k) (hr : Room j X.A) (hk : k + 1 ≤ j) (hc : X.calm = true) (tk : Takes X (fun cls d _ H => E cls d H)) (hg : Gl X x) (he : PE X e te)
    (hs : starEach [e] X.env = (false, eval e X.env) :: starEach [] X.env := by rfl) (hdb : (x == ("__debug__" : Str)) = false := by decide) : PS X (.Raise (some (.Call (.Name x p) [e] [] pos)) none pos2) (tRsN X.K te C E) := by
  obtain ⟨fI, fd, h1, h2, h3, h4⟩ := m.ex
  exact ps_rsN m.xn h1 h2 h3 (hr.mono hk) h4 hc tk hg he hs hdb
end CB

namespace CB2
open PySem PySem.Spec PyProof.Rows L2 CB
local macro_rules | `(tactic| walk_at "s1") => `(tactic| (with_reducible first
  | refine r_seq ?_ | refine r_next ?_ | refine r_asg ?_ | refine r_gname ?_ | refine r_ret ?_ | refine r_retN ?_ | refine r_drop ?_ | refine r_ifs ?_ | refine r_c ?_ | refine r_op ?_ | refine r_nil ?_ | refine r_cons ?_
  | refine r_tup ?_ | refine r_lst ?_ | refine r_test ?_ | refine r_tB ?_ | refine r_tru ?_ | refine r_exbl ?_ | refine r_tint ?_ | refine r_and ?_ | refine r_or ?_ | refine r_not ?_ | refine r_notV ?_ | refine r_andV ?_ | refine r_orV ?_ | refine r_ifE ?_ | refine r_call ?_ | refine r_callD ?_ | refine r_CB ?_
  | refine r_kAdd ?_ | refine r_kSub ?_ | refine r_kLt ?_ | refine r_kLe ?_ | refine r_kGt ?_ | refine r_kGe ?_ | refine r_eqI ?_ | refine r_neI ?_ | refine r_eqS ?_ | refine r_isN ?_ | refine r_notN ?_
  | refine r_gcons ?_ | refine r_gnil ?_ | refine r_gsub ?_ | refine r_BM ?_ | refine r_sl ?_ | refine r_nopart ?_ | refine r_part ?_ | refine r_exint ?_ | refine r_par ?_ | refine r_par2 ?_ | refine r_chain ?_
  | refine r_dget ?_ | refine r_dput ?_ | refine iteT ?_ | refine r_for ?_ | refine r_iEnumT ?_ | refine r_iTup ?_ | refine r_iList ?_ | refine r_rng1 ?_ | refine r_rng2 ?_ | refine r_lc ?_ | refine r_gtup2 ?_ | refine r_yes ?_ | refine iteF ?_ | refine r_var (by with_unfolding_all rfl) ?_))
local macro_rules | `(tactic| walk_at "go") => `(tactic| (repeat (walk_at "s1")))


/-! ### rule not in RULES, whatever is handed in -/
def rNotInSt (K : PySem.W.Frag) : R2 := fun x y H Q => ∃ (d : PyData) (ss : List Str), Dp K H x d ∧ d.plain = true ∧ Dp K H y (.tuple (ss.map PyData.str)) ∧ Q (.bl (!(ss.map PyData.str).any fun z => PyData.eqv z d)) H
theorem strs_lay : ∀ ss : List Str, PyData.plainAll (ss.map PyData.str) = true
  | [] => by simp [PyData.plainAll]
  | s :: ss => by simp [PyData.plainAll, PyData.plain, strs_lay ss]
theorem strs_depth : ∀ ss : List Str, PyData.depthAll (ss.map PyData.str) = 0
  | [] => by simp [PyData.depthAll]
  | s :: ss => by simp [PyData.depthAll, PyData.depth, strs_depth ss]
theorem op_notInSt {X : Cx} (hu : X.A.units + 1 < cLine) : OpR X (compareOp .NotIn) (rNotInSt X.K) := by
  intro pins s σ H x y v u Q I rx ry h
  obtain ⟨d, ss, hd, hl, he, q⟩ := h
  obtain ⟨as, r1⟩ := Dp.reads I d x v hd rx
  obtain ⟨bs, r2⟩ := Dp.reads I (.tuple (ss.map PyData.str)) y u he ry
  refine SeqAt.notIn_tuple_data r2 r1 (strs_lay ss) hl ?_ ⟨.bl _, H, I, rfl, q⟩
  rw [strs_depth, Nat.zero_min]
  exact hu
inductive OddR (K : PySem.W.Frag) (H : Hp) : V → Prop
  | non : OddR K H .non
  | int (n : Int) : OddR K H (.int n)
  | str (s : Str) : OddR K H (.str s)
  | tup (a : Addr) (ss : List Str) : SqT K H a (ss.map V.str) → OddR K H (.ref a)
def rulesS : List Str := ["came", "used", "last", "high", "often", "clock"]
theorem dpStrs {K : PySem.W.Frag} {H : Hp} : ∀ xs : List Str, DpAll K H (xs.map V.str) (xs.map PyData.str)
  | [] => .nil
  | x :: xs => .cons (.str x) (dpStrs xs)
theorem rule_in : ∀ r : Rule, (rulesS.map PyData.str).any (fun z => PyData.eqv z (.str r.s)) = true := by
  intro r
  cases r <;> decide +kernel
theorem rule_out {d : PyData} (h : ∀ r : Rule, d ≠ .str r.s) : (rulesS.map PyData.str).any (fun z => PyData.eqv z d) = false := by
  rw [List.any_eq_false]
  intro z hz
  obtain ⟨s, hs, rfl⟩ := List.mem_map.mp hz
  have hr : ∃ r : Rule, s = r.s := by
    have e : s = "came" ∨ s = "used" ∨ s = "last" ∨ s = "high" ∨ s = "often" ∨ s = "clock" := by
      unfold rulesS at hs
      simpa using hs
    rcases e with e | e | e | e | e | e
    · exact ⟨.came, e⟩
    · exact ⟨.used, e⟩
    · exact ⟨.last, e⟩
    · exact ⟨.high, e⟩
    · exact ⟨.often, e⟩
    · exact ⟨.clock, e⟩
  obtain ⟨r, rfl⟩ := hr
  have hd := h r
  cases d with
  | str y =>
    intro e
    simp only [PyData.eqv] at e
    exact hd (by rw [beq_iff_eq.mp e])
  | _ => simp [PyData.eqv]
def sp_check_rule (G : Glob) (ea : Str → Addr) : Sp := fun vs H Q E => ∃ (x : V), vs = [x] ∧ OddR G.K H x ∧ (∀ H, SqT G.K H G.aRULES rulesV) ∧ ((∃ r : Rule, x = .str r.s) → Q .non H) ∧ ((∀ r : Rule, x ≠ .str r.s) → E (.ref (ea "BadRule")) none H)
def t_check_rule (G : Glob) (ea : Str → Addr) (E : XK) : TS := (tIfS (tTest (tOp (rNotInSt G.K) (tVar 0) (tC (.ref G.aRULES)))) (tRs (tC (.str "no such rule")) (ea "BadRule") E) tNext)
theorem len_check_rule (G : Glob) (ea : Str → Addr) (vs : List V) (H : Hp) (Q : VK) (E : XK) (h : sp_check_rule G ea vs H Q E) : vs.length = 1 := by
  obtain ⟨_, rfl, _⟩ := h
  rfl
theorem rd_check_rule (G : Glob) (ea : Str → Addr) (vs : List V) (H : Hp) (Q : VK) (E : XK) (h : sp_check_rule G ea vs H Q E) : t_check_rule G ea E { nx := fun _ H' => Q .non H', rt := Q } (start ["rule"] vs) H := by
  obtain ⟨x, rfl, ho, hR, q1, q2⟩ := h
  unfold t_check_rule
  walk_at "go"
  have dR : Dp G.K H (.ref G.aRULES) (.tuple (rulesS.map PyData.str)) := .tup (hR H) (dpStrs rulesS)
  have bad : ∀ d : PyData, Dp G.K H x d → d.plain = true → (∀ r : Rule, d ≠ .str r.s) → (∀ r : Rule, x ≠ .str r.s) → rNotInSt G.K x (.ref G.aRULES) H fun v H1 => ∃ b, v = .bl b ∧ if b = true then tRs (tC (.str "no such rule")) (ea "BadRule") E { nx := fun _ H' => Q .non H', rt := Q } (start ["rule"] [x]) H1 else tNext { nx := fun _ H' => Q .non H', rt := Q } (start ["rule"] [x]) H1 := fun d h1 h2 h3 h4 => by
    refine ⟨d, rulesS, h1, h2, dR, _, rfl, ?_⟩
    rw [rule_out h3, if_pos (by decide)]
    exact q2 h4
  cases ho with
  | non => exact bad .none .non (by simp [PyData.plain]) (fun r e => nomatch e) (fun r e => nomatch e)
  | int n => exact bad (.int n) (.int n) (by simp [PyData.plain]) (fun r e => nomatch e) (fun r e => nomatch e)
  | tup a ss hs => exact bad (.tuple (ss.map PyData.str)) (.tup hs (dpStrs ss)) (by simp only [PyData.plain]; exact strs_lay ss) (fun r e => nomatch e) (fun r e => nomatch e)
  | str z =>
    rcases rule_or z with ⟨r, rfl⟩ | c
    · refine ⟨.str r.s, rulesS, .str _, by simp [PyData.plain], dR, _, rfl, ?_⟩
      rw [rule_in r, if_neg (by decide)]
      exact q1 ⟨r, rfl⟩
    · exact bad (.str z) (.str z) (by simp [PyData.plain]) (fun r e => c r (PyData.str.inj e)) (fun r e => c r (V.str.inj e))
theorem kt_nt {K : PySem.W.Frag} : PySem.W.kitOne K (.type "NoneType") (.type "tuple") = some false := by kernel_rfl
theorem kt_lt {K : PySem.W.Frag} : PySem.W.kitOne K (.type "list") (.type "tuple") = some false := by kernel_rfl
theorem kt_tt {K : PySem.W.Frag} : PySem.W.kitOne K (.type "tuple") (.type "tuple") = some true := by kernel_rfl
theorem ifnt {A B : Prop} (h : B) : if (!true) = true then A else B := by rw [if_neg (by decide)]; exact h
theorem ifnf {A B : Prop} (h : A) : if (!false) = true then A else B := by rw [if_pos (by decide)]; exact h
/-! ### a stream -/
/-- the first place that can't be, from place i on -/
def badAt : Nat → List V → Option Nat
  | _, [] => none
  | i, v :: r => if i = 60 ∨ numIn v 0 9 = false then some i else badAt (i + 1) r
inductive StreamQ (K : PySem.W.Frag) (H : Hp) : V → Option Nat → Prop
  | tup (a : Addr) (xs : List V) : SqT K H a xs → (∀ x ∈ xs, NumV x) → StreamQ K H (.ref a) (badAt 0 xs)
  | lst (a : Addr) (xs : List V) : SqL K H a xs → (∀ x ∈ xs, NumV x) → StreamQ K H (.ref a) (some 0)
  | non : StreamQ K H .non (some 0)
def sp_check_stream (G : Glob) (ea : Str → Addr) : Sp := fun vs H Q E => ∃ (x : V) (b : Option Nat), vs = [x] ∧ StreamQ G.K H x b ∧ OexC G.K (ea "BadStream") ∧ PySem.W.findIn G.K (.ref (ea "BadStream")) "number" = some none ∧
  (b = none → ∀ H', Same H H' → Q .non H') ∧ ∀ n, b = some n → ∀ d H', H d = none → Same H H' → H' d = some (.xd [("number", .int (n : Int))]) → E (.ref (ea "BadStream")) (some d) H'
def t_check_stream (G : Glob) (ea : Str → Addr) (E : XK) : TS := (tSeq (tIfS (tNot (tB (tCB (rIsi G.K) (tCons (tVar 0) (tCons (tC (.ty "tuple")) tNil))))) (tRsN G.K (tC (.int 0)) (ea "BadStream") E) tNext)
    (tFor (iEnumT G.K (tCons (tVar 0) tNil)) (gTup G.K 2 (gCons (gName 1) (gCons (gName 2) gNil))) (tIfS (tOr (tTest (tOp kEq (tVar 1) (tC (.int 60)))) (tNot (tB (tCall (sp_is_number G) [] E0 (tCons (tVar 2) (tCons (tC (.int 0)) (tCons (tOp kSub (tC (.int 10)) (tC (.int 1))) tNil))))))) (tRsN G.K (tVar 1) (ea "BadStream") E) tNext)))
theorem len_check_stream (G : Glob) (ea : Str → Addr) (vs : List V) (H : Hp) (Q : VK) (E : XK) (h : sp_check_stream G ea vs H Q E) : vs.length = 1 := by
  obtain ⟨_, _, rfl, _⟩ := h
  rfl
theorem rd_check_stream (G : Glob) (ea : Str → Addr) (vs : List V) (H : Hp) (Q : VK) (E : XK) (h : sp_check_stream G ea vs H Q E) : t_check_stream G ea E { nx := fun _ H' => Q .non H', rt := Q } (start ["stream", "number", "page"] vs) H := by
  obtain ⟨x, b, rfl, hx, T, hf, q1, q2⟩ := h
  unfold t_check_stream
  walk_at "go"
  cases hx with
  | non =>
    refine r_isi (b := false) (.ty "tuple") (.base .non) kt_nt ?_
    walk_at "go"
    refine ifnf ?_
    exact r_contN (n := 0) T hf (by decide) fun d H' h1 h2 h3 => q2 0 rfl d H' h1 h2 h3
  | lst a xs hs _ =>
    refine r_isi (b := false) (.ty "tuple") (tyL hs) kt_lt ?_
    walk_at "go"
    refine ifnf ?_
    exact r_contN (n := 0) T hf (by decide) fun d H' h1 h2 h3 => q2 0 rfl d H' h1 h2 h3
  | tup a xs hs hn =>
    refine r_isi (b := true) (.ty "tuple") (tyT hs) kt_tt ?_
    walk_at "go"
    refine ifnt ?_
    walk_at "go"
    refine ⟨a, xs, rfl, hs, for_it walk_enumT (fun i σ H' => ∃ s1 s2, σ = [some (.ref a), s1, s2] ∧ Same H H' ∧ badAt 0 xs = badAt i (xs.drop i) ∧ i ≤ 60) ⟨none, none, rfl, .refl H, rfl, by decide⟩ (fun i σ H' _ ⟨_, _, _, e, _⟩ => sqT_same e hs) ?_ ?_⟩
    · rintro i y σ H1 H2 hi ⟨s1, s2, rfl, sm, hb, i60⟩ ⟨Tp, z, x, rfl, nT, rfl, hz, hx⟩
      cases hz
      have sm2 : Same H (upd H1 Tp (.tup [.int ((i : Nat) : Int), x])) := sm.new' nT
      have hdr : xs.drop i = x :: xs.drop (i + 1) := by
        have := (List.getElem?_eq_some_iff.mp hx)
        obtain ⟨hlt, e⟩ := this
        rw [List.drop_eq_getElem_cons hlt, e]
      rw [hdr] at hb
      have hu : badAt i (x :: xs.drop (i + 1)) = if i = 60 ∨ numIn x 0 9 = false then some i else badAt (i + 1) (xs.drop (i + 1)) := rfl
      rw [hu] at hb
      have out : (i = 60 ∨ numIn x 0 9 = false) → contN G.K (ea "BadStream") E (.int (i : Int)) (upd H1 Tp (.tup [.int ((i : Nat) : Int), x])) := fun c =>
        r_contN (n := i) T hf (by omega) fun d H' h1 h2 h3 => q2 i (hb.trans (if_pos c)) d H' (by
          cases e : H d with
          | none => rfl
          | some o => rw [sm2 _ _ e] at h1; cases h1) (fun b o e => h2 _ _ (sm2 _ _ e)) h3
      walk_at "go"
      refine if_dt (fun c => ?_) (fun c => ?_)
      · walk_at "go"
        exact ⟨_, rfl, out (.inl (by omega))⟩
      · walk_at "go"
        refine ⟨x, 0, 10 - 1, rfl, hn x (List.mem_of_getElem? hx), ?_⟩
        rw [show ((10 : Int) - 1) = 9 from rfl]
        cases c2 : numIn x 0 9 with
        | true =>
          walk_at "go"
          refine ifnt ?_
          have ni : ¬ (i = 60 ∨ numIn x 0 9 = false) := fun z => z.elim (fun z => c (by omega)) fun z => by rw [c2] at z; cases z
          exact ⟨_, _, rfl, sm2, hb.trans (if_neg ni), by omega⟩
        | false =>
          walk_at "go"
          refine ifnf ?_
          exact ⟨_, rfl, out (.inr c2)⟩
    · rintro σ H1 ⟨s1, s2, rfl, sm, hb, _⟩
      rw [List.drop_length] at hb
      exact q1 hb H1 sm
end CB2

namespace CB2
open PySem PySem.Spec PyProof.Rows L2 CB
local macro_rules | `(tactic| walk_at "s1") => `(tactic| (with_reducible first
  | refine r_seq ?_ | refine r_next ?_ | refine r_asg ?_ | refine r_gname ?_ | refine r_ret ?_ | refine r_retN ?_ | refine r_drop ?_ | refine r_ifs ?_ | refine r_c ?_ | refine r_op ?_ | refine r_nil ?_ | refine r_cons ?_
  | refine r_tup ?_ | refine r_lst ?_ | refine r_test ?_ | refine r_tB ?_ | refine r_tru ?_ | refine r_exbl ?_ | refine r_tint ?_ | refine r_and ?_ | refine r_or ?_ | refine r_not ?_ | refine r_notV ?_ | refine r_andV ?_ | refine r_orV ?_ | refine r_ifE ?_ | refine r_call ?_ | refine r_callD ?_ | refine r_CB ?_
  | refine r_kAdd ?_ | refine r_kSub ?_ | refine r_kLt ?_ | refine r_kLe ?_ | refine r_kGt ?_ | refine r_kGe ?_ | refine r_eqI ?_ | refine r_neI ?_ | refine r_eqS ?_ | refine r_isN ?_ | refine r_notN ?_
  | refine r_gcons ?_ | refine r_gnil ?_ | refine r_gsub ?_ | refine r_BM ?_ | refine r_sl ?_ | refine r_nopart ?_ | refine r_part ?_ | refine r_exint ?_ | refine r_par ?_ | refine r_par2 ?_ | refine r_chain ?_
  | refine r_dget ?_ | refine r_dput ?_ | refine iteT ?_ | refine r_for ?_ | refine r_iEnumT ?_ | refine r_iTup ?_ | refine r_iList ?_ | refine r_rng1 ?_ | refine r_rng2 ?_ | refine r_lc ?_ | refine r_gtup2 ?_ | refine r_yes ?_ | refine iteF ?_ | refine r_var (by with_unfolding_all rfl) ?_))
local macro_rules | `(tactic| walk_at "go") => `(tactic| (repeat (walk_at "s1")))


theorem passL {X : Cx} : Passes (L2.CX X.prog X.w) X E0 := fun pins σ H s e s' I h => by
  obtain ⟨_, _, _, _, _, _, _, _, _, _, _, _, x⟩ := h
  exact x.elim
/-- what a row of run's stands for -/
def TellV (H : Hp) (x : V) (t : Bool × Option Int) : Prop := ∃ b, x = .ref b ∧ H b = some (.tup [.bl t.1, goneV t.2])
theorem TellV.mono {H H' : Hp} {x : V} {t : Bool × Option Int} (e : Same H H') (r : TellV H x t) : TellV H' x t := let ⟨b, h1, h2⟩ := r; ⟨b, h1, e _ _ h2⟩
def TellsV (H : Hp) (xs : List V) (ts : List (Bool × Option Int)) : Prop := Paired (TellV H) xs ts
theorem TellsV.mono {H H' : Hp} {xs : List V} {ts : List (Bool × Option Int)} (e : Same H H') (r : TellsV H xs ts) : TellsV H' xs ts := Paired.mapP r fun _ _ z => z.mono e
theorem paired_snoc {α β : Type} {F : α → β → Prop} : ∀ {xs : List α} {ys : List β} {x : α} {y : β}, Paired F xs ys → F x y → Paired F (xs ++ [x]) (ys ++ [y])
  | [], [], _, _, .nil, h => .cons h .nil
  | _ :: _, _ :: _, _, _, .cons a t, h => .cons a (paired_snoc t h)
/-- the value that run gives: how many misses, the rows, what is held -/
def RunVb (H : Hp) (v : V) (x : RS) (b : Addr) : Prop := ∃ (a c : Addr) (xs : List V) (ps : List Int), v = .ref a ∧ H a = some (.tup [.int (misses x.told : Nat), .ref b, .ref c]) ∧ H b = some (.lst xs) ∧ TellsV H xs x.told ∧ H c = some (.tup (ps.map V.int)) ∧ ps.Perm (x.rows.map (·.1)) ∧ ps.Pairwise (· ≤ ·)
def TellW (K : PySem.W.Frag) (H : Hp) (x : V) (t : Bool × Option Int) : Prop := ∃ b, x = .ref b ∧ SqT K H b [.bl t.1, goneV t.2]
theorem TellW.mono {K : PySem.W.Frag} {H H' : Hp} {x : V} {t : Bool × Option Int} (e : Same H H') (r : TellW K H x t) : TellW K H' x t := let ⟨b, h1, h2⟩ := r; ⟨b, h1, sqT_same e h2⟩
/-- the program's own, its list a new one -/
def RunWb (K : PySem.W.Frag) (H : Hp) (v : V) (x : RS) (b : Addr) : Prop := ∃ (a c : Addr) (xs : List V) (ps : List Int), v = .ref a ∧ H a = some (.tup [.int (misses x.told : Nat), .ref b, .ref c]) ∧ H b = some (.lst xs) ∧ Paired (TellW K H) xs x.told ∧ SqT K H c (ps.map V.int) ∧ ps.Perm (x.rows.map (·.1)) ∧ ps.Pairwise (· ≤ ·)
def RunV (H : Hp) (v : V) (x : RS) : Prop := ∃ b, RunVb H v x b
theorem badAt_none : ∀ (xs : List V) (i : Nat), badAt i xs = none → i ≤ 60 → ∃ st : List Int, xs = st.map V.int ∧ (∀ p ∈ st, 0 ≤ p ∧ p ≤ 9) ∧ i + xs.length ≤ 60
  | [], i, _, hi => ⟨[], rfl, fun p hp => (by cases hp), by simpa using hi⟩
  | v :: r, i, h, hi => by
    have h' : (if i = 60 ∨ numIn v 0 9 = false then some i else badAt (i + 1) r) = none := h
    by_cases c : i = 60 ∨ numIn v 0 9 = false
    · rw [if_pos c] at h'
      cases h'
    · rw [if_neg c] at h'
      have hn : numIn v 0 9 = true := by
        cases e : numIn v 0 9 with
        | true => rfl
        | false => exact absurd (.inr e) c
      obtain ⟨n, rfl, n0, n9⟩ := numIn_int hn
      obtain ⟨st, rfl, h1, h2⟩ := badAt_none r (i + 1) h' (by have : i ≠ 60 := fun e => c (.inl e); omega)
      refine ⟨n :: st, rfl, fun p hp => ?_, by simp at h2 ⊢; omega⟩
      rcases List.mem_cons.mp hp with e | e
      · rw [e]; exact ⟨n0, n9⟩
      · exact h1 p e
/-- RULES, EMPTY as they stand; BadStream as it is made -/
structure Stat (G : Glob) (ea : Str → Addr) : Prop where
  hR : ∀ H, SqT G.K H G.aRULES rulesV
  hE : ∃ b, (∀ H, SqT G.K H G.aEMPTY [.ref b, .int 0]) ∧ ∀ H, SqT G.K H b []
  T : OexC G.K (ea "BadStream")
  hf : PySem.W.findIn G.K (.ref (ea "BadStream")) "number" = some none
/-- a stream that can be -/
def StreamT (K : PySem.W.Frag) (H : Hp) (v : V) (a : Addr) (st : List Int) : Prop := v = .ref a ∧ SqT K H a (st.map V.int) ∧ st.length ≤ 60 ∧ ∀ p ∈ st, 0 ≤ p ∧ p ≤ 9
def sp_run (G : Glob) (ea : Str → Addr) : Sp := fun vs H Q E => ∃ (x vz vt : V) (b : Option Nat) (a : Addr) (st : List Int), vs = [x, vz, vt] ∧ Stat G ea ∧ OddR G.K H x ∧ NumV vz ∧ StreamQ G.K H vt b ∧ (b = none → StreamT G.K H vt a st) ∧
  ((∀ r : Rule, x ≠ .str r.s) → ∀ H', Same H H' → E (.ref (ea "BadRule")) none H') ∧ ((∃ r : Rule, x = .str r.s) → numIn vz 1 6 = false → ∀ H', Same H H' → E (.ref (ea "BadSize")) none H') ∧
  ((∃ r : Rule, x = .str r.s) → numIn vz 1 6 = true → ∀ n, b = some n → ∀ d H', Same H H' → H' d = some (.xd [("number", .int (n : Int))]) → E (.ref (ea "BadStream")) (some d) H') ∧
  ∀ (r : Rule) (s : Nat), x = .str r.s → vz = .int (s : Int) → 1 ≤ s → s ≤ 6 → b = none → ∀ v H' b, Same H H' → RunWb G.K H' v (runTo r s st) b → H b = none → Q v H'
theorem len_run (G : Glob) (ea : Str → Addr) (vs : List V) (H : Hp) (Q : VK) (E : XK) (h : sp_run G ea vs H Q E) : vs.length = 3 := by
  obtain ⟨_, _, _, _, _, _, rfl, _⟩ := h
  rfl
theorem StreamQ.mono {K : PySem.W.Frag} {H H' : Hp} {v : V} {b : Option Nat} (e : Same H H') (h : StreamQ K H v b) : StreamQ K H' v b := by
  cases h with
  | tup a xs h1 h2 => exact .tup a xs (sqT_same e h1) h2
  | lst a xs h n => exact .lst a xs (e.seq h) n
  | non => exact .non
theorem StreamQ.ok {K : PySem.W.Frag} {H : Hp} {v : V} (h : StreamQ K H v none) : ∃ (a : Addr) (st : List Int), v = .ref a ∧ SqT K H a (st.map V.int) ∧ st.length ≤ 60 ∧ ∀ p ∈ st, 0 ≤ p ∧ p ≤ 9 := by
  generalize eb : (none : Option Nat) = b at h
  cases h with
  | tup a xs h1 h2 =>
    obtain ⟨st, rfl, h3, h4⟩ := badAt_none xs 0 eb.symm (by decide)
    exact ⟨a, st, rfl, h1, by rw [List.length_map] at h4; omega, h3⟩
  | lst a xs h n => cases eb
  | non => cases eb
theorem misses_snoc (t : List (Bool × Option Int)) (x : Bool × Option Int) : misses (t ++ [x]) = misses t + (if x.1 = true then 0 else 1) := by
  unfold misses
  rw [List.countP_append]
  cases h : x.1 <;> simp [h]
theorem TellsV.upd {H : Hp} {L : Addr} {ys : List V} {o : HO} {xs : List V} {ts : List (Bool × Option Int)} (hL : H L = some (.lst ys)) (h : TellsV H xs ts) : TellsV (upd H L o) xs ts :=
  Paired.mapP h fun _ _ ⟨b, h1, h2⟩ => ⟨b, h1, (upd_ne (ne_of h2 hL fun z => by cases z)).trans h2⟩
/-- the misses by sizes from 1 to m -/
def curveOf (r : Rule) (st : List Int) (m : Nat) : List Int := (List.range m).map fun k => ((misses (runTo r (k + 1) st).told : Nat) : Int)
def sp_curve (G : Glob) (ea : Str → Addr) : Sp := fun vs H Q E => ∃ (x vt vm : V) (b : Option Nat) (a : Addr) (st : List Int), vs = [x, vt, vm] ∧ Stat G ea ∧ OddR G.K H x ∧ NumV vm ∧ StreamQ G.K H vt b ∧ (b = none → StreamT G.K H vt a st) ∧
  ((∀ r : Rule, x ≠ .str r.s) → ∀ H', Same H H' → E (.ref (ea "BadRule")) none H') ∧
  ((∃ r : Rule, x = .str r.s) → ∀ n, b = some n → ∀ d H', Same H H' → H' d = some (.xd [("number", .int (n : Int))]) → E (.ref (ea "BadStream")) (some d) H') ∧
  ((∃ r : Rule, x = .str r.s) → b = none → numIn vm 1 6 = false → ∀ H', Same H H' → E (.ref (ea "BadCount")) none H') ∧
  ∀ (r : Rule) (m : Nat), x = .str r.s → vm = .int (m : Int) → 1 ≤ m → m ≤ 6 → b = none → ∀ D H', Same H H' → SqL G.K H' D ((curveOf r st m).map V.int) → Q (.ref D) H'
theorem len_curve (G : Glob) (ea : Str → Addr) (vs : List V) (H : Hp) (Q : VK) (E : XK) (h : sp_curve G ea vs H Q E) : vs.length = 3 := by
  obtain ⟨_, _, _, _, _, _, rfl, _⟩ := h
  rfl
theorem badAt_ints : ∀ (st : List Int) (i : Nat), (∀ p ∈ st, 0 ≤ p ∧ p ≤ 9) → i + st.length ≤ 60 → badAt i (st.map V.int) = none
  | [], _, _, _ => rfl
  | p :: st, i, h, hl => by
    have hl' : i + (st.length + 1) ≤ 60 := hl
    show (if i = 60 ∨ numIn (.int p) 0 9 = false then some i else badAt (i + 1) (st.map V.int)) = none
    have e : numIn (.int p) 0 9 = true := by
      have := h p List.mem_cons_self
      show (decide (0 ≤ p) && decide (p ≤ 9)) = true
      rw [decide_eq_true this.1, decide_eq_true this.2]
      rfl
    have nz : ¬ (i = 60 ∨ numIn (.int p) 0 9 = false) := fun z => z.elim (fun z => by omega) (fun z => by rw [e] at z; cases z)
    rw [if_neg nz]
    exact badAt_ints st (i + 1) (fun q hq => h q (List.mem_cons_of_mem _ hq)) (by omega)
theorem stream_ok {K : PySem.W.Frag} {H : Hp} {a : Addr} {st : List Int} (h : SqT K H a (st.map V.int)) (hp : ∀ p ∈ st, 0 ≤ p ∧ p ≤ 9) (hl : st.length ≤ 60) : StreamQ K H (.ref a) none := by
  have q := StreamQ.tup (K := K) (H := H) a (st.map V.int) h fun x hx => by
    obtain ⟨p, _, rfl⟩ := List.mem_map.mp hx
    exact .int p
  rw [badAt_ints st 0 hp (by omega)] at q
  exact q
end CB2

namespace CB.N
open PySem PySem.Spec PyProof.Rows L2 DW CB2
local macro_rules | `(tactic| walk_at "e1") => `(tactic| (with_reducible first
  | refine ws_seq ?_ | refine ws_asg ?_ | refine ws_asgG ?_ | refine ws_ret ?_ | refine ws_retN ?_ | refine ws_drop ?_ | refine ws_ifs ?_ | refine ws_par ?_
  | refine we_int ?_ | refine we_bl ?_ | refine we_str ?_ | refine we_non ?_ | refine we_ty ?_ | refine we_op ?_ | refine wa_nil ?_ | refine wa_cons ?_ | refine we_tup ?_ | refine we_notV ?_ | refine we_andV ?_ | refine we_orV ?_ | refine we_ifE ?_ | refine we_neg ?_
  | refine wt_test ?_ | refine wt_B ?_ | refine wt_tru ?_ | refine wt_and ?_ | refine wt_or ?_ | refine wt_not ?_ | refine wt_yes ?_ | refine we_sl ?_ | refine wo_none ?_ | refine wo_some ?_ | refine we_call ?_ | refine we_CB ?_
  | refine wg_name ?_ | refine wgs_nil ?_ | refine wgs_cons ?_ | refine wg_tup2 ?_ | refine wg_tup3 ?_ | refine ws_for ?_ | refine wi_tup ?_ | refine wi_rng1 ?_ | refine wi_rng2 ?_ | refine wi_enumT ?_
  | refine w2_add ?_ | refine w2_sub ?_ | refine w2_lt ?_ | refine w2_le ?_ | refine w2_gt ?_ | refine w2_ge ?_ | refine w2_eqI ?_ | refine w2_neI ?_ | refine w2_eqS ?_ | refine w2_isN ?_ | refine w2_notN ?_ | refine w2_inT ?_ | refine w2_notInT ?_ | refine w2_inL ?_ | refine w2_notInL ?_
  | refine exB ?_ | refine exI ?_ | refine exT ?_ | refine exL ?_ | refine exI1 ?_ | refine exT1 ?_ | refine exV ?_ | refine exA0 ?_ | refine exA1 ?_ | refine exA2 ?_ | refine exA3 ?_ | refine exA4 ?_ | refine exA5 ?_ | refine exA6 ?_ | refine exA7 ?_ | refine bT ?_ | refine bF ?_ | refine bT' ?_ | refine bF' ?_
  | refine w3_slA ?_ | refine wb_lenT ?_ | refine wb_lenL ?_ | refine wb_listT ?_ | refine wb_tupL ?_ | refine ws_next ?_
  | refine we_var (by with_unfolding_all rfl) ?_))
local macro_rules | `(tactic| walk_at "ev") => `(tactic| (repeat (walk_at "e1")))

/-! ### rules of the layer, more of them -/
section
variable {K : PySem.W.Frag} {X : XC} {τ : Ts} {W : Wd} {Φ : VX → Wd → Prop} {te ta tb tc : TE} {P : Pst} {x y : VX} {r r' : R2} {d : PyData}
theorem we_chain (h : WE K X ta τ W fun x W1 => WE K X tb τ W1 fun y W2_ => W2 K r x y W2_ fun z W3_ => ∃ c, z = .d (.bool c) ∧ ((c = true → WE K X tc τ W3_ fun w W4 => W2 K r' y w W4 Φ) ∧ (c = false → Φ (.d (.bool false)) W3_))) : WE K X (tChain r r' ta tb tc) τ W Φ := fun σ H M Q s R kx k =>
  h σ H M _ s R kx fun x u H1 M1 W1 q1 R1 t1 p1 => q1 σ H1 M1 _ (s.mono t1.sm) R1 (kx.on t1) fun y v H2 M2 W2_ q2 R2 t2 p2 => q2 H2 M2 u v _ R2 (p1.mono t2.sm) p2 fun z w H3 M3 W3_ ⟨c, e, qa, qb⟩ R3 t3 p3 => by
    subst e
    cases p3
    refine ⟨c, rfl, ?_⟩
    have t123 := t1.trans (t2.trans t3)
    cases c with
    | false => exact k _ _ _ _ _ (qb rfl) R3 t123 (Dp.bl _)
    | true => exact qa rfl σ H3 M3 _ (s.mono t123.sm) R3 (kx.on t123) fun w u4 H4 M4 W4 q4 R4 t4 p4 => q4 H4 M4 v u4 Q R4 ((p2.mono t3.sm).mono t4.sm) p4 (k.on (t123.trans t4))
theorem ws_rs {c : Str} (h : WE K X te τ W fun _ W1 => X.ex c none W1) : WS K X (tRs te (X.ea c) X.E) τ W P := fun σ H M D s R kx k =>
  h σ H M _ s R kx fun x v H1 M1 W1 q1 R1 t1 p1 => kx c none H1 M1 W1 q1 R1 t1
/-- a message's parts can be joined -/
def JOk (K : PySem.W.Frag) (τ : Ts) (ts : List TE) : Prop := ∀ σ H M (R : Hp → Prop), SR K M τ σ → R H → tJs ts Str.empty σ H fun _ H1 => R H1
theorem ws_rsJ {c : Str} {ts : List TE} (j : JOk K τ ts) (h : X.ex c none W) : WS K X (tRs (tFS ts) (X.ea c) X.E) τ W P := fun σ H M D s R kx k =>
  r_rsF (j σ H M _ s (kx c none H M W h R (.refl ..)))
theorem ws_rsN {c : Str} (T : OexC K (X.ea c)) (hf : PySem.W.findIn K (.ref (X.ea c)) "number" = some none) (h : WE K X te τ W fun x W1 => ∃ n : Nat, x = .d (.int (n : Int)) ∧ n < 100 ∧ X.ex c (some ("number", .d (.int (n : Int)))) W1) : WS K X (tRsN K te (X.ea c) X.E) τ W P := fun σ H M D s R kx k =>
  h σ H M _ s R kx fun x v H1 M1 W1 ⟨n, e, hn, q1⟩ R1 t1 p1 => by
    subst e
    cases p1
    refine r_contN T hf hn fun d H' nd sm hd => ?_
    obtain ⟨R2, t2⟩ := R1.ext sm
    exact kx c (some ("number", .d (.int (n : Int)))) H' M1 W1 q1 R2 (t1.trans t2) d (.int (n : Int)) hd (Dp.int _)
theorem wb_specX0 {ea : Str → Addr} {A : List VX → Wd → (VX → Wd → Prop) → (Str → Option (Str × VX) → Wd → Prop) → Prop} {xs : List VX} (h : A xs W Φ fun _ _ _ => False) : WB K X (SPC (SPECX K ea A) [] E0) xs W Φ := fun H M vs Q R p kx k => ⟨M, W, xs, Φ, _, R, by rw [List.append_nil]; exact p, h, fun _ _ _ _ _ z => z.elim, k⟩
/-! isinstance of data -/
def tyD : PyData → String
  | .none => "NoneType"
  | .bool _ => "bool"
  | .int _ => "int"
  | .str _ => "str"
  | .list _ => "list"
  | .tuple _ => "tuple"
  | .dict _ => "dict"
def isiB (t c : String) : Bool := t == c || (t == "bool" && c == "int")
theorem tyD_ok {M H : Hp} {v : V} (sm : Same M H) (p : Dp K M v d) : TyX K H v (.type (tyD d)) := by
  cases p with
  | non => exact .base .non
  | bl b => exact .base (.bl b)
  | int i => exact .base (.int i)
  | str z => exact .base (.str z)
  | lst h _ => exact tyL (sm.seq h)
  | tup h _ => exact tyT (sqT_same sm h)
theorem kit_all (c : String) (hc : c ∈ ["bool", "int", "tuple", "list", "str"]) : ∀ d : PyData, (∀ kvs, d ≠ .dict kvs) → PySem.W.kitOne K (.type (tyD d)) (.type c) = some (isiB (tyD d) c) := by
  intro d hd
  have hc' : c = "bool" ∨ c = "int" ∨ c = "tuple" ∨ c = "list" ∨ c = "str" := by simpa using hc
  cases d with
  | none => rcases hc' with rfl | rfl | rfl | rfl | rfl <;> kernel_rfl
  | bool b => rcases hc' with rfl | rfl | rfl | rfl | rfl <;> kernel_rfl
  | int b => rcases hc' with rfl | rfl | rfl | rfl | rfl <;> kernel_rfl
  | str b => rcases hc' with rfl | rfl | rfl | rfl | rfl <;> kernel_rfl
  | list b => rcases hc' with rfl | rfl | rfl | rfl | rfl <;> kernel_rfl
  | tuple b => rcases hc' with rfl | rfl | rfl | rfl | rfl <;> kernel_rfl
  | dict kvs => exact absurd rfl (hd kvs)
theorem dp_nodict {M : Hp} {v : V} (p : Dp K M v d) : ∀ kvs, d ≠ .dict kvs := by
  cases p <;> exact fun kvs z => nomatch z
theorem wb_isi {c : String} (hc : c ∈ ["bool", "int", "tuple", "list", "str"]) (h : Φ (.d (.bool (isiB (tyD d) c))) W) : WB K X (rIsi K) [.d d, .r (.ty c)] W Φ := fun H M vs Q R p kx k => by
  cases p with
  | cons p1 p =>
    cases p with
    | cons p2 p =>
      cases p
      cases p2
      exact ⟨_, _, _, _, _, rfl, .ty c, tyD_ok R.sm p1, kit_all c hc d (dp_nodict p1), k _ _ _ _ _ h R (.refl ..) (Dp.bl _)⟩
mutual
theorem dp_plain {M : Hp} : ∀ {d : PyData} {v : V}, Dp K M v d → d.plain = true
  | _, _, .non => by simp [PyData.plain]
  | _, _, .bl _ => by simp [PyData.plain]
  | _, _, .int _ => by simp [PyData.plain]
  | _, _, .str _ => by simp [PyData.plain]
  | _, _, .lst _ a => by simp [PyData.plain]; exact dpAll_plain a
  | _, _, .tup _ a => by simp [PyData.plain]; exact dpAll_plain a
theorem dpAll_plain {M : Hp} : ∀ {ds : List PyData} {vs : List V}, DpAll K M vs ds → PyData.plainAll ds = true
  | _, _, .nil => by simp [PyData.plainAll]
  | _, _, .cons h a => by simp [PyData.plainAll]; exact ⟨dp_plain h, dpAll_plain a⟩
end
theorem w2_notInSt {ss : List Str} (h : Φ (.d (.bool (!(ss.map PyData.str).any fun z => PyData.eqv z d))) W) : W2 K (rNotInSt K) (.d d) (.d (.tuple (ss.map PyData.str))) W Φ := fun H M u v Q R p q k =>
  ⟨d, ss, dp_mono R.sm p, dp_plain p, dp_mono R.sm q, k _ _ _ _ _ h R (.refl ..) (Dp.bl _)⟩
end
/-! ### the module's constants -/
structure Con (G : Glob) : Prop where
  rules : ∀ M, Dp G.K M (.ref G.aRULES) (.tuple (rulesS.map PyData.str))
  empty : ∀ M, Dp G.K M (.ref G.aEMPTY) (stateD [] 0)
  stay : ∀ M, Dp G.K M (.ref G.aSTAY) (stayD [])
structure NumX (G : Glob) (c : Addr) : Prop where
  T : OexC G.K c
  hf : PySem.W.findIn G.K (.ref c) "number" = some none
abbrev AX := List VX → Wd → (VX → Wd → Prop) → (Str → Option (Str × VX) → Wd → Prop) → Prop
/-! ### checks -/
def numD : PyData → Int → Int → Bool
  | .int n, lo, hi => decide (lo ≤ n) && decide (n ≤ hi)
  | _, _, _ => false
def RuleD (d : PyData) : Prop := ∃ r : Rule, d = .str r.s
theorem ruleD_or (d : PyData) : RuleD d ∨ ∀ r : Rule, d ≠ .str r.s := by
  by_cases h : ∃ r : Rule, d = .str r.s
  · exact .inl h
  · exact .inr fun r e => h ⟨r, e⟩
def A_is_number : AT := fun xs W Φ => ∃ (d : PyData) (lo hi : Int), xs = [.d d, .d (.int lo), .d (.int hi)] ∧ Φ (.d (.bool (numD d lo hi))) W
def A_check_rule (G : Glob) : AX := fun xs W Φ Ξ => ∃ d : PyData, xs = [.d d] ∧ Con G ∧ (RuleD d → Φ (.d .none) W) ∧ ((∀ r : Rule, d ≠ .str r.s) → Ξ "BadRule" none W)
def A_check_size : AX := fun xs W Φ Ξ => ∃ d : PyData, xs = [.d d] ∧ (numD d 1 6 = true → Φ (.d .none) W) ∧ (numD d 1 6 = false → Ξ "BadSize" none W)
def A_check_count : AX := fun xs W Φ Ξ => ∃ (d : PyData) (lo hi : Nat), xs = [.d d, .d (.int (lo : Int)), .d (.int (hi : Int))] ∧ lo < 100 ∧ hi < 100 ∧ (numD d lo hi = true → Φ (.d .none) W) ∧ (numD d lo hi = false → Ξ "BadCount" none W)
def badAtD : Nat → List PyData → Option Nat
  | _, [] => none
  | i, d :: r => if i = 60 ∨ numD d 0 9 = false then some i else badAtD (i + 1) r
def streamBad : PyData → Option Nat
  | .tuple ds => badAtD 0 ds
  | _ => some 0
def A_check_stream (G : Glob) (ea : Str → Addr) : AX := fun xs W Φ Ξ => ∃ d : PyData, xs = [.d d] ∧ NumX G (ea "BadStream") ∧ (streamBad d = none → Φ (.d .none) W) ∧ ∀ n, streamBad d = some n → Ξ "BadStream" (some ("number", .d (.int (n : Int)))) W
def sp_is_number (G : Glob) : Sp := SPEC0 G.K A_is_number
def sp_check_rule (G : Glob) (ea : Str → Addr) : Sp := SPECX G.K ea (A_check_rule G)
def sp_check_size (G : Glob) (ea : Str → Addr) : Sp := SPECX G.K ea A_check_size
def sp_check_count (G : Glob) (ea : Str → Addr) : Sp := SPECX G.K ea A_check_count
def sp_check_stream (G : Glob) (ea : Str → Addr) : Sp := SPECX G.K ea (A_check_stream G ea)
def t_is_number (G : Glob) : TS := (tSeq (tIfS (tOr (tB (tCB (rIsi G.K) (tCons (tVar 0) (tCons (tC (.ty "bool")) tNil)))) (tNot (tB (tCB (rIsi G.K) (tCons (tVar 0) (tCons (tC (.ty "int")) tNil)))))) (tRet (tC (.bl false))) tNext)
    (tRet (tChain kLe kLe (tVar 1) (tVar 0) (tVar 2))))
def t_check_rule (G : Glob) (ea : Str → Addr) (E : XK) : TS := (tIfS (tTest (tOp (rNotInSt G.K) (tVar 0) (tC (.ref G.aRULES)))) (tRs (tC (.str "no such rule")) (ea "BadRule") E) tNext)
def t_check_size (G : Glob) (ea : Str → Addr) (E : XK) : TS := (tIfS (tNot (tB (tCall (sp_is_number G) [] E0 (tCons (tVar 0) (tCons (tC (.int 1)) (tCons (tC (.int 6)) tNil)))))) (tRs (tFS ((tC (.str "a size is a number from 1 to ")) :: ((tFmt (tC (.int 6))) :: []))) (ea "BadSize") E) tNext)
def t_check_count (G : Glob) (ea : Str → Addr) (E : XK) : TS := (tIfS (tNot (tB (tCall (sp_is_number G) [] E0 (tCons (tVar 0) (tCons (tVar 1) (tCons (tVar 2) tNil)))))) (tRs (tFS ((tC (.str "not a number from ")) :: ((tFmt (tVar 1)) :: ((tC (.str " to ")) :: ((tFmt (tVar 2)) :: []))))) (ea "BadCount") E) tNext)
def t_check_stream (G : Glob) (ea : Str → Addr) (E : XK) : TS := (tSeq (tIfS (tNot (tB (tCB (rIsi G.K) (tCons (tVar 0) (tCons (tC (.ty "tuple")) tNil))))) (tRsN G.K (tC (.int 0)) (ea "BadStream") E) tNext)
    (tFor (iEnumT G.K (tCons (tVar 0) tNil)) (gTup G.K 2 (gCons (gName 1) (gCons (gName 2) gNil))) (tIfS (tOr (tTest (tOp kEq (tVar 1) (tC (.int 60)))) (tNot (tB (tCall (sp_is_number G) [] E0 (tCons (tVar 2) (tCons (tC (.int 0)) (tCons (tOp kSub (tC (.int 10)) (tC (.int 1))) tNil))))))) (tRsN G.K (tVar 1) (ea "BadStream") E) tNext)))
theorem is_number_ok (G : Glob) (X : XC) (xs : List VX) (W : Wd) (Φ : VX → Wd → Prop) (h : A_is_number xs W Φ) : xs.length = 3 ∧ WS G.K X (t_is_number G) (st0 xs 0) W (P0 Φ) := by
  obtain ⟨d, lo, hi, rfl, q⟩ := h
  refine ⟨rfl, ?_⟩
  unfold t_is_number
  walk_at "ev"
  refine wb_isi (by decide) ?_
  walk_at "ev"
  cases d with
  | int n =>
    refine ⟨fun _ => ?_, fun z => (by cases z)⟩
    walk_at "ev"
    refine wb_isi (by decide) ?_
    walk_at "ev"
    refine ⟨fun z => (by cases z), fun _ => ?_⟩
    walk_at "ev"
    refine we_chain ?_
    walk_at "ev"
    have q : Φ (.d (.bool (decide (lo ≤ n) && decide (n ≤ hi)))) W := q
    refine bD (fun c => ?_) (fun c => ?_)
    · rw [decide_eq_true c] at q
      walk_at "ev"
      exact q
    · rw [decide_eq_false c] at q
      exact q
  | bool b =>
    refine ⟨fun z => (by cases z), fun _ => ?_⟩
    refine ⟨fun _ => ?_, fun z => (by cases z)⟩
    walk_at "ev"
    exact q
  | _ =>
    refine ⟨fun _ => ?_, fun z => (by cases z)⟩
    walk_at "ev"
    refine wb_isi (by decide) ?_
    walk_at "ev"
    refine ⟨fun _ => ?_, fun z => (by cases z)⟩
    walk_at "ev"
    exact q
theorem check_rule_ok (G : Glob) (ea : Str → Addr) (E : XK) (xs : List VX) (W : Wd) (Φ : VX → Wd → Prop) (Ξ : Str → Option (Str × VX) → Wd → Prop) (h : A_check_rule G xs W Φ Ξ) : xs.length = 1 ∧ WS G.K ⟨E, ea, Ξ⟩ (t_check_rule G ea E) (st0 xs 0) W (P0 Φ) := by
  obtain ⟨d, rfl, C, q1, q2⟩ := h
  refine ⟨rfl, ?_⟩
  unfold t_check_rule
  walk_at "ev"
  refine we_c (x := .d (.tuple (rulesS.map PyData.str))) C.rules ?_
  refine w2_notInSt ?_
  walk_at "ev"
  rcases ruleD_or d with ⟨r, rfl⟩ | c
  · rw [rule_in r]
    refine bF ?_
    walk_at "ev"
    exact q1 ⟨r, rfl⟩
  · rw [rule_out c]
    refine bT ?_
    refine ws_rs (X := ⟨E, ea, Ξ⟩) ?_
    walk_at "ev"
    exact q2 c
theorem check_size_ok (G : Glob) (ea : Str → Addr) (E : XK) (xs : List VX) (W : Wd) (Φ : VX → Wd → Prop) (Ξ : Str → Option (Str × VX) → Wd → Prop) (h : A_check_size xs W Φ Ξ) : xs.length = 1 ∧ WS G.K ⟨E, ea, Ξ⟩ (t_check_size G ea E) (st0 xs 0) W (P0 Φ) := by
  obtain ⟨d, rfl, q1, q2⟩ := h
  refine ⟨rfl, ?_⟩
  unfold t_check_size
  walk_at "ev"
  refine wb_spec0 ⟨d, 1, 6, rfl, ?_⟩
  walk_at "ev"
  cases c : numD d 1 6 with
  | true =>
    refine bF ?_
    walk_at "ev"
    exact q1 c
  | false =>
    refine bT ?_
    refine ws_rsJ (X := ⟨E, ea, Ξ⟩) (fun σ H M R s h => ?_) (q2 c)
    refine r_jC (by decide) ?_
    refine r_jN (n := 6) (by decide) (fun R h => h) (by decide) ?_
    exact h
theorem check_count_ok (G : Glob) (ea : Str → Addr) (E : XK) (xs : List VX) (W : Wd) (Φ : VX → Wd → Prop) (Ξ : Str → Option (Str × VX) → Wd → Prop) (h : A_check_count xs W Φ Ξ) : xs.length = 3 ∧ WS G.K ⟨E, ea, Ξ⟩ (t_check_count G ea E) (st0 xs 0) W (P0 Φ) := by
  obtain ⟨d, lo, hi, rfl, l1, l2, q1, q2⟩ := h
  refine ⟨rfl, ?_⟩
  unfold t_check_count
  walk_at "ev"
  refine wb_spec0 ⟨d, lo, hi, rfl, ?_⟩
  walk_at "ev"
  cases c : numD d lo hi with
  | true =>
    refine bF ?_
    walk_at "ev"
    exact q1 c
  | false =>
    refine bT ?_
    have n1 := num_len lo l1
    refine ws_rsJ (X := ⟨E, ea, Ξ⟩) (fun σ H M R s h => ?_) (q2 c)
    obtain ⟨v1, e1, p1⟩ := s.get (i := 1) rfl
    obtain ⟨v2, e2, p2⟩ := s.get (i := 2) rfl
    cases p1
    cases p2
    refine r_jC (by decide) ?_
    refine r_jN (n := lo) l1 (fun R h => ⟨_, e1, h⟩) (by decide) ?_
    refine r_jC ?_ ?_
    rotate_left
    refine r_jN (n := hi) l2 (fun R h => ⟨_, e2, h⟩) ?_ h
    rotate_left
    · rw [Str.length_append, Str.length_append]
      exact Nat.le_trans (Nat.add_le_add_right (Nat.add_le_add_left n1 _) _) (by decide)
    · rw [Str.length_append, Str.length_append]
      exact Nat.le_trans (Nat.add_le_add_right (Nat.add_le_add_right (Nat.add_le_add_left n1 _) _) _) (by decide)
theorem badAtD_from : ∀ (ds : List PyData) (i j : Nat), (∀ k, k < j → ∀ d, ds[k]? = some d → ¬ (i + k = 60 ∨ numD d 0 9 = false)) → j ≤ ds.length → badAtD i ds = badAtD (i + j) (ds.drop j)
  | ds, i, 0, _, _ => rfl
  | [], i, j + 1, _, hl => by simp at hl
  | d :: ds, i, j + 1, h, hl => by
    show (if i = 60 ∨ numD d 0 9 = false then some i else badAtD (i + 1) ds) = _
    rw [if_neg (show ¬ (i = 60 ∨ numD d 0 9 = false) from h 0 (Nat.succ_pos _) d rfl), badAtD_from ds (i + 1) j (fun k hk e he => by have := h (k + 1) (Nat.succ_lt_succ hk) e (by simpa using he); rwa [show i + 1 + k = i + (k + 1) by omega]) (by simpa using hl)]
    rw [show i + 1 + j = i + (j + 1) by omega]
    rfl
theorem check_stream_ok (G : Glob) (ea : Str → Addr) (E : XK) (xs : List VX) (W : Wd) (Φ : VX → Wd → Prop) (Ξ : Str → Option (Str × VX) → Wd → Prop) (h : A_check_stream G ea xs W Φ Ξ) : xs.length = 1 ∧ WS G.K ⟨E, ea, Ξ⟩ (t_check_stream G ea E) (st0 xs 2) W (P0 Φ) := by
  obtain ⟨d, rfl, N, q1, q2⟩ := h
  refine ⟨rfl, ?_⟩
  unfold t_check_stream
  walk_at "ev"
  refine wb_isi (by decide) ?_
  walk_at "ev"
  cases d with
  | tuple ds =>
    refine ⟨fun z => (by cases z), fun _ => ?_⟩
    walk_at "ev"
    refine ⟨fun i τ' W' => W' = W ∧ (∃ s1 s2, τ' = [some (.d (.tuple ds)), s1, s2]) ∧ ∀ k, k < i → ∀ d, ds[k]? = some d → ¬ (0 + k = 60 ∨ numD d 0 9 = false), ⟨rfl, ⟨none, none, rfl⟩, fun k hk => absurd hk (Nat.not_lt_zero _)⟩, fun _ _ _ _ _ => trivial, ?_, ?_⟩
    · rintro i τ' W' hi ⟨rfl, ⟨s1, s2, rfl⟩, hb⟩
      obtain ⟨x, hx⟩ := has_at hi
      have eg : ds.getD i .none = x := by rw [List.getD_eq_getElem?_getD, hx]; rfl
      have ed : badAtD 0 ds = if i = 60 ∨ numD x 0 9 = false then some i else badAtD (0 + i + 1) (ds.drop (i + 1)) := by
        rw [badAtD_from ds 0 i hb (by omega), List.drop_eq_getElem_cons hi]
        have : ds[i] = x := by rw [List.getElem?_eq_getElem hi] at hx; exact Option.some.inj hx
        rw [this, Nat.zero_add]
        rfl
      have bad : (i = 60 ∨ numD x 0 9 = false) → Ξ "BadStream" (some ("number", .d (.int (i : Int)))) W' ∧ i < 100 := fun c => by
        refine ⟨q2 i (by show badAtD 0 ds = _; rw [ed, if_pos c]), ?_⟩
        rcases Nat.lt_or_ge i 61 with z | z
        · omega
        · obtain ⟨y, hy⟩ : ∃ y, ds[60]? = some y := has_at (by omega)
          exact absurd (.inl rfl) (hb 60 (by omega) y hy)
      dsimp only
      rw [eg]
      walk_at "ev"
      refine bFT (fun c => ?_) (fun c => ?_)
      · refine bT ?_
        have := bad (.inl (by omega))
        refine ws_rsN (X := ⟨E, ea, Ξ⟩) N.T N.hf ?_
        walk_at "ev"
        exact ⟨i, rfl, this.2, this.1⟩
      · walk_at "ev"
        refine wb_spec0 ⟨x, 0, 9, rfl, ?_⟩
        walk_at "ev"
        cases cn : numD x 0 9 with
        | true =>
          refine bF ?_
          walk_at "ev"
          refine ⟨rfl, ⟨_, _, rfl⟩, fun k hk e he => ?_⟩
          rcases Nat.lt_succ_iff_lt_or_eq.mp hk with z | z
          · exact hb k z e he
          · subst z
            rw [hx] at he
            cases he
            rintro (z | z)
            · omega
            · rw [cn] at z; cases z
        | false =>
          refine bT ?_
          have := bad (.inr cn)
          refine ws_rsN (X := ⟨E, ea, Ξ⟩) N.T N.hf ?_
          walk_at "ev"
          exact ⟨i, rfl, this.2, this.1⟩
    · rintro τ' W' ⟨rfl, ⟨s1, s2, rfl⟩, hb⟩
      refine q1 ?_
      show badAtD 0 ds = none
      rw [badAtD_from ds 0 ds.length hb (Nat.le_refl _), List.drop_length]
      rfl
  | _ =>
    refine ⟨fun _ => ?_, fun z => (by cases z)⟩
    refine ws_rsN (X := ⟨E, ea, Ξ⟩) N.T N.hf ?_
    walk_at "ev"
    exact ⟨0, rfl, by decide, q2 0 rfl⟩
end CB.N

namespace CB.N
open PySem PySem.Spec PyProof.Rows L2 DW CB2
local macro_rules | `(tactic| walk_at "e1") => `(tactic| (with_reducible first
  | refine ws_seq ?_ | refine ws_asg ?_ | refine ws_asgG ?_ | refine ws_ret ?_ | refine ws_retN ?_ | refine ws_drop ?_ | refine ws_ifs ?_ | refine ws_par ?_
  | refine we_int ?_ | refine we_bl ?_ | refine we_str ?_ | refine we_non ?_ | refine we_ty ?_ | refine we_op ?_ | refine wa_nil ?_ | refine wa_cons ?_ | refine we_tup ?_ | refine we_notV ?_ | refine we_andV ?_ | refine we_orV ?_ | refine we_ifE ?_ | refine we_neg ?_
  | refine wt_test ?_ | refine wt_B ?_ | refine wt_tru ?_ | refine wt_and ?_ | refine wt_or ?_ | refine wt_not ?_ | refine wt_yes ?_ | refine we_sl ?_ | refine wo_none ?_ | refine wo_some ?_ | refine we_call ?_ | refine we_CB ?_
  | refine wg_name ?_ | refine wgs_nil ?_ | refine wgs_cons ?_ | refine wg_tup2 ?_ | refine wg_tup3 ?_ | refine ws_for ?_ | refine wi_tup ?_ | refine wi_rng1 ?_ | refine wi_rng2 ?_ | refine wi_enumT ?_
  | refine w2_add ?_ | refine w2_sub ?_ | refine w2_lt ?_ | refine w2_le ?_ | refine w2_gt ?_ | refine w2_ge ?_ | refine w2_eqI ?_ | refine w2_neI ?_ | refine w2_eqS ?_ | refine w2_isN ?_ | refine w2_notN ?_ | refine w2_inT ?_ | refine w2_notInT ?_ | refine w2_inL ?_ | refine w2_notInL ?_
  | refine exB ?_ | refine exI ?_ | refine exT ?_ | refine exL ?_ | refine exI1 ?_ | refine exT1 ?_ | refine exV ?_ | refine exA0 ?_ | refine exA1 ?_ | refine exA2 ?_ | refine exA3 ?_ | refine exA4 ?_ | refine exA5 ?_ | refine exA6 ?_ | refine exA7 ?_ | refine bT ?_ | refine bF ?_ | refine bT' ?_ | refine bF' ?_
  | refine w3_slA ?_ | refine wb_lenT ?_ | refine wb_lenL ?_ | refine wb_listT ?_ | refine wb_tupL ?_ | refine ws_next ?_
  | refine we_var (by with_unfolding_all rfl) ?_))
local macro_rules | `(tactic| walk_at "ev") => `(tactic| (repeat (walk_at "e1")))

/-! ### rising, in one way -/
def ins (x : Int) : List Int → List Int
  | [] => [x]
  | y :: l => if x ≤ y then x :: y :: l else y :: ins x l
def isort : List Int → List Int
  | [] => []
  | x :: l => ins x (isort l)
theorem ins_perm (x : Int) : ∀ l : List Int, (ins x l).Perm (x :: l)
  | [] => .refl _
  | y :: l => by
    unfold ins
    split
    · exact .refl _
    · exact ((ins_perm x l).cons y).trans (.swap x y l)
theorem isort_perm : ∀ l : List Int, (isort l).Perm l
  | [] => .refl _
  | x :: l => (ins_perm x _).trans ((isort_perm l).cons x)
theorem ins_rise (x : Int) : ∀ l : List Int, l.Pairwise (· ≤ ·) → (ins x l).Pairwise (· ≤ ·)
  | [], _ => List.pairwise_singleton ..
  | y :: l, h => by
    unfold ins
    split
    · rename_i c
      refine List.pairwise_cons.mpr ⟨fun z hz => ?_, h⟩
      rcases List.mem_cons.mp hz with rfl | hz
      · exact c
      · exact Int.le_trans c ((List.pairwise_cons.mp h).1 z hz)
    · rename_i c
      refine List.pairwise_cons.mpr ⟨fun z hz => ?_, ins_rise x l (List.pairwise_cons.mp h).2⟩
      rcases List.mem_cons.mp ((ins_perm x l).mem_iff.mp hz) with rfl | hz
      · omega
      · exact (List.pairwise_cons.mp h).1 z hz
theorem isort_rise : ∀ l : List Int, (isort l).Pairwise (· ≤ ·)
  | [] => .nil
  | x :: l => ins_rise x _ (isort_rise l)
theorem rise_uniq : ∀ {l m : List Int}, l.Pairwise (· ≤ ·) → m.Pairwise (· ≤ ·) → l.Perm m → l = m
  | [], m, _, _, p => (List.nil_perm.mp p).symm
  | x :: l, [], _, _, p => absurd (List.perm_nil.mp p) (by simp)
  | x :: l, y :: m, hl, hm, p => by
    have e : x = y := by
      have h1 := p.mem_iff.mp (List.mem_cons_self (a := x) (l := l))
      have h2 := p.mem_iff.mpr (List.mem_cons_self (a := y) (l := m))
      rcases List.mem_cons.mp h1 with h1 | h1
      · exact h1
      · rcases List.mem_cons.mp h2 with h2 | h2
        · exact h2.symm
        · have a := (List.pairwise_cons.mp hm).1 x h1
          have b := (List.pairwise_cons.mp hl).1 y h2
          omega
    subst e
    rw [rise_uniq (List.pairwise_cons.mp hl).2 (List.pairwise_cons.mp hm).2 p.cons_inv]
theorem isort_of {l m : List Int} (p : m.Perm l) (h : m.Pairwise (· ≤ ·)) : m = isort l := rise_uniq h (isort_rise l) (p.trans (isort_perm l).symm)
/-! ### runs -/
def tellD (t : Bool × Option Int) : PyData := .tuple [.bool t.1, intD t.2]
def heldD (l : List Row) : PyData := .tuple ((isort (l.map (·.1))).map .int)
def runD (r : Rule) (s : Nat) (st : List Int) : PyData := .tuple [.int ((misses (runTo r s st).told : Nat) : Int), .list ((runTo r s st).told.map tellD), heldD (runTo r s st).rows]
def StOk (st : List Int) : Prop := st.length ≤ 60 ∧ ∀ p ∈ st, 0 ≤ p ∧ p ≤ 9
abbrev streamD (st : List Int) : PyData := .tuple (st.map .int)
theorem numD_int {x : PyData} {lo hi : Int} (h : numD x lo hi = true) : ∃ n : Int, x = .int n ∧ lo ≤ n ∧ n ≤ hi := by
  cases x with
  | int n =>
    have h : (decide (lo ≤ n) && decide (n ≤ hi)) = true := h
    rw [Bool.and_eq_true, decide_eq_true_eq, decide_eq_true_eq] at h
    exact ⟨n, rfl, h.1, h.2⟩
  | _ => cases h
theorem numD_t {n lo hi : Int} (h1 : lo ≤ n) (h2 : n ≤ hi) : numD (.int n) lo hi = true := by
  show (decide (lo ≤ n) && decide (n ≤ hi)) = true
  rw [decide_eq_true h1, decide_eq_true h2]
  rfl
theorem numD_f {n lo hi : Int} (h : n < lo ∨ hi < n) : numD (.int n) lo hi = false := by
  show (decide (lo ≤ n) && decide (n ≤ hi)) = false
  rcases h with h | h
  · rw [decide_eq_false (by omega)]
    rfl
  · rw [decide_eq_false (by omega : ¬ n ≤ hi), Bool.and_false]
theorem numD_nat {x : PyData} {lo hi : Nat} (h : numD x lo hi = true) : ∃ n : Nat, x = .int (n : Int) ∧ lo ≤ n ∧ n ≤ hi := by
  obtain ⟨n, e, h1, h2⟩ := numD_int h
  exact ⟨n.toNat, by rw [e, Int.toNat_of_nonneg (by omega)], by omega, by omega⟩
theorem badAtD_none : ∀ {ds : List PyData} {i : Nat}, badAtD i ds = none → i ≤ 60 → ∃ st : List Int, ds = st.map .int ∧ i + st.length ≤ 60 ∧ ∀ p ∈ st, 0 ≤ p ∧ p ≤ 9
  | [], i, _, hi => ⟨[], rfl, hi, fun p hp => by cases hp⟩
  | d :: ds, i, h, hi => by
    have h : (if i = 60 ∨ numD d 0 9 = false then some i else badAtD (i + 1) ds) = none := h
    by_cases c : i = 60 ∨ numD d 0 9 = false
    · rw [if_pos c] at h; cases h
    · rw [if_neg c] at h
      rw [not_or] at c
      obtain ⟨n, e, n1, n2⟩ := numD_int (x := d) (lo := 0) (hi := 9) (by cases z : numD d 0 9 with | true => rfl | false => exact absurd z c.2)
      obtain ⟨st, e1, e2, e3⟩ := badAtD_none h (by omega)
      refine ⟨n :: st, by rw [e, e1]; rfl, by simp; omega, fun p hp => ?_⟩
      rcases List.mem_cons.mp hp with rfl | hp
      · exact ⟨n1, n2⟩
      · exact e3 p hp
theorem streamBad_none {d : PyData} (h : streamBad d = none) : ∃ st, d = streamD st ∧ StOk st := by
  cases d with
  | tuple ds =>
    obtain ⟨st, e1, e2, e3⟩ := badAtD_none (i := 0) h (by decide)
    exact ⟨st, by rw [e1], by omega, e3⟩
  | _ => cases h
theorem badAtD_ok : ∀ (st : List Int) (i : Nat), (∀ p ∈ st, 0 ≤ p ∧ p ≤ 9) → i + st.length ≤ 60 → badAtD i (st.map .int) = none
  | [], _, _, _ => rfl
  | p :: st, i, h, hl => by
    have hl' : i + (st.length + 1) ≤ 60 := hl
    show (if i = 60 ∨ numD (.int p) 0 9 = false then some i else badAtD (i + 1) (st.map .int)) = none
    have hp := h p List.mem_cons_self
    rw [if_neg (fun z => z.elim (fun z => by omega) fun z => by rw [numD_t hp.1 hp.2] at z; cases z)]
    exact badAtD_ok st (i + 1) (fun q hq => h q (List.mem_cons_of_mem _ hq)) (by omega)
theorem streamBad_ok {st : List Int} (h : StOk st) : streamBad (streamD st) = none := badAtD_ok st 0 h.2 (by have := h.1; omega)
/-- a new tuple of the misses, of a list that is a cell, of what is held -/
def runX (r : Rule) (s : Nat) (st : List Int) (L : Addr) : List VX := [.d (.int ((misses (runTo r s st).told : Nat) : Int)), .r (.ref L), .d (heldD (runTo r s st).rows)]
def runC (r : Rule) (s : Nat) (st : List Int) : OC := .lst (((runTo r s st).told.map tellD).map VX.d)
def RunΦ (K : PySem.W.Frag) (r : Rule) (s : Nat) (st : List Int) (W : Wd) (Φ : VX → Wd → Prop) : Prop := ∀ (p L : Addr) (vs : List V), Φ (.r (.ref p)) ⟨(L, runC r s st) :: W.c, gTupA K W.g p (runX r s st L) vs⟩
def A_run (G : Glob) (ea : Str → Addr) : AX := fun xs W Φ Ξ => ∃ dr dz ds : PyData, xs = [.d dr, .d dz, .d ds] ∧ Con G ∧ NumX G (ea "BadStream") ∧ ((∀ r : Rule, dr ≠ .str r.s) → Ξ "BadRule" none W) ∧ (RuleD dr → numD dz 1 6 = false → Ξ "BadSize" none W) ∧
  (RuleD dr → numD dz 1 6 = true → ∀ n, streamBad ds = some n → Ξ "BadStream" (some ("number", .d (.int (n : Int)))) W) ∧
  ∀ (r : Rule) (s : Nat) (st : List Int), dr = .str r.s → dz = .int (s : Int) → 1 ≤ s → s ≤ 6 → ds = streamD st → StOk st → RunΦ G.K r s st W Φ
def A_curve (G : Glob) (ea : Str → Addr) : AX := fun xs W Φ Ξ => ∃ dr ds dm : PyData, xs = [.d dr, .d ds, .d dm] ∧ Con G ∧ NumX G (ea "BadStream") ∧ ((∀ r : Rule, dr ≠ .str r.s) → Ξ "BadRule" none W) ∧
  (RuleD dr → ∀ n, streamBad ds = some n → Ξ "BadStream" (some ("number", .d (.int (n : Int)))) W) ∧ (RuleD dr → streamBad ds = none → numD dm 1 6 = false → Ξ "BadCount" none W) ∧
  ∀ (r : Rule) (m : Nat) (st : List Int), dr = .str r.s → dm = .int (m : Int) → 1 ≤ m → m ≤ 6 → ds = streamD st → StOk st → Φ (.d (.list ((curveOf r st m).map .int))) W
def A_least_not_held : AT := fun xs W Φ => ∃ ps : List Int, xs = [.d (streamD ps)] ∧ ps.length ≤ 100 ∧ ∀ k : Nat, IsLeast ps k → Φ (.d (.int (k : Int))) W
def A_cruel (G : Glob) (ea : Str → Addr) : AX := fun xs W Φ Ξ => ∃ dr dz dp dl : PyData, xs = [.d dr, .d dz, .d dp, .d dl] ∧ Con G ∧ ((∀ r : Rule, dr ≠ .str r.s) → Ξ "BadRule" none W) ∧ (RuleD dr → numD dz 1 6 = false → Ξ "BadSize" none W) ∧
  ∀ (r : Rule) (s : Nat), dr = .str r.s → dz = .int (s : Int) → 1 ≤ s → s ≤ 6 → (numD dp (s + 1 : Nat) 10 = false ∨ numD dl 0 60 = false → Ξ "BadCount" none W) ∧
    ∀ n : Nat, numD dp (s + 1 : Nat) 10 = true → dl = .int (n : Int) → n ≤ 60 → ∀ st, CruelOf r s n st → Φ (.d (streamD st)) W
def sp_run (G : Glob) (ea : Str → Addr) : Sp := SPECX G.K ea (A_run G ea)
def sp_curve (G : Glob) (ea : Str → Addr) : Sp := SPECX G.K ea (A_curve G ea)
def sp_least_not_held (G : Glob) : Sp := SPEC0 G.K A_least_not_held
def sp_cruel (G : Glob) (ea : Str → Addr) : Sp := SPECX G.K ea (A_cruel G ea)
def t_run (G : Glob) (ea : Str → Addr) (E : XK) : TS := (tSeq (tDrop (tCall (sp_check_rule G ea) [] E (tCons (tVar 0) tNil)))
    (tSeq (tDrop (tCall (sp_check_size G ea) [] E (tCons (tVar 1) tNil)))
    (tSeq (tDrop (tCall (sp_check_stream G ea) [] E (tCons (tVar 2) tNil)))
    (tSeq (tAsg (tC (.ref G.aEMPTY)) (gName 3))
    (tSeq (tAsg (tLst tNil) (gName 4))
    (tSeq (tAsg (tC (.int 0)) (gName 5))
    (tSeq (tFor (iTup G.K (tVar 2)) (gName 6) (tSeq (tAsg (tCall (sp_step G) [.ref G.aSTAY] E0 (tCons (tVar 0) (tCons (tVar 1) (tCons (tVar 3) (tCons (tVar 6) tNil))))) (gTup G.K 3 (gCons (gName 7) (gCons (gName 8) (gCons (gName 3) gNil)))))
    (tSeq (tDrop (tBM G.K "list" rAppend (tVar 4) (tCons (tTup (tCons (tVar 7) (tCons (tVar 8) tNil))) tNil)))
    (tIfS (tNot (tB (tVar 7))) (tAug 5 (tC (.int 1)) (ipI fun i j => i + j)) tNext))))
    (tRet (tTup (tCons (tVar 5) (tCons (tVar 4) (tCons (tCall (sp_pages_held G) [] E0 (tCons (tVar 3) tNil)) tNil))))))))))))
def t_curve (G : Glob) (ea : Str → Addr) (E : XK) : TS := (tSeq (tDrop (tCall (sp_check_rule G ea) [] E (tCons (tVar 0) tNil)))
    (tSeq (tDrop (tCall (sp_check_stream G ea) [] E (tCons (tVar 1) tNil)))
    (tSeq (tDrop (tCall (sp_check_count G ea) [] E (tCons (tVar 2) (tCons (tC (.int 1)) (tCons (tC (.int 6)) tNil)))))
    (tRet (tLc (iRng2 (tCons (tC (.int 1)) (tCons (tOp kAdd (tVar 2) (tC (.int 1))) tNil))) (gName 3) tYes (tOp (rIxT G.K) (tCall (sp_run G ea) [] E0 (tCons (tVar 0) (tCons (tVar 3) (tCons (tVar 1) tNil)))) (tC (.int 0))) [3])))))
def t_least_not_held (G : Glob) : TS := (tSeq (tAsg (tC (.int 0)) (gName 1))
    (tSeq (tWhile (tTest (tOp (kIn G.K) (tVar 1) (tVar 0))) (tAug 1 (tC (.int 1)) (ipI fun i j => i + j)))
    (tRet (tVar 1))))
def t_cruel (G : Glob) (ea : Str → Addr) (E : XK) : TS := (tSeq (tDrop (tCall (sp_check_rule G ea) [] E (tCons (tVar 0) tNil)))
    (tSeq (tDrop (tCall (sp_check_size G ea) [] E (tCons (tVar 1) tNil)))
    (tSeq (tDrop (tCall (sp_check_count G ea) [] E (tCons (tVar 2) (tCons (tOp kAdd (tVar 1) (tC (.int 1))) (tCons (tC (.int 10)) tNil)))))
    (tSeq (tDrop (tCall (sp_check_count G ea) [] E (tCons (tVar 3) (tCons (tC (.int 0)) (tCons (tC (.int 60)) tNil)))))
    (tSeq (tAsg (tC (.ref G.aEMPTY)) (gName 4))
    (tSeq (tAsg (tLst tNil) (gName 5))
    (tSeq (tFor (iRng1 (tCons (tVar 3) tNil)) (gName 6) (tSeq (tAsg (tCall (sp_least_not_held G) [] E0 (tCons (tCall (sp_pages_held G) [] E0 (tCons (tVar 4) tNil)) tNil)) (gName 7))
    (tSeq (tDrop (tBM G.K "list" rAppend (tVar 5) (tCons (tVar 7) tNil)))
    (tAsg (tOp (rIxT G.K) (tCall (sp_step G) [.ref G.aSTAY] E0 (tCons (tVar 0) (tCons (tVar 1) (tCons (tVar 4) (tCons (tVar 7) tNil))))) (tC (.int 2))) (gName 4)))))
    (tRet (tCB (bTuple G.K) (tCons (tVar 5) tNil))))))))))
/-- an ask with no pages that must stay, as step tells it -/
theorem stepP_nil {r : Rule} {s : Nat} {l : List Row} {h : Nat} {p : Int} : stepP [] (swept l h) r s l h p = step r s l h p := by
  unfold stepP step
  cases placeOf l p with
  | some k => rfl
  | none =>
    simp only
    split
    · rfl
    · split
      · rfl
      · rename_i c
        have e : goPlace r l [] = placeToGo r l := by
          have hm : ∀ f : Row → Int, (spots [] l).map (fun i => f (rowAt l i)) = l.map f := fun f => by rw [spots_nil]; exact map_rowAt f l
          have hg : ∀ k, k < l.length → (spots [] l).getD k 0 = k := fun k hk => by rw [spots_nil, List.getD_eq_getElem?_getD, List.getElem?_range hk]; rfl
          cases r with
          | clock => exact absurd rfl c
          | came => show (spots [] l).headD 0 = 0; rw [spots_nil]; cases l <;> simp [List.range_succ_eq_map]
          | used => show (spots [] l).headD 0 = 0; rw [spots_nil]; cases l <;> simp [List.range_succ_eq_map]
          | last =>
            show (spots [] l).getLastD 0 = l.length - 1
            rw [spots_nil, List.getLastD_eq_getLast?, List.getLast?_eq_getElem?, List.length_range]
            cases l with
            | nil => rfl
            | cons a t => rw [List.getElem?_range (by simp)]; rfl
          | high =>
            show (spots [] l).getD (lastIdx ((spots [] l).map fun i => (rowAt l i).1)) 0 = lastIdx (l.map (·.1))
            rw [hm fun x => x.1]
            cases l with
            | nil => rfl
            | cons a t => exact hg _ (by have := (lastIdx_spec (l := (a :: t).map (·.1)) (by simp)).1; rwa [List.length_map] at this)
          | often =>
            show (spots [] l).getD (bestIdx ((spots [] l).map fun i => - (rowAt l i).2)) 0 = bestIdx (l.map fun x => - x.2)
            rw [hm fun x => - x.2]
            cases l with
            | nil => rfl
            | cons a t => exact hg _ (by have := (bestIdx_spec (l := (a :: t).map fun x => - x.2) (by simp)).1; rwa [List.length_map] at this)
        rw [e]
theorem wb_step0 (G : Glob) (C : Con G) {X : XC} {r : Rule} {s : Nat} {l : List Row} {h : Nat} {p : Int} {W : Wd} {Φ : VX → Wd → Prop} (hs : 1 ≤ s) (hl : l.length ≤ s) (h6 : s ≤ 6) (hc : r = .clock → l.length = s → h < l.length)
    (q : Φ (.d (.tuple [.bool (CB.step r s l h p).held, intD (CB.step r s l h p).gone, stateD (CB.step r s l h p).rows (CB.step r s l h p).hand])) W) :
    WB G.K X (SPC (sp_step G) [.ref G.aSTAY] E0) [.d (.str r.s), .d (.int (s : Int)), .d (stateD l h), .d (.int p)] W Φ := by
  refine wb_spec0D (dx := [.d (stayD [])]) (fun M => .cons (C.stay M) .nil) ?_
  refine ⟨r, s, l, h, p, [], swept l h, rfl, by omega, fun _ nl => ⟨fun e => ?_, fun e => ?_⟩, ?_⟩
  · have := hc e (by omega)
    exact ⟨this, _, sweepP_swept this⟩
  · rw [spots_nil]
    intro z
    have := congrArg List.length z
    rw [List.length_range] at this
    have e0 : l.length = 0 := this
    omega
  · rw [stepP_nil]
    exact q
theorem wb_pages (G : Glob) {X : XC} {l : List Row} {h : Nat} {W : Wd} {Φ : VX → Wd → Prop} (hl : l.length < 64) (q : Φ (.d (heldD l)) W) : WB G.K X (SPC (sp_pages_held G) [] E0) [.d (stateD l h)] W Φ :=
  wb_spec0 ⟨l, h, rfl, hl, fun ps pm pw => by rw [isort_of pm pw]; exact q⟩
theorem least_not_held_ok (G : Glob) (X : XC) (xs : List VX) (W : Wd) (Φ : VX → Wd → Prop) (h : A_least_not_held xs W Φ) : xs.length = 1 ∧ WS G.K X (t_least_not_held G) (st0 xs 1) W (P0 Φ) := by
  obtain ⟨ps, rfl, hl, q⟩ := h
  obtain ⟨k0, k1, k2⟩ := least_is ps
  refine ⟨rfl, ?_⟩
  unfold t_least_not_held
  walk_at "ev"
  refine ws_while (fun m τ' W' => W' = W ∧ ∃ k : Nat, m = k0 - k ∧ k ≤ k0 ∧ τ' = [some (.d (streamD ps)), some (.d (.int (k : Int)))] ∧ ∀ j : Nat, j < k → (j : Int) ∈ ps) k0 ⟨rfl, 0, rfl, Nat.zero_le _, rfl, fun j hj => absurd hj (Nat.not_lt_zero _)⟩ ?_
  rintro m τ' W' ⟨rfl, k, rfl, hk, rfl, all⟩
  walk_at "ev"
  refine bD (fun c => ?_) (fun c => ?_)
  · have lt : k < k0 := by
      rcases Nat.lt_or_ge k k0 with z | z
      · exact z
      · have e : k = k0 := Nat.le_antisymm hk z
        rw [e] at c
        exact absurd c k2.1
    refine ws_augI (i := (k : Int)) rfl (we_int (exI ?_))
    refine ⟨k0 - (k + 1), by omega, rfl, k + 1, rfl, lt, rfl, fun j hj => ?_⟩
    by_cases e : j = k
    · rw [e]; exact c
    · exact all j (by omega)
  · walk_at "ev"
    exact q k ⟨c, all⟩
theorem tell_snoc (r : Rule) (s : Nat) (st : List Int) (p : Int) : runTo r s (st ++ [p]) = ⟨(CB.step r s (runTo r s st).rows (runTo r s st).hand p).rows, (CB.step r s (runTo r s st).rows (runTo r s st).hand p).hand,
    (runTo r s st).told ++ [((CB.step r s (runTo r s st).rows (runTo r s st).hand p).held, (CB.step r s (runTo r s st).rows (runTo r s st).hand p).gone)]⟩ := by
  unfold runTo
  rw [runS_app]
theorem told_length (r : Rule) (s : Nat) (st : List Int) : (runTo r s st).told.length = st.length := by
  have key : ∀ (st : List Int) (x : RS), (runS r s st x).told.length = x.told.length + st.length := by
    intro st
    induction st with
    | nil => exact fun x => rfl
    | cons p st ih =>
      intro x
      refine (ih _).trans ?_
      simp
      omega
  have := key st rs0
  have e : (runTo r s st).told.length = 0 + st.length := this
  omega
theorem dmap_snoc {α : Type} (f : α → PyData) (l : List α) (x : α) : (l.map f).map VX.d ++ [.d (f x)] = ((l ++ [x]).map f).map VX.d := by simp
theorem run_ok (G : Glob) (ea : Str → Addr) (E : XK) (xs : List VX) (W : Wd) (Φ : VX → Wd → Prop) (Ξ : Str → Option (Str × VX) → Wd → Prop) (h : A_run G ea xs W Φ Ξ) : xs.length = 3 ∧ WS G.K ⟨E, ea, Ξ⟩ (t_run G ea E) (st0 xs 6) W (P0 Φ) := by
  obtain ⟨dr, dz, ds, rfl, C, N, q1, q2, q3, q4⟩ := h
  obtain ⟨c0, g0⟩ := W
  refine ⟨rfl, ?_⟩
  unfold t_run
  walk_at "ev"
  refine wb_specX (X := ⟨E, ea, Ξ⟩) ⟨dr, rfl, C, fun hr => ?_, q1⟩
  walk_at "ev"
  refine wb_specX (X := ⟨E, ea, Ξ⟩) ⟨dz, rfl, fun hz => ?_, q2 hr⟩
  walk_at "ev"
  refine wb_specX (X := ⟨E, ea, Ξ⟩) ⟨ds, rfl, N, fun hb => ?_, q3 hr hz⟩
  obtain ⟨s, rfl, s1, s6⟩ := numD_nat (lo := 1) (hi := 6) hz
  obtain ⟨r, rfl⟩ := hr
  obtain ⟨st, rfl, ok⟩ := streamBad_none hb
  have q5 := q4 r s st rfl rfl s1 s6 rfl ok
  walk_at "ev"
  refine we_c (x := .d (stateD [] 0)) C.empty ?_
  walk_at "ev"
  refine we_lstO (wa_nil ⟨Nat.zero_le _, fun L => ?_⟩)
  walk_at "ev"
  refine ⟨fun i τ' W' => i ≤ st.length ∧ (∃ u6 u7 u8, τ' = [some (.d (.str r.s)), some (.d (.int (s : Int))), some (.d (streamD st)), some (.d (stateD (runTo r s (st.take i)).rows (runTo r s (st.take i)).hand)), some (.r (.ref L)), some (.d (.int (misses (runTo r s (st.take i)).told : Nat))), u6, u7, u8]) ∧
    W' = ⟨(L, .lst (((runTo r s (st.take i)).told.map tellD).map VX.d)) :: c0, g0⟩, ⟨Nat.zero_le _, ⟨none, none, none, rfl⟩, rfl⟩, fun _ _ _ _ _ => trivial, ?_, ?_⟩
  · rintro i τ' W' hi ⟨hi2, ⟨u6, u7, u8, rfl⟩, rfl⟩
    rw [List.length_map] at hi
    obtain ⟨p, hp⟩ := has_at hi
    have et : st.take (i + 1) = st.take i ++ [p] := by rw [List.take_succ, hp]; rfl
    have inv := run_inv (r := r) (s := s) s1 (st.take i) rs0 (inv2_start r s1)
    have eg : (st.map PyData.int).getD i .none = .int p := by rw [List.getD_eq_getElem?_getD, List.getElem?_map, hp]; rfl
    have er := tell_snoc r s (st.take i) p
    rw [← et] at er
    have em := misses_snoc (runTo r s (st.take i)).told ((CB.step r s (runTo r s (st.take i)).rows (runTo r s (st.take i)).hand p).held, (CB.step r s (runTo r s (st.take i)).rows (runTo r s (st.take i)).hand p).gone)
    dsimp only
    rw [eg]
    walk_at "ev"
    refine wb_step0 G C s1 inv.1 s6 (fun e1 e2 => (inv.2 e1).2 e2) ?_
    walk_at "ev"
    refine we_append ?_
    walk_at "ev"
    refine ⟨L, _, _, rfl, .hd, ?_⟩
    walk_at "ev"
    refine ⟨_, _, _, rfl, .hd, ?_, ?_⟩
    · rw [List.length_map, List.length_map, told_length]
      have := List.length_take_le i st
      have := ok.1
      omega
    have fin : ∀ (P : Pst) (hh : Bool), hh = (CB.step r s (runTo r s (st.take i)).rows (runTo r s (st.take i)).hand p).held → (∀ τ2 W2_, (i + 1 ≤ st.length ∧ (∃ u6 u7 u8, τ2 = [some (.d (.str r.s)), some (.d (.int (s : Int))), some (.d (streamD st)), some (.d (stateD (runTo r s (st.take (i + 1))).rows (runTo r s (st.take (i + 1))).hand)), some (.r (.ref L)), some (.d (.int (misses (runTo r s (st.take (i + 1))).told : Nat))), u6, u7, u8]) ∧
        W2_ = ⟨(L, .lst (((runTo r s (st.take (i + 1))).told.map tellD).map VX.d)) :: c0, g0⟩) → P.nx τ2 W2_) →
        ((!hh) = true → WS G.K ⟨E, ea, Ξ⟩ (tAug 5 (tC (.int 1)) (ipI fun i j => i + j)) [some (.d (.str r.s)), some (.d (.int (s : Int))), some (.d (streamD st)), some (.d (stateD (CB.step r s (runTo r s (st.take i)).rows (runTo r s (st.take i)).hand p).rows (CB.step r s (runTo r s (st.take i)).rows (runTo r s (st.take i)).hand p).hand)), some (.r (.ref L)), some (.d (.int (misses (runTo r s (st.take i)).told : Nat))), some (.d (.int p)), some (.d (.bool hh)), some (.d (intD (CB.step r s (runTo r s (st.take i)).rows (runTo r s (st.take i)).hand p).gone))]
          ⟨(L, .lst (((runTo r s (st.take (i + 1))).told.map tellD).map VX.d)) :: c0, g0⟩ P) ∧ ((!hh) = false → WS G.K ⟨E, ea, Ξ⟩ tNext [some (.d (.str r.s)), some (.d (.int (s : Int))), some (.d (streamD st)), some (.d (stateD (CB.step r s (runTo r s (st.take i)).rows (runTo r s (st.take i)).hand p).rows (CB.step r s (runTo r s (st.take i)).rows (runTo r s (st.take i)).hand p).hand)), some (.r (.ref L)), some (.d (.int (misses (runTo r s (st.take i)).told : Nat))), some (.d (.int p)), some (.d (.bool hh)), some (.d (intD (CB.step r s (runTo r s (st.take i)).rows (runTo r s (st.take i)).hand p).gone))]
          ⟨(L, .lst (((runTo r s (st.take (i + 1))).told.map tellD).map VX.d)) :: c0, g0⟩ P) := fun P hh eh hP => by
      rw [← eh] at em
      refine ⟨fun z => ?_, fun z => ?_⟩
      · cases hh with
        | true => cases z
        | false =>
          refine ws_augI (i := ((misses (runTo r s (st.take i)).told : Nat) : Int)) rfl (we_int (exI ?_))
          refine hP _ _ ⟨hi, ⟨some (.d (.int p)), some (.d (.bool false)), some (.d (intD (CB.step r s (runTo r s (st.take i)).rows (runTo r s (st.take i)).hand p).gone)), ?_⟩, rfl⟩
          rw [er]
          dsimp only
          rw [← eh, em, if_neg Bool.false_ne_true]
          rfl
      · cases hh with
        | false => cases z
        | true =>
          refine ws_next (hP _ _ ⟨hi, ⟨some (.d (.int p)), some (.d (.bool true)), some (.d (intD (CB.step r s (runTo r s (st.take i)).rows (runTo r s (st.take i)).hand p).gone)), ?_⟩, rfl⟩)
          rw [er]
          dsimp only
          rw [← eh, em, if_pos rfl]
          rfl
    walk_at "ev"
    rw [show ((runTo r s (st.take i)).told.map tellD).map VX.d ++ [VX.d (.tuple [.bool (CB.step r s (runTo r s (st.take i)).rows (runTo r s (st.take i)).hand p).held, intD (CB.step r s (runTo r s (st.take i)).rows (runTo r s (st.take i)).hand p).gone])] = ((runTo r s (st.take (i + 1))).told.map tellD).map VX.d by rw [er]; exact dmap_snoc tellD (runTo r s (st.take i)).told ((CB.step r s (runTo r s (st.take i)).rows (runTo r s (st.take i)).hand p).held, (CB.step r s (runTo r s (st.take i)).rows (runTo r s (st.take i)).hand p).gone)]
    refine fin _ _ rfl ?_
    exact fun _ _ z => z
  · rintro τ' W' ⟨_, ⟨u6, u7, u8, rfl⟩, rfl⟩
    rw [List.length_map, List.take_length]
    have inv := run_inv (r := r) (s := s) s1 st rs0 (inv2_start r s1)
    refine ws_ret (we_tupR ?_)
    walk_at "ev"
    refine wb_pages G (Nat.lt_of_le_of_lt inv.1 (by omega)) ?_
    walk_at "ev"
    exact ⟨Nat.le_of_ble_eq_true rfl, fun p vs => q5 p L vs⟩
theorem noLs_ints : ∀ l : List Int, noLs (l.map PyData.int) = true
  | [] => rfl
  | a :: l => by simp [noLs, noL, noLs_ints l]
theorem held_noL (l : List CB.Row) : noL (heldD l) = true := by
  show noLs ((isort (l.map (·.1))).map PyData.int) = true
  exact noLs_ints _
/-- run's answer taken for data -/
theorem run_fz {K : PySem.W.Frag} {r : Rule} {s : Nat} {st : List Int} {W : Wd} {Φ : VX → Wd → Prop} {H M : Hp} {Q : VK} (gok : GOk W.g) (q : Φ (.d (runD r s st)) W) (k : Kt K H M W Φ Q) : Kt K H M W (fun y W' => ∃ p L vs, y = .r (.ref p) ∧ W' = ⟨(L, runC r s st) :: W.c, gTupA K W.g p (runX r s st L) vs⟩) Q := by
  rintro x v H' M' W' ⟨p, L, vs, rfl, rfl⟩ R t rfl
  obtain ⟨_, h2, h3⟩ := R.g
  obtain ⟨R1, t1⟩ := R.weak (g' := W.g) gok fun z => z.1
  obtain ⟨M2, R2, t2, d2⟩ := R1.fz
  obtain ⟨R3, t3, s3⟩ := R2.solid
  refine k _ _ _ _ _ q R3 (t.trans (t1.trans (t2.trans t3))) ?_
  cases h3 with
  | cons a1 h3 =>
    cases h3 with
    | cons a2 h3 =>
      cases h3 with
      | cons a3 h3 =>
        cases h3
        cases a2
        have b1 := dp_mono s3 (a1 rfl)
        have b3 := dp_mono s3 (a3 (held_noL _))
        exact Dp.tup (SqT.of (s3 _ _ (strip_eq h2 fun z => z))) (.cons b1 (.cons (dp_mono t3.sm d2) (.cons b3 .nil)))
def A_runF (G : Glob) (ea : Str → Addr) : AX := fun xs W Φ Ξ => ∃ dr dz ds : PyData, xs = [.d dr, .d dz, .d ds] ∧ Con G ∧ NumX G (ea "BadStream") ∧ ((∀ r : Rule, dr ≠ .str r.s) → Ξ "BadRule" none W) ∧ (RuleD dr → numD dz 1 6 = false → Ξ "BadSize" none W) ∧
  (RuleD dr → numD dz 1 6 = true → ∀ n, streamBad ds = some n → Ξ "BadStream" (some ("number", .d (.int (n : Int)))) W) ∧
  ∀ (r : Rule) (s : Nat) (st : List Int), dr = .str r.s → dz = .int (s : Int) → 1 ≤ s → s ≤ 6 → ds = streamD st → StOk st → Φ (.d (runD r s st)) W
theorem run_frozen (G : Glob) (ea : Str → Addr) {xs : List VX} {W : Wd} {Φ : VX → Wd → Prop} {Ξ : Str → Option (Str × VX) → Wd → Prop} (h : A_runF G ea xs W Φ Ξ) {vs : List V} {H M : Hp} {Q : VK} {E : XK} (R : Rp G.K H M W) (p : Paired (VR G.K M) xs vs) (kx : Kx G.K ⟨E, ea, Ξ⟩ H M W) (k : Kt G.K H M W Φ Q) : sp_run G ea vs H Q E := by
  obtain ⟨dr, dz, ds, rfl, C, N, q1, q2, q3, q4⟩ := h
  by_cases c : ∃ (r : Rule) (s : Nat) (st : List Int), dr = .str r.s ∧ dz = .int (s : Int) ∧ 1 ≤ s ∧ s ≤ 6 ∧ ds = streamD st ∧ StOk st
  · obtain ⟨r, s, st, rfl, rfl, s1, s6, rfl, ok⟩ := c
    refine ⟨M, W, _, fun y W' => ∃ p L vs, y = .r (.ref p) ∧ W' = ⟨(L, runC r s st) :: W.c, gTupA G.K W.g p (runX r s st L) vs⟩, Ξ, R, p, ⟨_, _, _, rfl, C, N, q1, q2, q3, fun r' s' st' e1 e2 _ _ e5 _ => ?_⟩, kx, run_fz R.gok (q4 r s st rfl rfl s1 s6 rfl ok) k⟩
    have er := rs_inj (PyData.str.inj e1)
    have es : s' = s := by have := PyData.int.inj e2; omega
    have et : st' = st := by
      have h1 : st.map PyData.int = st'.map PyData.int := PyData.tuple.inj e5
      exact (List.map_inj_right (fun a b => PyData.int.inj) |>.mp h1).symm
    subst er es et
    exact fun p L vs => ⟨p, L, vs, rfl, rfl⟩
  · exact ⟨M, W, _, fun _ _ => False, Ξ, R, p, ⟨_, _, _, rfl, C, N, q1, q2, q3, fun r s st e1 e2 e3 e4 e5 e6 => absurd ⟨r, s, st, e1, e2, e3, e4, e5, e6⟩ c⟩, kx, fun _ _ _ _ _ z => z.elim⟩
theorem wb_run (G : Glob) {X : XC} {xs : List VX} {W : Wd} {Φ : VX → Wd → Prop} (h : A_runF G X.ea xs W Φ X.ex) : WB G.K X (SPC (sp_run G X.ea) [] X.E) xs W Φ := fun H M vs Q R p kx k => by
  show sp_run G X.ea (vs ++ []) H Q X.E
  rw [List.append_nil]
  exact run_frozen G X.ea h R p kx k
/-- where no refusal can be -/
theorem wb_run0 (G : Glob) {ea : Str → Addr} (C : Con G) (N : NumX G (ea "BadStream")) {X : XC} {r : Rule} {s : Nat} {st : List Int} {W : Wd} {Φ : VX → Wd → Prop} (s1 : 1 ≤ s) (s6 : s ≤ 6) (ok : StOk st) (q : Φ (.d (runD r s st)) W) : WB G.K X (SPC (sp_run G ea) [] E0) [.d (.str r.s), .d (.int (s : Int)), .d (streamD st)] W Φ := fun H M vs Q R p kx k => by
  show sp_run G ea (vs ++ []) H Q E0
  rw [List.append_nil]
  refine run_frozen G ea (Ξ := fun _ _ _ => False) ⟨.str r.s, .int (s : Int), streamD st, rfl, C, N, fun z => absurd rfl (z r), fun _ z => ?_, fun _ _ n z => ?_, fun r' s' st' e1 e2 _ _ e5 _ => ?_⟩ R p (fun _ _ _ _ _ z => z.elim) k
  · rw [numD_t (by omega) (by omega)] at z; cases z
  · rw [streamBad_ok ok] at z; cases z
  · have er := rs_inj (PyData.str.inj e1)
    have es : s' = s := by have := PyData.int.inj e2; omega
    have et : st' = st := by
      have h1 : st.map PyData.int = st'.map PyData.int := PyData.tuple.inj e5
      exact (List.map_inj_right (fun a b => PyData.int.inj) |>.mp h1).symm
    subst er es et
    exact q
theorem curve_ok (G : Glob) (ea : Str → Addr) (E : XK) (xs : List VX) (W : Wd) (Φ : VX → Wd → Prop) (Ξ : Str → Option (Str × VX) → Wd → Prop) (h : A_curve G ea xs W Φ Ξ) : xs.length = 3 ∧ WS G.K ⟨E, ea, Ξ⟩ (t_curve G ea E) (st0 xs 1) W (P0 Φ) := by
  obtain ⟨dr, ds, dm, rfl, C, N, q1, q2, q3, q4⟩ := h
  refine ⟨rfl, ?_⟩
  unfold t_curve
  walk_at "ev"
  refine wb_specX (X := ⟨E, ea, Ξ⟩) ⟨dr, rfl, C, fun hr => ?_, q1⟩
  walk_at "ev"
  refine wb_specX (X := ⟨E, ea, Ξ⟩) ⟨ds, rfl, N, fun hb => ?_, q2 hr⟩
  walk_at "ev"
  refine wb_specX (X := ⟨E, ea, Ξ⟩) ⟨dm, 1, 6, rfl, by decide, by decide, fun hm => ?_, q3 hr hb⟩
  obtain ⟨m, rfl, m1, m6⟩ := numD_nat (lo := 1) (hi := 6) hm
  obtain ⟨r, rfl⟩ := hr
  obtain ⟨st, rfl, ok⟩ := streamBad_none hb
  have q5 := q4 r m st rfl rfl m1 m6 rfl ok
  walk_at "ev"
  refine we_lcM ?_
  walk_at "ev"
  refine ⟨1, _, rfl, by omega, ?_⟩
  rw [show ((m : Int) + 1 - 1).toNat = m from by omega]
  refine ⟨by omega, trivial, fun i => some (.int ((misses (runTo r (i + 1) st).told : Nat) : Int)), (curveOf r st m).map .int, fun i hi => ?_, ?_, q5⟩
  · refine ⟨[(3, .d (.int (1 + (i : Int))))], cg_name, fun p hp => by rw [List.mem_singleton.mp hp]; exact List.mem_singleton.mpr rfl, wt_yes ⟨rfl, fun _ => ?_, fun z => (by cases z)⟩⟩
    walk_at "ev"
    rw [show (1 : Int) + (i : Int) = ((i + 1 : Nat) : Int) from by omega]
    refine wb_run0 G C N (by omega) (by omega) ok ?_
    unfold runD
    walk_at "ev"
    refine w2_ixT (i := ((0 : Nat) : Int)) rfl ⟨rfl, _, rfl, rfl⟩
  · have e : (fun i : Nat => some (PyData.int ((misses (runTo r (i + 1) st).told : Nat) : Int))) = some ∘ (fun i : Nat => PyData.int ((misses (runTo r (i + 1) st).told : Nat) : Int)) := rfl
    rw [e, List.filterMap_eq_map]
    unfold curveOf
    rw [List.map_map]
    rfl
theorem cruel_ok (G : Glob) (ea : Str → Addr) (E : XK) (xs : List VX) (W : Wd) (Φ : VX → Wd → Prop) (Ξ : Str → Option (Str × VX) → Wd → Prop) (h : A_cruel G ea xs W Φ Ξ) : xs.length = 4 ∧ WS G.K ⟨E, ea, Ξ⟩ (t_cruel G ea E) (st0 xs 4) W (P0 Φ) := by
  obtain ⟨dr, dz, dp, dl, rfl, C, q1, q2, q3⟩ := h
  obtain ⟨c0, g0⟩ := W
  refine ⟨rfl, ?_⟩
  unfold t_cruel
  walk_at "ev"
  refine wb_specX (X := ⟨E, ea, Ξ⟩) ⟨dr, rfl, C, fun hr => ?_, q1⟩
  walk_at "ev"
  refine wb_specX (X := ⟨E, ea, Ξ⟩) ⟨dz, rfl, fun hz => ?_, q2 hr⟩
  obtain ⟨s, rfl, s1, s6⟩ := numD_nat (lo := 1) (hi := 6) hz
  obtain ⟨r, rfl⟩ := hr
  obtain ⟨q4, q5⟩ := q3 r s rfl rfl s1 s6
  walk_at "ev"
  refine wb_specX (X := ⟨E, ea, Ξ⟩) ⟨dp, s + 1, 10, rfl, by omega, by decide, fun hp => ?_, fun z => q4 (.inl z)⟩
  walk_at "ev"
  refine wb_specX (X := ⟨E, ea, Ξ⟩) ⟨dl, 0, 60, rfl, by decide, by decide, fun hl => ?_, fun z => q4 (.inr z)⟩
  obtain ⟨n, rfl, n1, n2⟩ := numD_nat (lo := 0) (hi := 60) hl
  walk_at "ev"
  refine we_c (x := .d (stateD [] 0)) C.empty ?_
  walk_at "ev"
  refine we_lstO (wa_nil ⟨Nat.zero_le _, fun L => ?_⟩)
  walk_at "ev"
  refine ⟨by omega, by omega, ?_⟩
  rw [Int.toNat_natCast]
  refine ⟨fun i τ' W' => ∃ (l : List CB.Row) (h : Nat) (st : List Int) (u6 u7 : Option VX), τ' = [some (.d (.str r.s)), some (.d (.int (s : Int))), some (.d dp), some (.d (.int (n : Int))), some (.d (stateD l h)), some (.r (.ref L)), u6, u7] ∧ W' = ⟨(L, .lst ((st.map PyData.int).map VX.d)) :: c0, g0⟩ ∧ i ≤ n ∧ Cr r s i l h st, ⟨[], 0, [], none, none, rfl, rfl, Nat.zero_le _, .zero⟩, fun _ _ _ _ _ => trivial, ?_, ?_⟩
  · rintro i τ' W' hi ⟨l, h, st, u6, u7, rfl, rfl, hn, cr⟩
    have inv := Cr.inv s1 cr
    have ln := cr.len
    walk_at "ev"
    refine wb_pages G (by omega) ?_
    walk_at "ev"
    refine wb_spec0 ⟨isort (l.map (·.1)), rfl, ?_, fun k hk => ?_⟩
    · have := (isort_perm (l.map (·.1))).length_eq
      rw [List.length_map] at this
      omega
    have hk' : IsLeast (l.map (·.1)) k := ⟨fun z => hk.1 ((isort_perm _).mem_iff.mpr z), fun j hj => (isort_perm _).mem_iff.mp (hk.2 j hj)⟩
    walk_at "ev"
    refine we_append ?_
    walk_at "ev"
    refine ⟨L, _, _, rfl, .hd, ?_⟩
    walk_at "ev"
    refine ⟨_, _, _, rfl, .hd, ?_, ?_⟩
    · rw [List.length_map, List.length_map, ln]
      omega
    walk_at "ev"
    refine wb_step0 G C s1 inv.1 s6 (fun e1 e2 => (inv.2 e1).2 e2) ?_
    walk_at "ev"
    refine w2_ixT (i := ((2 : Nat) : Int)) rfl ?_
    exact ⟨_, _, st ++ [(k : Int)], _, _, rfl, by rw [← dmap_snoc], hi, .succ cr hk'⟩
  · rintro τ' W' ⟨l, h, st, u6, u7, rfl, rfl, _, cr⟩
    refine ws_ret (we_drop ?_)
    walk_at "ev"
    refine wb_tupO .hd ?_
    exact ⟨_, _, rfl, q5 n hp rfl n2 st ⟨l, h, cr⟩⟩
end CB.N

/-! a def with a default, as its callers know it -/
namespace L2
open PySem PySem.Spec PyProof.Rows
structure CalD (P : Program) (w : World) (K : PySem.W.Frag) (mg : Str → Option Value) (base : Heap) (CX : CXT) (k : Nat) (x : Str) (ps : List Str) (sp : Sp) (dvs : List V) : Prop where
  ex : ∃ (f : Addr) (fd : FuncData) (ds : List Value), mg x = some (.ref f) ∧ PySem.W.keepIn K (.ref f) = true ∧ Binds K fd ps ds ∧ Vals dvs ds ∧ FnOk P w K mg base CX k f fd ps sp
theorem pe_calD {X : Cx} {CX : CXT} {k j : Nat} {x : Str} {ps : List Str} {sp : Sp} {dvs : List V} {E : XK} {p pos : Pos} {e : Expr} {es : List Expr} {t : TA} (C : CalD X.prog X.w X.K X.mg X.base CX k x ps sp dvs) (hr : Room j X.A) (hj : k ≤ j) (hg : Gl X x) (hx : Passes CX X E)
    (ha : PA X (e :: es) t) (hdb : (x == ("__debug__" : Str)) = false := by decide) (he : starEach (e :: es) X.env = (false, eval e X.env) :: starEach es X.env := by rfl) (hpl : (backTo pos (starEach es X.env)).any (·.1) = false := by rfl) :
    PE X (.Call (.Name x p) (e :: es) [] pos) (tCall sp dvs E t) := by
  obtain ⟨f, fd, ds, hm, hk, hb, hd, F⟩ := C.ex
  exact pe_call F (hr.mono hj) hg hm hk hb hd hx ha hdb he hpl
theorem Cal.imp {P : Program} {w : World} {K : PySem.W.Frag} {mg : Str → Option Value} {base : Heap} {CX : CXT} {k : Nat} {x : Str} {ps : List Str} {sp sp' : Sp} (C : Cal P w K mg base CX k x ps sp) (h : ∀ vs H Q E, sp' vs H Q E → sp vs H Q E) : Cal P w K mg base CX k x ps sp' := by
  obtain ⟨f, fd, hm, hk, hb, F⟩ := C.ex
  exact ⟨f, fd, hm, hk, hb, F.imp h⟩
end L2
namespace DW
open PySem PySem.Spec PyProof.Rows L2
/-- an older promise out of a newer one -/
theorem specX_of {K : PySem.W.Frag} {ea : Str → Addr} {A : List VX → Wd → (VX → Wd → Prop) → (Str → Option (Str × VX) → Wd → Prop) → Prop} {vs : List V} {H : Hp} {Q : VK} {E : XK} {xs : List VX} (p : Paired (VR K H) xs vs)
    (h : A xs ⟨[], fun _ => True⟩ (fun y W' => ∀ v H' M', Rp K H' M' W' → Tr H H ⟨[], fun _ => True⟩ H' M' W' → VR K M' y v → Q v H')
      (fun c n W' => ∀ H' M', Rp K H' M' W' → Tr H H ⟨[], fun _ => True⟩ H' M' W' → match n with
        | none => E (.ref (ea c)) none H'
        | some (f, x) => ∀ p v, H' p = some (.xd [(f, v)]) → VR K M' x v → E (.ref (ea c)) (some p) H')) : SPECX K ea A vs H Q E :=
  ⟨H, ⟨[], fun _ => True⟩, xs, _, _, ⟨.refl H, .nil, fun _ z => (by cases z), fun _ z => (by cases z), fun _ _ _ _ => trivial, trivial⟩, p, h, fun c n H' M' W' q R t => q H' M' R t, fun x v H' M' W' q R t r => q v H' M' R t r⟩
theorem Tr.same {H H' M' : Hp} {g : Hp → Prop} {W' : Wd} {K : PySem.W.Frag} (R : Rp K H' M' W') (t : Tr H H ⟨[], g⟩ H' M' W') : Same H H' := t.sm.trans R.sm
end DW
namespace CB.N
open PySem PySem.Spec PyProof.Rows L2 DW CB2
def vD : V → PyData
  | .bl b => .bool b
  | .int i => .int i
  | .str z => .str z
  | _ => .none
theorem numV_dp {K : PySem.W.Frag} {H : Hp} {v : V} (h : NumV v) : Dp K H v (vD v) := by
  cases h with
  | non => exact .non
  | bl b => exact .bl b
  | int n => exact .int n
  | str z => exact .str z
theorem numV_in {v : V} (h : NumV v) (lo hi : Int) : numD (vD v) lo hi = numIn v lo hi := by cases h <;> rfl
theorem vD_int {v : V} (h : NumV v) {n : Int} (e : vD v = .int n) : v = .int n := by cases h <;> cases e; rfl
theorem cruel_conv (G : Glob) (ea : Str → Addr) (C : Con G) (vs : List V) (H : Hp) (Q : VK) (E : XK) (h : CB.sp_cruel G ea vs H Q E) : sp_cruel G ea vs H Q E := by
  obtain ⟨x, vz, vp, vl, rfl, _, _, nz, np, nl, q1, q2, q3⟩ := h
  refine specX_of (xs := [.d (.str x), .d (vD vz), .d (vD vp), .d (vD vl)]) (.cons (Dp.str x) (.cons (numV_dp nz) (.cons (numV_dp np) (.cons (numV_dp nl) .nil)))) ?_
  refine ⟨_, _, _, _, rfl, C, fun z H' M' R t => q1 (fun r e => z r (by rw [e])) H' (Tr.same R t), fun ⟨r, hr⟩ z H' M' R t => q2 ⟨r, PyData.str.inj hr⟩ (by rw [← numV_in nz]; exact z) H' (Tr.same R t), fun r s e1 e2 s1 s6 => ?_⟩
  obtain ⟨q4, q5⟩ := q3 r s (PyData.str.inj e1) (vD_int nz e2) s1 s6
  refine ⟨fun z H' M' R t => q4 (by rw [← numV_in np, ← numV_in nl]; exact z) H' (Tr.same R t), fun n hp hl hn st cr v H' M' R t r => ?_⟩
  cases r with
  | @tup a us _ h1 h2 =>
    rw [dpAll_ints h2] at h1
    exact q5 n (by rw [← numV_in np]; exact hp) (vD_int nl hl) hn a H' st (Tr.same R t) cr (sqT_same R.sm h1)
theorem odd_dp {K : PySem.W.Frag} {H : Hp} {x : V} (h : OddR K H x) : ∃ d, Dp K H x d ∧ ∀ r : Rule, d = .str r.s ↔ x = .str r.s := by
  cases h with
  | non => exact ⟨_, .non, fun r => ⟨fun e => (nomatch e), fun e => (nomatch e)⟩⟩
  | int n => exact ⟨_, .int n, fun r => ⟨fun e => (nomatch e), fun e => (nomatch e)⟩⟩
  | str s => exact ⟨_, .str s, fun r => ⟨fun e => by rw [PyData.str.inj e], fun e => by rw [V.str.inj e]⟩⟩
  | tup a ss hs => exact ⟨_, .tup hs (dpStrs ss), fun r => ⟨fun e => (nomatch e), fun e => (nomatch e)⟩⟩
theorem numVs_dp {K : PySem.W.Frag} {H : Hp} : ∀ {xs : List V}, (∀ x ∈ xs, NumV x) → DpAll K H xs (xs.map vD)
  | [], _ => .nil
  | x :: xs, h => .cons (numV_dp (h x List.mem_cons_self)) (numVs_dp fun y hy => h y (List.mem_cons_of_mem _ hy))
theorem badAt_D : ∀ {xs : List V} {i : Nat}, (∀ x ∈ xs, NumV x) → badAtD i (xs.map vD) = badAt i xs
  | [], _, _ => rfl
  | x :: xs, i, h => by
    show (if i = 60 ∨ numD (vD x) 0 9 = false then some i else badAtD (i + 1) (xs.map vD)) = if i = 60 ∨ numIn x 0 9 = false then some i else badAt (i + 1) xs
    rw [numV_in (h x List.mem_cons_self), badAt_D fun y hy => h y (List.mem_cons_of_mem _ hy)]
theorem stream_dp {K : PySem.W.Frag} {H : Hp} {v : V} {b : Option Nat} (h : StreamQ K H v b) : ∃ d, Dp K H v d ∧ streamBad d = b := by
  cases h with
  | tup a xs h1 h2 => exact ⟨_, .tup h1 (numVs_dp h2), badAt_D h2⟩
  | lst a xs h1 h2 => exact ⟨_, .lst h1 (numVs_dp h2), rfl⟩
  | non => exact ⟨_, .non, rfl⟩
theorem stream_dp2 {K : PySem.W.Frag} {H : Hp} {v : V} {b : Option Nat} {a : Addr} {st : List Int} (h : StreamQ K H v b) (hb : b = none → StreamT K H v a st) : ∃ d, Dp K H v d ∧ streamBad d = b ∧ (b = none → d = streamD st) := by
  cases b with
  | none =>
    obtain ⟨rfl, ha, hl, hp⟩ := hb rfl
    exact ⟨streamD st, .tup ha (ints_dpAll _), streamBad_ok ⟨hl, hp⟩, fun _ => rfl⟩
  | some n =>
    obtain ⟨d, h1, h2⟩ := stream_dp h
    exact ⟨d, h1, h2, fun z => nomatch z⟩
theorem dpAll_vD_ints : ∀ {xs : List V} {st : List Int}, xs.map vD = st.map PyData.int → (∀ x ∈ xs, NumV x) → xs = st.map V.int
  | [], [], _, _ => rfl
  | [], _ :: _, h, _ => nomatch h
  | _ :: _, [], h, _ => nomatch h
  | x :: xs, n :: st, h, k => by
    have h1 := List.cons.inj h
    rw [vD_int (k x List.mem_cons_self) h1.1, dpAll_vD_ints h1.2 fun y hy => k y (List.mem_cons_of_mem _ hy)]
    rfl
theorem goneV_dp {K : PySem.W.Frag} {M : Hp} {o : Option Int} {v : V} (h : Dp K M v (intD o)) : v = goneV o := by
  cases o with
  | none => cases h; rfl
  | some i => cases h; rfl
theorem tells_w {K : PySem.W.Frag} {M : Hp} : ∀ {ts : List (Bool × Option Int)} {vs : List V}, Paired (VR K M) ((ts.map tellD).map VX.d) vs → Paired (TellW K M) vs ts
  | [], [], .nil => .nil
  | t :: ts, v :: vs, .cons h r => by
    refine .cons ?_ (tells_w r)
    cases h with
    | tup hs ha =>
      cases ha with
      | cons a1 ha =>
        cases ha with
        | cons a2 ha =>
          cases ha
          cases a1
          rw [goneV_dp a2] at hs
          exact ⟨_, rfl, hs⟩
theorem run_won {K : PySem.W.Frag} {H M : Hp} {r : Rule} {s : Nat} {st : List Int} {p L : Addr} {vs : List V} (R : Rp K H M ⟨[(L, runC r s st)], gTupA K (fun _ => True) p (runX r s st L) vs⟩) : RunWb K H (.ref p) (runTo r s st) L ∧ M L = none := by
  refine ⟨?_, R.out _ List.mem_cons_self⟩
  obtain ⟨_, h2, h3⟩ := R.g
  obtain ⟨ws, e1, e2⟩ := R.cell _ (List.mem_cons_self ..)
  cases h3 with
  | cons a1 h3 =>
    cases h3 with
    | cons a2 h3 =>
      cases h3 with
      | cons a3 h3 =>
        cases h3
        cases a2
        have b1 := a1 rfl
        have b3 := a3 (held_noL _)
        cases b1
        cases b3 with
        | @tup c us _ hs ha =>
          rw [dpAll_ints ha] at hs
          exact ⟨p, c, ws, _, rfl, h2, e1, Paired.mapP (tells_w e2) fun _ _ z => z.mono R.sm, sqT_same (strip_same H) hs, isort_perm _, isort_rise _⟩
theorem run_conv (G : Glob) (ea : Str → Addr) (C : Con G) (vs : List V) (H : Hp) (Q : VK) (E : XK) (h : CB2.sp_run G ea vs H Q E) : sp_run G ea vs H Q E := by
  obtain ⟨x, vz, vt, b, a, st, rfl, S, ho, nz, hq, hb, q1, q2, q3, q4⟩ := h
  obtain ⟨dr, d1, d2⟩ := odd_dp ho
  obtain ⟨ds, d3, d4, d5⟩ := stream_dp2 hq hb
  refine specX_of (xs := [.d dr, .d (vD vz), .d ds]) (.cons d1 (.cons (numV_dp nz) (.cons d3 .nil))) ?_
  refine ⟨_, _, _, rfl, C, ⟨S.T, S.hf⟩, fun z H' M' R t => q1 (fun r e => z r ((d2 r).mpr e)) H' (Tr.same R t), fun ⟨r, hr⟩ z H' M' R t => q2 ⟨r, (d2 r).mp hr⟩ (by rw [← numV_in nz]; exact z) H' (Tr.same R t), fun ⟨r, hr⟩ z n hn H' M' R t p v e1 e2 => ?_, fun r s st' e1 e2 s1 s6 e3 ok p L us v H' M' R t e => ?_⟩
  · cases e2
    exact q3 ⟨r, (d2 r).mp hr⟩ (by rw [← numV_in nz]; exact z) n (by rw [← d4]; exact hn) p H' (Tr.same R t) e1
  · have bn : b = none := by rw [← d4, e3]; exact streamBad_ok ok
    have est : st' = st := by
      have z := e3.symm.trans (d5 bn)
      exact (List.map_inj_right (fun a b => PyData.int.inj)).mp (PyData.tuple.inj z)
    subst est
    obtain ⟨w1, w2⟩ := run_won R
    have hv : v = .ref p := e
    rw [hv]
    refine q4 r s ((d2 r).mp e1) (vD_int nz e2) s1 s6 bn _ H' L (Tr.same R t) w1 ?_
    cases z : H L with
    | none => rfl
    | some o => rw [t.sm _ _ z] at w2; cases w2
theorem curve_conv (G : Glob) (ea : Str → Addr) (C : Con G) (vs : List V) (H : Hp) (Q : VK) (E : XK) (h : CB2.sp_curve G ea vs H Q E) : sp_curve G ea vs H Q E := by
  obtain ⟨x, vt, vm, b, a, st, rfl, S, ho, nm, hq, hb, q1, q2, q3, q4⟩ := h
  obtain ⟨dr, d1, d2⟩ := odd_dp ho
  obtain ⟨ds, d3, d4, d5⟩ := stream_dp2 hq hb
  refine specX_of (xs := [.d dr, .d ds, .d (vD vm)]) (.cons d1 (.cons d3 (.cons (numV_dp nm) .nil))) ?_
  refine ⟨_, _, _, rfl, C, ⟨S.T, S.hf⟩, fun z H' M' R t => q1 (fun r e => z r ((d2 r).mpr e)) H' (Tr.same R t), fun ⟨r, hr⟩ n hn H' M' R t p v e1 e2 => ?_, fun ⟨r, hr⟩ z z2 H' M' R t => q3 ⟨r, (d2 r).mp hr⟩ (by rw [← d4]; exact z) (by rw [← numV_in nm]; exact z2) H' (Tr.same R t), fun r m st' e1 e2 s1 s6 e3 ok v H' M' R t e => ?_⟩
  · cases e2
    exact q2 ⟨r, (d2 r).mp hr⟩ n (by rw [← d4]; exact hn) p H' (Tr.same R t) e1
  · have bn : b = none := by rw [← d4, e3]; exact streamBad_ok ok
    have est : st' = st := by
      have z := e3.symm.trans (d5 bn)
      exact (List.map_inj_right (fun a b => PyData.int.inj)).mp (PyData.tuple.inj z)
    subst est
    cases e with
    | @lst D us2 _ hs2 ha2 =>
      rw [dpAll_ints ha2] at hs2
      exact q4 r m ((d2 r).mp e1) (vD_int nm e2) s1 s6 bn D H' (Tr.same R t) (R.sm.seq hs2)
theorem len_first_mark (G : Glob) (vs : List V) (H : Hp) (Q : VK) (E : XK) (h : sp_first_mark G vs H Q E) : vs.length = 1 := len0 (fun xs W Φ a => (first_mark_ok G ⟨E, fun _ => 0, fun _ _ _ => False⟩ xs W Φ a).1) vs H Q E h
theorem rd_first_mark {N : List Str} (hN : N.length = 1) (G : Glob) (vs : List V) (H : Hp) (Q : VK) (E : XK) (h : sp_first_mark G vs H Q E) : t_first_mark G { nx := fun _ H' => Q .non H', rt := Q } (L2.start N vs) H := rd0 (k := 1) hN (fun X => first_mark_ok G X) vs H Q E h
theorem len_place_of (G : Glob) (vs : List V) (H : Hp) (Q : VK) (E : XK) (h : sp_place_of G vs H Q E) : vs.length = 2 := len0 (fun xs W Φ a => (place_of_ok G ⟨E, fun _ => 0, fun _ _ _ => False⟩ xs W Φ a).1) vs H Q E h
theorem rd_place_of {N : List Str} (hN : N.length = 4) (G : Glob) (vs : List V) (H : Hp) (Q : VK) (E : XK) (h : sp_place_of G vs H Q E) : t_place_of G { nx := fun _ H' => Q .non H', rt := Q } (L2.start N vs) H := rd0 (k := 2) hN (fun X => place_of_ok G X) vs H Q E h
theorem len_rows_asked (G : Glob) (vs : List V) (H : Hp) (Q : VK) (E : XK) (h : sp_rows_asked G vs H Q E) : vs.length = 3 := len0 (fun xs W Φ a => (rows_asked_ok G ⟨E, fun _ => 0, fun _ _ _ => False⟩ xs W Φ a).1) vs H Q E h
theorem rd_rows_asked {N : List Str} (hN : N.length = 5) (G : Glob) (vs : List V) (H : Hp) (Q : VK) (E : XK) (h : sp_rows_asked G vs H Q E) : t_rows_asked G { nx := fun _ H' => Q .non H', rt := Q } (L2.start N vs) H := rd0 (k := 3) hN (fun X => rows_asked_ok G X) vs H Q E h
theorem len_place_to_go (G : Glob) (vs : List V) (H : Hp) (Q : VK) (E : XK) (h : sp_place_to_go G vs H Q E) : vs.length = 3 := len0 (fun xs W Φ a => (place_to_go_ok G ⟨E, fun _ => 0, fun _ _ _ => False⟩ xs W Φ a).1) vs H Q E h
theorem rd_place_to_go {N : List Str} (hN : N.length = 6) (G : Glob) (vs : List V) (H : Hp) (Q : VK) (E : XK) (h : sp_place_to_go G vs H Q E) : t_place_to_go G { nx := fun _ H' => Q .non H', rt := Q } (L2.start N vs) H := rd0 (k := 3) hN (fun X => place_to_go_ok G X) vs H Q E h
theorem len_searched (G : Glob) (vs : List V) (H : Hp) (Q : VK) (E : XK) (h : sp_searched G vs H Q E) : vs.length = 3 := len0 (fun xs W Φ a => (searched_ok G ⟨E, fun _ => 0, fun _ _ _ => False⟩ xs W Φ a).1) vs H Q E h
theorem rd_searched {N : List Str} (hN : N.length = 5) (G : Glob) (vs : List V) (H : Hp) (Q : VK) (E : XK) (h : sp_searched G vs H Q E) : t_searched G { nx := fun _ H' => Q .non H', rt := Q } (L2.start N vs) H := rd0 (k := 3) hN (fun X => searched_ok G X) vs H Q E h
theorem len_swept (G : Glob) (vs : List V) (H : Hp) (Q : VK) (E : XK) (h : sp_swept G vs H Q E) : vs.length = 3 := len0 (fun xs W Φ a => (swept_ok G ⟨E, fun _ => 0, fun _ _ _ => False⟩ xs W Φ a).1) vs H Q E h
theorem rd_swept {N : List Str} (hN : N.length = 4) (G : Glob) (vs : List V) (H : Hp) (Q : VK) (E : XK) (h : sp_swept G vs H Q E) : t_swept G { nx := fun _ H' => Q .non H', rt := Q } (L2.start N vs) H := rd0 (k := 3) hN (fun X => swept_ok G X) vs H Q E h
theorem len_step (G : Glob) (vs : List V) (H : Hp) (Q : VK) (E : XK) (h : sp_step G vs H Q E) : vs.length = 5 := len0 (fun xs W Φ a => (step_ok G ⟨E, fun _ => 0, fun _ _ _ => False⟩ xs W Φ a).1) vs H Q E h
theorem rd_step {N : List Str} (hN : N.length = 10) (G : Glob) (vs : List V) (H : Hp) (Q : VK) (E : XK) (h : sp_step G vs H Q E) : t_step G { nx := fun _ H' => Q .non H', rt := Q } (L2.start N vs) H := rd0 (k := 5) hN (fun X => step_ok G X) vs H Q E h
theorem len_pages_held (G : Glob) (vs : List V) (H : Hp) (Q : VK) (E : XK) (h : sp_pages_held G vs H Q E) : vs.length = 1 := len0 (fun xs W Φ a => (pages_held_ok G ⟨E, fun _ => 0, fun _ _ _ => False⟩ xs W Φ a).1) vs H Q E h
theorem rd_pages_held {N : List Str} (hN : N.length = 2) (G : Glob) (vs : List V) (H : Hp) (Q : VK) (E : XK) (h : sp_pages_held G vs H Q E) : t_pages_held G { nx := fun _ H' => Q .non H', rt := Q } (L2.start N vs) H := rd0 (k := 1) hN (fun X => pages_held_ok G X) vs H Q E h
theorem len_without (G : Glob) (vs : List V) (H : Hp) (Q : VK) (E : XK) (h : sp_without G vs H Q E) : vs.length = 2 := len0 (fun xs W Φ a => (without_ok G ⟨E, fun _ => 0, fun _ _ _ => False⟩ xs W Φ a).1) vs H Q E h
theorem rd_without {N : List Str} (hN : N.length = 5) (G : Glob) (vs : List V) (H : Hp) (Q : VK) (E : XK) (h : sp_without G vs H Q E) : t_without G { nx := fun _ H' => Q .non H', rt := Q } (L2.start N vs) H := rd0 (k := 2) hN (fun X => without_ok G X) vs H Q E h
theorem len_let_go (G : Glob) (vs : List V) (H : Hp) (Q : VK) (E : XK) (h : sp_let_go G vs H Q E) : vs.length = 3 := len0 (fun xs W Φ a => (let_go_ok G ⟨E, fun _ => 0, fun _ _ _ => False⟩ xs W Φ a).1) vs H Q E h
theorem rd_let_go {N : List Str} (hN : N.length = 6) (G : Glob) (vs : List V) (H : Hp) (Q : VK) (E : XK) (h : sp_let_go G vs H Q E) : t_let_go G { nx := fun _ H' => Q .non H', rt := Q } (L2.start N vs) H := rd0 (k := 3) hN (fun X => let_go_ok G X) vs H Q E h
theorem len_is_number (G : Glob) (vs : List V) (H : Hp) (Q : VK) (E : XK) (h : sp_is_number G vs H Q E) : vs.length = 3 := len0 (fun xs W Φ a => (is_number_ok G ⟨E, fun _ => 0, fun _ _ _ => False⟩ xs W Φ a).1) vs H Q E h
theorem rd_is_number {N : List Str} (hN : N.length = 3) (G : Glob) (vs : List V) (H : Hp) (Q : VK) (E : XK) (h : sp_is_number G vs H Q E) : t_is_number G { nx := fun _ H' => Q .non H', rt := Q } (L2.start N vs) H := rd0 (k := 3) hN (fun X => is_number_ok G X) vs H Q E h
theorem len_least_not_held (G : Glob) (vs : List V) (H : Hp) (Q : VK) (E : XK) (h : sp_least_not_held G vs H Q E) : vs.length = 1 := len0 (fun xs W Φ a => (least_not_held_ok G ⟨E, fun _ => 0, fun _ _ _ => False⟩ xs W Φ a).1) vs H Q E h
theorem rd_least_not_held {N : List Str} (hN : N.length = 2) (G : Glob) (vs : List V) (H : Hp) (Q : VK) (E : XK) (h : sp_least_not_held G vs H Q E) : t_least_not_held G { nx := fun _ H' => Q .non H', rt := Q } (L2.start N vs) H := rd0 (k := 1) hN (fun X => least_not_held_ok G X) vs H Q E h
theorem len_check_rule (G : Glob) (ea : Str → Addr) (vs : List V) (H : Hp) (Q : VK) (E : XK) (h : sp_check_rule G ea vs H Q E) : vs.length = 1 := lenX (fun xs W Φ Ξ a => (check_rule_ok G ea E xs W Φ Ξ a).1) vs H Q E h
theorem rd_check_rule {N : List Str} (hN : N.length = 1) (G : Glob) (ea : Str → Addr) (vs : List V) (H : Hp) (Q : VK) (E : XK) (h : sp_check_rule G ea vs H Q E) : t_check_rule G ea E { nx := fun _ H' => Q .non H', rt := Q } (L2.start N vs) H := rdX (k := 1) (tE := t_check_rule G ea) hN (fun E => check_rule_ok G ea E) vs H Q E h
theorem len_check_size (G : Glob) (ea : Str → Addr) (vs : List V) (H : Hp) (Q : VK) (E : XK) (h : sp_check_size G ea vs H Q E) : vs.length = 1 := lenX (fun xs W Φ Ξ a => (check_size_ok G ea E xs W Φ Ξ a).1) vs H Q E h
theorem rd_check_size {N : List Str} (hN : N.length = 1) (G : Glob) (ea : Str → Addr) (vs : List V) (H : Hp) (Q : VK) (E : XK) (h : sp_check_size G ea vs H Q E) : t_check_size G ea E { nx := fun _ H' => Q .non H', rt := Q } (L2.start N vs) H := rdX (k := 1) (tE := t_check_size G ea) hN (fun E => check_size_ok G ea E) vs H Q E h
theorem len_check_count (G : Glob) (ea : Str → Addr) (vs : List V) (H : Hp) (Q : VK) (E : XK) (h : sp_check_count G ea vs H Q E) : vs.length = 3 := lenX (fun xs W Φ Ξ a => (check_count_ok G ea E xs W Φ Ξ a).1) vs H Q E h
theorem rd_check_count {N : List Str} (hN : N.length = 3) (G : Glob) (ea : Str → Addr) (vs : List V) (H : Hp) (Q : VK) (E : XK) (h : sp_check_count G ea vs H Q E) : t_check_count G ea E { nx := fun _ H' => Q .non H', rt := Q } (L2.start N vs) H := rdX (k := 3) (tE := t_check_count G ea) hN (fun E => check_count_ok G ea E) vs H Q E h
theorem len_check_stream (G : Glob) (ea : Str → Addr) (vs : List V) (H : Hp) (Q : VK) (E : XK) (h : sp_check_stream G ea vs H Q E) : vs.length = 1 := lenX (fun xs W Φ Ξ a => (check_stream_ok G ea E xs W Φ Ξ a).1) vs H Q E h
theorem rd_check_stream {N : List Str} (hN : N.length = 3) (G : Glob) (ea : Str → Addr) (vs : List V) (H : Hp) (Q : VK) (E : XK) (h : sp_check_stream G ea vs H Q E) : t_check_stream G ea E { nx := fun _ H' => Q .non H', rt := Q } (L2.start N vs) H := rdX (k := 1) (tE := t_check_stream G ea) hN (fun E => check_stream_ok G ea E) vs H Q E h
theorem len_run (G : Glob) (ea : Str → Addr) (vs : List V) (H : Hp) (Q : VK) (E : XK) (h : sp_run G ea vs H Q E) : vs.length = 3 := lenX (fun xs W Φ Ξ a => (run_ok G ea E xs W Φ Ξ a).1) vs H Q E h
theorem rd_run {N : List Str} (hN : N.length = 9) (G : Glob) (ea : Str → Addr) (vs : List V) (H : Hp) (Q : VK) (E : XK) (h : sp_run G ea vs H Q E) : t_run G ea E { nx := fun _ H' => Q .non H', rt := Q } (L2.start N vs) H := rdX (k := 3) (tE := t_run G ea) hN (fun E => run_ok G ea E) vs H Q E h
theorem len_curve (G : Glob) (ea : Str → Addr) (vs : List V) (H : Hp) (Q : VK) (E : XK) (h : sp_curve G ea vs H Q E) : vs.length = 3 := lenX (fun xs W Φ Ξ a => (curve_ok G ea E xs W Φ Ξ a).1) vs H Q E h
theorem rd_curve {N : List Str} (hN : N.length = 4) (G : Glob) (ea : Str → Addr) (vs : List V) (H : Hp) (Q : VK) (E : XK) (h : sp_curve G ea vs H Q E) : t_curve G ea E { nx := fun _ H' => Q .non H', rt := Q } (L2.start N vs) H := rdX (k := 3) (tE := t_curve G ea) hN (fun E => curve_ok G ea E) vs H Q E h
theorem len_cruel (G : Glob) (ea : Str → Addr) (vs : List V) (H : Hp) (Q : VK) (E : XK) (h : sp_cruel G ea vs H Q E) : vs.length = 4 := lenX (fun xs W Φ Ξ a => (cruel_ok G ea E xs W Φ Ξ a).1) vs H Q E h
theorem rd_cruel {N : List Str} (hN : N.length = 8) (G : Glob) (ea : Str → Addr) (vs : List V) (H : Hp) (Q : VK) (E : XK) (h : sp_cruel G ea vs H Q E) : t_cruel G ea E { nx := fun _ H' => Q .non H', rt := Q } (L2.start N vs) H := rdX (k := 4) (tE := t_cruel G ea) hN (fun E => cruel_ok G ea E) vs H Q E h
end CB.N

/-! instances, dicts: their rules by data and cells -/
namespace L2
open PySem PySem.Spec PyProof.Rows
def gFld (K : PySem.W.Frag) (ta : TE) (f : Str) : TG := fun v σ H Q => ta σ H fun x H1 => ∃ a C dx fs, x = .ref a ∧ H1 a = some (.ins C dx fs) ∧ Cls K C ∧ NoAttr K C f ∧ fs.length < 1000 ∧ Q σ (upd H1 a (.ins C dx (putF f v fs)))
theorem pg_fld {X : Cx} {o : Expr} {ta : TE} {f : Str} {pos : Pos} (ho : PE X o ta) : PG X (.Attribute o f pos) (gFld X.K ta f) := by
  refine ⟨fun pins s σ H v u Q I r h => PySem.W.kas_attr (thn (ho.run pins s σ H _ I h) fun ov s1 ⟨x, H1, I1, rx, a, C, dx, fs, ex, ea, c, n, l, q⟩ => ?_)⟩
  subst ex
  obtain rfl : ov = Value.ref a := rx
  exact setattr_ok I1 ea c n l r fun s3 I3 => ⟨σ, _, I3, q⟩
end L2
namespace DW
open PySem PySem.Spec PyProof.Rows L2
section
variable {K : PySem.W.Frag} {κ : Type} {M : Hp}
abbrev PrR (K : PySem.W.Frag) (M : Hp) (p : κ × VX) (q : κ × V) : Prop := p.1 = q.1 ∧ VR K M p.2 q.2
def putX (f : Str) (x : VX) : List (Str × VX) → List (Str × VX)
  | [] => [(f, x)]
  | (g, y) :: r => if g = f then (g, x) :: r else (g, y) :: putX f x r
theorem put_pair {f : Str} {x : VX} {v : V} (p : VR K M x v) : ∀ {fs : List (Str × VX)} {ks : List (Str × V)}, Paired (PrR K M) fs ks → Paired (PrR K M) (putX f x fs) (putF f v ks)
  | _, _, .nil => .cons ⟨rfl, p⟩ .nil
  | (g, y) :: r, (g', w) :: s, .cons ⟨e, h⟩ t => by
    obtain rfl : g = g' := e
    unfold putX putF
    by_cases c : g = f
    · rw [if_pos c, if_pos c]; exact .cons ⟨rfl, p⟩ t
    · rw [if_neg c, if_neg c]; exact .cons ⟨rfl, h⟩ (put_pair p t)
theorem look_pair {f : Str} {x : VX} : ∀ {fs : List (Str × VX)} {ks : List (Str × V)}, Paired (PrR K M) fs ks → fs.lookup f = some x → ∃ v, ks.lookup f = some v ∧ VR K M x v
  | _, _, .nil, h => nomatch h
  | (g, y) :: r, (g', w) :: s, .cons ⟨e, h⟩ t, z => by
    obtain rfl : g = g' := e
    simp only [List.lookup] at z ⊢
    cases c : f == g with
    | true => rw [c] at z; cases z; exact ⟨w, rfl, h⟩
    | false => rw [c] at z; exact look_pair t z
theorem look_none {f : Str} : ∀ {fs : List (Str × VX)} {ks : List (Str × V)}, Paired (PrR K M) fs ks → fs.lookup f = none → ks.lookup f = none
  | _, _, .nil, h => rfl
  | (g, y) :: r, (g', w) :: s, .cons ⟨e, h⟩ t, z => by
    obtain rfl : g = g' := e
    simp only [List.lookup] at z ⊢
    cases c : f == g with
    | true => rw [c] at z; cases z
    | false => rw [c] at z; exact look_none t z
variable [DecidableEq κ]
def valX (kvs : List (κ × VX)) (k : κ) : Option VX := (kvs.find? fun kv => decide (kv.1 = k)).map (·.2)
def putKX (kvs : List (κ × VX)) (k : κ) (x : VX) : List (κ × VX) :=
  if (kvs.any fun kv => decide (kv.1 = k)) = true then kvs.map (fun kv => if kv.1 = k then (kv.1, x) else kv) else kvs ++ [(k, x)]
theorem pk_any {k : κ} : ∀ {kvs : List (κ × VX)} {ks : List (κ × V)}, Paired (PrR K M) kvs ks → (kvs.any fun kv => decide (kv.1 = k)) = (ks.any fun kv => decide (kv.1 = k))
  | _, _, .nil => rfl
  | (g, y) :: r, (g', w) :: s, .cons ⟨e, h⟩ t => by
    obtain rfl : g = g' := e
    simp only [List.any_cons]
    rw [pk_any t]
theorem pk_val {k : κ} {x : VX} : ∀ {kvs : List (κ × VX)} {ks : List (κ × V)}, Paired (PrR K M) kvs ks → valX kvs k = some x → ∃ v, valV ks k = some v ∧ VR K M x v
  | _, _, .nil, h => nomatch h
  | (g, y) :: r, (g', w) :: s, .cons ⟨e, h⟩ t, z => by
    obtain rfl : g = g' := e
    unfold valX at z
    unfold valV
    by_cases c : g = k
    · rw [List.find?_cons_of_pos (by exact decide_eq_true c)] at z ⊢
      cases z; exact ⟨w, rfl, h⟩
    · rw [List.find?_cons_of_neg (by exact fun z => c (of_decide_eq_true z))] at z ⊢
      exact pk_val t z
theorem pk_none {k : κ} : ∀ {kvs : List (κ × VX)} {ks : List (κ × V)}, Paired (PrR K M) kvs ks → valX kvs k = none → valV ks k = none
  | _, _, .nil, h => rfl
  | (g, y) :: r, (g', w) :: s, .cons ⟨e, h⟩ t, z => by
    obtain rfl : g = g' := e
    unfold valX at z
    unfold valV
    by_cases c : g = k
    · rw [List.find?_cons_of_pos (by exact decide_eq_true c)] at z
      cases z
    · rw [List.find?_cons_of_neg (by exact fun z => c (of_decide_eq_true z))] at z ⊢
      exact pk_none t z
theorem pk_opt {k : κ} {kvs : List (κ × VX)} {ks : List (κ × V)} (p : Paired (PrR K M) kvs ks) : (valV ks k).isSome = (valX kvs k).isSome := by
  cases e : valX kvs k with
  | none => rw [pk_none p e]; rfl
  | some x => obtain ⟨v, h, _⟩ := pk_val p e; rw [h]; rfl
theorem pk_map {k : κ} {x : VX} {v : V} (q : VR K M x v) : ∀ {kvs : List (κ × VX)} {ks : List (κ × V)}, Paired (PrR K M) kvs ks → Paired (PrR K M) (kvs.map fun kv => if kv.1 = k then (kv.1, x) else kv) (ks.map fun kv => if kv.1 = k then (kv.1, v) else kv)
  | _, _, .nil => .nil
  | (g, y) :: r, (g', w) :: s, .cons ⟨e, h⟩ t => by
    obtain rfl : g = g' := e
    refine .cons ?_ (pk_map q t)
    by_cases c : g = k
    · simp only [if_pos c]; exact ⟨rfl, q⟩
    · simp only [if_neg c]; exact ⟨rfl, h⟩
theorem pk_put {k : κ} {x : VX} {v : V} (q : VR K M x v) {kvs : List (κ × VX)} {ks : List (κ × V)} (p : Paired (PrR K M) kvs ks) : Paired (PrR K M) (putKX kvs k x) (putK ks k v) := by
  unfold putKX putK
  rw [pk_any p]
  by_cases c : (ks.any fun kv => decide (kv.1 = k)) = true
  · rw [if_pos c, if_pos c]; exact pk_map q p
  · rw [if_neg c, if_neg c]; exact paired_append p (.cons ⟨rfl, q⟩ .nil)
end
def keyX : Key → VX
  | .inl i => .d (.int i)
  | .inr s => .d (.str s)
theorem vr_key {K : PySem.W.Frag} {M : Hp} {k : Key} {v : V} (h : VR K M (keyX k) v) : v = kV k := by
  cases k with
  | inl i => cases h; rfl
  | inr s => cases h; rfl
section
variable {K : PySem.W.Frag} {X : XC} {τ : Ts} {W : Wd} {Φ : VX → Wd → Prop} {ta tb tv td ty : TE} {t : TA} {C a : Addr} {f m : Str} {sp : Sp} {dvs : List V} {E : XK} {P : Pst} {ΦT : Ts → Wd → Prop} {x : VX}
theorem we_fld (hc : Cls K C) (hn : NoAttr K C f) (h : WE K X ta τ W fun o W1 => ∃ a fs f0 x, o = .r (.ref a) ∧ Cut a (.ins C fs) W1.c f0 ∧ fs.lookup f = some x ∧ Φ x W1) : WE K X (tFld K ta f) τ W Φ := fun σ H M Q s R kx k =>
  h σ H M _ s R kx fun o ov H1 M1 W1 ⟨a, fs, f0, x, e, c, hl, q⟩ R1 t1 p1 => by
    subst e
    cases p1
    obtain ⟨dx, ks, h1, h2⟩ := R1.cell _ c.mem
    obtain ⟨v, h3, h4⟩ := look_pair h2 hl
    exact ⟨a, C, dx, ks, v, rfl, h1, hc, hn, h3, k _ _ _ _ _ q R1 t1 h4⟩
theorem ws_fld (hc : Cls K C) (hn : NoAttr K C f) (h : WE K X tv τ W fun y W1 => WE K X ta τ W1 fun o W2_ => ∃ a fs f0, o = .r (.ref a) ∧ Cut a (.ins C fs) W2_.c f0 ∧ fs.length < 1000 ∧ P.nx τ ⟨f0 (.ins C (putX f y fs)), W2_.g⟩) : WS K X (sFld K ta tv f) τ W P := fun σ H M D s R kx k =>
  h σ H M _ s R kx fun y yv H1 M1 W1 q1 R1 t1 p1 => q1 σ H1 M1 _ (s.mono t1.sm) R1 (kx.on t1) fun o ov H2 M2 W2_ ⟨a, fs, f0, e, c, hl, q2⟩ R2 t2 p2 => by
    subst e
    cases p2
    obtain ⟨dx, ks, h1, h2⟩ := R2.cell _ c.mem
    obtain ⟨R3, t3⟩ := R2.put (u := .ins C dx (putF f yv ks)) (o' := .ins C (putX f y fs)) c ⟨dx, _, upd_same, put_pair (p1.mono t2.sm) h2⟩
    exact ⟨a, C, dx, ks, rfl, h1, hc, hn, by rw [← paired_len h2]; exact hl, k.nx _ _ _ _ _ q2 (s.mono (t1.trans (t2.trans t3)).sm) R3 (t1.trans (t2.trans t3))⟩
theorem wg_fld (hc : Cls K C) (hn : NoAttr K C f) (h : WE K X ta τ W fun o W1 => ∃ a fs f0, o = .r (.ref a) ∧ Cut a (.ins C fs) W1.c f0 ∧ fs.length < 1000 ∧ ΦT τ ⟨f0 (.ins C (putX f x fs)), W1.g⟩) : WG K X (gFld K ta f) x τ W ΦT := fun σ H M v Q s R kx p kq =>
  h σ H M _ s R kx fun o ov H1 M1 W1 ⟨a, fs, f0, e, c, hl, q⟩ R1 t1 p1 => by
    subst e
    cases p1
    obtain ⟨dx, ks, h1, h2⟩ := R1.cell _ c.mem
    obtain ⟨R3, t3⟩ := R1.put (u := .ins C dx (putF f v ks)) (o' := .ins C (putX f x fs)) c ⟨dx, _, upd_same, put_pair (p.mono t1.sm) h2⟩
    exact ⟨a, C, dx, ks, rfl, h1, hc, hn, by rw [← paired_len h2]; exact hl, kq _ _ _ _ _ q (s.mono (t1.trans t3).sm) R3 (t1.trans t3)⟩
theorem ws_fldaug {i j : Int} (hc : Cls K C) (hn : NoAttr K C f) (h : WE K X ta τ W fun o W1 => ∃ a fs f0 i, o = .r (.ref a) ∧ Cut a (.ins C fs) W1.c f0 ∧ fs.lookup f = some (.d (.int i)) ∧ WE K X tv τ W1 fun y W2_ => ∃ j fs' f1, y = .d (.int j) ∧ Cut a (.ins C fs') W2_.c f1 ∧ fs'.length < 1000 ∧ P.nx τ ⟨f1 (.ins C (putX f (.d (.int (i + j))) fs')), W2_.g⟩) : WS K X (sFldAug K ta tv rAdd f) τ W P := fun σ H M D s R kx k =>
  h σ H M _ s R kx fun o ov H1 M1 W1 ⟨a, fs, f0, i, e, c, hl, q⟩ R1 t1 p1 => by
    subst e
    cases p1
    obtain ⟨dx, ks, h1, h2⟩ := R1.cell _ c.mem
    obtain ⟨v, h3, h4⟩ := look_pair h2 hl
    cases h4
    refine ⟨a, C, dx, ks, _, rfl, h1, hc, hn, h3, q σ H1 M1 _ (s.mono t1.sm) R1 (kx.on t1) fun y yv H2 M2 W2_ ⟨j, fs', f1, e2, c2, hl2, q2⟩ R2 t2 p2 => ?_⟩
    subst e2
    cases p2
    obtain ⟨dx2, ks2, h5, h6⟩ := R2.cell _ c2.mem
    obtain ⟨R3, t3⟩ := R2.put (u := .ins C dx2 (putF f (.int (i + j)) ks2)) (o' := .ins C (putX f (.d (.int (i + j))) fs')) c2 ⟨dx2, _, upd_same, put_pair (x := .d (.int (i + j))) (Dp.int _) h6⟩
    exact ⟨i, j, rfl, rfl, dx2, ks2, h5, by rw [← paired_len h6]; exact hl2, k.nx _ _ _ _ _ q2 (s.mono (t1.trans (t2.trans t3)).sm) R3 (t1.trans (t2.trans t3))⟩
theorem we_meth (h : WE K X ta τ W fun o W1 => ∃ a fs f0, o = .r (.ref a) ∧ Cut a (.ins C fs) W1.c f0 ∧ fs.lookup m = none ∧ WA K X t τ W1 fun xs W2_ => WB K X (SPC sp dvs E) (.r (.ref a) :: xs) W2_ Φ) : WE K X (tMeth C m sp dvs E ta t) τ W Φ := fun σ H M Q s R kx k =>
  h σ H M _ s R kx fun o ov H1 M1 W1 ⟨a, fs, f0, e, c, hl, q⟩ R1 t1 p1 => by
    subst e
    cases p1
    obtain ⟨dx, ks, h1, h2⟩ := R1.cell _ c.mem
    exact ⟨a, dx, ks, rfl, h1, look_none h2 hl, q σ H1 M1 _ (s.mono t1.sm) R1 (kx.on t1) fun xs vs H2 M2 W2_ q2 R2 t2 p2 => q2 H2 M2 (.ref a :: vs) Q R2 (.cons rfl p2) (kx.on (t1.trans t2)) (k.on (t1.trans t2))⟩
theorem we_make (h : WA K X t τ W fun xs W1 => ∀ x, WB K X (SPC sp dvs E) (.r (.ref x) :: xs) ⟨(x, .ins C []) :: W1.c, W1.g⟩ fun v W2_ => v = .d .none ∧ Φ (.r (.ref x)) W2_) : WE K X (tMake C sp dvs E t) τ W Φ := fun σ H M Q s R kx k =>
  h σ H M _ s R kx fun xs vs H1 M1 W1 q1 R1 t1 p => by
    intro x dx nx nd ne
    obtain ⟨R2, t2, s2⟩ := R1.new (o := .own x) nd
    have nx2 : upd H1 dx (.own x) x = none := (upd_ne (Ne.symm ne)).trans nx
    obtain ⟨R3, t3⟩ := R2.cnew (u := .ins C dx []) (o := .ins C []) nx2 ⟨dx, [], upd_same, .nil⟩
    have t23 := t2.trans t3
    have tt := t1.trans t23
    exact q1 x _ _ (.ref x :: vs) _ R3 (.cons rfl (VRs.mono t23.sm p)) (kx.on tt) fun y v H' M' W' ⟨e, q⟩ R' t' r => ⟨by subst e; cases r; rfl, k _ _ _ _ _ q R' (tt.trans t') rfl⟩
/-! ### dicts whose keys are numbers and texts -/
theorem we_dget (h : WE K X td τ W fun o W1 => WE K X ty τ W1 fun y W2_ => ∃ a kvs f k x, o = .r (.ref a) ∧ y = keyX k ∧ Cut a (.dK kvs) W2_.c f ∧ valX kvs k = some x ∧ Φ x W2_) : WE K X (tDGet td ty) τ W Φ := fun σ H M Q s R kx k =>
  h σ H M _ s R kx fun o ov H1 M1 W1 q1 R1 t1 p1 => q1 σ H1 M1 _ (s.mono t1.sm) R1 (kx.on t1) fun y yv H2 M2 W2_ ⟨a, kvs, f, kk, x, e, e2, c, hl, q2⟩ R2 t2 p2 => by
    subst e
    subst e2
    cases p1
    obtain rfl := vr_key p2
    obtain ⟨ks, h1, h2⟩ := R2.cell _ c.mem
    obtain ⟨v, h3, h4⟩ := pk_val h2 hl
    exact ⟨a, v, rfl, by rw [← h3]; exact .k h1, k _ _ _ _ _ q2 R2 (t1.trans t2) h4⟩
theorem we_din (h : WE K X ty τ W fun y W1 => WE K X td τ W1 fun o W2_ => ∃ a kvs f k, o = .r (.ref a) ∧ y = keyX k ∧ Cut a (.dK kvs) W2_.c f ∧ Φ (.d (.bool (valX kvs k).isSome)) W2_) : WE K X (tDIn ty td) τ W Φ := fun σ H M Q s R kx k =>
  h σ H M _ s R kx fun y yv H1 M1 W1 q1 R1 t1 p1 => q1 σ H1 M1 _ (s.mono t1.sm) R1 (kx.on t1) fun o ov H2 M2 W2_ ⟨a, kvs, f, kk, e, e2, c, q2⟩ R2 t2 p2 => by
    subst e
    subst e2
    cases p2
    obtain rfl := vr_key p1
    obtain ⟨ks, h1, h2⟩ := R2.cell _ c.mem
    exact ⟨a, _, rfl, .k h1, by rw [pk_opt h2]; exact k _ _ _ _ _ q2 R2 (t1.trans t2) (Dp.bl _)⟩
theorem we_dnotin (h : WE K X ty τ W fun y W1 => WE K X td τ W1 fun o W2_ => ∃ a kvs f k, o = .r (.ref a) ∧ y = keyX k ∧ Cut a (.dK kvs) W2_.c f ∧ Φ (.d (.bool (!(valX kvs k).isSome))) W2_) : WE K X (tDNotIn ty td) τ W Φ := fun σ H M Q s R kx k =>
  h σ H M _ s R kx fun y yv H1 M1 W1 q1 R1 t1 p1 => q1 σ H1 M1 _ (s.mono t1.sm) R1 (kx.on t1) fun o ov H2 M2 W2_ ⟨a, kvs, f, kk, e, e2, c, q2⟩ R2 t2 p2 => by
    subst e
    subst e2
    cases p2
    obtain rfl := vr_key p1
    obtain ⟨ks, h1, h2⟩ := R2.cell _ c.mem
    exact ⟨a, _, rfl, .k h1, by rw [pk_opt h2]; exact k _ _ _ _ _ q2 R2 (t1.trans t2) (Dp.bl _)⟩
theorem ws_dput (h : WE K X tv τ W fun x W1 => WE K X td τ W1 fun o W2_ => WE K X ty τ W2_ fun y W3_ => ∃ a kvs f k, o = .r (.ref a) ∧ y = keyX k ∧ Cut a (.dK kvs) W3_.c f ∧ kvs.length < 1000 ∧ P.nx τ ⟨f (.dK (putKX kvs k x)), W3_.g⟩) : WS K X (sDPut td ty tv) τ W P := fun σ H M D s R kx k =>
  h σ H M _ s R kx fun x xv H1 M1 W1 q1 R1 t1 p1 => q1 σ H1 M1 _ (s.mono t1.sm) R1 (kx.on t1) fun o ov H2 M2 W2_ q2 R2 t2 p2 => q2 σ H2 M2 _ (s.mono (t1.trans t2).sm) R2 (kx.on (t1.trans t2)) fun y yv H3 M3 W3_ ⟨a, kvs, f, kk, e, e2, c, hl, q3⟩ R3 t3 p3 => by
    subst e
    subst e2
    cases p2
    obtain rfl := vr_key p3
    obtain ⟨ks, h1, h2⟩ := R3.cell _ c.mem
    obtain ⟨R4, t4⟩ := R3.put (u := .dK (putK ks kk xv)) (o' := .dK (putKX kvs kk x)) c ⟨_, upd_same, pk_put ((p1.mono t2.sm).mono t3.sm) h2⟩
    have hl' : ks.length < sizeLine := by rw [← paired_len h2]; exact Nat.lt_trans hl (by decide)
    exact ⟨a, _, rfl, .k h1 hl', k.nx _ _ _ _ _ q3 (s.mono (t1.trans (t2.trans (t3.trans t4))).sm) R4 (t1.trans (t2.trans (t3.trans t4)))⟩
end
end DW

/-! a class's methods, as their callers know them -/
namespace L2
open PySem PySem.Spec PyProof.Rows
structure CalM (P : Program) (w : World) (K : PySem.W.Frag) (mg : Str → Option Value) (base : Heap) (CX : CXT) (k : Nat) (C : Addr) (m : Str) (ps : List Str) (sp : Sp) : Prop where
  ex : ∃ (f : Addr) (fd : FuncData), Meth K C m f ∧ Binds K fd ps [] ∧ FnOk P w K mg base CX k f fd ps sp
structure CalK (P : Program) (w : World) (K : PySem.W.Frag) (mg : Str → Option Value) (base : Heap) (CX : CXT) (k : Nat) (C : Addr) (x : Str) (ps : List Str) (sp : Sp) : Prop where
  ex : ∃ (f : Addr) (fd : FuncData), mg x = some (.ref C) ∧ Mk K C f ∧ Binds K fd ps [] ∧ FnOk P w K mg base CX k f fd ps sp
variable {X : Cx} {CX : CXT} {k j : Nat} {C : Addr} {m x : Str} {ps : List Str} {sp : Sp} {E : XK} {o e : Expr} {es : List Expr} {ta : TE} {t : TA} {apos pos p : Pos}
theorem pe_calM {pl : Sem Bool} (M : CalM X.prog X.w X.K X.mg X.base CX k C m ps sp) (c : Cls X.K C) (hr : Room j X.A) (hj : k ≤ j) (hx : Passes CX X E) (he : PE X o ta) (ha : PA X (e :: es) t)
    (hst : starEach (e :: es) X.env = (false, eval e X.env) :: starEach es X.env := by rfl) (hpl : (backTo pos (starEach es X.env)).any (·.1) = false := by rfl)
    (ht : eval (.Call (.Attribute o m apos) (e :: es) [] pos) X.env = (do
      let ov ← eval o X.env
      standAt apos.atName
      let (f, first) ← holding [ov] (getMethod ov m pl)
      callWith pos f first (backTo pos (starEach (e :: es) X.env)) (backToKw pos (keywordEach [] X.env))) := by rfl) : PE X (.Call (.Attribute o m apos) (e :: es) [] pos) (tMeth C m sp [] E ta t) := by
  obtain ⟨f, fd, hm, hb, F⟩ := M.ex
  exact pe_meth he c hm F (hr.mono hj) hb .nil hx ha hst hpl ht
theorem pe_calM0 {pl : Sem Bool} (M : CalM X.prog X.w X.K X.mg X.base CX k C m ps sp) (c : Cls X.K C) (hr : Room j X.A) (hj : k ≤ j) (hx : Passes CX X E) (he : PE X o ta)
    (ht : eval (.Call (.Attribute o m apos) [] [] pos) X.env = (do
      let ov ← eval o X.env
      standAt apos.atName
      let (f, first) ← holding [ov] (getMethod ov m pl)
      callWith pos f first (backTo pos (starEach [] X.env)) (backToKw pos (keywordEach [] X.env))) := by rfl) : PE X (.Call (.Attribute o m apos) [] [] pos) (tMeth C m sp [] E ta tNil) := by
  obtain ⟨f, fd, hm, hb, F⟩ := M.ex
  exact pe_meth0 he c hm F (hr.mono hj) hb .nil hx ht
theorem pe_calK (M : CalK X.prog X.w X.K X.mg X.base CX k C x ps sp) (hr : Room j X.A) (hj : k + 1 ≤ j) (hg : Gl X x) (hx : Passes CX X E) (ha : PA X (e :: es) t) (hdb : (x == ("__debug__" : Str)) = false := by decide)
    (he : starEach (e :: es) X.env = (false, eval e X.env) :: starEach es X.env := by rfl) (hpl : (backTo pos (starEach es X.env)).any (·.1) = false := by rfl) : PE X (.Call (.Name x p) (e :: es) [] pos) (tMake C sp [] E t) := by
  obtain ⟨f, fd, hm, mk, hb, F⟩ := M.ex
  exact pe_make mk F (hr.mono hj) hg hm hb .nil hx ha hdb he hpl
end L2

/-! sorted(t), t a tuple of whole numbers -/
namespace L2
open PySem PySem.Spec PyProof.Rows PySem.Calls
def rSortedT (K : PySem.W.Frag) : List V → Hp → VK → Prop := fun vs H Q => ∃ (a : Addr) (ns : List Int), vs = [V.ref a] ∧ SqT K H a (ns.map V.int) ∧ ns.length < 64 ∧
  ∀ (ns' : List Int) (p : Addr), ns'.Perm ns → ns'.Pairwise (· ≤ ·) → H p = none → Q (.ref p) (upd H p (.lst (ns'.map V.int)))
theorem cr_sortedT {X : Cx} : CallR X (.builtin "sorted") (rSortedT X.K) := by
  intro pins s σ H vs us Q I r h
  obtain ⟨a, ns, rfl, hs, h64, q⟩ := h
  obtain ⟨its, rv, ⟨o, ho, hc, n, hd⟩, hz⟩ := I.tuple hs
  rw [Vals.ref1 r]
  have hi := rv.ints
  have hl : its.length < 64 := by rw [hi.length]; exact h64
  have hl2 : its.length ≤ sizeLine := small64 hl
  refine call_function_entry kind_sorted plain_sorted entry_sorted (args_sorted1 _) ?_
  unfold Builtin.«sorted»
  refine wpAny_bind (m := checkCount "sorted" 1 1 _) (wpAny_pure ?_)
  refine wpAny_bind (wpAny_collect_seq a (.inr rfl) ho hc hd (fun h' hk => ?_) (by simpa using hl2))
  show wpAny _ _ _ _ _ _
  refine wpAny_bind (wpAny_newList ?_ (by simpa using hl2))
  have hoL : (h'.push (seqObj "list" its.toArray 0)).get? h'.objs.size = some (seqObj "list" its.toArray 0) := Heap.get?_push_size _ rfl
  have old : ∀ b u, s.heap.get? b = some u → (h'.push (seqObj "list" its.toArray 0)).get? b = some u := fun b u e => Heap.get?_push_of_some _ (hk b u e)
  refine wpAny_bind (wpAny_holding (wpAny_call_entry slot_list_sort ⟨_, hoL, rfl⟩ entry_list_sort (list_sort_tree (s := { s with heap := h'.push (seqObj "list" its.toArray 0) }) hoL hi hl fun out ns' a1 a2 a3 => ⟨_, rfl, ?_⟩) (args_list_sort _)))
  refine wpAny_pure ?_
  obtain ⟨ep, he'⟩ := sortedHeap_at (vs := its) (out := out) hoL
  have hlen : (ns'.map V.int).length ≤ sizeLine := by rw [List.length_map, a2.length_eq]; exact small64 h64
  have hf : H h'.objs.size = none := (I.hok.kept hk).fresh (Nat.le_refl _)
  have hg : s.heap.get? h'.objs.size = none := by
    cases e : s.heap.get? h'.objs.size with
    | none => rfl
    | some u => exact absurd (Heap.lt_size (hk _ u e)) (Nat.lt_irrefl _)
  refine ⟨_, rfl, .ref _, upd H h'.objs.size (.lst (ns'.map V.int)), I.laidN (t' := s.toks) (fun b u e => ?_) hg hf ⟨hlen, out.toList, ep, vals_of_ints a1, he'⟩, rfl, q ns' _ a2 a3 hf⟩
  have hb : b ≠ h'.objs.size := Nat.ne_of_lt (Heap.lt_size (hk b u e))
  rw [sortedHeap_old hb (Heap.lt_size (old b u e))]
  exact old b u e
end L2
namespace DW
open PySem PySem.Spec PyProof.Rows L2
section
variable {K : PySem.W.Frag} {X : XC} {τ : Ts} {W : Wd} {Φ : VX → Wd → Prop} {ns : List Int}
theorem wb_sortedT (hl : ns.length < 64) (h : ∀ ms : List Int, ms.Perm ns → ms.Pairwise (· ≤ ·) → Φ (.d (.list (ms.map .int))) W) : WB K X (rSortedT K) [.d (.tuple (ns.map .int))] W Φ := fun H M vs Q R p kx k => by
  cases p with
  | cons p1 p =>
    cases p
    cases p1 with
    | @tup a _ _ h1 h2 =>
      rw [dpAll_ints h2] at h1
      exact ⟨a, ns, rfl, sqT_same R.sm h1, hl, fun ms q pm pw nq => k_lstA R k (h ms pm pw) (ints_dpAll ms) q nq⟩
end
end DW

/-! a cache, in mathematics and as an object -/
namespace DW
open PySem PySem.Spec PyProof.Rows L2
def kLeS : R2 := fun x y H Q => ∃ i j, x = .str i ∧ y = .str j ∧ Q (.bl (!decide (j.cps.toList < i.cps.toList))) H
def bLenS : List V → Hp → VK → Prop := fun xs H Q => ∃ z, xs = [.str z] ∧ z.length ≤ sizeLine ∧ Q (.int z.length) H
section
variable {K : PySem.W.Frag} {X : XC} {τ : Ts} {W : Wd} {Φ : VX → Wd → Prop} {te : TE}
theorem w2_leS {a b : Str} (h : Φ (.d (.bool (!decide (b.cps.toList < a.cps.toList)))) W) : W2 K kLeS (.d (.str a)) (.d (.str b)) W Φ := fun H M u v Q R p q k => by
  cases p
  cases q
  exact ⟨a, b, rfl, rfl, k _ _ _ _ _ h R (.refl ..) (Dp.bl _)⟩
theorem wb_lenS {z : Str} (hz : z.length ≤ sizeLine) (h : Φ (.d (.int z.length)) W) : WB K X bLenS [.d (.str z)] W Φ := fun H M vs Q R p kx k => by
  cases p with
  | cons p1 p => cases p; cases p1; exact ⟨z, rfl, hz, k _ _ _ _ _ h R (.refl ..) (Dp.int _)⟩
theorem wi_str {Ξ : Nat → (Nat → VX) → (Wd → Prop) → Wd → Prop} (h : WE K X te τ W fun x W1 => ∃ z : Str, x = .d (.str z) ∧ Ξ z.cps.size (fun i => .d (.str ⟨#[z.cps.getD i 0]⟩)) (fun _ => True) W1) : WI K X (iStr te) τ W Ξ := fun σ H M R_ s R kx k =>
  h σ H M _ s R kx fun x v H1 M1 W1 ⟨z, e, q⟩ R1 t1 p => by
    subst e
    cases p
    refine ⟨z, rfl, k _ H1 M1 W1 _ _ _ q R1 t1 fun i H2 M2 W2_ hi R2 sm _ => ⟨fun hlt => ⟨hlt, fun y H3 ⟨e, c, hc, ey⟩ => ?_⟩, fun e => Nat.le_of_eq e.symm⟩⟩
    subst e
    subst ey
    have e2 : z.cps.getD i 0 = c := by rw [Array.getD_eq_getD_getElem?, hc]; rfl
    exact ⟨M2, R2, .refl .., by rw [e2]; exact Dp.str _⟩
end
end DW
namespace CB.N
open PySem PySem.Spec PyProof.Rows L2 DW CB2
def clsBodyS : Stmt → List Stmt
  | .ClassDef (body := b) .. => b
  | _ => []
structure ClsC (K : PySem.W.Frag) (Cc : Addr) : Prop where
  cls : Cls K Cc
  rule : NoAttr K Cc "rule"
  size : NoAttr K Cc "size"
  state : NoAttr K Cc "state"
  staying : NoAttr K Cc "staying"
  asked : NoAttr K Cc "asked"
  missed : NoAttr K Cc "missed"
  points : NoAttr K Cc "points"
structure CV where
  r : Rule
  s : Nat
  l : List Row
  h : Nat
  ps : List Int
  n : Nat
  m : Nat
def insF (c : CV) (P : Addr) : List (Str × VX) := [("rule", .d (.str c.r.s)), ("size", .d (.int (c.s : Int))), ("state", .d (stateD c.l c.h)), ("staying", .d (stayD c.ps)), ("asked", .d (.int (c.n : Int))), ("missed", .d (.int (c.m : Int))), ("points", .r (.ref P))]
theorem lk_rule (c : CV) (P : Addr) : (insF c P).lookup ("rule" : Str) = some (.d (.str c.r.s)) := rfl
theorem lk_size (c : CV) (P : Addr) : (insF c P).lookup ("size" : Str) = some (.d (.int (c.s : Int))) := rfl
theorem lk_state (c : CV) (P : Addr) : (insF c P).lookup ("state" : Str) = some (.d (stateD c.l c.h)) := rfl
theorem lk_staying (c : CV) (P : Addr) : (insF c P).lookup ("staying" : Str) = some (.d (stayD c.ps)) := rfl
theorem lk_asked (c : CV) (P : Addr) : (insF c P).lookup ("asked" : Str) = some (.d (.int (c.n : Int))) := rfl
theorem lk_missed (c : CV) (P : Addr) : (insF c P).lookup ("missed" : Str) = some (.d (.int (c.m : Int))) := rfl
theorem lk_points (c : CV) (P : Addr) : (insF c P).lookup ("points" : Str) = some (.r (.ref P)) := rfl
theorem insF_len (c : CV) (P : Addr) : (insF c P).length < 1000 := show 7 < 1000 by decide
theorem pt_size (c : CV) (P : Addr) (s : Nat) : putX "size" (.d (.int (s : Int))) (insF c P) = insF { c with s := s } P := rfl
theorem pt_state (c : CV) (P : Addr) (l : List Row) (h : Nat) : putX "state" (.d (stateD l h)) (insF c P) = insF { c with l := l, h := h } P := rfl
theorem pt_staying (c : CV) (P : Addr) (ps : List Int) : putX "staying" (.d (stayD ps)) (insF c P) = insF { c with ps := ps } P := rfl
theorem pt_asked (c : CV) (P : Addr) (n : Nat) : putX "asked" (.d (.int (n : Int))) (insF c P) = insF { c with n := n } P := rfl
theorem pt_missed (c : CV) (P : Addr) (m : Nat) : putX "missed" (.d (.int (m : Int))) (insF c P) = insF { c with m := m } P := rfl
theorem _root_.DW.Cut.up {a : Addr} {o o' : OC} {c : List (Addr × OC)} {f : OC → List (Addr × OC)} (h : Cut a o c f) : Cut a o' (f o') f := by
  induction h with
  | hd => exact .hd
  | tl _ ih => exact .tl ih
section
variable {K : PySem.W.Frag} {X : XC} {τ : Ts} {W : Wd} {Φ : VX → Wd → Prop} {P : Pst} {ΦT : Ts → Wd → Prop} {x : VX} {Cc a Pa : Addr} {f : OC → List (Addr × OC)} {c : CV} {n : Nat}
abbrev Obj (K : PySem.W.Frag) (Cc a Pa : Addr) (c : CV) (f : OC → List (Addr × OC)) (W : Wd) : Prop := Cut a (.ins Cc (insF c Pa)) W.c f
theorem fe_rule (HC : ClsC K Cc) (e : τ[n]? = some (some (.r (.ref a)))) (o : Cut a (.ins Cc (insF c Pa)) W.c f) (h : Φ (.d (.str c.r.s)) W) : WE K X (tFld K (tVar n) "rule") τ W Φ := we_fld HC.cls HC.rule (we_var e ⟨a, _, f, _, rfl, o, lk_rule c Pa, h⟩)
theorem fe_size (HC : ClsC K Cc) (e : τ[n]? = some (some (.r (.ref a)))) (o : Cut a (.ins Cc (insF c Pa)) W.c f) (h : Φ (.d (.int (c.s : Int))) W) : WE K X (tFld K (tVar n) "size") τ W Φ := we_fld HC.cls HC.size (we_var e ⟨a, _, f, _, rfl, o, lk_size c Pa, h⟩)
theorem fe_state (HC : ClsC K Cc) (e : τ[n]? = some (some (.r (.ref a)))) (o : Cut a (.ins Cc (insF c Pa)) W.c f) (h : Φ (.d (stateD c.l c.h)) W) : WE K X (tFld K (tVar n) "state") τ W Φ := we_fld HC.cls HC.state (we_var e ⟨a, _, f, _, rfl, o, lk_state c Pa, h⟩)
theorem fe_staying (HC : ClsC K Cc) (e : τ[n]? = some (some (.r (.ref a)))) (o : Cut a (.ins Cc (insF c Pa)) W.c f) (h : Φ (.d (stayD c.ps)) W) : WE K X (tFld K (tVar n) "staying") τ W Φ := we_fld HC.cls HC.staying (we_var e ⟨a, _, f, _, rfl, o, lk_staying c Pa, h⟩)
theorem fe_asked (HC : ClsC K Cc) (e : τ[n]? = some (some (.r (.ref a)))) (o : Cut a (.ins Cc (insF c Pa)) W.c f) (h : Φ (.d (.int (c.n : Int))) W) : WE K X (tFld K (tVar n) "asked") τ W Φ := we_fld HC.cls HC.asked (we_var e ⟨a, _, f, _, rfl, o, lk_asked c Pa, h⟩)
theorem fe_missed (HC : ClsC K Cc) (e : τ[n]? = some (some (.r (.ref a)))) (o : Cut a (.ins Cc (insF c Pa)) W.c f) (h : Φ (.d (.int (c.m : Int))) W) : WE K X (tFld K (tVar n) "missed") τ W Φ := we_fld HC.cls HC.missed (we_var e ⟨a, _, f, _, rfl, o, lk_missed c Pa, h⟩)
theorem fe_points (HC : ClsC K Cc) (e : τ[n]? = some (some (.r (.ref a)))) (o : Cut a (.ins Cc (insF c Pa)) W.c f) (h : Φ (.r (.ref Pa)) W) : WE K X (tFld K (tVar n) "points") τ W Φ := we_fld HC.cls HC.points (we_var e ⟨a, _, f, _, rfl, o, lk_points c Pa, h⟩)
theorem fg_size {s : Nat} (HC : ClsC K Cc) (e : τ[n]? = some (some (.r (.ref a)))) (o : Cut a (.ins Cc (insF c Pa)) W.c f) (h : ΦT τ ⟨f (.ins Cc (insF { c with s := s } Pa)), W.g⟩) : WG K X (gFld K (tVar n) "size") (.d (.int (s : Int))) τ W ΦT := wg_fld HC.cls HC.size (we_var e ⟨a, _, f, rfl, o, insF_len _ _, h⟩)
theorem fg_state {l : List Row} {hd : Nat} (HC : ClsC K Cc) (e : τ[n]? = some (some (.r (.ref a)))) (o : Cut a (.ins Cc (insF c Pa)) W.c f) (h : ΦT τ ⟨f (.ins Cc (insF { c with l := l, h := hd } Pa)), W.g⟩) : WG K X (gFld K (tVar n) "state") (.d (stateD l hd)) τ W ΦT := wg_fld HC.cls HC.state (we_var e ⟨a, _, f, rfl, o, insF_len _ _, h⟩)
theorem fg_staying {ps : List Int} (HC : ClsC K Cc) (e : τ[n]? = some (some (.r (.ref a)))) (o : Cut a (.ins Cc (insF c Pa)) W.c f) (h : ΦT τ ⟨f (.ins Cc (insF { c with ps := ps } Pa)), W.g⟩) : WG K X (gFld K (tVar n) "staying") (.d (stayD ps)) τ W ΦT := wg_fld HC.cls HC.staying (we_var e ⟨a, _, f, rfl, o, insF_len _ _, h⟩)
theorem fg_asked {k : Nat} (HC : ClsC K Cc) (e : τ[n]? = some (some (.r (.ref a)))) (o : Cut a (.ins Cc (insF c Pa)) W.c f) (h : ΦT τ ⟨f (.ins Cc (insF { c with n := k } Pa)), W.g⟩) : WG K X (gFld K (tVar n) "asked") (.d (.int (k : Int))) τ W ΦT := wg_fld HC.cls HC.asked (we_var e ⟨a, _, f, rfl, o, insF_len _ _, h⟩)
theorem fg_missed {k : Nat} (HC : ClsC K Cc) (e : τ[n]? = some (some (.r (.ref a)))) (o : Cut a (.ins Cc (insF c Pa)) W.c f) (h : ΦT τ ⟨f (.ins Cc (insF { c with m := k } Pa)), W.g⟩) : WG K X (gFld K (tVar n) "missed") (.d (.int (k : Int))) τ W ΦT := wg_fld HC.cls HC.missed (we_var e ⟨a, _, f, rfl, o, insF_len _ _, h⟩)
theorem fs_size {tv : TE} (HC : ClsC K Cc) (h : WE K X tv τ W fun y W1 => ∃ (a Pa : Addr) (c : CV) (f : _) (s : Nat), y = .d (.int (s : Int)) ∧ τ[n]? = some (some (.r (.ref a))) ∧ Cut a (.ins Cc (insF c Pa)) W1.c f ∧ P.nx τ ⟨f (.ins Cc (insF { c with s := s } Pa)), W1.g⟩) : WS K X (sFld K (tVar n) tv "size") τ W P :=
  ws_fld HC.cls HC.size (we_imp (fun y W1 ⟨a, Pa, c, f, s, e, t, o, q⟩ => we_var t ⟨a, _, f, rfl, o, insF_len _ _, by rw [e]; exact q⟩) h)
theorem fs_state {tv : TE} (HC : ClsC K Cc) (h : WE K X tv τ W fun y W1 => ∃ (a Pa : Addr) (c : CV) (f : _) (l : List Row) (hd : Nat), y = .d (stateD l hd) ∧ τ[n]? = some (some (.r (.ref a))) ∧ Cut a (.ins Cc (insF c Pa)) W1.c f ∧ P.nx τ ⟨f (.ins Cc (insF { c with l := l, h := hd } Pa)), W1.g⟩) : WS K X (sFld K (tVar n) tv "state") τ W P :=
  ws_fld HC.cls HC.state (we_imp (fun y W1 ⟨a, Pa, c, f, l, hd, e, t, o, q⟩ => we_var t ⟨a, _, f, rfl, o, insF_len _ _, by rw [e]; exact q⟩) h)
theorem fs_staying {tv : TE} (HC : ClsC K Cc) (h : WE K X tv τ W fun y W1 => ∃ (a Pa : Addr) (c : CV) (f : _) (ps : List Int), y = .d (stayD ps) ∧ τ[n]? = some (some (.r (.ref a))) ∧ Cut a (.ins Cc (insF c Pa)) W1.c f ∧ P.nx τ ⟨f (.ins Cc (insF { c with ps := ps } Pa)), W1.g⟩) : WS K X (sFld K (tVar n) tv "staying") τ W P :=
  ws_fld HC.cls HC.staying (we_imp (fun y W1 ⟨a, Pa, c, f, ps, e, t, o, q⟩ => we_var t ⟨a, _, f, rfl, o, insF_len _ _, by rw [e]; exact q⟩) h)
theorem fa_asked (HC : ClsC K Cc) (e : τ[n]? = some (some (.r (.ref a)))) (o : Cut a (.ins Cc (insF c Pa)) W.c f) (h : P.nx τ ⟨f (.ins Cc (insF { c with n := c.n + 1 } Pa)), W.g⟩) : WS K X (sFldAug K (tVar n) (tC (.int 1)) rAdd "asked") τ W P :=
  ws_fldaug (i := 0) (j := 0) HC.cls HC.asked (we_var e ⟨a, _, f, _, rfl, o, lk_asked c Pa, we_int ⟨1, _, f, rfl, o, insF_len _ _, h⟩⟩)
theorem fa_missed (HC : ClsC K Cc) (e : τ[n]? = some (some (.r (.ref a)))) (o : Cut a (.ins Cc (insF c Pa)) W.c f) (h : P.nx τ ⟨f (.ins Cc (insF { c with m := c.m + 1 } Pa)), W.g⟩) : WS K X (sFldAug K (tVar n) (tC (.int 1)) rAdd "missed") τ W P :=
  ws_fldaug (i := 0) (j := 0) HC.cls HC.missed (we_var e ⟨a, _, f, _, rfl, o, lk_missed c Pa, we_int ⟨1, _, f, rfl, o, insF_len _ _, h⟩⟩)
end
end CB.N

namespace CB.N
open PySem PySem.Spec PyProof.Rows L2 DW CB2
local macro_rules | `(tactic| walk_at "e1") => `(tactic| (with_reducible first
  | refine ws_seq ?_ | refine ws_asg ?_ | refine ws_asgG ?_ | refine ws_ret ?_ | refine ws_retN ?_ | refine ws_drop ?_ | refine ws_ifs ?_ | refine ws_par ?_
  | refine we_int ?_ | refine we_bl ?_ | refine we_str ?_ | refine we_non ?_ | refine we_ty ?_ | refine we_op ?_ | refine wa_nil ?_ | refine wa_cons ?_ | refine we_tup ?_ | refine we_notV ?_ | refine we_andV ?_ | refine we_orV ?_ | refine we_ifE ?_ | refine we_neg ?_
  | refine wt_test ?_ | refine wt_B ?_ | refine wt_tru ?_ | refine wt_and ?_ | refine wt_or ?_ | refine wt_not ?_ | refine wt_yes ?_ | refine we_sl ?_ | refine wo_none ?_ | refine wo_some ?_ | refine we_call ?_ | refine we_CB ?_
  | refine wg_name ?_ | refine wgs_nil ?_ | refine wgs_cons ?_ | refine wg_tup2 ?_ | refine wg_tup3 ?_ | refine ws_for ?_ | refine wi_tup ?_ | refine wi_rng1 ?_ | refine wi_rng2 ?_ | refine wi_enumT ?_
  | refine w2_add ?_ | refine w2_sub ?_ | refine w2_lt ?_ | refine w2_le ?_ | refine w2_gt ?_ | refine w2_ge ?_ | refine w2_eqI ?_ | refine w2_neI ?_ | refine w2_eqS ?_ | refine w2_isN ?_ | refine w2_notN ?_ | refine w2_inT ?_ | refine w2_notInT ?_ | refine w2_inL ?_ | refine w2_notInL ?_
  | refine exB ?_ | refine exI ?_ | refine exT ?_ | refine exL ?_ | refine exI1 ?_ | refine exT1 ?_ | refine exV ?_ | refine exA0 ?_ | refine exA1 ?_ | refine exA2 ?_ | refine exA3 ?_ | refine exA4 ?_ | refine exA5 ?_ | refine exA6 ?_ | refine exA7 ?_ | refine bT ?_ | refine bF ?_ | refine bT' ?_ | refine bF' ?_
  | refine w3_slA ?_ | refine wb_lenT ?_ | refine wb_lenL ?_ | refine wb_listT ?_ | refine wb_tupL ?_ | refine ws_next ?_
  | refine we_var (by with_unfolding_all rfl) ?_))
local macro_rules | `(tactic| walk_at "ev") => `(tactic| (repeat (walk_at "e1")))

local macro_rules | `(tactic| walk_at "f1") => `(tactic| (with_reducible first
  | refine fe_rule (by assumption) (by with_unfolding_all rfl) (by first | assumption | exact Cut.up (by assumption)) ?_ | refine fe_size (by assumption) (by with_unfolding_all rfl) (by first | assumption | exact Cut.up (by assumption)) ?_
  | refine fe_state (by assumption) (by with_unfolding_all rfl) (by first | assumption | exact Cut.up (by assumption)) ?_ | refine fe_staying (by assumption) (by with_unfolding_all rfl) (by first | assumption | exact Cut.up (by assumption)) ?_
  | refine fe_asked (by assumption) (by with_unfolding_all rfl) (by first | assumption | exact Cut.up (by assumption)) ?_ | refine fe_missed (by assumption) (by with_unfolding_all rfl) (by first | assumption | exact Cut.up (by assumption)) ?_
  | refine fe_points (by assumption) (by with_unfolding_all rfl) (by first | assumption | exact Cut.up (by assumption)) ?_))
local macro_rules | `(tactic| walk_at "ec") => `(tactic| (repeat (first | walk_at "e1" | walk_at "f1")))
def signS (z : Str) (i : Nat) : Str := ⟨#[z.cps.getD i 0]⟩
def leS (a b : Str) : Bool := !decide (b.cps.toList < a.cps.toList)
def letterB (c : Str) : Bool := leS "a" c && leS c "z"
def nameB (z : Str) : Bool := decide (1 ≤ z.length) && (decide (z.length ≤ 8) && (List.range z.cps.size).all fun i => letterB (signS z i))
def PageD (d : PyData) (p : Int) : Prop := d = .int p ∧ 0 ≤ p ∧ p ≤ 9
def ptD (c : CV) : PyData := .tuple [.int (c.s : Int), stateD c.l c.h, stayD c.ps, .int (c.n : Int), .int (c.m : Int)]
def ptsX (pts : List (Key × CV)) : List (Key × VX) := pts.map fun p => (p.1, .d (ptD p.2))
def A_check_page (G : Glob) : AX := fun xs W Φ Ξ => ∃ d : PyData, xs = [.d d] ∧ (numD d 0 9 = true → Φ (.d .none) W) ∧ (numD d 0 9 = false → Ξ "BadPage" none W)
def A_check_name (G : Glob) : AX := fun xs W Φ Ξ => ∃ d : PyData, xs = [.d d] ∧ (∀ z, d = .str z → z.length ≤ 1000) ∧ (∀ z, d = .str z → nameB z = true → Φ (.d .none) W) ∧ ((∀ z, d = .str z → nameB z = false) → Ξ "BadName" none W)
def A_C__held_place (G : Glob) (Cc : Addr) : AX := fun xs W Φ Ξ => ∃ (a P : Addr) (c : CV) (f : OC → List (Addr × OC)) (d : PyData), xs = [.r (.ref a), .d d] ∧ Cut a (.ins Cc (insF c P)) W.c f ∧
  (numD d 0 9 = false → Ξ "BadPage" none W) ∧ ∀ p, d = .int p → 0 ≤ p → p ≤ 9 → (placeOf c.l p = none → Ξ "BadPage" none W) ∧ ∀ k, placeOf c.l p = some k → Φ (.d (.int (k : Int))) W
def A_C__set_free (Cc : Addr) : AT := fun xs W Φ => ∃ (a P : Addr) (c : CV) (f : OC → List (Addr × OC)) (p : Int), xs = [.r (.ref a), .d (.int p)] ∧ Cut a (.ins Cc (insF c P)) W.c f ∧ c.ps.length ≤ 1000 ∧ Φ (.d .none) ⟨f (.ins Cc (insF { c with ps := c.ps.filter fun q => !decide (q = p) } P)), W.g⟩
def A_C___init__ (G : Glob) (Cc : Addr) : AX := fun xs W Φ Ξ => ∃ (a : Addr) (f : OC → List (Addr × OC)) (dr dz : PyData), xs = [.r (.ref a), .d dr, .d dz] ∧ Cut a (.ins Cc []) W.c f ∧ Con G ∧ ((∀ r : Rule, dr ≠ .str r.s) → Ξ "BadRule" none W) ∧ (RuleD dr → numD dz 1 6 = false → Ξ "BadSize" none W) ∧
  ∀ (r : Rule) (s : Nat), dr = .str r.s → dz = .int (s : Int) → 1 ≤ s → s ≤ 6 → ∀ P, Φ (.d .none) ⟨(P, .dK []) :: f (.ins Cc (insF ⟨r, s, [], 0, [], 0, 0⟩ P)), W.g⟩
def CV.asks (c : CV) (t : Told) : CV := { c with l := t.rows, h := t.hand, n := c.n + 1, m := if t.held then c.m else c.m + 1 }
def Full (c : CV) (p : Int) : Prop := placeOf c.l p = none ∧ c.l.length = c.s ∧ c.ps.length = c.s
def A_C_ask (G : Glob) (Cc : Addr) : AX := fun xs W Φ Ξ => ∃ (a P : Addr) (c : CV) (f : OC → List (Addr × OC)) (d : PyData) (sw : List Row × Nat), xs = [.r (.ref a), .d d] ∧ Cut a (.ins Cc (insF c P)) W.c f ∧ c.l.length ≤ 100 ∧ (numD d 0 9 = false → Ξ "BadPage" none W) ∧
  ∀ p, d = .int p → 0 ≤ p → p ≤ 9 → (Full c p → Ξ "NoRoom" none W) ∧ (¬ Full c p → (placeOf c.l p = none → ¬ c.l.length < c.s → SwOk c.r c.l c.h c.ps sw) ∧
    Φ (.d (.tuple [.bool (stepP c.ps sw c.r c.s c.l c.h p).held, intD (stepP c.ps sw c.r c.s c.l c.h p).gone])) ⟨f (.ins Cc (insF (c.asks (stepP c.ps sw c.r c.s c.l c.h p)) P)), W.g⟩)
def A_C_pin (G : Glob) (Cc : Addr) : AX := fun xs W Φ Ξ => ∃ (a P : Addr) (c : CV) (f : OC → List (Addr × OC)) (d : PyData), xs = [.r (.ref a), .d d] ∧ Cut a (.ins Cc (insF c P)) W.c f ∧ c.ps.length < 60 ∧ (numD d 0 9 = false → Ξ "BadPage" none W) ∧
  ∀ p, d = .int p → 0 ≤ p → p ≤ 9 → (placeOf c.l p = none → Ξ "BadPage" none W) ∧ ((∃ k, placeOf c.l p = some k) → Φ (.d .none) ⟨f (.ins Cc (insF { c with ps := if p ∈ c.ps then c.ps else isort (c.ps ++ [p]) } P)), W.g⟩)
def A_C_unpin (G : Glob) (Cc : Addr) : AX := fun xs W Φ Ξ => ∃ (a P : Addr) (c : CV) (f : OC → List (Addr × OC)) (d : PyData), xs = [.r (.ref a), .d d] ∧ Cut a (.ins Cc (insF c P)) W.c f ∧ c.ps.length ≤ 1000 ∧ (numD d 0 9 = false → Ξ "BadPage" none W) ∧
  ∀ p, d = .int p → 0 ≤ p → p ≤ 9 → (placeOf c.l p = none → Ξ "BadPage" none W) ∧ ((∃ k, placeOf c.l p = some k) → Φ (.d (.bool (decide (p ∈ c.ps)))) ⟨f (.ins Cc (insF { c with ps := c.ps.filter fun q => !decide (q = p) } P)), W.g⟩)
def A_C_drop (G : Glob) (Cc : Addr) : AX := fun xs W Φ Ξ => ∃ (a P : Addr) (c : CV) (f : OC → List (Addr × OC)) (d : PyData), xs = [.r (.ref a), .d d] ∧ Cut a (.ins Cc (insF c P)) W.c f ∧ c.ps.length ≤ 1000 ∧ c.l.length ≤ 100 ∧ (numD d 0 9 = false → Ξ "BadPage" none W) ∧
  ∀ p, d = .int p → 0 ≤ p → p ≤ 9 → (placeOf c.l p = none → Ξ "BadPage" none W) ∧ (∀ k, placeOf c.l p = some k → Φ (.d .none) ⟨f (.ins Cc (insF { c with l := outL c.l k, h := woHand c.l c.h k, ps := c.ps.filter fun q => !decide (q = p) } P)), W.g⟩)
/-- pages let go until no more than z are held -/
inductive Goes (r : Rule) (ps : List Int) (z : Nat) : List Row → Nat → List Int → List Row → Nat → Prop
  | done {l : List Row} {h : Nat} : l.length ≤ z → Goes r ps z l h [] l h
  | clock {l l' : List Row} {h h' : Nat} {gs : List Int} {sw : List Row × Nat} {f : Nat} : z < l.length → r = .clock → h < l.length → sweepP ps f l h = some sw → Goes r ps z (outL sw.1 sw.2) (woHand sw.1 sw.2 sw.2) gs l' h' → Goes r ps z l h ((sw.1.getD sw.2 (0, 0)).1 :: gs) l' h'
  | other {l l' : List Row} {h h' : Nat} {gs : List Int} : z < l.length → r ≠ .clock → spots ps l ≠ [] → Goes r ps z (outL l (goPlace r l ps)) (woHand l h (goPlace r l ps)) gs l' h' → Goes r ps z l h ((l.getD (goPlace r l ps) (0, 0)).1 :: gs) l' h'
def A_C_resize (G : Glob) (Cc : Addr) : AX := fun xs W Φ Ξ => ∃ (a P : Addr) (c : CV) (f : OC → List (Addr × OC)) (d : PyData), xs = [.r (.ref a), .d d] ∧ Cut a (.ins Cc (insF c P)) W.c f ∧ c.l.length ≤ 100 ∧ (numD d 1 6 = false → Ξ "BadSize" none W) ∧
  ∀ z : Nat, d = .int (z : Int) → 1 ≤ z → z ≤ 6 → (z < c.ps.length → Ξ "NoRoom" none W) ∧ (¬ z < c.ps.length → ∃ gs l' h', Goes c.r c.ps z c.l c.h gs l' h' ∧ ∀ L, Φ (.r (.ref L)) ⟨(L, .lst ((gs.map PyData.int).map VX.d)) :: f (.ins Cc (insF { c with s := z, l := l', h := h' } P)), W.g⟩)
def A_C_holds (Cc : Addr) : AT := fun xs W Φ => ∃ (a P : Addr) (c : CV) (f : OC → List (Addr × OC)), xs = [.r (.ref a)] ∧ Cut a (.ins Cc (insF c P)) W.c f ∧ c.l.length < 64 ∧ Φ (.d (heldD c.l)) W
def A_C_order (Cc : Addr) : AT := fun xs W Φ => ∃ (a P : Addr) (c : CV) (f : OC → List (Addr × OC)), xs = [.r (.ref a)] ∧ Cut a (.ins Cc (insF c P)) W.c f ∧ c.l.length ≤ 1000 ∧ Φ (.d (.tuple ((c.l.map (·.1)).map .int))) W
def A_C_pins (Cc : Addr) : AT := fun xs W Φ => ∃ (a P : Addr) (c : CV) (f : OC → List (Addr × OC)), xs = [.r (.ref a)] ∧ Cut a (.ins Cc (insF c P)) W.c f ∧ ∀ L, Φ (.r (.ref L)) ⟨(L, .lst ((c.ps.map PyData.int).map VX.d)) :: W.c, W.g⟩
def A_C_counts (Cc : Addr) : AT := fun xs W Φ => ∃ (a P : Addr) (c : CV) (f : OC → List (Addr × OC)), xs = [.r (.ref a)] ∧ Cut a (.ins Cc (insF c P)) W.c f ∧ Φ (.d (.tuple [.int (c.n : Int), .int (c.m : Int)])) W
def A_C_mark (G : Glob) (Cc : Addr) : AX := fun xs W Φ Ξ => ∃ (a P : Addr) (c : CV) (f f2 : OC → List (Addr × OC)) (d : PyData) (pts : List (Key × CV)), xs = [.r (.ref a), .d d] ∧ Cut a (.ins Cc (insF c P)) W.c f ∧ Cut P (.dK (ptsX pts)) W.c f2 ∧ pts.length < 1000 ∧ (∀ z, d = .str z → z.length ≤ 1000) ∧
  (∀ z, d = .str z → nameB z = true → Φ (.d .none) ⟨f2 (.dK (putKX (ptsX pts) (.inr z) (.d (ptD c)))), W.g⟩) ∧ ((∀ z, d = .str z → nameB z = false) → Ξ "BadName" none W)
def A_C_go (G : Glob) (Cc : Addr) : AX := fun xs W Φ Ξ => ∃ (a P : Addr) (c : CV) (f f2 : OC → List (Addr × OC)) (d : PyData) (pts : List (Key × CV)), xs = [.r (.ref a), .d d] ∧ Cut a (.ins Cc (insF c P)) W.c f ∧ Cut P (.dK (ptsX pts)) W.c f2 ∧
  ((∀ z, d = .str z → valX (ptsX pts) (.inr z) = none) → Ξ "NoPoint" none W) ∧ ∀ z c', d = .str z → valX (ptsX pts) (.inr z) = some (.d (ptD c')) → Φ (.d .none) ⟨f (.ins Cc (insF { c' with r := c.r } P)), W.g⟩
def sp_check_page (G : Glob) (ea : Str → Addr) : Sp := SPECX G.K ea (A_check_page G)
def sp_check_name (G : Glob) (ea : Str → Addr) : Sp := SPECX G.K ea (A_check_name G)
def sp_C__held_place (G : Glob) (ea : Str → Addr) (Cc : Addr) : Sp := SPECX G.K ea (A_C__held_place G Cc)
def sp_C__set_free (G : Glob) (Cc : Addr) : Sp := SPEC0 G.K (A_C__set_free Cc)
def sp_C___init__ (G : Glob) (ea : Str → Addr) (Cc : Addr) : Sp := SPECX G.K ea (A_C___init__ G Cc)
def sp_C_ask (G : Glob) (ea : Str → Addr) (Cc : Addr) : Sp := SPECX G.K ea (A_C_ask G Cc)
def sp_C_pin (G : Glob) (ea : Str → Addr) (Cc : Addr) : Sp := SPECX G.K ea (A_C_pin G Cc)
def sp_C_unpin (G : Glob) (ea : Str → Addr) (Cc : Addr) : Sp := SPECX G.K ea (A_C_unpin G Cc)
def sp_C_drop (G : Glob) (ea : Str → Addr) (Cc : Addr) : Sp := SPECX G.K ea (A_C_drop G Cc)
def sp_C_resize (G : Glob) (ea : Str → Addr) (Cc : Addr) : Sp := SPECX G.K ea (A_C_resize G Cc)
def sp_C_holds (G : Glob) (Cc : Addr) : Sp := SPEC0 G.K (A_C_holds Cc)
def sp_C_order (G : Glob) (Cc : Addr) : Sp := SPEC0 G.K (A_C_order Cc)
def sp_C_pins (G : Glob) (Cc : Addr) : Sp := SPEC0 G.K (A_C_pins Cc)
def sp_C_counts (G : Glob) (Cc : Addr) : Sp := SPEC0 G.K (A_C_counts Cc)
def sp_C_mark (G : Glob) (ea : Str → Addr) (Cc : Addr) : Sp := SPECX G.K ea (A_C_mark G Cc)
def sp_C_go (G : Glob) (ea : Str → Addr) (Cc : Addr) : Sp := SPECX G.K ea (A_C_go G Cc)
def t_check_page (G : Glob) (ea : Str → Addr) (E : XK) : TS := (tIfS (tNot (tB (tCall (sp_is_number G) [] E0 (tCons (tVar 0) (tCons (tC (.int 0)) (tCons (tOp kSub (tC (.int 10)) (tC (.int 1))) tNil)))))) (tRs (tFS ((tC (.str "a page is a number from 0 to ")) :: ((tFmt (tOp kSub (tC (.int 10)) (tC (.int 1)))) :: []))) (ea "BadPage") E) tNext)
def t_check_name (G : Glob) (ea : Str → Addr) (E : XK) : TS := (tSeq (tIfS (tOr (tNot (tB (tCB (rIsi G.K) (tCons (tVar 0) (tCons (tC (.ty "str")) tNil))))) (tNot (tTest (tChain kLe kLe (tC (.int 1)) (tCB DW.bLenS (tCons (tVar 0) tNil)) (tC (.int 8)))))) (tRs (tFS ((tC (.str "a name has 1 to ")) :: ((tFmt (tC (.int 8))) :: ((tC (.str " letters")) :: [])))) (ea "BadName") E) tNext)
    (tFor (iStr (tVar 0)) (gName 1) (tIfS (tNot (tTest (tChain DW.kLeS DW.kLeS (tC (.str "a")) (tVar 1) (tC (.str "z"))))) (tRs (tC (.str "a name has letters from a to z")) (ea "BadName") E) tNext)))
def t_C__held_place (G : Glob) (ea : Str → Addr) (Cc : Addr) (E : XK) : TS := (tSeq (tDrop (tCall (sp_check_page G ea) [] E (tCons (tVar 1) tNil)))
    (tSeq (tAsg (tCall (sp_place_of G) [] E0 (tCons (tOp (rIxT G.K) (tFld G.K (tVar 0) "state") (tC (.int 0))) (tCons (tVar 1) tNil))) (gName 2))
    (tSeq (tIfS (tTest (tOp kIsN (tVar 2) (tC .non))) (tRs (tC (.str "this page isn't held")) (ea "BadPage") E) tNext)
    (tRet (tVar 2)))))
def t_C__set_free (G : Glob) (Cc : Addr) : TS := (sFld G.K (tVar 0) (tCB (bTuple G.K) (tCons (tLc (iTup G.K (tFld G.K (tVar 0) "staying")) (gName 2) (tTest (tOp kNe (tVar 2) (tVar 1))) (tVar 2) [2]) tNil)) "staying")
def t_C___init__ (G : Glob) (ea : Str → Addr) (Cc : Addr) (E : XK) : TS := (tSeq (tDrop (tCall (sp_check_rule G ea) [] E (tCons (tVar 1) tNil)))
    (tSeq (tDrop (tCall (sp_check_size G ea) [] E (tCons (tVar 2) tNil)))
    (tSeq (sFld G.K (tVar 0) (tVar 1) "rule")
    (tSeq (sFld G.K (tVar 0) (tVar 2) "size")
    (tSeq (sFld G.K (tVar 0) (tC (.ref G.aEMPTY)) "state")
    (tSeq (sFld G.K (tVar 0) (tTup tNil) "staying")
    (tSeq (sFld G.K (tVar 0) (tC (.int 0)) "asked")
    (tSeq (sFld G.K (tVar 0) (tC (.int 0)) "missed")
    (sFld G.K (tVar 0) tDNewK "points")))))))))
def t_C_ask (G : Glob) (ea : Str → Addr) (Cc : Addr) (E : XK) : TS := (tSeq (tDrop (tCall (sp_check_page G ea) [] E (tCons (tVar 1) tNil)))
    (tSeq (tAsg (tOp (rIxT G.K) (tFld G.K (tVar 0) "state") (tC (.int 0))) (gName 2))
    (tSeq (tAsg (tOp kNotN (tCall (sp_place_of G) [] E0 (tCons (tVar 2) (tCons (tVar 1) tNil))) (tC .non)) (gName 3))
    (tSeq (tIfS (tAnd (tNot (tB (tVar 3))) (tAnd (tTest (tOp kEq (tCB (bLen G.K) (tCons (tVar 2) tNil)) (tFld G.K (tVar 0) "size"))) (tTest (tOp kEq (tCB (bLen G.K) (tCons (tFld G.K (tVar 0) "staying") tNil)) (tFld G.K (tVar 0) "size"))))) (tRs (tC (.str "one must go, and all that are held must stay")) (ea "NoRoom") E) tNext)
    (tSeq (tAsg (tCall (sp_step G) [] E0 (tCons (tFld G.K (tVar 0) "rule") (tCons (tFld G.K (tVar 0) "size") (tCons (tFld G.K (tVar 0) "state") (tCons (tVar 1) (tCons (tFld G.K (tVar 0) "staying") tNil)))))) (gTup G.K 3 (gCons (gName 4) (gCons (gName 5) (gCons (gFld G.K (tVar 0) "state") gNil)))))
    (tSeq (sFldAug G.K (tVar 0) (tC (.int 1)) rAdd "asked")
    (tSeq (tIfS (tNot (tB (tVar 4))) (sFldAug G.K (tVar 0) (tC (.int 1)) rAdd "missed") tNext)
    (tRet (tTup (tCons (tVar 4) (tCons (tVar 5) tNil)))))))))))
def t_C_pin (G : Glob) (ea : Str → Addr) (Cc : Addr) (E : XK) : TS := (tSeq (tDrop (tMeth Cc "_held_place" (sp_C__held_place G ea Cc) [] E (tVar 0) (tCons (tVar 1) tNil)))
    (tIfS (tTest (tOp (kNotIn G.K) (tVar 1) (tFld G.K (tVar 0) "staying"))) (sFld G.K (tVar 0) (tCB (bTuple G.K) (tCons (tCB (rSortedT G.K) (tCons (tOp (rCatA G.K) (tFld G.K (tVar 0) "staying") (tTup (tCons (tVar 1) tNil))) tNil)) tNil)) "staying") tNext))
def t_C_unpin (G : Glob) (ea : Str → Addr) (Cc : Addr) (E : XK) : TS := (tSeq (tDrop (tMeth Cc "_held_place" (sp_C__held_place G ea Cc) [] E (tVar 0) (tCons (tVar 1) tNil)))
    (tSeq (tAsg (tOp (kIn G.K) (tVar 1) (tFld G.K (tVar 0) "staying")) (gName 2))
    (tSeq (tDrop (tMeth Cc "_set_free" (sp_C__set_free G Cc) [] E0 (tVar 0) (tCons (tVar 1) tNil)))
    (tRet (tVar 2)))))
def t_C_drop (G : Glob) (ea : Str → Addr) (Cc : Addr) (E : XK) : TS := (tSeq (tAsg (tMeth Cc "_held_place" (sp_C__held_place G ea Cc) [] E (tVar 0) (tCons (tVar 1) tNil)) (gName 2))
    (tSeq (sFld G.K (tVar 0) (tCall (sp_without G) [] E0 (tCons (tFld G.K (tVar 0) "state") (tCons (tVar 2) tNil))) "state")
    (tDrop (tMeth Cc "_set_free" (sp_C__set_free G Cc) [] E0 (tVar 0) (tCons (tVar 1) tNil)))))
def t_C_resize (G : Glob) (ea : Str → Addr) (Cc : Addr) (E : XK) : TS := (tSeq (tDrop (tCall (sp_check_size G ea) [] E (tCons (tVar 1) tNil)))
    (tSeq (tIfS (tTest (tOp kGt (tCB (bLen G.K) (tCons (tFld G.K (tVar 0) "staying") tNil)) (tVar 1))) (tRs (tC (.str "more must stay than there will be room for")) (ea "NoRoom") E) tNext)
    (tSeq (sFld G.K (tVar 0) (tVar 1) "size")
    (tSeq (tAsg (tLst tNil) (gName 2))
    (tSeq (tWhile (tTest (tOp kGt (tCB (bLen G.K) (tCons (tOp (rIxT G.K) (tFld G.K (tVar 0) "state") (tC (.int 0))) tNil)) (tVar 1))) (tSeq (tAsg (tCall (sp_let_go G) [] E0 (tCons (tFld G.K (tVar 0) "rule") (tCons (tFld G.K (tVar 0) "state") (tCons (tFld G.K (tVar 0) "staying") tNil)))) (gTup G.K 2 (gCons (gName 3) (gCons (gFld G.K (tVar 0) "state") gNil))))
    (tDrop (tBM G.K "list" rAppend (tVar 2) (tCons (tVar 3) tNil)))))
    (tRet (tVar 2)))))))
def t_C_holds (G : Glob) (Cc : Addr) : TS := (tRet (tCall (sp_pages_held G) [] E0 (tCons (tFld G.K (tVar 0) "state") tNil)))
def t_C_order (G : Glob) (Cc : Addr) : TS := (tRet (tCB (bTuple G.K) (tCons (tLc (iTup G.K (tOp (rIxT G.K) (tFld G.K (tVar 0) "state") (tC (.int 0)))) (gName 1) tYes (tOp (rIxT G.K) (tVar 1) (tC (.int 0))) [1]) tNil)))
def t_C_pins (G : Glob) (Cc : Addr) : TS := (tRet (tCB (bList G.K) (tCons (tFld G.K (tVar 0) "staying") tNil)))
def t_C_counts (G : Glob) (Cc : Addr) : TS := (tRet (tTup (tCons (tFld G.K (tVar 0) "asked") (tCons (tFld G.K (tVar 0) "missed") tNil))))
def t_C_mark (G : Glob) (ea : Str → Addr) (Cc : Addr) (E : XK) : TS := (tSeq (tDrop (tCall (sp_check_name G ea) [] E (tCons (tVar 1) tNil)))
    (sDPut (tFld G.K (tVar 0) "points") (tVar 1) (tTup (tCons (tFld G.K (tVar 0) "size") (tCons (tFld G.K (tVar 0) "state") (tCons (tFld G.K (tVar 0) "staying") (tCons (tFld G.K (tVar 0) "asked") (tCons (tFld G.K (tVar 0) "missed") tNil))))))))
def t_C_go (G : Glob) (ea : Str → Addr) (Cc : Addr) (E : XK) : TS := (tSeq (tIfS (tOr (tNot (tB (tCB (rIsi G.K) (tCons (tVar 1) (tCons (tC (.ty "str")) tNil))))) (tB (tDNotIn (tVar 1) (tFld G.K (tVar 0) "points")))) (tRs (tC (.str "nothing is marked so")) (ea "NoPoint") E) tNext)
    (tAsg (tDGet (tFld G.K (tVar 0) "points") (tVar 1)) (gTup G.K 5 (gCons (gFld G.K (tVar 0) "size") (gCons (gFld G.K (tVar 0) "state") (gCons (gFld G.K (tVar 0) "staying") (gCons (gFld G.K (tVar 0) "asked") (gCons (gFld G.K (tVar 0) "missed") gNil))))))))
theorem check_page_ok (G : Glob) (ea : Str → Addr) (E : XK) (xs : List VX) (W : Wd) (Φ : VX → Wd → Prop) (Ξ : Str → Option (Str × VX) → Wd → Prop) (h : A_check_page G xs W Φ Ξ) : xs.length = 1 ∧ WS G.K ⟨E, ea, Ξ⟩ (t_check_page G ea E) (st0 xs 0) W (P0 Φ) := by
  obtain ⟨d, rfl, q1, q2⟩ := h
  refine ⟨rfl, ?_⟩
  unfold t_check_page
  walk_at "ev"
  refine wb_spec0 ⟨d, 0, 10 - 1, rfl, ?_⟩
  rw [show ((10 : Int) - 1) = 9 from rfl]
  walk_at "ev"
  cases c : numD d 0 9 with
  | true =>
    refine bF ?_
    walk_at "ev"
    exact q1 c
  | false =>
    refine bT ?_
    refine ws_rsJ (X := ⟨E, ea, Ξ⟩) (fun σ H M R s h => ?_) (q2 c)
    refine r_jC (by decide) ?_
    refine r_jN (n := 9) (by decide) (fun R h => ⟨10, 1, rfl, rfl, h⟩) (by decide) ?_
    exact h
theorem str_or (d : PyData) : (∃ z, d = .str z) ∨ ∀ z, d ≠ .str z := by
  cases d with
  | str z => exact .inl ⟨z, rfl⟩
  | _ => exact .inr fun z e => nomatch e
theorem isi_str {d : PyData} (h : ∀ z, d ≠ .str z) : isiB (tyD d) "str" = false := by
  cases d with
  | str z => exact absurd rfl (h z)
  | _ => rfl
theorem check_name_ok (G : Glob) (ea : Str → Addr) (E : XK) (xs : List VX) (W : Wd) (Φ : VX → Wd → Prop) (Ξ : Str → Option (Str × VX) → Wd → Prop) (h : A_check_name G xs W Φ Ξ) : xs.length = 1 ∧ WS G.K ⟨E, ea, Ξ⟩ (t_check_name G ea E) (st0 xs 1) W (P0 Φ) := by
  obtain ⟨d, rfl, q0, q1, q2⟩ := h
  refine ⟨rfl, ?_⟩
  unfold t_check_name
  walk_at "ev"
  refine wb_isi (by decide) ?_
  have msg : ∀ {τ : Ts} {P : Pst} {W : Wd}, Ξ "BadName" none W → WS G.K ⟨E, ea, Ξ⟩ (tRs (tFS ((tC (.str "a name has 1 to ")) :: ((tFmt (tC (.int 8))) :: ((tC (.str " letters")) :: [])))) (ea "BadName") E) τ W P := fun q => by
    refine ws_rsJ (X := ⟨E, ea, Ξ⟩) (fun σ H M R s h => ?_) q
    refine r_jC (by decide) ?_
    refine r_jN (n := 8) (by decide) (fun R h => h) (by decide) ?_
    refine r_jC (by decide) ?_
    exact h
  rcases str_or d with ⟨z, rfl⟩ | hn
  · rw [show isiB (tyD (PyData.str z)) "str" = true from rfl]
    walk_at "ev"
    have hz := q0 z rfl
    refine bF' ?_
    walk_at "ev"
    refine we_chain ?_
    walk_at "ev"
    refine wb_lenS (Nat.le_trans hz (by decide)) ?_
    walk_at "ev"
    have out : nameB z = false → Ξ "BadName" none W := fun e => q2 fun z' e' => by rw [← PyData.str.inj e']; exact e
    have nm : nameB z = (decide (1 ≤ z.length) && (decide (z.length ≤ 8) && (List.range z.cps.size).all fun i => letterB (signS z i))) := rfl
    refine bD (fun c1 => ?_) (fun c1 => ?_)
    · walk_at "ev"
      have d1 : decide (1 ≤ z.length) = true := decide_eq_true (by omega)
      rw [d1, Bool.true_and] at nm
      by_cases c2 : z.length ≤ 8
      · rw [decide_eq_true c2, Bool.true_and] at nm
        rw [decide_eq_true (show (z.length : Int) ≤ 8 by omega)]
        refine bF ?_
        walk_at "ev"
        refine wi_str ?_
        walk_at "ev"
        refine ⟨z, rfl, fun i τ' W' => i ≤ z.cps.size ∧ W' = W ∧ (∃ u1, τ' = [some (.d (.str z)), u1]) ∧ ∀ j, j < i → letterB (signS z j) = true, ⟨Nat.zero_le _, rfl, ⟨none, rfl⟩, fun j hj => absurd hj (Nat.not_lt_zero _)⟩, fun _ _ _ _ _ => trivial, ?_, ?_⟩
        · rintro i τ' W' hi ⟨_, rfl, ⟨u1, rfl⟩, all⟩
          walk_at "ev"
          refine we_chain ?_
          walk_at "ev"
          refine w2_leS ?_
          have bad : letterB (signS z i) = false → Ξ "BadName" none W' := fun e => out (by
            rw [nm, List.all_eq_false]
            exact ⟨i, List.mem_range.mpr hi, by rw [e]; exact Bool.false_ne_true⟩)
          have le : letterB (signS z i) = (leS "a" (signS z i) && leS (signS z i) "z") := rfl
          cases c3 : leS "a" (signS z i) with
          | false =>
            rw [c3] at le
            refine ⟨false, by rw [← c3]; rfl, fun z => (by cases z), fun _ => ?_⟩
            walk_at "ev"
            refine bT ?_
            refine ws_rs (X := ⟨E, ea, Ξ⟩) ?_
            walk_at "ev"
            exact bad le
          | true =>
            rw [c3] at le
            refine ⟨true, by rw [← c3]; rfl, fun _ => ?_, fun z => (by cases z)⟩
            walk_at "ev"
            refine w2_leS ?_
            cases c4 : leS (signS z i) "z" with
            | false =>
              rw [c4] at le
              refine ⟨false, by rw [← c4]; rfl, ?_⟩
              refine bT ?_
              refine ws_rs (X := ⟨E, ea, Ξ⟩) ?_
              walk_at "ev"
              exact bad le
            | true =>
              rw [c4] at le
              refine ⟨true, by rw [← c4]; rfl, ?_⟩
              refine bF ?_
              walk_at "ev"
              refine ⟨hi, rfl, ⟨_, rfl⟩, fun j hj => ?_⟩
              by_cases e : j = i
              · rw [e]; exact le
              · exact all j (by omega)
        · rintro τ' W' ⟨_, rfl, ⟨u1, rfl⟩, all⟩
          refine q1 z rfl ?_
          rw [nm, List.all_eq_true]
          exact fun j hj => all j (List.mem_range.mp hj)
      · rw [decide_eq_false c2, Bool.false_and] at nm
        rw [decide_eq_false (show ¬ (z.length : Int) ≤ 8 by omega)]
        refine bT ?_
        exact msg (out nm)
    · rw [decide_eq_false (show ¬ 1 ≤ z.length by omega), Bool.false_and] at nm
      walk_at "ev"
      refine bT ?_
      exact msg (out nm)
  · rw [isi_str hn]
    walk_at "ev"
    refine bT' ?_
    refine bT ?_
    exact msg (q2 fun z e => absurd e (hn z))
theorem numD_page {d : PyData} (h : numD d 0 9 = true) : ∃ p, d = .int p ∧ 0 ≤ p ∧ p ≤ 9 := numD_int h
theorem C__held_place_ok (G : Glob) (ea : Str → Addr) {Cc : Addr} (HC : ClsC G.K Cc) (E : XK) (xs : List VX) (W : Wd) (Φ : VX → Wd → Prop) (Ξ : Str → Option (Str × VX) → Wd → Prop) (h : A_C__held_place G Cc xs W Φ Ξ) : xs.length = 2 ∧ WS G.K ⟨E, ea, Ξ⟩ (t_C__held_place G ea Cc E) (st0 xs 1) W (P0 Φ) := by
  obtain ⟨a, P, c, f, d, rfl, o, q1, q2⟩ := h
  refine ⟨rfl, ?_⟩
  unfold t_C__held_place
  walk_at "ec"
  refine wb_specX (X := ⟨E, ea, Ξ⟩) ⟨d, rfl, fun hp => ?_, q1⟩
  obtain ⟨p, rfl, p0, p9⟩ := numD_page hp
  obtain ⟨q3, q4⟩ := q2 p rfl p0 p9
  walk_at "ec"
  refine w2_ixT (i := ((0 : Nat) : Int)) rfl ?_
  walk_at "ec"
  refine wb_spec0 ⟨c.l, p, rfl, ?_⟩
  walk_at "ec"
  cases e : placeOf c.l p with
  | none =>
    refine bT ?_
    refine ws_rs (X := ⟨E, ea, Ξ⟩) ?_
    walk_at "ec"
    exact q3 e
  | some k =>
    refine bF ?_
    walk_at "ec"
    exact q4 k e
theorem range_get (ps : List Int) : (List.range ps.length).map (fun i => ps.getD i 0) = ps := by
  apply List.ext_getElem
  · simp
  · intro i h1 h2
    simp at h1
    simp [List.getElem?_eq_getElem h1]
theorem free_map (p : Int) (ps : List Int) : (List.range ps.length).filterMap (fun i => if (!decide (ps.getD i 0 = p)) = true then some (PyData.int (ps.getD i 0)) else none) = (ps.filter fun q => !decide (q = p)).map .int := by
  rw [show (fun i => if (!decide (ps.getD i 0 = p)) = true then some (PyData.int (ps.getD i 0)) else none) = (fun q : Int => if (!decide (q = p)) = true then some (PyData.int q) else none) ∘ (fun i => ps.getD i 0) from rfl, ← List.filterMap_map, range_get]
  induction ps with
  | nil => rfl
  | cons x ps ih =>
    simp only [List.filterMap_cons, List.filter_cons]
    cases c : (!decide (x = p)) with
    | false => simp only [Bool.false_eq_true, if_false]; exact ih
    | true => simp only [if_true, List.map_cons]; rw [ih]
theorem C__set_free_ok (G : Glob) (X : XC) {Cc : Addr} (HC : ClsC G.K Cc) (xs : List VX) (W : Wd) (Φ : VX → Wd → Prop) (h : A_C__set_free Cc xs W Φ) : xs.length = 2 ∧ WS G.K X (t_C__set_free G Cc) (st0 xs 1) W (P0 Φ) := by
  obtain ⟨a, P, c, f, p, rfl, o, hl, q⟩ := h
  refine ⟨rfl, ?_⟩
  unfold t_C__set_free
  refine fs_staying HC ?_
  walk_at "ec"
  refine we_lcM ?_
  walk_at "ec"
  refine ⟨by rw [List.length_map]; omega, trivial, fun i => if (!decide (c.ps.getD i 0 = p)) = true then some (.int (c.ps.getD i 0)) else none, (c.ps.filter fun q => !decide (q = p)).map .int, fun i hi => ?_, ?_, ?_⟩
  · rw [List.length_map] at hi
    have eg : (c.ps.map PyData.int).getD i .none = .int (c.ps.getD i 0) := by rw [List.getD_eq_getElem?_getD, List.getD_eq_getElem?_getD, List.getElem?_map, List.getElem?_eq_getElem hi]; rfl
    refine ⟨[(2, .d (.int (c.ps.getD i 0)))], ?_, fun p hp => by rw [List.mem_singleton.mp hp]; exact List.mem_singleton.mpr rfl, ?_⟩
    · dsimp only
      rw [eg]
      exact cg_name
    walk_at "ec"
    cases e : decide (c.ps.getD i 0 = p) with
    | true => exact ⟨rfl, fun z => (by cases z), fun _ => by show (if (!decide (c.ps.getD i 0 = p)) = true then _ else _) = _; rw [e]; rfl⟩
    | false =>
      refine ⟨rfl, fun _ => ?_, fun z => (by cases z)⟩
      walk_at "ec"
      exact ⟨rfl, _, rfl, by show (if (!decide (c.ps.getD i 0 = p)) = true then _ else _) = _; rw [e]; rfl⟩
  · rw [List.length_map]
    exact free_map p c.ps
  · walk_at "ec"
    exact ⟨a, P, c, f, _, rfl, rfl, o, q⟩
theorem C___init___ok (G : Glob) (ea : Str → Addr) {Cc : Addr} (HC : ClsC G.K Cc) (E : XK) (xs : List VX) (W : Wd) (Φ : VX → Wd → Prop) (Ξ : Str → Option (Str × VX) → Wd → Prop) (h : A_C___init__ G Cc xs W Φ Ξ) : xs.length = 3 ∧ WS G.K ⟨E, ea, Ξ⟩ (t_C___init__ G ea Cc E) (st0 xs 0) W (P0 Φ) := by
  obtain ⟨a, f, dr, dz, rfl, o, C, q1, q2, q3⟩ := h
  refine ⟨rfl, ?_⟩
  unfold t_C___init__
  walk_at "ec"
  refine wb_specX (X := ⟨E, ea, Ξ⟩) ⟨dr, rfl, C, fun hr => ?_, q1⟩
  walk_at "ec"
  refine wb_specX (X := ⟨E, ea, Ξ⟩) ⟨dz, rfl, fun hz => ?_, q2 hr⟩
  obtain ⟨s, rfl, s1, s6⟩ := numD_nat (lo := 1) (hi := 6) hz
  obtain ⟨r, rfl⟩ := hr
  have q := q3 r s rfl rfl s1 s6
  walk_at "ec"
  refine ws_fld HC.cls HC.rule ?_
  walk_at "ec"
  refine ⟨a, _, f, rfl, o, by decide, ?_⟩
  walk_at "ec"
  refine ws_fld HC.cls HC.size ?_
  walk_at "ec"
  refine ⟨a, _, f, rfl, o.up, Nat.lt_of_le_of_lt (Nat.le_of_eq rfl) (by decide : 1 < 1000), ?_⟩
  walk_at "ec"
  refine ws_fld HC.cls HC.state ?_
  refine we_c (x := .d (stateD [] 0)) C.empty ?_
  walk_at "ec"
  refine ⟨a, _, f, rfl, o.up, Nat.lt_of_le_of_lt (Nat.le_of_eq rfl) (by decide : 2 < 1000), ?_⟩
  walk_at "ec"
  refine ws_fld HC.cls HC.staying ?_
  walk_at "ec"
  refine ⟨a, _, f, rfl, o.up, Nat.lt_of_le_of_lt (Nat.le_of_eq rfl) (by decide : 3 < 1000), ?_⟩
  walk_at "ec"
  refine ws_fld HC.cls HC.asked ?_
  walk_at "ec"
  refine ⟨a, _, f, rfl, o.up, Nat.lt_of_le_of_lt (Nat.le_of_eq rfl) (by decide : 4 < 1000), ?_⟩
  walk_at "ec"
  refine ws_fld HC.cls HC.missed ?_
  walk_at "ec"
  refine ⟨a, _, f, rfl, o.up, Nat.lt_of_le_of_lt (Nat.le_of_eq rfl) (by decide : 5 < 1000), ?_⟩
  walk_at "ec"
  refine ws_fld HC.cls HC.points ?_
  refine we_dnew fun P => ?_
  walk_at "ec"
  refine ⟨a, _, _, rfl, .tl o.up, Nat.lt_of_le_of_lt (Nat.le_of_eq rfl) (by decide : 6 < 1000), ?_⟩
  exact q P
theorem C_ask_ok (G : Glob) (ea : Str → Addr) {Cc : Addr} (HC : ClsC G.K Cc) (E : XK) (xs : List VX) (W : Wd) (Φ : VX → Wd → Prop) (Ξ : Str → Option (Str × VX) → Wd → Prop) (h : A_C_ask G Cc xs W Φ Ξ) : xs.length = 2 ∧ WS G.K ⟨E, ea, Ξ⟩ (t_C_ask G ea Cc E) (st0 xs 4) W (P0 Φ) := by
  obtain ⟨a, P, c, f, d, sw, rfl, o, hl, q1, q2⟩ := h
  refine ⟨rfl, ?_⟩
  unfold t_C_ask
  walk_at "ec"
  refine wb_specX (X := ⟨E, ea, Ξ⟩) ⟨d, rfl, fun hp => ?_, q1⟩
  obtain ⟨p, rfl, p0, p9⟩ := numD_page hp
  obtain ⟨q3, q4⟩ := q2 p rfl p0 p9
  walk_at "ec"
  refine w2_ixT (i := ((0 : Nat) : Int)) rfl ?_
  walk_at "ec"
  refine wb_spec0 ⟨c.l, p, rfl, ?_⟩
  walk_at "ec"
  have rl : (c.l.map rowD).length = c.l.length := rowsD_len c.l
  have step : ¬ Full c p → WS G.K ⟨E, ea, Ξ⟩ (tSeq (tAsg (tCall (sp_step G) [] E0 (tCons (tFld G.K (tVar 0) "rule") (tCons (tFld G.K (tVar 0) "size") (tCons (tFld G.K (tVar 0) "state") (tCons (tVar 1) (tCons (tFld G.K (tVar 0) "staying") tNil)))))) (gTup G.K 3 (gCons (gName 4) (gCons (gName 5) (gCons (gFld G.K (tVar 0) "state") gNil)))))
    (tSeq (sFldAug G.K (tVar 0) (tC (.int 1)) rAdd "asked")
    (tSeq (tIfS (tNot (tB (tVar 4))) (sFldAug G.K (tVar 0) (tC (.int 1)) rAdd "missed") tNext)
    (tRet (tTup (tCons (tVar 4) (tCons (tVar 5) tNil))))))) [some (.r (.ref a)), some (.d (.int p)), some (.d (rowsD c.l)), some (.d (.bool (!isNon (plD (placeOf c.l p))))), none, none] W (P0 Φ) := fun nf => by
    obtain ⟨s1, q5⟩ := q4 nf
    walk_at "ec"
    refine wb_spec0 ⟨c.r, c.s, c.l, c.h, p, c.ps, sw, rfl, hl, s1, ?_⟩
    walk_at "ec"
    refine fg_state HC rfl o ?_
    walk_at "ec"
    refine fa_asked HC rfl o.up ?_
    walk_at "ec"
    cases eh : (stepP c.ps sw c.r c.s c.l c.h p).held with
    | true =>
      refine bF ?_
      unfold CV.asks at q5
      rw [eh] at q5
      walk_at "ec"
      exact q5
    | false =>
      refine bT ?_
      unfold CV.asks at q5
      rw [eh] at q5
      refine fa_missed HC rfl o.up ?_
      walk_at "ec"
      exact q5
  cases e : placeOf c.l p with
  | some k =>
    have st := step fun z => by rw [z.1] at e; cases e
    rw [e] at st
    refine bF ?_
    refine bF ?_
    exact ws_next st
  | none =>
    rw [e] at step
    refine bT ?_
    walk_at "ec"
    rw [rl]
    by_cases c1 : c.l.length = c.s
    · rw [decide_eq_true (show (c.l.length : Int) = (c.s : Int) by omega)]
      refine bT ?_
      walk_at "ec"
      have pl : (c.ps.map PyData.int).length = c.ps.length := List.length_map ..
      rw [pl]
      by_cases c2 : c.ps.length = c.s
      · rw [decide_eq_true (show (c.ps.length : Int) = (c.s : Int) by omega)]
        refine bT ?_
        refine ws_rs (X := ⟨E, ea, Ξ⟩) ?_
        walk_at "ec"
        exact q3 ⟨e, c1, c2⟩
      · rw [decide_eq_false (show ¬ (c.ps.length : Int) = (c.s : Int) by omega)]
        refine bF ?_
        exact ws_next (step fun z => c2 z.2.2)
    · rw [decide_eq_false (show ¬ (c.l.length : Int) = (c.s : Int) by omega)]
      refine bF ?_
      refine bF ?_
      exact ws_next (step fun z => c1 z.2.1)
end CB.N

namespace CB.N
open PySem PySem.Spec PyProof.Rows L2 DW CB2
local macro_rules | `(tactic| walk_at "e1") => `(tactic| (with_reducible first
  | refine ws_seq ?_ | refine ws_asg ?_ | refine ws_asgG ?_ | refine ws_ret ?_ | refine ws_retN ?_ | refine ws_drop ?_ | refine ws_ifs ?_ | refine ws_par ?_
  | refine we_int ?_ | refine we_bl ?_ | refine we_str ?_ | refine we_non ?_ | refine we_ty ?_ | refine we_op ?_ | refine wa_nil ?_ | refine wa_cons ?_ | refine we_tup ?_ | refine we_notV ?_ | refine we_andV ?_ | refine we_orV ?_ | refine we_ifE ?_ | refine we_neg ?_
  | refine wt_test ?_ | refine wt_B ?_ | refine wt_tru ?_ | refine wt_and ?_ | refine wt_or ?_ | refine wt_not ?_ | refine wt_yes ?_ | refine we_sl ?_ | refine wo_none ?_ | refine wo_some ?_ | refine we_call ?_ | refine we_CB ?_
  | refine wg_name ?_ | refine wgs_nil ?_ | refine wgs_cons ?_ | refine wg_tup2 ?_ | refine wg_tup3 ?_ | refine ws_for ?_ | refine wi_tup ?_ | refine wi_rng1 ?_ | refine wi_rng2 ?_ | refine wi_enumT ?_
  | refine w2_add ?_ | refine w2_sub ?_ | refine w2_lt ?_ | refine w2_le ?_ | refine w2_gt ?_ | refine w2_ge ?_ | refine w2_eqI ?_ | refine w2_neI ?_ | refine w2_eqS ?_ | refine w2_isN ?_ | refine w2_notN ?_ | refine w2_inT ?_ | refine w2_notInT ?_ | refine w2_inL ?_ | refine w2_notInL ?_
  | refine exB ?_ | refine exI ?_ | refine exT ?_ | refine exL ?_ | refine exI1 ?_ | refine exT1 ?_ | refine exV ?_ | refine exA0 ?_ | refine exA1 ?_ | refine exA2 ?_ | refine exA3 ?_ | refine exA4 ?_ | refine exA5 ?_ | refine exA6 ?_ | refine exA7 ?_ | refine bT ?_ | refine bF ?_ | refine bT' ?_ | refine bF' ?_
  | refine w3_slA ?_ | refine wb_lenT ?_ | refine wb_lenL ?_ | refine wb_listT ?_ | refine wb_tupL ?_ | refine ws_next ?_
  | refine we_var (by with_unfolding_all rfl) ?_))
local macro_rules | `(tactic| walk_at "ev") => `(tactic| (repeat (walk_at "e1")))

local macro_rules | `(tactic| walk_at "f1") => `(tactic| (with_reducible first
  | refine fe_rule (by assumption) (by with_unfolding_all rfl) (by first | assumption | exact Cut.up (by assumption)) ?_ | refine fe_size (by assumption) (by with_unfolding_all rfl) (by first | assumption | exact Cut.up (by assumption)) ?_
  | refine fe_state (by assumption) (by with_unfolding_all rfl) (by first | assumption | exact Cut.up (by assumption)) ?_ | refine fe_staying (by assumption) (by with_unfolding_all rfl) (by first | assumption | exact Cut.up (by assumption)) ?_
  | refine fe_asked (by assumption) (by with_unfolding_all rfl) (by first | assumption | exact Cut.up (by assumption)) ?_ | refine fe_missed (by assumption) (by with_unfolding_all rfl) (by first | assumption | exact Cut.up (by assumption)) ?_
  | refine fe_points (by assumption) (by with_unfolding_all rfl) (by first | assumption | exact Cut.up (by assumption)) ?_))
local macro_rules | `(tactic| walk_at "ec") => `(tactic| (repeat (first | walk_at "e1" | walk_at "f1")))
theorem _root_.DW.Cut.back {a : Addr} {o : OC} {c : List (Addr × OC)} {f : OC → List (Addr × OC)} (h : Cut a o c f) : f o = c := by
  induction h with
  | hd => rfl
  | tl _ ih => exact congrArg _ ih
theorem C_pin_ok (G : Glob) (ea : Str → Addr) {Cc : Addr} (HC : ClsC G.K Cc) (E : XK) (xs : List VX) (W : Wd) (Φ : VX → Wd → Prop) (Ξ : Str → Option (Str × VX) → Wd → Prop) (h : A_C_pin G Cc xs W Φ Ξ) : xs.length = 2 ∧ WS G.K ⟨E, ea, Ξ⟩ (t_C_pin G ea Cc E) (st0 xs 0) W (P0 Φ) := by
  obtain ⟨a, P, c, f, d, rfl, o, hl, q1, q2⟩ := h
  refine ⟨rfl, ?_⟩
  unfold t_C_pin
  walk_at "ec"
  refine we_meth ?_
  walk_at "ec"
  refine ⟨a, _, f, rfl, o, rfl, ?_⟩
  walk_at "ec"
  refine wb_specX (X := ⟨E, ea, Ξ⟩) ⟨a, P, c, f, d, rfl, o, q1, fun p ep p0 p9 => ⟨(q2 p ep p0 p9).1, fun k ek => ?_⟩⟩
  subst ep
  have q := (q2 p rfl p0 p9).2 ⟨k, ek⟩
  walk_at "ec"
  by_cases hm : p ∈ c.ps
  · rw [if_pos hm] at q
    rw [decide_eq_true hm]
    refine bF ?_
    walk_at "ec"
    rw [show f (.ins Cc (insF { c with ps := c.ps } P)) = W.c from o.back] at q
    exact q
  · rw [if_neg hm] at q
    rw [decide_eq_false hm]
    refine bT ?_
    refine fs_staying HC ?_
    walk_at "ec"
    refine w2_catA (by simp; omega) ?_
    walk_at "ec"
    rw [show c.ps.map PyData.int ++ [PyData.int p] = (c.ps ++ [p]).map .int by simp]
    refine wb_sortedT (ns := c.ps ++ [p]) (by simp; omega) fun ms pm pw => ?_
    walk_at "ec"
    refine ⟨a, P, c, f, ms, rfl, rfl, o, ?_⟩
    rw [isort_of pm pw]
    exact q
theorem C_unpin_ok (G : Glob) (ea : Str → Addr) {Cc : Addr} (HC : ClsC G.K Cc) (E : XK) (xs : List VX) (W : Wd) (Φ : VX → Wd → Prop) (Ξ : Str → Option (Str × VX) → Wd → Prop) (h : A_C_unpin G Cc xs W Φ Ξ) : xs.length = 2 ∧ WS G.K ⟨E, ea, Ξ⟩ (t_C_unpin G ea Cc E) (st0 xs 1) W (P0 Φ) := by
  obtain ⟨a, P, c, f, d, rfl, o, hl, q1, q2⟩ := h
  refine ⟨rfl, ?_⟩
  unfold t_C_unpin
  walk_at "ec"
  refine we_meth ?_
  walk_at "ec"
  refine ⟨a, _, f, rfl, o, rfl, ?_⟩
  walk_at "ec"
  refine wb_specX (X := ⟨E, ea, Ξ⟩) ⟨a, P, c, f, d, rfl, o, q1, fun p ep p0 p9 => ⟨(q2 p ep p0 p9).1, fun k ek => ?_⟩⟩
  subst ep
  have q := (q2 p rfl p0 p9).2 ⟨k, ek⟩
  walk_at "ec"
  refine we_meth ?_
  walk_at "ec"
  refine ⟨a, _, f, rfl, o, rfl, ?_⟩
  walk_at "ec"
  refine wb_spec0 ⟨a, P, c, f, p, rfl, o, hl, ?_⟩
  walk_at "ec"
  exact q
theorem C_drop_ok (G : Glob) (ea : Str → Addr) {Cc : Addr} (HC : ClsC G.K Cc) (E : XK) (xs : List VX) (W : Wd) (Φ : VX → Wd → Prop) (Ξ : Str → Option (Str × VX) → Wd → Prop) (h : A_C_drop G Cc xs W Φ Ξ) : xs.length = 2 ∧ WS G.K ⟨E, ea, Ξ⟩ (t_C_drop G ea Cc E) (st0 xs 1) W (P0 Φ) := by
  obtain ⟨a, P, c, f, d, rfl, o, hl, hr, q1, q2⟩ := h
  refine ⟨rfl, ?_⟩
  unfold t_C_drop
  walk_at "ec"
  refine we_meth ?_
  walk_at "ec"
  refine ⟨a, _, f, rfl, o, rfl, ?_⟩
  walk_at "ec"
  refine wb_specX (X := ⟨E, ea, Ξ⟩) ⟨a, P, c, f, d, rfl, o, q1, fun p ep p0 p9 => ⟨(q2 p ep p0 p9).1, fun k ek => ?_⟩⟩
  subst ep
  have q := (q2 p rfl p0 p9).2 k ek
  obtain ⟨x, hx, _⟩ := placeOf_lt ek
  have kl : k < c.l.length := (List.getElem?_eq_some_iff.mp hx).1
  walk_at "ec"
  refine fs_state HC ?_
  walk_at "ec"
  refine wb_spec0 ⟨c.l, c.h, k, rfl, kl, hr, ?_⟩
  refine ⟨a, P, c, f, _, _, rfl, rfl, o, ?_⟩
  walk_at "ec"
  refine we_meth ?_
  walk_at "ec"
  refine ⟨a, _, f, rfl, o.up, rfl, ?_⟩
  walk_at "ec"
  refine wb_spec0 ⟨a, P, _, f, p, rfl, o.up, hl, ?_⟩
  exact q
theorem C_holds_ok (G : Glob) (X : XC) {Cc : Addr} (HC : ClsC G.K Cc) (xs : List VX) (W : Wd) (Φ : VX → Wd → Prop) (h : A_C_holds Cc xs W Φ) : xs.length = 1 ∧ WS G.K X (t_C_holds G Cc) (st0 xs 0) W (P0 Φ) := by
  obtain ⟨a, P, c, f, rfl, o, hl, q⟩ := h
  refine ⟨rfl, ?_⟩
  unfold t_C_holds
  walk_at "ec"
  exact wb_pages G hl q
theorem C_order_ok (G : Glob) (X : XC) {Cc : Addr} (HC : ClsC G.K Cc) (xs : List VX) (W : Wd) (Φ : VX → Wd → Prop) (h : A_C_order Cc xs W Φ) : xs.length = 1 ∧ WS G.K X (t_C_order G Cc) (st0 xs 1) W (P0 Φ) := by
  obtain ⟨a, P, c, f, rfl, o, hl, q⟩ := h
  refine ⟨rfl, ?_⟩
  unfold t_C_order
  walk_at "ec"
  refine we_lcM ?_
  walk_at "ec"
  refine w2_ixT (i := ((0 : Nat) : Int)) rfl ?_
  walk_at "ec"
  have ml := rowsD_len c.l
  refine ⟨by omega, trivial, fun i => some (.int (rowAt c.l i).1), (c.l.map (·.1)).map .int, fun i hi => ?_, ?_, ?_⟩
  · rw [ml] at hi
    have hx := rowAt_some hi
    refine ⟨[(1, .d (rowD (rowAt c.l i)))], ?_, fun p hp => by rw [List.mem_singleton.mp hp]; exact List.mem_singleton.mpr rfl, ?_⟩
    · dsimp only
      rw [rows_getD hx]
      exact cg_name
    · refine wt_yes ⟨rfl, fun _ => ?_, fun z => by cases z⟩
      walk_at "ec"
      exact w2_ixT (i := ((0 : Nat) : Int)) rfl ⟨rfl, _, rfl, rfl⟩
  · rw [ml]
    have e : (fun i => some (PyData.int (rowAt c.l i).1)) = some ∘ (fun i => PyData.int (rowAt c.l i).1) := rfl
    rw [e, List.filterMap_eq_map, ← map_rowAt (fun x => x.1) c.l, List.map_map]
    rfl
  · walk_at "ec"
    exact q
theorem C_pins_ok (G : Glob) (X : XC) {Cc : Addr} (HC : ClsC G.K Cc) (xs : List VX) (W : Wd) (Φ : VX → Wd → Prop) (h : A_C_pins Cc xs W Φ) : xs.length = 1 ∧ WS G.K X (t_C_pins G Cc) (st0 xs 0) W (P0 Φ) := by
  obtain ⟨a, P, c, f, rfl, o, q⟩ := h
  refine ⟨rfl, ?_⟩
  unfold t_C_pins
  walk_at "ec"
  exact fun L => q L
theorem C_counts_ok (G : Glob) (X : XC) {Cc : Addr} (HC : ClsC G.K Cc) (xs : List VX) (W : Wd) (Φ : VX → Wd → Prop) (h : A_C_counts Cc xs W Φ) : xs.length = 1 ∧ WS G.K X (t_C_counts G Cc) (st0 xs 0) W (P0 Φ) := by
  obtain ⟨a, P, c, f, rfl, o, q⟩ := h
  refine ⟨rfl, ?_⟩
  unfold t_C_counts
  walk_at "ec"
  exact q
theorem C_mark_ok (G : Glob) (ea : Str → Addr) {Cc : Addr} (HC : ClsC G.K Cc) (E : XK) (xs : List VX) (W : Wd) (Φ : VX → Wd → Prop) (Ξ : Str → Option (Str × VX) → Wd → Prop) (h : A_C_mark G Cc xs W Φ Ξ) : xs.length = 2 ∧ WS G.K ⟨E, ea, Ξ⟩ (t_C_mark G ea Cc E) (st0 xs 0) W (P0 Φ) := by
  obtain ⟨a, P, c, f, f2, d, pts, rfl, o, o2, hl, q0, q1, q2⟩ := h
  refine ⟨rfl, ?_⟩
  unfold t_C_mark
  walk_at "ec"
  refine wb_specX (X := ⟨E, ea, Ξ⟩) ⟨d, rfl, q0, fun z ez hz => ?_, q2⟩
  subst ez
  have q := q1 z rfl hz
  walk_at "ec"
  refine ws_dput ?_
  walk_at "ec"
  refine ⟨P, _, f2, .inr z, rfl, rfl, o2, by unfold ptsX; rw [List.length_map]; exact hl, ?_⟩
  exact q
theorem pts_get {k : Key} {y : VX} : ∀ {pts : List (Key × CV)}, valX (ptsX pts) k = some y → ∃ c', y = .d (ptD c')
  | [], h => nomatch h
  | (g, c) :: r, h => by
    have h : ((ptsX ((g, c) :: r)).find? fun kv => decide (kv.1 = k)).map (·.2) = some y := h
    have e : ptsX ((g, c) :: r) = (g, .d (ptD c)) :: ptsX r := rfl
    rw [e] at h
    by_cases z : g = k
    · rw [List.find?_cons_of_pos (by exact decide_eq_true z)] at h
      exact ⟨c, (Option.some.inj h).symm⟩
    · rw [List.find?_cons_of_neg (by exact fun q => z (of_decide_eq_true q))] at h
      exact pts_get (pts := r) h
theorem C_go_ok (G : Glob) (ea : Str → Addr) {Cc : Addr} (HC : ClsC G.K Cc) (E : XK) (xs : List VX) (W : Wd) (Φ : VX → Wd → Prop) (Ξ : Str → Option (Str × VX) → Wd → Prop) (h : A_C_go G Cc xs W Φ Ξ) : xs.length = 2 ∧ WS G.K ⟨E, ea, Ξ⟩ (t_C_go G ea Cc E) (st0 xs 0) W (P0 Φ) := by
  obtain ⟨a, P, c, f, f2, d, pts, rfl, o, o2, q1, q2⟩ := h
  refine ⟨rfl, ?_⟩
  unfold t_C_go
  walk_at "ec"
  refine wb_isi (by decide) ?_
  rcases str_or d with ⟨z, rfl⟩ | hn
  · rw [show isiB (tyD (PyData.str z)) "str" = true from rfl]
    walk_at "ec"
    refine bF' ?_
    walk_at "ec"
    refine we_dnotin ?_
    walk_at "ec"
    refine ⟨P, _, f2, .inr z, rfl, rfl, o2, ?_⟩
    walk_at "ec"
    cases e : valX (ptsX pts) (.inr z) with
    | none =>
      refine bT ?_
      refine ws_rs (X := ⟨E, ea, Ξ⟩) ?_
      walk_at "ec"
      exact q1 fun z' e' => by rw [← PyData.str.inj e']; exact e
    | some y =>
      refine bF ?_
      walk_at "ec"
      refine we_dget ?_
      walk_at "ec"
      obtain ⟨c', rfl⟩ := pts_get e
      refine ⟨P, _, f2, .inr z, _, rfl, rfl, o2, e, ?_⟩
      unfold ptD
      refine wg_tup rfl ?_
      refine wgs_cons (fg_size HC rfl o ?_)
      refine wgs_cons (fg_state HC rfl o.up ?_)
      refine wgs_cons (fg_staying HC rfl o.up ?_)
      refine wgs_cons (fg_asked HC rfl o.up ?_)
      refine wgs_cons (fg_missed HC rfl o.up ?_)
      refine wgs_nil ?_
      exact q2 z c' rfl e
  · rw [isi_str hn]
    walk_at "ec"
    refine bT' ?_
    refine bT ?_
    refine ws_rs (X := ⟨E, ea, Ξ⟩) ?_
    walk_at "ec"
    exact q1 fun z e => absurd e (hn z)
theorem C_resize_ok (G : Glob) (ea : Str → Addr) {Cc : Addr} (HC : ClsC G.K Cc) (E : XK) (xs : List VX) (W : Wd) (Φ : VX → Wd → Prop) (Ξ : Str → Option (Str × VX) → Wd → Prop) (h : A_C_resize G Cc xs W Φ Ξ) : xs.length = 2 ∧ WS G.K ⟨E, ea, Ξ⟩ (t_C_resize G ea Cc E) (st0 xs 2) W (P0 Φ) := by
  obtain ⟨a, P, c, f, d, rfl, o, hl, q1, q2⟩ := h
  refine ⟨rfl, ?_⟩
  unfold t_C_resize
  walk_at "ec"
  refine wb_specX (X := ⟨E, ea, Ξ⟩) ⟨d, rfl, fun hz => ?_, q1⟩
  obtain ⟨z, rfl, z1, z6⟩ := numD_nat (lo := 1) (hi := 6) hz
  obtain ⟨q3, q4⟩ := q2 z rfl z1 z6
  have pl : (c.ps.map PyData.int).length = c.ps.length := List.length_map ..
  walk_at "ec"
  rw [pl]
  by_cases c1 : z < c.ps.length
  · rw [decide_eq_true (show (z : Int) < (c.ps.length : Int) by omega)]
    refine bT ?_
    refine ws_rs (X := ⟨E, ea, Ξ⟩) ?_
    walk_at "ec"
    exact q3 c1
  · rw [decide_eq_false (show ¬ (z : Int) < (c.ps.length : Int) by omega)]
    refine bF ?_
    obtain ⟨gs, l', h', gg, q⟩ := q4 c1
    refine ws_next ?_
    refine ws_seq ?_
    refine fs_size HC ?_
    walk_at "ec"
    refine ⟨a, P, c, f, z, rfl, rfl, o, ?_⟩
    walk_at "ec"
    refine we_lstO (wa_nil ⟨Nat.zero_le _, fun L => ?_⟩)
    walk_at "ec"
    refine ws_while (fun m τ' W' => ∃ (l : List Row) (h : Nat) (g1 g2 : List Int) (u3 : Option VX), m = l.length ∧ l.length ≤ 100 ∧ g1.length + l.length ≤ 100 ∧ τ' = [some (.r (.ref a)), some (.d (.int (z : Int))), some (.r (.ref L)), u3] ∧ W' = ⟨(L, .lst ((g1.map PyData.int).map VX.d)) :: f (.ins Cc (insF { c with s := z, l := l, h := h } P)), W.g⟩ ∧ Goes c.r c.ps z l h g2 l' h' ∧ g1 ++ g2 = gs) c.l.length ⟨c.l, c.h, [], gs, none, rfl, hl, by simpa using hl, rfl, rfl, gg, rfl⟩ ?_
    rintro m τ' W' ⟨l, h, g1, g2, u3, rfl, hl2, hg, rfl, rfl, gs2, rfl⟩
    have o2 : Cut a (.ins Cc (insF { c with s := z, l := l, h := h } P)) ((L, OC.lst ((g1.map PyData.int).map VX.d)) :: f (.ins Cc (insF { c with s := z, l := l, h := h } P))) fun o' => (L, OC.lst ((g1.map PyData.int).map VX.d)) :: f o' := .tl o.up
    walk_at "ec"
    refine w2_ixT (i := ((0 : Nat) : Int)) rfl ?_
    walk_at "ec"
    rw [rowsD_len]
    have fin : ∀ (g : Int) (l2 : List Row) (h2 : Nat) (g3 : List Int) (P' : Pst), l2.length < l.length → Goes c.r c.ps z l2 h2 g3 l' h' →
        (∀ τ2 W2, (∃ m, m < l.length ∧ ∃ (l : List Row) (h : Nat) (g1' g2 : List Int) (u3 : Option VX), m = l.length ∧ l.length ≤ 100 ∧ g1'.length + l.length ≤ 100 ∧ τ2 = [some (.r (.ref a)), some (.d (.int (z : Int))), some (.r (.ref L)), u3] ∧ W2 = ⟨(L, .lst ((g1'.map PyData.int).map VX.d)) :: f (.ins Cc (insF { c with s := z, l := l, h := h } P)), W.g⟩ ∧ Goes c.r c.ps z l h g2 l' h' ∧ g1' ++ g2 = g1 ++ (g :: g3)) → P'.nx τ2 W2) →
        WG G.K ⟨E, ea, Ξ⟩ (gTup G.K 2 (gCons (gName 3) (gCons (gFld G.K (tVar 0) "state") gNil))) (.d (.tuple [.int g, stateD l2 h2])) [some (.r (.ref a)), some (.d (.int (z : Int))), some (.r (.ref L)), u3] ⟨(L, OC.lst ((g1.map PyData.int).map VX.d)) :: f (.ins Cc (insF { c with s := z, l := l, h := h } P)), W.g⟩
          fun τ1 W1 => WS G.K ⟨E, ea, Ξ⟩ (tDrop (tBM G.K "list" rAppend (tVar 2) (tCons (tVar 3) tNil))) τ1 W1 P' := fun g l2 h2 g3 P' lt gg2 hP => by
      walk_at "ec"
      refine fg_state HC rfl o2 ?_
      walk_at "ec"
      refine we_append ?_
      walk_at "ec"
      refine ⟨L, _, _, rfl, .hd, ?_⟩
      walk_at "ec"
      refine ⟨_, _, _, rfl, .hd, by rw [List.length_map, List.length_map]; omega, ?_⟩
      refine hP _ _ ⟨l2.length, lt, l2, h2, g1 ++ [g], g3, _, rfl, by omega, by rw [List.length_append]; simp; omega, rfl, ?_, gg2, by simp⟩
      rw [dmap_snoc PyData.int g1 g]
    cases gs2 with
    | done hz2 =>
      rw [decide_eq_false (show ¬ (z : Int) < (l'.length : Int) by omega)]
      refine bF ?_
      walk_at "ec"
      rw [List.append_nil] at q
      exact q L
    | @clock l l' h h' gs sw fu c2 c3 c4 c5 c6 =>
      rw [decide_eq_true (show (z : Int) < (l.length : Int) by omega)]
      refine bT ?_
      walk_at "ec"
      refine wb_spec0 ⟨c.r, l, h, c.ps, sw, rfl, hl2, ⟨fun _ => ⟨c4, fu, c5⟩, fun n => absurd c3 n⟩, fun _ => ?_, fun n => absurd c3 n⟩
      have n1 := sweepP_len c5
      have n2 := sweepP_lt c4 c5
      exact fin _ _ _ _ _ (by rw [outL_len (by omega)]; omega) c6 fun _ _ z => z
    | @other l l' h h' gs c2 c3 c4 c6 =>
      rw [decide_eq_true (show (z : Int) < (l.length : Int) by omega)]
      refine bT ?_
      walk_at "ec"
      refine wb_spec0 ⟨c.r, l, h, c.ps, ([], 0), rfl, hl2, ⟨fun n => absurd n c3, fun _ => c4⟩, fun n => absurd n c3, fun _ => ?_⟩
      have n2 := goPlace_lt c3 c4
      exact fin _ _ _ _ _ (by rw [outL_len n2]; omega) c6 fun _ _ z => z
theorem len_check_page (G : Glob) (ea : Str → Addr) (vs : List V) (H : Hp) (Q : VK) (E : XK) (h : sp_check_page G ea vs H Q E) : vs.length = 1 := lenX (fun xs W Φ Ξ a => (check_page_ok G ea E xs W Φ Ξ a).1) vs H Q E h
theorem rd_check_page {N : List Str} (hN : N.length = 1) (G : Glob) (ea : Str → Addr) (vs : List V) (H : Hp) (Q : VK) (E : XK) (h : sp_check_page G ea vs H Q E) : t_check_page G ea E { nx := fun _ H' => Q .non H', rt := Q } (L2.start N vs) H := rdX (k := 1) (tE := t_check_page G ea) hN (fun E => check_page_ok G ea E) vs H Q E h
theorem len_check_name (G : Glob) (ea : Str → Addr) (vs : List V) (H : Hp) (Q : VK) (E : XK) (h : sp_check_name G ea vs H Q E) : vs.length = 1 := lenX (fun xs W Φ Ξ a => (check_name_ok G ea E xs W Φ Ξ a).1) vs H Q E h
theorem rd_check_name {N : List Str} (hN : N.length = 2) (G : Glob) (ea : Str → Addr) (vs : List V) (H : Hp) (Q : VK) (E : XK) (h : sp_check_name G ea vs H Q E) : t_check_name G ea E { nx := fun _ H' => Q .non H', rt := Q } (L2.start N vs) H := rdX (k := 1) (tE := t_check_name G ea) hN (fun E => check_name_ok G ea E) vs H Q E h
theorem len_C__held_place (G : Glob) (ea : Str → Addr) {Cc : Addr} (HC : ClsC G.K Cc) (vs : List V) (H : Hp) (Q : VK) (E : XK) (h : sp_C__held_place G ea Cc vs H Q E) : vs.length = 2 := lenX (fun xs W Φ Ξ a => (C__held_place_ok G ea HC E xs W Φ Ξ a).1) vs H Q E h
theorem rd_C__held_place {N : List Str} (hN : N.length = 3) (G : Glob) (ea : Str → Addr) {Cc : Addr} (HC : ClsC G.K Cc) (vs : List V) (H : Hp) (Q : VK) (E : XK) (h : sp_C__held_place G ea Cc vs H Q E) : t_C__held_place G ea Cc E { nx := fun _ H' => Q .non H', rt := Q } (L2.start N vs) H := rdX (k := 2) (tE := t_C__held_place G ea Cc) hN (fun E => C__held_place_ok G ea HC E) vs H Q E h
theorem len_C__set_free (G : Glob) {Cc : Addr} (HC : ClsC G.K Cc) (vs : List V) (H : Hp) (Q : VK) (E : XK) (h : sp_C__set_free G Cc vs H Q E) : vs.length = 2 := len0 (fun xs W Φ a => (C__set_free_ok G ⟨E, fun _ => 0, fun _ _ _ => False⟩ HC xs W Φ a).1) vs H Q E h
theorem rd_C__set_free {N : List Str} (hN : N.length = 3) (G : Glob) {Cc : Addr} (HC : ClsC G.K Cc) (vs : List V) (H : Hp) (Q : VK) (E : XK) (h : sp_C__set_free G Cc vs H Q E) : t_C__set_free G Cc { nx := fun _ H' => Q .non H', rt := Q } (L2.start N vs) H := rd0 (k := 2) hN (fun X => C__set_free_ok G X HC) vs H Q E h
theorem len_C___init__ (G : Glob) (ea : Str → Addr) {Cc : Addr} (HC : ClsC G.K Cc) (vs : List V) (H : Hp) (Q : VK) (E : XK) (h : sp_C___init__ G ea Cc vs H Q E) : vs.length = 3 := lenX (fun xs W Φ Ξ a => (C___init___ok G ea HC E xs W Φ Ξ a).1) vs H Q E h
theorem rd_C___init__ {N : List Str} (hN : N.length = 3) (G : Glob) (ea : Str → Addr) {Cc : Addr} (HC : ClsC G.K Cc) (vs : List V) (H : Hp) (Q : VK) (E : XK) (h : sp_C___init__ G ea Cc vs H Q E) : t_C___init__ G ea Cc E { nx := fun _ H' => Q .non H', rt := Q } (L2.start N vs) H := rdX (k := 3) (tE := t_C___init__ G ea Cc) hN (fun E => C___init___ok G ea HC E) vs H Q E h
theorem len_C_ask (G : Glob) (ea : Str → Addr) {Cc : Addr} (HC : ClsC G.K Cc) (vs : List V) (H : Hp) (Q : VK) (E : XK) (h : sp_C_ask G ea Cc vs H Q E) : vs.length = 2 := lenX (fun xs W Φ Ξ a => (C_ask_ok G ea HC E xs W Φ Ξ a).1) vs H Q E h
theorem rd_C_ask {N : List Str} (hN : N.length = 6) (G : Glob) (ea : Str → Addr) {Cc : Addr} (HC : ClsC G.K Cc) (vs : List V) (H : Hp) (Q : VK) (E : XK) (h : sp_C_ask G ea Cc vs H Q E) : t_C_ask G ea Cc E { nx := fun _ H' => Q .non H', rt := Q } (L2.start N vs) H := rdX (k := 2) (tE := t_C_ask G ea Cc) hN (fun E => C_ask_ok G ea HC E) vs H Q E h
theorem len_C_pin (G : Glob) (ea : Str → Addr) {Cc : Addr} (HC : ClsC G.K Cc) (vs : List V) (H : Hp) (Q : VK) (E : XK) (h : sp_C_pin G ea Cc vs H Q E) : vs.length = 2 := lenX (fun xs W Φ Ξ a => (C_pin_ok G ea HC E xs W Φ Ξ a).1) vs H Q E h
theorem rd_C_pin {N : List Str} (hN : N.length = 2) (G : Glob) (ea : Str → Addr) {Cc : Addr} (HC : ClsC G.K Cc) (vs : List V) (H : Hp) (Q : VK) (E : XK) (h : sp_C_pin G ea Cc vs H Q E) : t_C_pin G ea Cc E { nx := fun _ H' => Q .non H', rt := Q } (L2.start N vs) H := rdX (k := 2) (tE := t_C_pin G ea Cc) hN (fun E => C_pin_ok G ea HC E) vs H Q E h
theorem len_C_unpin (G : Glob) (ea : Str → Addr) {Cc : Addr} (HC : ClsC G.K Cc) (vs : List V) (H : Hp) (Q : VK) (E : XK) (h : sp_C_unpin G ea Cc vs H Q E) : vs.length = 2 := lenX (fun xs W Φ Ξ a => (C_unpin_ok G ea HC E xs W Φ Ξ a).1) vs H Q E h
theorem rd_C_unpin {N : List Str} (hN : N.length = 3) (G : Glob) (ea : Str → Addr) {Cc : Addr} (HC : ClsC G.K Cc) (vs : List V) (H : Hp) (Q : VK) (E : XK) (h : sp_C_unpin G ea Cc vs H Q E) : t_C_unpin G ea Cc E { nx := fun _ H' => Q .non H', rt := Q } (L2.start N vs) H := rdX (k := 2) (tE := t_C_unpin G ea Cc) hN (fun E => C_unpin_ok G ea HC E) vs H Q E h
theorem len_C_drop (G : Glob) (ea : Str → Addr) {Cc : Addr} (HC : ClsC G.K Cc) (vs : List V) (H : Hp) (Q : VK) (E : XK) (h : sp_C_drop G ea Cc vs H Q E) : vs.length = 2 := lenX (fun xs W Φ Ξ a => (C_drop_ok G ea HC E xs W Φ Ξ a).1) vs H Q E h
theorem rd_C_drop {N : List Str} (hN : N.length = 3) (G : Glob) (ea : Str → Addr) {Cc : Addr} (HC : ClsC G.K Cc) (vs : List V) (H : Hp) (Q : VK) (E : XK) (h : sp_C_drop G ea Cc vs H Q E) : t_C_drop G ea Cc E { nx := fun _ H' => Q .non H', rt := Q } (L2.start N vs) H := rdX (k := 2) (tE := t_C_drop G ea Cc) hN (fun E => C_drop_ok G ea HC E) vs H Q E h
theorem len_C_resize (G : Glob) (ea : Str → Addr) {Cc : Addr} (HC : ClsC G.K Cc) (vs : List V) (H : Hp) (Q : VK) (E : XK) (h : sp_C_resize G ea Cc vs H Q E) : vs.length = 2 := lenX (fun xs W Φ Ξ a => (C_resize_ok G ea HC E xs W Φ Ξ a).1) vs H Q E h
theorem rd_C_resize {N : List Str} (hN : N.length = 4) (G : Glob) (ea : Str → Addr) {Cc : Addr} (HC : ClsC G.K Cc) (vs : List V) (H : Hp) (Q : VK) (E : XK) (h : sp_C_resize G ea Cc vs H Q E) : t_C_resize G ea Cc E { nx := fun _ H' => Q .non H', rt := Q } (L2.start N vs) H := rdX (k := 2) (tE := t_C_resize G ea Cc) hN (fun E => C_resize_ok G ea HC E) vs H Q E h
theorem len_C_holds (G : Glob) {Cc : Addr} (HC : ClsC G.K Cc) (vs : List V) (H : Hp) (Q : VK) (E : XK) (h : sp_C_holds G Cc vs H Q E) : vs.length = 1 := len0 (fun xs W Φ a => (C_holds_ok G ⟨E, fun _ => 0, fun _ _ _ => False⟩ HC xs W Φ a).1) vs H Q E h
theorem rd_C_holds {N : List Str} (hN : N.length = 1) (G : Glob) {Cc : Addr} (HC : ClsC G.K Cc) (vs : List V) (H : Hp) (Q : VK) (E : XK) (h : sp_C_holds G Cc vs H Q E) : t_C_holds G Cc { nx := fun _ H' => Q .non H', rt := Q } (L2.start N vs) H := rd0 (k := 1) hN (fun X => C_holds_ok G X HC) vs H Q E h
theorem len_C_order (G : Glob) {Cc : Addr} (HC : ClsC G.K Cc) (vs : List V) (H : Hp) (Q : VK) (E : XK) (h : sp_C_order G Cc vs H Q E) : vs.length = 1 := len0 (fun xs W Φ a => (C_order_ok G ⟨E, fun _ => 0, fun _ _ _ => False⟩ HC xs W Φ a).1) vs H Q E h
theorem rd_C_order {N : List Str} (hN : N.length = 2) (G : Glob) {Cc : Addr} (HC : ClsC G.K Cc) (vs : List V) (H : Hp) (Q : VK) (E : XK) (h : sp_C_order G Cc vs H Q E) : t_C_order G Cc { nx := fun _ H' => Q .non H', rt := Q } (L2.start N vs) H := rd0 (k := 1) hN (fun X => C_order_ok G X HC) vs H Q E h
theorem len_C_pins (G : Glob) {Cc : Addr} (HC : ClsC G.K Cc) (vs : List V) (H : Hp) (Q : VK) (E : XK) (h : sp_C_pins G Cc vs H Q E) : vs.length = 1 := len0 (fun xs W Φ a => (C_pins_ok G ⟨E, fun _ => 0, fun _ _ _ => False⟩ HC xs W Φ a).1) vs H Q E h
theorem rd_C_pins {N : List Str} (hN : N.length = 1) (G : Glob) {Cc : Addr} (HC : ClsC G.K Cc) (vs : List V) (H : Hp) (Q : VK) (E : XK) (h : sp_C_pins G Cc vs H Q E) : t_C_pins G Cc { nx := fun _ H' => Q .non H', rt := Q } (L2.start N vs) H := rd0 (k := 1) hN (fun X => C_pins_ok G X HC) vs H Q E h
theorem len_C_counts (G : Glob) {Cc : Addr} (HC : ClsC G.K Cc) (vs : List V) (H : Hp) (Q : VK) (E : XK) (h : sp_C_counts G Cc vs H Q E) : vs.length = 1 := len0 (fun xs W Φ a => (C_counts_ok G ⟨E, fun _ => 0, fun _ _ _ => False⟩ HC xs W Φ a).1) vs H Q E h
theorem rd_C_counts {N : List Str} (hN : N.length = 1) (G : Glob) {Cc : Addr} (HC : ClsC G.K Cc) (vs : List V) (H : Hp) (Q : VK) (E : XK) (h : sp_C_counts G Cc vs H Q E) : t_C_counts G Cc { nx := fun _ H' => Q .non H', rt := Q } (L2.start N vs) H := rd0 (k := 1) hN (fun X => C_counts_ok G X HC) vs H Q E h
theorem len_C_mark (G : Glob) (ea : Str → Addr) {Cc : Addr} (HC : ClsC G.K Cc) (vs : List V) (H : Hp) (Q : VK) (E : XK) (h : sp_C_mark G ea Cc vs H Q E) : vs.length = 2 := lenX (fun xs W Φ Ξ a => (C_mark_ok G ea HC E xs W Φ Ξ a).1) vs H Q E h
theorem rd_C_mark {N : List Str} (hN : N.length = 2) (G : Glob) (ea : Str → Addr) {Cc : Addr} (HC : ClsC G.K Cc) (vs : List V) (H : Hp) (Q : VK) (E : XK) (h : sp_C_mark G ea Cc vs H Q E) : t_C_mark G ea Cc E { nx := fun _ H' => Q .non H', rt := Q } (L2.start N vs) H := rdX (k := 2) (tE := t_C_mark G ea Cc) hN (fun E => C_mark_ok G ea HC E) vs H Q E h
theorem len_C_go (G : Glob) (ea : Str → Addr) {Cc : Addr} (HC : ClsC G.K Cc) (vs : List V) (H : Hp) (Q : VK) (E : XK) (h : sp_C_go G ea Cc vs H Q E) : vs.length = 2 := lenX (fun xs W Φ Ξ a => (C_go_ok G ea HC E xs W Φ Ξ a).1) vs H Q E h
theorem rd_C_go {N : List Str} (hN : N.length = 2) (G : Glob) (ea : Str → Addr) {Cc : Addr} (HC : ClsC G.K Cc) (vs : List V) (H : Hp) (Q : VK) (E : XK) (h : sp_C_go G ea Cc vs H Q E) : t_C_go G ea Cc E { nx := fun _ H' => Q .non H', rt := Q } (L2.start N vs) H := rdX (k := 2) (tE := t_C_go G ea Cc) hN (fun E => C_go_ok G ea HC E) vs H Q E h
end CB.N

namespace CB2
open PySem PySem.Spec PyProof.Rows L2 CB
local macro_rules | `(tactic| walk_at "s1") => `(tactic| (with_reducible first
  | refine r_seq ?_ | refine r_next ?_ | refine r_asg ?_ | refine r_gname ?_ | refine r_ret ?_ | refine r_retN ?_ | refine r_drop ?_ | refine r_ifs ?_ | refine r_c ?_ | refine r_op ?_ | refine r_nil ?_ | refine r_cons ?_
  | refine r_tup ?_ | refine r_lst ?_ | refine r_test ?_ | refine r_tB ?_ | refine r_tru ?_ | refine r_exbl ?_ | refine r_tint ?_ | refine r_and ?_ | refine r_or ?_ | refine r_not ?_ | refine r_notV ?_ | refine r_andV ?_ | refine r_orV ?_ | refine r_ifE ?_ | refine r_call ?_ | refine r_callD ?_ | refine r_CB ?_
  | refine r_kAdd ?_ | refine r_kSub ?_ | refine r_kLt ?_ | refine r_kLe ?_ | refine r_kGt ?_ | refine r_kGe ?_ | refine r_eqI ?_ | refine r_neI ?_ | refine r_eqS ?_ | refine r_isN ?_ | refine r_notN ?_
  | refine r_gcons ?_ | refine r_gnil ?_ | refine r_gsub ?_ | refine r_BM ?_ | refine r_sl ?_ | refine r_nopart ?_ | refine r_part ?_ | refine r_exint ?_ | refine r_par ?_ | refine r_par2 ?_ | refine r_chain ?_
  | refine r_dget ?_ | refine r_dput ?_ | refine iteT ?_ | refine r_for ?_ | refine r_iEnumT ?_ | refine r_iTup ?_ | refine r_iList ?_ | refine r_rng1 ?_ | refine r_rng2 ?_ | refine r_lc ?_ | refine r_gtup2 ?_ | refine r_yes ?_ | refine iteF ?_ | refine r_var (by with_unfolding_all rfl) ?_))
local macro_rules | `(tactic| walk_at "go") => `(tactic| (repeat (walk_at "s1")))


/-! ### the law's own look at a stream -/
def badV : Option Nat → V
  | none => .non
  | some n => .int (n : Int)
inductive StreamB (K : PySem.W.Frag) (H : Hp) : V → Option Nat → Prop
  | tup (a : Addr) (xs : List V) : SqT K H a xs → (∀ x ∈ xs, NumV x) → xs.length ≤ 1000 → StreamB K H (.ref a) (badAt 0 xs)
  | lst (a : Addr) (xs : List V) : SqL K H a xs → (∀ x ∈ xs, NumV x) → StreamB K H (.ref a) (some 0)
  | non : StreamB K H .non (some 0)
theorem StreamB.toQ {K : PySem.W.Frag} {H : Hp} {v : V} {b : Option Nat} (h : StreamB K H v b) : StreamQ K H v b := by
  cases h with
  | tup a xs h1 h2 _ => exact .tup a xs h1 h2
  | lst a xs h n => exact .lst a xs h n
  | non => exact .non
theorem StreamB.mono {K : PySem.W.Frag} {H H' : Hp} {v : V} {b : Option Nat} (e : Same H H') (h : StreamB K H v b) : StreamB K H' v b := by
  cases h with
  | tup a xs h1 h2 h3 => exact .tup a xs (sqT_same e h1) h2 h3
  | lst a xs h n => exact .lst a xs (e.seq h) n
  | non => exact .non
def sp__law_bad (G : Glob) : Sp := fun vs H Q _ => ∃ (v : V) (b : Option Nat), vs = [v] ∧ StreamB G.K H v b ∧ Q (badV b) H
def t__law_bad (G : Glob) : TS := (tSeq (tIfS (tNot (tB (tCB (rIsi G.K) (tCons (tVar 0) (tCons (tC (.ty "tuple")) tNil))))) (tRet (tC (.int 0))) tNext)
    (tSeq (tFor (iRng1 (tCons (tCB (bLen G.K) (tCons (tVar 0) tNil)) tNil)) (gName 1) (tSeq (tAsg (tOp (rIxT G.K) (tVar 0) (tVar 1)) (gName 2))
    (tIfS (tOr (tTest (tOp kGt (tVar 1) (tC (.int 59)))) (tOr (tNot (tB (tCB (rIsi G.K) (tCons (tVar 2) (tCons (tC (.ty "int")) tNil))))) (tOr (tB (tCB (rIsi G.K) (tCons (tVar 2) (tCons (tC (.ty "bool")) tNil)))) (tNot (tTest (tChain kLe kLe (tC (.int 0)) (tVar 2) (tC (.int 9)))))))) (tRet (tVar 1)) tNext)))
    (tRet (tC .non))))
theorem len__law_bad (G : Glob) (vs : List V) (H : Hp) (Q : VK) (E : XK) (h : sp__law_bad G vs H Q E) : vs.length = 1 := by
  obtain ⟨_, _, rfl, _⟩ := h
  rfl
theorem rd__law_bad (G : Glob) (vs : List V) (H : Hp) (Q : VK) (E : XK) (h : sp__law_bad G vs H Q E) : t__law_bad G { nx := fun _ H' => Q .non H', rt := Q } (start ["_law_stream_here", "_law_k", "_law_page"] vs) H := by
  obtain ⟨v, b, rfl, hx, q⟩ := h
  unfold t__law_bad
  walk_at "go"
  cases hx with
  | non =>
    refine r_isi (b := false) (.ty "tuple") (.base .non) kt_nt ?_
    walk_at "go"
    refine ifnf ?_
    walk_at "go"
    exact q
  | lst a xs hs _ =>
    refine r_isi (b := false) (.ty "tuple") (tyL hs) kt_lt ?_
    walk_at "go"
    refine ifnf ?_
    walk_at "go"
    exact q
  | tup a xs hs hn xz =>
    refine r_isi (b := true) (.ty "tuple") (tyT hs) kt_tt ?_
    walk_at "go"
    refine ifnt ?_
    walk_at "go"
    refine r_lenT hs ?_
    refine ⟨_, rfl, by omega, by omega, ?_⟩
    rw [Int.toNat_natCast]
    refine for_range (fun i σ H' => ∃ s1 s2, σ = [some (.ref a), s1, s2] ∧ H' = H ∧ badAt 0 xs = badAt i (xs.drop i) ∧ i ≤ 60) ⟨none, none, rfl, rfl, rfl, by decide⟩ ?_ ?_
    · rintro i σ H' hi ⟨s1, s2, rfl, rfl, hb, i60⟩
      obtain ⟨x, hx⟩ : ∃ x, xs[i]? = some x := ⟨_, List.getElem?_eq_getElem hi⟩
      have hdr : xs.drop i = x :: xs.drop (i + 1) := by
        obtain ⟨hlt, e⟩ := List.getElem?_eq_some_iff.mp hx
        rw [List.drop_eq_getElem_cons hlt, e]
      rw [hdr] at hb
      have hu : badAt i (x :: xs.drop (i + 1)) = if i = 60 ∨ numIn x 0 9 = false then some i else badAt (i + 1) (xs.drop (i + 1)) := rfl
      rw [hu] at hb
      have out : (i = 60 ∨ numIn x 0 9 = false) → Q (.int (i : Int)) H' := fun c => by
        rw [hb, if_pos c] at q
        exact q
      have on : ¬ (i = 60 ∨ numIn x 0 9 = false) → ∀ u2, ∃ s1' s2', [some (V.ref a), some (.int (i : Int)), u2] = [some (V.ref a), s1', s2'] ∧ H' = H' ∧ badAt 0 xs = badAt (i + 1) (xs.drop (i + 1)) ∧ i + 1 ≤ 60 := fun c u2 =>
        ⟨_, _, rfl, rfl, hb.trans (if_neg c), by have : i ≠ 60 := fun z => c (.inl z); omega⟩
      rw [Int.zero_add]
      walk_at "go"
      refine r_ixT hs (atI_nat hx) ?_
      walk_at "go"
      refine if_dt (fun c => ?_) (fun c => ?_)
      · walk_at "go"
        exact out (.inl (by omega))
      · have n60 : i ≠ 60 := by omega
        walk_at "go"
        cases hn x (List.mem_of_getElem? hx) with
        | non =>
          refine r_isi (b := false) (.ty "int") (.base .non) kt_ni ?_
          walk_at "go"
          refine ifnf ?_
          walk_at "go"
          exact out (.inr rfl)
        | str z =>
          refine r_isi (b := false) (.ty "int") (.base (.str z)) kt_si ?_
          walk_at "go"
          refine ifnf ?_
          walk_at "go"
          exact out (.inr rfl)
        | bl z =>
          refine r_isi (b := true) (.ty "int") (.base (.bl z)) kt_bi ?_
          walk_at "go"
          refine ifnt ?_
          walk_at "go"
          refine r_isi (b := true) (.ty "bool") (.base (.bl z)) kt_bb ?_
          walk_at "go"
          exact out (.inr rfl)
        | int n =>
          refine r_isi (b := true) (.ty "int") (.base (.int n)) kt_ii ?_
          walk_at "go"
          refine ifnt ?_
          walk_at "go"
          refine r_isi (b := false) (.ty "bool") (.base (.int n)) kt_ib ?_
          walk_at "go"
          by_cases c1 : 0 ≤ n
          · rw [decide_eq_true c1, if_pos rfl]
            walk_at "go"
            by_cases c2 : n ≤ 9
            · rw [decide_eq_true c2]
              refine ifnt ?_
              have en : numIn (.int n) 0 9 = true := by
                show (decide (0 ≤ n) && decide (n ≤ 9)) = true
                rw [decide_eq_true c1, decide_eq_true c2]
                rfl
              exact on (fun z => z.elim n60 fun z => by rw [en] at z; cases z) _
            · rw [decide_eq_false c2]
              refine ifnf ?_
              walk_at "go"
              refine out (.inr ?_)
              show (decide (0 ≤ n) && decide (n ≤ 9)) = false
              rw [decide_eq_false c2, Bool.and_false]
          · rw [decide_eq_false c1, if_neg Bool.false_ne_true]
            walk_at "go"
            refine ifnf ?_
            walk_at "go"
            refine out (.inr ?_)
            show (decide (0 ≤ n) && decide (n ≤ 9)) = false
            rw [decide_eq_false c1]
            rfl
    · rintro σ H' ⟨s1, s2, rfl, rfl, hb, _⟩
      rw [List.drop_length] at hb
      walk_at "go"
      rw [hb] at q
      exact q
/-! ### the law's own run -/
def sp__law_run (G : Glob) : Sp := fun vs H Q _ => ∃ (r : Rule) (s : Nat) (a : Addr) (st : List Int), vs = [.str r.s, .int (s : Int), .ref a] ∧ 1 ≤ s ∧ s ≤ 6 ∧ SqT G.K H a (st.map V.int) ∧ st.length ≤ 60 ∧ ∀ v H', Same H H' → RunV H' v (runTo r s st) → Q v H'
def t__law_run (G : Glob) : TS := (tSeq (tPar 3 4 (tCons (tCall (sp__law_started G) [] E0 (tCons (tVar 0) (tCons (tVar 1) tNil))) (tCons (tLst tNil) tNil)))
    (tSeq (tFor (iTup G.K (tVar 2)) (gName 5) (tDrop (tBM G.K "list" rAppend (tVar 4) (tCons (tCall (sp__law_ask G) [] E0 (tCons (tVar 3) (tCons (tVar 5) (tCons (tLst tNil) tNil)))) tNil))))
    (tRet (tTup (tCons (tCB (bLen G.K) (tCons (tLc (iList G.K (tVar 4)) (gName 6) (tNot (tB (tOp (rIxT G.K) (tVar 6) (tC (.int 0))))) (tVar 6) [6]) tNil)) (tCons (tVar 4) (tCons (tCB (bTuple G.K) (tCons (tCB (rSorted G.K) (tCons (tDGet (tVar 3) (tC (.str "came"))) tNil)) tNil)) tNil)))))))
theorem len__law_run (G : Glob) (vs : List V) (H : Hp) (Q : VK) (E : XK) (h : sp__law_run G vs H Q E) : vs.length = 3 := by
  obtain ⟨_, _, _, _, rfl, _⟩ := h
  rfl
theorem tells_get : ∀ {H : Hp} {xs : List V} {ts : List (Bool × Option Int)} {i : Nat} {x : V}, TellsV H xs ts → xs[i]? = some x → ∃ t, ts[i]? = some t ∧ TellV H x t
  | _, _, _, _, _, .nil, h => by simp at h
  | _, _ :: _, t :: _, 0, x, .cons a _, h => ⟨t, rfl, by
    obtain rfl := Option.some.inj h
    exact a⟩
  | _, _ :: _, _ :: _, i + 1, x, .cons _ r, h => by
    obtain ⟨t, h1, h2⟩ := tells_get (i := i) r (by simpa using h)
    exact ⟨t, by simpa using h1, h2⟩
theorem _root_.CB.WV.outC {H : Hp} {A : WA} {r : Rule} {size n : Nat} {W : CB.W} {a : Addr} {ys : List V} {o : HO} (wv : WV H A r size W n) (ha : H a = some (.lst ys)) (hc : a ≠ A.c) : WV (upd H a o) A r size W n := by
  have d : ∀ {b : Addr} {kv : List (Key × V)}, H b = some (.dK kv) → upd H a o b = some (.dK kv) := fun {b kv} e => (upd_ne (ne_of e ha fun z => by cases z)).trans e
  exact ⟨d wv.w, (upd_ne (Ne.symm hc)).trans wv.c, let ⟨k, h1, h2⟩ := wv.a; ⟨k, d h1, h2⟩, let ⟨k, h1, h2⟩ := wv.o; ⟨k, d h1, h2⟩, let ⟨k, h1, h2⟩ := wv.m; ⟨k, d h1, h2⟩, wv.wa, wv.wo, wv.wm, wv.ao, wv.am, wv.om⟩
theorem ru_sim {r : Rule} {s : Nat} (hs : 1 ≤ s) {st : List Int} {w : W} {rs : List (Bool × Option Int)} (d : Ru r s W0 st w rs) : WOk r s w := ((ru_run hs (w0 := W0) rfl rfl d).2).ok hs
theorem asks_some {r : Rule} {s : Nat} {w w' : W} {p : Int} {res : Option (Bool × Option Int)} (hs : 1 ≤ s) (S : ∃ l h, Sim r s l h w) (a : Asks r s w [] p res w') : ∃ held gone, res = some (held, gone) := by
  obtain ⟨l, h, S⟩ := S
  exact ⟨_, _, (sim_step S hs a).1⟩
theorem rd__law_run (G : Glob) (vs : List V) (H : Hp) (Q : VK) (E : XK) (h : sp__law_run G vs H Q E) : t__law_run G { nx := fun _ H' => Q .non H', rt := Q } (start ["_law_rule_here", "_law_size", "_law_stream_here", "_law_w", "_law_rows", "_law_page", "_law_row"] vs) H := by
  obtain ⟨r, s, a, st, rfl, s1', s6, ha, hst, q⟩ := h
  unfold t__law_run
  walk_at "go"
  refine ⟨r, s, rfl, fun A H1 s1 w1 w2 w3 w4 w5 wv0 => ?_⟩
  walk_at "go"
  refine r_newL szd fun L H2 nL s2 hL => ?_
  walk_at "go"
  have nL0 : H L = none := by
    cases e : H L with
    | none => rfl
    | some o => rw [s1 _ _ e] at nL; cases nL
  have sm2 : Same H H2 := fun b o e => s2 _ _ (s1 _ _ e)
  have LA : L ≠ A.c := fun e => by rw [e, wv0.c] at nL; cases nL
  refine ⟨a, rfl, ⟨_, sqT_same sm2 ha⟩, for_tup (K := G.K) (a := a) (xs := st.map V.int) (fun i σ H' => ∃ (A' : WA) (W : CB.W) (rs : List (Bool × Option Int)) (xs : List V) (u5 u6 : Option V), σ = [some (.str r.s), some (.int (s : Int)), some (.ref a), some (.ref A.w), some (.ref L), u5, u6] ∧
    Same H H' ∧ WV H' A' r s W (4 * i) ∧ Ru r s W0 (st.take i) W rs ∧ H' L = some (.lst xs) ∧ TellsV H' xs rs ∧ xs.length = i ∧ A'.w = A.w ∧ A'.a = A.a ∧ A'.o = A.o ∧ A'.m = A.m ∧ H A'.c = none ∧ L ≠ A'.c ∧ i ≤ 60) ?_ (fun i σ H' _ ⟨_, _, _, _, _, _, _, e, _⟩ => sqT_same e ha) ?_ ?_⟩
  · exact ⟨A, W0, [], [], none, none, rfl, sm2, wv0.same s2, .nil, hL, .nil, rfl, rfl, rfl, rfl, rfl, w2, LA, by omega⟩
  · rintro i y σ H3 hy ⟨A', W, rs, xs, u5, u6, rfl, sm, wv, ru, h3, tv, xl, e1, e2, e3, e4, nc, dc, i60⟩
    obtain ⟨p, hp2, rfl⟩ : ∃ p, st[i]? = some p ∧ y = V.int p := by
      rw [List.getElem?_map] at hy
      cases e : st[i]? with
      | none => rw [e] at hy; cases hy
      | some z => rw [e] at hy; exact ⟨z, rfl, (Option.some.inj hy).symm⟩
    have hlt := (List.getElem?_eq_some_iff.mp hp2).1
    have et : st.take (i + 1) = st.take i ++ [p] := by rw [List.take_succ, hp2]; rfl
    have wok := ru_sim s1' ru
    have wl := wok.len
    walk_at "go"
    refine ⟨.inl ⟨rfl, _, SqL.of h3⟩, ?_⟩
    walk_at "go"
    refine r_newL szd fun pa H4 npa s4 hpa => ?_
    have wv4 := wv.same s4
    have h4 := s4 _ _ h3
    have sm4 : Same H H4 := fun b o e => s4 _ _ (sm _ _ e)
    walk_at "go"
    refine ⟨A', r, s, 4 * i, W, p, pa, [], by rw [e1], wv4, SqL.of hpa, by omega, by omega, wok.asked, wok.often, wok.marks, fun hr hl _ => clock_goes wok hr hl, fun res W' A'' v H5 asks fr wn wv5 rv => ?_⟩
    obtain ⟨held, gone, rfl⟩ := asks_some s1' ⟨_, _, (ru_run s1' (w0 := W0) rfl rfl ru).2⟩ asks
    obtain ⟨tb, rfl, htb⟩ := rv
    have tv4 := tv.mono s4
    obtain ⟨_, ha1, _⟩ := wv4.a
    obtain ⟨_, ho1, _⟩ := wv4.o
    obtain ⟨_, hm1, _⟩ := wv4.m
    have kp : ∀ {b : Addr} {o : HO}, H4 b = some o → b ≠ A'.c → (∀ kv, o ≠ .dK kv) → H5 b = some o := fun {b o} e c d => fr b o (ne_of e wv4.w (d _)) c (ne_of e ha1 (d _)) (ne_of e ho1 (d _)) (ne_of e hm1 (d _)) e
    have tv5 : TellsV H5 xs rs := Paired.mapP tv4 fun _ _ ⟨b, h1, h2⟩ => ⟨b, h1, kp h2 (ne_of h2 wv4.c fun z => by cases z) fun kv z => by cases z⟩
    have h5 : H5 L = some (.lst xs) := kp h4 dc fun kv z => by cases z
    have no : ∀ {b : Addr} {o : HO} {a : Addr}, H b = some o → H a = none → b ≠ a := fun {b o a} e n z => by rw [z, n] at e; cases e
    have sm5 : Same H H5 := fun b o e => fr b o (no e (by rw [e1]; exact w1)) (no e nc) (no e (by rw [e2]; exact w3)) (no e (by rw [e3]; exact w4)) (no e (by rw [e4]; exact w5)) (sm4 _ _ e)
    have dc5 : L ≠ A''.c := by
      rcases wn.c with z | z
      · rw [z]; exact dc
      · exact ne_of_none h4 z
    walk_at "go"
    refine r_append h5 (sz10' (by omega)) ?_
    refine ⟨A'', W', rs ++ [(held, gone)], xs ++ [.ref tb], _, _, rfl, sm5.mut nL0, ?_, by rw [et]; exact .snoc ru asks, upd_same, ?_, by rw [List.length_append, xl]; rfl, wn.w.trans e1, wn.a.trans e2, wn.o.trans e3, wn.m.trans e4, ?_, dc5, by omega⟩
    · rw [show 4 * (i + 1) = 4 * i + 4 from by omega]
      exact wv5.outC h5 dc5
    · exact paired_snoc (tv5.upd h5) ⟨tb, rfl, (upd_ne (ne_of htb h5 fun z => by cases z)).trans htb⟩
    · rcases wn.c with z | z
      · rw [z]; exact nc
      · cases e : H A''.c with
        | none => rfl
        | some o => rw [sm4 _ _ e] at z; cases z
  · rintro σ H3 ⟨A', W, rs, xs, u5, u6, rfl, sm, wv, ru, h3, tv, xl, e1, e2, e3, e4, nc, dc, i60⟩
    rw [List.length_map, List.take_length] at ru
    obtain ⟨ers, S⟩ := ru_run s1' (w0 := W0) rfl rfl ru
    walk_at "go"
    refine ⟨L, rfl, ⟨_, SqL.of h3⟩, fun D nD => ?_⟩
    have tl : xs.length = rs.length := tv.length
    have nD0 : H D = none := by
      cases e : H D with
      | none => rfl
      | some o => rw [sm _ _ e] at nD; cases nD
    refine lc_list (K := G.K) (a := L) (xs := xs) (fun i H' => Same H3 H' ∧ ∃ acc : List V, H' D = some (.lst acc) ∧ acc.length = misses (rs.take i) ∧ acc.length ≤ i) ⟨.new nD, [], upd_same, rfl, Nat.le_refl _⟩ (fun i H' _ ⟨e, _⟩ => SqL.of (e _ _ h3)) (fun i x H4 hx ⟨s4, acc, h4, al, ai⟩ => ?_) fun H4 ⟨s4, acc, h4, al, _⟩ => ?_
    · obtain ⟨t, ht, b, rfl, hb⟩ := tells_get tv hx
      have hil := (List.getElem?_eq_some_iff.mp hx).1
      have et : rs.take (i + 1) = rs.take i ++ [t] := by rw [List.take_succ, ht]; rfl
      have ms := misses_snoc (rs.take i) t
      walk_at "go"
      refine ⟨rfl, ?_⟩
      walk_at "go"
      refine r_ixT (SqT.of (s4 _ _ hb)) (by rfl) ?_
      walk_at "go"
      cases h : t.1 with
      | true =>
        rw [h] at ms
        refine ifnt ?_
        exact ⟨s4, acc, h4, by rw [et, ms, al]; rfl, Nat.le_succ_of_le ai⟩
      | false =>
        rw [h] at ms
        refine ifnf ?_
        walk_at "go"
        refine ⟨acc, h4, sz10' (by omega), s4.mut nD, acc ++ [.ref b], upd_same, ?_, by rw [List.length_append]; simp; omega⟩
        rw [et, ms, List.length_append, al]
        rfl
    · rw [List.take_of_length_le (by omega)] at al
      have wok := ru_sim s1' ru
      have wl := wok.len
      have wv4 := wv.same s4
      walk_at "go"
      refine r_lenL (SqL.of h4) ?_
      walk_at "go"
      refine r_dgK (by rw [← e1]; exact wv4.w) wk_came rfl ?_
      walk_at "go"
      refine ⟨A'.c, W.came, rfl, SqL.of wv4.c, by omega, fun ps p pe so np => ?_⟩
      have h5 : (upd H4 p (.lst (ps.map V.int))) p = some (.lst (ps.map V.int)) := upd_same
      have s5 : Same H4 (upd H4 p (.lst (ps.map V.int))) := .new np
      generalize upd H4 p (.lst (ps.map V.int)) = H5 at h5 s5
      walk_at "go"
      refine r_tuple_L (SqL.of h5) fun pt H6 np6 s6 hp6 => ?_
      walk_at "go"
      refine r_newT szd fun pz H7 np7 s7 hp7 => ?_
      refine q _ H7 (fun b o e => s7 _ _ (s6 _ _ (s5 _ _ (s4 _ _ (sm _ _ e))))) ⟨L, pz, pt, xs, ps, rfl, ?_, s7 _ _ (s6 _ _ (s5 _ _ (s4 _ _ h3))), ?_, s7 _ _ hp6, pe.trans (sim_pages S).symm, so⟩
      · rw [hp7, al, ← ers]
      · rw [← ers]
        exact (((tv.mono s4).mono s5).mono s6).mono s7
end CB2

namespace CB2
open PySem PySem.Spec PyProof.Rows L2 CB
local macro_rules | `(tactic| walk_at "s1") => `(tactic| (with_reducible first
  | refine r_seq ?_ | refine r_next ?_ | refine r_asg ?_ | refine r_gname ?_ | refine r_ret ?_ | refine r_retN ?_ | refine r_drop ?_ | refine r_ifs ?_ | refine r_c ?_ | refine r_op ?_ | refine r_nil ?_ | refine r_cons ?_
  | refine r_tup ?_ | refine r_lst ?_ | refine r_test ?_ | refine r_tB ?_ | refine r_tru ?_ | refine r_exbl ?_ | refine r_tint ?_ | refine r_and ?_ | refine r_or ?_ | refine r_not ?_ | refine r_notV ?_ | refine r_andV ?_ | refine r_orV ?_ | refine r_ifE ?_ | refine r_call ?_ | refine r_callD ?_ | refine r_CB ?_
  | refine r_kAdd ?_ | refine r_kSub ?_ | refine r_kLt ?_ | refine r_kLe ?_ | refine r_kGt ?_ | refine r_kGe ?_ | refine r_eqI ?_ | refine r_neI ?_ | refine r_eqS ?_ | refine r_isN ?_ | refine r_notN ?_
  | refine r_gcons ?_ | refine r_gnil ?_ | refine r_gsub ?_ | refine r_BM ?_ | refine r_sl ?_ | refine r_nopart ?_ | refine r_part ?_ | refine r_exint ?_ | refine r_par ?_ | refine r_par2 ?_ | refine r_chain ?_
  | refine r_dget ?_ | refine r_dput ?_ | refine iteT ?_ | refine r_for ?_ | refine r_iEnumT ?_ | refine r_iTup ?_ | refine r_iList ?_ | refine r_rng1 ?_ | refine r_rng2 ?_ | refine r_lc ?_ | refine r_gtup2 ?_ | refine r_yes ?_ | refine iteF ?_ | refine r_var (by with_unfolding_all rfl) ?_))
local macro_rules | `(tactic| walk_at "go") => `(tactic| (repeat (walk_at "s1")))


/-! ### the law's streams -/
def Kp (a : Addr) (H H' : Hp) : Prop := ∀ b o, b ≠ a → H b = some o → H' b = some o
theorem Kp.refl (a : Addr) (H : Hp) : Kp a H H := fun _ _ _ e => e
theorem Kp.trans {a : Addr} {H H1 H2 : Hp} (h : Kp a H H1) (k : Kp a H1 H2) : Kp a H H2 := fun b o n e => k b o n (h b o n e)
theorem Kp.same {a : Addr} {H H' : Hp} (e : Same H H') : Kp a H H' := fun b o _ h => e b o h
theorem Kp.up {a : Addr} {H : Hp} {o : HO} : Kp a H (upd H a o) := fun b u n e => (upd_ne n).trans e
theorem Kp.mut {a p : Addr} {H H' : Hp} {o : HO} (k : Kp a H H') (n : H p = none) : Kp a H (upd H' p o) := fun b u nb e => by
  rw [upd_ne (ne_of_none e n)]
  exact k b u nb e
theorem _root_.CB.DrV.toSame {K : PySem.W.Frag} {H H' : Hp} {st scr : Addr} {ns : List Int} {i m r : Int} (d : DrV K H st scr ns i m r) (e : Same H H') : DrV K H' st scr ns i m r := ⟨e _ _ d.at_, e.seq d.scr, d.i0, d.m0, d.m1, d.r0⟩
def InP (pg : Int) (xs : List Int) : Prop := ∀ p ∈ xs, 0 ≤ p ∧ p < pg
def sp__law_stream (G : Glob) : Sp := fun vs H Q _ => ∃ (dst scr : Addr) (ns : List Int) (i m r pg most : Int), vs = [.ref dst, .int pg, .int most] ∧ DrV G.K H dst scr ns i m r ∧ 2 ≤ pg ∧ pg ≤ 10 ∧ 0 ≤ most ∧ most ≤ 60 ∧
  ∀ a (xs : List Int) i' m' r' H', Kp dst H H' → DrV G.K H' dst scr ns i' m' r' → H' a = some (.tup (xs.map V.int)) → xs.length ≤ 60 → InP pg xs → Q (.ref a) H'
def t_tail (G : Glob) : TS := (tSeq (tFor (iRng1 (tCons (tCall (sp__law_drawn G) [] E0 (tCons (tVar 0) (tCons (tC (.int 3)) tNil))) tNil)) (gName 3) (tIfS (tTest (tOp (rNeD G.K) (tVar 4) (tLst tNil))) (tAsg (tCall (sp__law_drawn G) [] E0 (tCons (tVar 0) (tCons (tVar 1) tNil))) (gSub (tVar 4) (tCall (sp__law_drawn G) [] E0 (tCons (tVar 0) (tCons (tCB (bLen G.K) (tCons (tVar 4) tNil)) tNil))) rSetL)) tNext))
    (tRet (tCB (bTuple G.K) (tCons (tVar 4) tNil))))
def t__law_stream (G : Glob) : TS := (tSeq (tAsg (tLc (iRng1 (tCons (tCall (sp__law_drawn G) [] E0 (tCons (tVar 0) (tCons (tOp kAdd (tVar 2) (tC (.int 1))) tNil))) tNil)) (gName 3) tYes (tCall (sp__law_drawn G) [] E0 (tCons (tVar 0) (tCons (tVar 1) tNil))) [3]) (gName 4))
    (tSeq (tIfS (tTest (tOp kEq (tCall (sp__law_drawn G) [] E0 (tCons (tVar 0) (tCons (tC (.int 3)) tNil))) (tC (.int 0)))) (tSeq (tAsg (tOp kAdd (tC (.int 2)) (tCall (sp__law_drawn G) [] E0 (tCons (tVar 0) (tCons (tVar 1) tNil)))) (gName 5))
    (tAsg (tLc (iRng1 (tCons (tCB (bLen G.K) (tCons (tVar 4) tNil)) tNil)) (gName 3) tYes (tOp kMod (tVar 3) (tCB bMin2 (tCons (tVar 5) (tCons (tVar 1) tNil)))) [3]) (gName 4))) tNext)
    (t_tail G)))
theorem len__law_stream (G : Glob) (vs : List V) (H : Hp) (Q : VK) (E : XK) (h : sp__law_stream G vs H Q E) : vs.length = 3 := by
  obtain ⟨_, _, _, _, _, _, _, _, rfl, _⟩ := h
  rfl
theorem drv_upd {K : PySem.W.Frag} {H0 H : Hp} {dst scr F : Addr} {ns : List Int} {i m r : Int} {o : HO} (d0 : SqL K H0 scr (ns.map V.int)) (nF : H0 F = none) (ne : F ≠ dst) (d : DrV K H dst scr ns i m r) : DrV K (upd H F o) dst scr ns i m r := by
  refine ⟨(upd_ne (Ne.symm ne)).trans d.at_, ?_, d.i0, d.m0, d.m1, d.r0⟩
  by_cases e : scr = F
  · rcases d0 with (z | ⟨u, z⟩) | z
    · rw [e, nF] at z; cases z
    · rw [e, nF] at z; cases z
    · exact .inr z
  · exact sqL_updL e d.scr
theorem rd_tail (G : Glob) {dst scr : Addr} {ns : List Int} {i m r pg most : Int} {H0 H : Hp} {Q : VK} {D : Ends} {F : Addr} {xs : List Int} {u3 u5 : Option V} (hD : D.rt = Q) (dr : DrV G.K H dst scr ns i m r) (p1 : 2 ≤ pg) (p2 : pg ≤ 10) (hF : H F = some (.lst (xs.map V.int))) (nF : H0 F = none) (ne : F ≠ dst) (kp : Kp dst H0 H) (hl : xs.length ≤ 60) (hp : InP pg xs) (d0 : SqL G.K H0 scr (ns.map V.int))
    (q : ∀ a (xs : List Int) i' m' r' H', Kp dst H0 H' → DrV G.K H' dst scr ns i' m' r' → H' a = some (.tup (xs.map V.int)) → xs.length ≤ 60 → InP pg xs → Q (.ref a) H') :
    t_tail G D [some (.ref dst), some (.int pg), some (.int most), u3, some (.ref F), u5] H := by
  subst hD
  unfold t_tail
  walk_at "go"
  refine ⟨dst, scr, ns, i, m, r, 3, rfl, dr, by decide, by decide, fun c i1 m1 r1 c0 c1 dr1 => ?_⟩
  have kp1 : Kp dst H0 (upd H dst (DrS scr i1 m1 r1)) := kp.trans .up
  have hF1 : (upd H dst (DrS scr i1 m1 r1)) F = some (.lst (xs.map V.int)) := (upd_ne ne).trans hF
  generalize upd H dst (DrS scr i1 m1 r1) = H1 at dr1 kp1 hF1
  refine ⟨c, rfl, by omega, by omega, ?_⟩
  refine for_range (fun j σ H' => ∃ (v3 : Option V) (ys : List Int) (i' m' r' : Int), σ = [some (.ref dst), some (.int pg), some (.int most), v3, some (.ref F), u5] ∧ Kp dst H0 H' ∧ DrV G.K H' dst scr ns i' m' r' ∧ H' F = some (.lst (ys.map V.int)) ∧ ys.length ≤ 60 ∧ InP pg ys) ?_ ?_ ?_
  · exact ⟨_, xs, i1, m1, r1, rfl, kp1, dr1, hF1, hl, hp⟩
  · rintro j σ H2 hj ⟨v3, ys, i2, m2, r2, rfl, kp2, dr2, hF2, hl2, hp2⟩
    walk_at "go"
    refine r_newL szd fun p3 H3 np3 s3 hp3 => ?_
    have hF3 := s3 _ _ hF2
    have dr3 := dr2.toSame s3
    have kp3 : Kp dst H0 H3 := kp2.trans (.same s3)
    refine r_neNil (SqL.of hF3) hp3 ?_
    walk_at "go"
    refine if_dn (fun hne => ?_) (fun he => ?_)
    · walk_at "go"
      refine ⟨dst, scr, ns, i2, m2, r2, pg, rfl, dr3, by omega, by omega, fun v i4 m4 r4 v0 v1 dr4 => ?_⟩
      have kp4 : Kp dst H0 (upd H3 dst (DrS scr i4 m4 r4)) := kp3.trans .up
      have hF4 : (upd H3 dst (DrS scr i4 m4 r4)) F = some (.lst (ys.map V.int)) := (upd_ne ne).trans hF3
      generalize upd H3 dst (DrS scr i4 m4 r4) = H4 at dr4 kp4 hF4
      walk_at "go"
      refine r_lenL (SqL.of hF4) ?_
      have yl : 0 < ys.length := List.length_pos_iff.mpr hne
      refine ⟨dst, scr, ns, i4, m4, r4, ((ys.map V.int).length : Int), rfl, dr4, by rw [List.length_map]; omega, by rw [List.length_map]; omega, fun k i5 m5 r5 k0 k1 dr5 => ?_⟩
      rw [List.length_map] at k1
      have kp5 : Kp dst H0 (upd H4 dst (DrS scr i5 m5 r5)) := kp4.trans .up
      have hF5 : (upd H4 dst (DrS scr i5 m5 r5)) F = some (.lst (ys.map V.int)) := (upd_ne ne).trans hF4
      generalize upd H4 dst (DrS scr i5 m5 r5) = H5 at dr5 kp5 hF5
      obtain ⟨kn, rfl⟩ : ∃ kn : Nat, k = (kn : Int) := ⟨k.toNat, (Int.toNat_of_nonneg k0).symm⟩
      refine r_setL hF5 (ixN_nat (by rw [List.length_map]; omega)) ?_
      refine ⟨_, ys.set kn v, i5, m5, r5, rfl, kp5.mut nF, ?_, ?_, by rw [List.length_set]; exact hl2, ?_⟩
      · exact drv_upd d0 nF ne dr5
      · rw [upd_same, List.map_set]
      · intro p hpm
        rcases List.mem_or_eq_of_mem_set hpm with z | z
        · exact hp2 p z
        · rw [z]; exact ⟨v0, v1⟩
    · walk_at "go"
      exact ⟨_, ys, i2, m2, r2, rfl, kp3, dr3, hF3, hl2, hp2⟩
  · rintro σ H2 ⟨v3, ys, i2, m2, r2, rfl, kp2, dr2, hF2, hl2, hp2⟩
    walk_at "go"
    refine r_tuple_L (SqL.of hF2) fun p3 H3 np3 s3 hp3 => ?_
    exact q p3 ys i2 m2 r2 H3 (kp2.trans (.same s3)) (dr2.toSame s3) hp3 hl2 hp2
theorem rd__law_stream (G : Glob) (vs : List V) (H : Hp) (Q : VK) (E : XK) (h : sp__law_stream G vs H Q E) : t__law_stream G { nx := fun _ H' => Q .non H', rt := Q } (start ["_law_state", "_law_pages", "_law_most", "_law_k", "_law_found", "_law_turn"] vs) H := by
  obtain ⟨dst, scr, ns, i, m, r, pg, most, rfl, dr, p1, p2, m0, m1, q⟩ := h
  unfold t__law_stream
  walk_at "go"
  refine ⟨dst, scr, ns, i, m, r, most + 1, rfl, dr, by omega, by omega, fun n i1 m1' r1 n0 n1 dr1 => ?_⟩
  have kp1 : Kp dst H (upd H dst (DrS scr i1 m1' r1)) := .up
  have nn : ∀ b, (upd H dst (DrS scr i1 m1' r1)) b = none → H b = none ∧ b ≠ dst := fun b hb => by
    by_cases e : b = dst
    · rw [e, upd_same] at hb; cases hb
    · rw [upd_ne e] at hb; exact ⟨hb, e⟩
  generalize upd H dst (DrS scr i1 m1' r1) = H1 at dr1 kp1 nn
  refine ⟨n, rfl, by omega, by omega, fun D nD => ?_⟩
  obtain ⟨nD0, neD⟩ := nn D nD
  obtain ⟨nn', rfl⟩ : ∃ k : Nat, n = (k : Int) := ⟨n.toNat, (Int.toNat_of_nonneg n0).symm⟩
  rw [Int.toNat_natCast]
  have d0 := dr.scr
  refine lc_range (fun j H' => ∃ (xs : List Int) (i' m' r' : Int), Kp dst H H' ∧ DrV G.K H' dst scr ns i' m' r' ∧ H' D = some (.lst (xs.map V.int)) ∧ xs.length = j ∧ InP pg xs ∧ j ≤ nn') ?_ (fun j H2 hj ⟨xs, i2, m2, r2, kp2, dr2, hD2, xl, hp, _⟩ => ?_) fun H2 ⟨xs, i2, m2, r2, kp2, dr2, hD2, xl, hp, _⟩ => ?_
  · exact ⟨[], i1, m1', r1, kp1.mut nD0, drv_upd d0 nD0 neD dr1, upd_same, rfl, fun p hp => (by cases hp), Nat.zero_le _⟩
  · walk_at "go"
    refine ⟨rfl, ?_⟩
    walk_at "go"
    refine ⟨dst, scr, ns, i2, m2, r2, pg, rfl, dr2, by omega, by omega, fun v i3 m3 r3 v0 v1 dr3 => ?_⟩
    have kp3 : Kp dst H (upd H2 dst (DrS scr i3 m3 r3)) := kp2.trans .up
    have hD3 : (upd H2 dst (DrS scr i3 m3 r3)) D = some (.lst (xs.map V.int)) := (upd_ne neD).trans hD2
    generalize upd H2 dst (DrS scr i3 m3 r3) = H3 at dr3 kp3 hD3
    refine ⟨_, hD3, sz10' (by rw [List.length_map]; omega), xs ++ [v], i3, m3, r3, kp3.mut nD0, drv_upd d0 nD0 neD dr3, ?_, by rw [List.length_append, xl]; rfl, ?_, hj⟩
    · rw [upd_same, List.map_append]
      rfl
    · intro p hpm
      rcases List.mem_append.mp hpm with z | z
      · exact hp p z
      · rw [List.mem_singleton.mp z]; exact ⟨v0, v1⟩
  · walk_at "go"
    refine ⟨dst, scr, ns, i2, m2, r2, 3, rfl, dr2, by decide, by decide, fun c i3 m3 r3 c0 c1 dr3 => ?_⟩
    have kp3 : Kp dst H (upd H2 dst (DrS scr i3 m3 r3)) := kp2.trans .up
    have hD3 : (upd H2 dst (DrS scr i3 m3 r3)) D = some (.lst (xs.map V.int)) := (upd_ne neD).trans hD2
    generalize upd H2 dst (DrS scr i3 m3 r3) = H3 at dr3 kp3 hD3
    walk_at "go"
    refine if_dt (fun hc => ?_) (fun hc => ?_)
    · walk_at "go"
      refine ⟨dst, scr, ns, i3, m3, r3, pg, rfl, dr3, by omega, by omega, fun t i4 m4 r4 t0 t1 dr4 => ?_⟩
      have kp4 : Kp dst H (upd H3 dst (DrS scr i4 m4 r4)) := kp3.trans .up
      have hD4 : (upd H3 dst (DrS scr i4 m4 r4)) D = some (.lst (xs.map V.int)) := (upd_ne neD).trans hD3
      have n4 : ∀ b, (upd H3 dst (DrS scr i4 m4 r4)) b = none → b ≠ dst := fun b hb e => by rw [e, upd_same] at hb; cases hb
      generalize upd H3 dst (DrS scr i4 m4 r4) = H4 at dr4 kp4 hD4 n4
      walk_at "go"
      refine r_lenL (SqL.of hD4) ?_
      refine ⟨_, rfl, by rw [List.length_map]; omega, by rw [List.length_map]; omega, fun F nF => ?_⟩
      rw [Int.toNat_natCast, List.length_map]
      have neF := n4 F nF
      have nF0 : H F = none := by
        cases e : H F with
        | none => rfl
        | some o => rw [kp4 F o neF e] at nF; cases nF
      refine lc_range (fun j H' => ∃ ys : List Int, Same H4 H' ∧ H' F = some (.lst (ys.map V.int)) ∧ ys.length = j ∧ InP pg ys ∧ j ≤ xs.length) ?_ (fun j H5 hj ⟨ys, s5, hF5, yl, hpy, _⟩ => ?_) fun H5 ⟨ys, s5, hF5, yl, hpy, _⟩ => ?_
      · exact ⟨[], .new nF, upd_same, rfl, fun p hp => (by cases hp), Nat.zero_le _⟩
      · rw [Int.zero_add]
        walk_at "go"
        refine ⟨rfl, ?_⟩
        walk_at "go"
        refine ⟨2 + t, pg, rfl, ?_⟩
        have mn : 0 < (if pg < 2 + t then pg else 2 + t) ∧ (if pg < 2 + t then pg else 2 + t) ≤ pg := by
          by_cases c : pg < 2 + t
          · rw [if_pos c]; omega
          · rw [if_neg c]; omega
        refine r_kMod mn.1 ?_
        refine ⟨_, hF5, sz10' (by rw [List.length_map]; omega), ys ++ [(j : Int) % (if pg < 2 + t then pg else 2 + t)], s5.mut nF, ?_, by rw [List.length_append, yl]; rfl, ?_, hj⟩
        · rw [upd_same, List.map_append]
          rfl
        · intro p hpm
          rcases List.mem_append.mp hpm with z | z
          · exact hpy p z
          · rw [List.mem_singleton.mp z]
            have a1 := Int.emod_nonneg (j : Int) (Int.ne_of_gt mn.1)
            have a2 := Int.emod_lt_of_pos (j : Int) mn.1
            exact ⟨a1, by omega⟩
      · walk_at "go"
        exact rd_tail G rfl (dr4.toSame s5) p1 p2 hF5 nF0 neF (kp4.trans (.same s5)) (by omega) hpy d0 q
    · walk_at "go"
      exact rd_tail G rfl dr3 p1 p2 hD3 nD0 neD kp3 (by omega) hp d0 q
end CB2

/-! more rules by data and cells; the law's draws so -/
namespace DW
open PySem PySem.Spec PyProof.Rows L2
def bMax2 : List V → Hp → VK → Prop := fun xs H Q => ∃ i j, xs = [.int i, .int j] ∧ Q (.int (if j > i then j else i)) H
theorem cbMax2 {X : Cx} (hc : X.calm = true) : CallR X (.builtin "max") bMax2 := call_max2 hc
def rNotBl : R2 := fun x y H Q => ∃ a b, x = .bl a ∧ y = .bl b ∧ Q (.bl (!decide (a = b))) H
theorem op_notBlD {X : Cx} : OpR X (compareOp .IsNot) rNotBl := op_isnot_bl
section
variable {K : PySem.W.Frag} {X : XC} {τ : Ts} {W : Wd} {Φ : VX → Wd → Prop} {te : TE} {d e : PyData}
theorem wb_max2 {i j : Int} (h : Φ (.d (.int (if j > i then j else i))) W) : WB K X bMax2 [.d (.int i), .d (.int j)] W Φ := fun H M vs Q R p kx k => by
  cases p with
  | cons p1 p => cases p with
    | cons p2 p => cases p; cases p1; cases p2; exact ⟨i, j, rfl, k _ _ _ _ _ h R (.refl ..) (Dp.int _)⟩
theorem w2_notBl {a b : Bool} (h : Φ (.d (.bool (!decide (a = b)))) W) : W2 K rNotBl (.d (.bool a)) (.d (.bool b)) W Φ := fun H M u v Q R p q k => by
  cases p; cases q
  exact ⟨a, b, rfl, rfl, k _ _ _ _ _ h R (.refl ..) (Dp.bl _)⟩
theorem w2_eqDt (h1 : SeqAt.shaped d = true) (h2 : SeqAt.shaped e = true) (h : Φ (.d (.bool (PyData.eqv d e))) W) : W2 K (rEqD K) (.d d) (.d e) W Φ := fun H M u v Q R p q k =>
  ⟨d, e, dp_mono R.sm p, dp_mono R.sm q, h1, h2, k _ _ _ _ _ h R (.refl ..) (Dp.bl _)⟩
theorem w2_neDt (h1 : SeqAt.shaped d = true) (h2 : SeqAt.shaped e = true) (h : Φ (.d (.bool (!PyData.eqv d e))) W) : W2 K (rNeD K) (.d d) (.d e) W Φ := fun H M u v Q R p q k =>
  ⟨d, e, dp_mono R.sm p, dp_mono R.sm q, h1, h2, k _ _ _ _ _ h R (.refl ..) (Dp.bl _)⟩
/-- an item that a solid heap still tells -/
def noLX : VX → Bool
  | .d d => noL d
  | .r _ => true
theorem wg_tupR {n : Nat} {tg : TGs} {xs : List VX} {vs : List V} {p : Addr} {c : List (Addr × OC)} {g : Hp → Prop} {ΦT : Ts → Wd → Prop} (hn : xs.length = n) (nl : xs.all noLX = true) (gok : GOk g) (h : WGs K X tg xs τ ⟨c, g⟩ ΦT) :
    WG K X (gTup K n tg) (.r (.ref p)) τ ⟨c, gTupA K g p xs vs⟩ ΦT := fun σ H M v Q s R kx pv k => by
  cases pv
  obtain ⟨h1, h2, h3⟩ := R.g
  obtain ⟨R1, t1⟩ := R.weak (g' := g) gok fun z => z.1
  obtain ⟨R2, t2, s2⟩ := R1.solid
  have hv : Paired (VR K (addS M H)) xs vs := by
    have key : ∀ {xs : List VX} {vs : List V}, xs.all noLX = true → Paired (VN K H) xs vs → Paired (VR K (addS M H)) xs vs := by
      intro xs vs hx hp
      induction hp with
      | nil => exact .nil
      | @cons x v _ _ q r ih =>
        rw [List.all_cons, Bool.and_eq_true] at hx
        refine .cons ?_ (ih hx.2)
        cases x with
        | d dd => exact dp_mono s2 (q hx.1)
        | r w => exact q
    exact key nl h3
  have tt := t1.trans t2
  exact ⟨p, vs, rfl, SqT.of h2, by rw [← paired_len hv]; exact hn, h σ H (addS M H) vs Q (s.mono tt.sm) R2 (kx.on tt) hv fun τ' σ' H' M' W' q s' R' t' => k τ' σ' H' M' W' q s' R' (tt.trans t')⟩
end
theorem Rp.kp {K : PySem.W.Frag} {H H' M : Hp} {W : Wd} {a : Addr} {o o' : OC} {f : OC → List (Addr × OC)} (R : Rp K H M W) (c : Cut a o W.c f) (kk : ∀ b u, b ≠ a → H b = some u → H' b = some u) (hc : CR K M H' a o') : Rp K H' M ⟨f o', W.g⟩ ∧ Tr H M W H' M ⟨f o', W.g⟩ := by
  have ma := R.out _ c.mem
  obtain ⟨w, hw, cw⟩ := (R.cell _ c.mem).some
  have old : ∀ b z, H b = some z → ¬ cellO z → H' b = some z := fun b z e nz => by
    by_cases d : b = a
    · subst d
      rw [show H b = some w from hw] at e
      cases e
      exact absurd cw nz
    · exact kk b z d e
  refine ⟨⟨fun b z e => kk b z (ne_of_none e ma) (R.sm _ _ e), by show ((f o').map (·.1)).Nodup; rw [c.fst]; exact R.nd, fun q hq => ?_, fun q hq => ?_, R.gok, R.gok H _ old R.g⟩, ⟨.refl M, old, fun b z h1 _ h2 h3 => ⟨kk b z (fun d => h3 (by rw [d]; exact List.mem_map.mpr ⟨_, c.mem, rfl⟩)) h1, h2, by show b ∉ (f o').map (·.1); rw [c.fst]; exact h3⟩⟩⟩
  · rcases c.mem' R.nd hq with e | ⟨e, _⟩
    · rw [e]; exact ma
    · exact R.out q e
  · rcases c.mem' R.nd hq with e | ⟨e, n⟩
    · rw [e]; exact hc
    · exact (R.cell q e).mono (.refl M) fun z e => kk _ z n e
end DW
namespace CB.N
open PySem PySem.Spec PyProof.Rows L2 DW CB2
def okD : Nat → PyData → Bool
  | _, .none => true
  | _, .bool _ => true
  | _, .int _ => true
  | _, .str _ => true
  | n + 1, .tuple ds => decide (ds.length ≤ 1000) && ds.all (okD n)
  | n + 1, .list ds => decide (ds.length ≤ 1000) && ds.all (okD n)
  | _, _ => false
theorem dpAll_at {K : PySem.W.Frag} {H : Hp} : ∀ {vs : List V} {ds : List PyData} {i : Nat} {x : V}, DpAll K H vs ds → vs[i]? = some x → ∃ d, ds[i]? = some d ∧ Dp K H x d
  | _, _, _, _, .nil, h => by simp at h
  | _ :: _, d :: _, 0, x, .cons a _, h => ⟨d, rfl, by obtain rfl := Option.some.inj h; exact a⟩
  | _ :: _, _ :: _, i + 1, x, .cons _ r, h => by
    obtain ⟨t, h1, h2⟩ := dpAll_at (i := i) r (by simpa using h)
    exact ⟨t, by simpa using h1, h2⟩
theorem dpAll_lenV {K : PySem.W.Frag} {H : Hp} : ∀ {vs : List V} {ds : List PyData}, DpAll K H vs ds → vs.length = ds.length
  | _, _, .nil => rfl
  | _, _, .cons _ r => congrArg (· + 1) (dpAll_lenV r)
theorem same_dp {K : PySem.W.Frag} {H : Hp} : ∀ (n : Nat) {d : PyData} {v w : V}, okD n d = true → Dp K H v d → Dp K H w d → CB.SameD K H n v w
  | n, .none, _, _, _, .non, .non => .non n
  | n, .bool _, _, _, _, .bl b, .bl _ => .bl n b
  | n, .int _, _, _, _, .int i, .int _ => .int n i
  | n, .str _, _, _, _, .str x, .str _ => .str n x
  | n + 1, .tuple ds, _, _, h, .tup h1 a1, .tup h2 a2 => by
    have h : (decide (ds.length ≤ 1000) && ds.all (okD n)) = true := h
    rw [Bool.and_eq_true, decide_eq_true_eq, List.all_eq_true] at h
    refine .tup h1 h2 (by rw [dpAll_lenV a1, dpAll_lenV a2]) (by rw [dpAll_lenV a1]; exact h.1) fun i x y hx hy => ?_
    obtain ⟨d1, e1, p1⟩ := dpAll_at a1 hx
    obtain ⟨d2, e2, p2⟩ := dpAll_at a2 hy
    rw [e1] at e2
    obtain rfl := Option.some.inj e2
    exact same_dp n (h.2 d1 (List.mem_of_getElem? e1)) p1 p2
  | n + 1, .list ds, _, _, h, .lst h1 a1, .lst h2 a2 => by
    have h : (decide (ds.length ≤ 1000) && ds.all (okD n)) = true := h
    rw [Bool.and_eq_true, decide_eq_true_eq, List.all_eq_true] at h
    refine .lst h1 h2 (by rw [dpAll_lenV a1, dpAll_lenV a2]) (by rw [dpAll_lenV a1]; exact h.1) fun i x y hx hy => ?_
    obtain ⟨d1, e1, p1⟩ := dpAll_at a1 hx
    obtain ⟨d2, e2, p2⟩ := dpAll_at a2 hy
    rw [e1] at e2
    obtain rfl := Option.some.inj e2
    exact same_dp n (h.2 d1 (List.mem_of_getElem? e1)) p1 p2
  | 0, .tuple _, _, _, h, _, _ => by simp [okD] at h
  | 0, .list _, _, _, h, _, _ => by simp [okD] at h
def drO (ns : List Int) (i m r : Int) : OC := .lst [.d (.list (ns.map .int)), .d (.int i), .d (.int m), .d (.int r)]
structure DrI (i m r : Int) : Prop where
  i0 : 0 ≤ i
  m0 : 0 ≤ m
  m1 : m < 2147483647
  r0 : 0 ≤ r
theorem cr_dr {K : PySem.W.Frag} {M H : Hp} {st : Addr} {ns : List Int} {i m r : Int} (h : CR K M H st (drO ns i m r)) : ∃ scr, H st = some (CB.DrS scr i m r) ∧ SqL K M scr (ns.map V.int) := by
  obtain ⟨vs, h1, h2⟩ := h
  cases h2 with
  | cons a1 h2 => cases h2 with
    | cons a2 h2 => cases h2 with
      | cons a3 h2 => cases h2 with
        | cons a4 h2 =>
          cases h2; cases a2; cases a3; cases a4
          cases a1 with
          | @lst a xs _ s1 s2 => rw [dpAll_ints s2] at s1; exact ⟨a, h1, s1⟩
theorem dr_cr {K : PySem.W.Frag} {M H : Hp} {st scr : Addr} {ns : List Int} {i m r : Int} (h : H st = some (CB.DrS scr i m r)) (s : SqL K M scr (ns.map V.int)) : CR K M H st (drO ns i m r) :=
  ⟨_, h, .cons (Dp.lst s (ints_dpAll ns)) (.cons (Dp.int _) (.cons (Dp.int _) (.cons (Dp.int _) .nil)))⟩
section
variable {G : Glob} {X : XC} {τ : Ts} {W : Wd} {Φ : VX → Wd → Prop} {ns : List Int} {i m r : Int} {st : Addr} {f : OC → List (Addr × OC)}
theorem wb_start (h : ∀ st m, DrI 0 m 0 → Φ (.r (.ref st)) ⟨(st, drO ns 0 m 0) :: W.c, W.g⟩) : WB G.K X (SPC (CB.sp__law_start G) [] E0) [.d (.list (ns.map .int))] W Φ := wb_old fun H M vs Q R p kx k => by
  cases p with
  | cons p1 p =>
    cases p
    cases p1 with
    | @lst scr xs _ s1 s2 =>
      rw [dpAll_ints s2] at s1
      refine ⟨scr, ns, rfl, R.sm.seq s1, fun st m H' ns_ sm d => ?_⟩
      obtain ⟨R1, t1⟩ := R.ext sm
      have mD : M st = none := by
        cases e : M st with
        | none => rfl
        | some o => rw [R.sm _ _ e] at ns_; cases ns_
      have cD : st ∉ W.c.map (·.1) := fun z => by
        obtain ⟨q, hq, e⟩ := List.mem_map.mp z
        obtain ⟨o, ho, _⟩ := (R.cell q hq).some
        rw [e, ns_] at ho; cases ho
      obtain ⟨R2, t2⟩ := R1.own (xs := [.d (.list (ns.map .int)), .d (.int 0), .d (.int m), .d (.int 0)]) t1 ns_ d.at_ mD cD (.cons (Dp.lst s1 (ints_dpAll ns)) (.cons (Dp.int _) (.cons (Dp.int _) (.cons (Dp.int _) .nil))))
      exact k _ _ _ _ _ (h st m ⟨d.i0, d.m0, d.m1, d.r0⟩) R2 t2 rfl
theorem wb_drawn {n : Int} (c : Cut st (drO ns i m r) W.c f) (b : DrI i m r) (n0 : 0 < n) (n1 : n < 1073741824) (h : ∀ x i' m' r', 0 ≤ x → x < n → DrI i' m' r' → Φ (.d (.int x)) ⟨f (drO ns i' m' r'), W.g⟩) :
    WB G.K X (SPC (CB.sp__law_drawn G) [] E0) [.r (.ref st), .d (.int n)] W Φ := wb_old fun H M vs Q R p kx k => by
  cases p with
  | cons p1 p => cases p with
    | cons p2 p =>
      cases p; cases p1; cases p2
      obtain ⟨scr, h1, h2⟩ := cr_dr (R.cell _ c.mem)
      refine ⟨st, scr, ns, i, m, r, n, rfl, ⟨h1, R.sm.seq h2, b.i0, b.m0, b.m1, b.r0⟩, n0, n1, fun x i' m' r' x0 x1 d => ?_⟩
      obtain ⟨R1, t1⟩ := R.put (u := CB.DrS scr i' m' r') (o' := drO ns i' m' r') c (dr_cr upd_same h2)
      exact k _ _ _ _ _ (h x i' m' r' x0 x1 ⟨d.i0, d.m0, d.m1, d.r0⟩) R1 t1 (Dp.int _)
theorem wb_rule (c : Cut st (drO ns i m r) W.c f) (b : DrI i m r) (h : ∀ (ru : Rule) i' m' r', DrI i' m' r' → Φ (.d (.str ru.s)) ⟨f (drO ns i' m' r'), W.g⟩) :
    WB G.K X (SPC (CB.sp__law_rule G) [] E0) [.r (.ref st)] W Φ := wb_old fun H M vs Q R p kx k => by
  cases p with
  | cons p1 p =>
    cases p; cases p1
    obtain ⟨scr, h1, h2⟩ := cr_dr (R.cell _ c.mem)
    refine ⟨st, scr, ns, i, m, r, rfl, ⟨h1, R.sm.seq h2, b.i0, b.m0, b.m1, b.r0⟩, fun ru i' m' r' H' kk d => ?_⟩
    obtain ⟨R1, t1⟩ := R.kp (o' := drO ns i' m' r') c kk (dr_cr d.at_ h2)
    exact k _ _ _ _ _ (h ru i' m' r' ⟨d.i0, d.m0, d.m1, d.r0⟩) R1 t1 (Dp.str _)
theorem wb_stream {pg most : Int} (c : Cut st (drO ns i m r) W.c f) (b : DrI i m r) (p1 : 2 ≤ pg) (p2 : pg ≤ 10) (m0 : 0 ≤ most) (m1 : most ≤ 60) (h : ∀ (sm : List Int) i' m' r', StOk sm → DrI i' m' r' → Φ (.d (streamD sm)) ⟨f (drO ns i' m' r'), W.g⟩) :
    WB G.K X (SPC (CB2.sp__law_stream G) [] E0) [.r (.ref st), .d (.int pg), .d (.int most)] W Φ := wb_old fun H M vs Q R p kx k => by
  cases p with
  | cons q1 p => cases p with
    | cons q2 p => cases p with
      | cons q3 p =>
        cases p; cases q1; cases q2; cases q3
        obtain ⟨scr, h1, h2⟩ := cr_dr (R.cell _ c.mem)
        refine ⟨st, scr, ns, i, m, r, pg, most, rfl, ⟨h1, R.sm.seq h2, b.i0, b.m0, b.m1, b.r0⟩, p1, p2, m0, m1, fun a xs i' m' r' H' kk d ha hl hp => ?_⟩
        obtain ⟨R1, t1⟩ := R.kp (o' := drO ns i' m' r') c kk (dr_cr d.at_ h2)
        obtain ⟨R2, t2, s2⟩ := R1.solid
        exact k _ _ _ _ _ (h xs i' m' r' ⟨hl, fun p hm => ⟨(hp p hm).1, by have := (hp p hm).2; omega⟩⟩ ⟨d.i0, d.m0, d.m1, d.r0⟩) R2 (t1.trans t2) (Dp.tup (SqT.of (s2 _ _ (strip_eq ha fun z => z))) (ints_dpAll xs))
theorem wb_same {n : Nat} {d : PyData} (hd : okD n d = true) (h : Φ (.d (.bool true)) W) : WB G.K X (SPC (CB.sp__law_same G (n + 1)) [] E0) [.d d, .d d] W Φ := wb_old fun H M vs Q R p kx k => by
  cases p with
  | cons q1 p => cases p with
    | cons q2 p =>
      cases p
      refine ⟨_, _, rfl, same_dp n hd (dp_mono R.sm q1) (dp_mono R.sm q2), fun H' sm => ?_⟩
      obtain ⟨R1, t1⟩ := R.ext sm
      exact k _ _ _ _ _ h R1 t1 (Dp.bl _)
end
end CB.N

namespace CB.N
open PySem PySem.Spec PyProof.Rows L2 DW CB2
local macro_rules | `(tactic| walk_at "e1") => `(tactic| (with_reducible first
  | refine ws_seq ?_ | refine ws_asg ?_ | refine ws_asgG ?_ | refine ws_ret ?_ | refine ws_retN ?_ | refine ws_drop ?_ | refine ws_ifs ?_ | refine ws_par ?_
  | refine we_int ?_ | refine we_bl ?_ | refine we_str ?_ | refine we_non ?_ | refine we_ty ?_ | refine we_op ?_ | refine wa_nil ?_ | refine wa_cons ?_ | refine we_tup ?_ | refine we_notV ?_ | refine we_andV ?_ | refine we_orV ?_ | refine we_ifE ?_ | refine we_neg ?_
  | refine wt_test ?_ | refine wt_B ?_ | refine wt_tru ?_ | refine wt_and ?_ | refine wt_or ?_ | refine wt_not ?_ | refine wt_yes ?_ | refine we_sl ?_ | refine wo_none ?_ | refine wo_some ?_ | refine we_call ?_ | refine we_CB ?_
  | refine wg_name ?_ | refine wgs_nil ?_ | refine wgs_cons ?_ | refine wg_tup2 ?_ | refine wg_tup3 ?_ | refine ws_for ?_ | refine wi_tup ?_ | refine wi_rng1 ?_ | refine wi_rng2 ?_ | refine wi_enumT ?_
  | refine w2_add ?_ | refine w2_sub ?_ | refine w2_lt ?_ | refine w2_le ?_ | refine w2_gt ?_ | refine w2_ge ?_ | refine w2_eqI ?_ | refine w2_neI ?_ | refine w2_eqS ?_ | refine w2_isN ?_ | refine w2_notN ?_ | refine w2_inT ?_ | refine w2_notInT ?_ | refine w2_inL ?_ | refine w2_notInL ?_
  | refine exB ?_ | refine exI ?_ | refine exT ?_ | refine exL ?_ | refine exI1 ?_ | refine exT1 ?_ | refine exV ?_ | refine exA0 ?_ | refine exA1 ?_ | refine exA2 ?_ | refine exA3 ?_ | refine exA4 ?_ | refine exA5 ?_ | refine exA6 ?_ | refine exA7 ?_ | refine bT ?_ | refine bF ?_ | refine bT' ?_ | refine bF' ?_
  | refine w3_slA ?_ | refine wb_lenT ?_ | refine wb_lenL ?_ | refine wb_listT ?_ | refine wb_tupL ?_ | refine ws_next ?_
  | refine we_var (by with_unfolding_all rfl) ?_))
local macro_rules | `(tactic| walk_at "ev") => `(tactic| (repeat (walk_at "e1")))

local macro_rules | `(tactic| walk_at "f1") => `(tactic| (with_reducible first
  | refine fe_rule (by assumption) (by with_unfolding_all rfl) (by first | assumption | exact Cut.up (by assumption)) ?_ | refine fe_size (by assumption) (by with_unfolding_all rfl) (by first | assumption | exact Cut.up (by assumption)) ?_
  | refine fe_state (by assumption) (by with_unfolding_all rfl) (by first | assumption | exact Cut.up (by assumption)) ?_ | refine fe_staying (by assumption) (by with_unfolding_all rfl) (by first | assumption | exact Cut.up (by assumption)) ?_
  | refine fe_asked (by assumption) (by with_unfolding_all rfl) (by first | assumption | exact Cut.up (by assumption)) ?_ | refine fe_missed (by assumption) (by with_unfolding_all rfl) (by first | assumption | exact Cut.up (by assumption)) ?_
  | refine fe_points (by assumption) (by with_unfolding_all rfl) (by first | assumption | exact Cut.up (by assumption)) ?_))
local macro_rules | `(tactic| walk_at "ec") => `(tactic| (repeat (first | walk_at "e1" | walk_at "f1")))
def A__law_nothing (Cc : Addr) : AT := fun xs W Φ => ∃ (L P a st : Addr) (oL oP : OC) (c : CV) (ns : List Int) (i m r : Int) (cs : List (Addr × OC)) (g : Hp → Prop), xs = [.r (.ref st), .r (.ref a), .d (.int (c.s : Int))] ∧ W = ⟨(L, oL) :: (P, oP) :: (a, .ins Cc (insF c P)) :: (st, drO ns i m r) :: cs, g⟩ ∧ DrI i m r ∧
  c.ps = [] ∧ c.l.length ≤ c.s ∧ 1 ≤ c.s ∧ c.s ≤ 6 ∧ (∀ x ∈ c.l, 0 ≤ x.1 ∧ x.1 ≤ 9) ∧ ∀ i' m' r', DrI i' m' r' → Φ (.d (.bool true)) ⟨(L, oL) :: (P, oP) :: (a, .ins Cc (insF c P)) :: (st, drO ns i' m' r') :: cs, g⟩
def sp__law_nothing (G : Glob) (_ea : Str → Addr) (Cc : Addr) : Sp := SPEC0 G.K (A__law_nothing Cc)
def t__law_nothing (G : Glob) (ea : Str → Addr) (Cc : Addr) : TS := (tSeq (tAsg (tMeth Cc "holds" (sp_C_holds G Cc) [] E0 (tVar 1) tNil) (gName 3))
    (tSeq (tIfS (tAnd (tTest (tOp (rNeD G.K) (tVar 3) (tTup tNil))) (tTest (tOp kEq (tCall (CB.sp__law_drawn G) [] E0 (tCons (tVar 0) (tCons (tC (.int 2)) tNil))) (tC (.int 0))))) (tSeq (tAsg (tOp (rIxT G.K) (tVar 3) (tCall (CB.sp__law_drawn G) [] E0 (tCons (tVar 0) (tCons (tCB (bLen G.K) (tCons (tVar 3) tNil)) tNil)))) (gName 4))
    (tSeq (tDrop (tMeth Cc "pin" (sp_C_pin G ea Cc) [] E0 (tVar 1) (tCons (tVar 4) tNil)))
    (tIfS (tOr (tTest (tOp DW.rNotBl (tMeth Cc "unpin" (sp_C_unpin G ea Cc) [] E0 (tVar 1) (tCons (tVar 4) tNil)) (tC (.bl true)))) (tTest (tOp DW.rNotBl (tMeth Cc "unpin" (sp_C_unpin G ea Cc) [] E0 (tVar 1) (tCons (tVar 4) tNil)) (tC (.bl false))))) (tRet (tC (.bl false))) tNext))) tNext)
    (tSeq (tIfS (tTest (tOp kEq (tCall (CB.sp__law_drawn G) [] E0 (tCons (tVar 0) (tCons (tC (.int 3)) tNil))) (tC (.int 0)))) (tSeq (tAsg (tOp (rIxL G.K) (tLst (tCons (tC (.int 6)) (tCons (tCB DW.bMax2 (tCons (tC (.int 1)) (tCons (tCB (bLen G.K) (tCons (tVar 3) tNil)) tNil))) tNil))) (tCall (CB.sp__law_drawn G) [] E0 (tCons (tVar 0) (tCons (tC (.int 2)) tNil)))) (gName 5))
    (tSeq (tIfS (tTest (tOp (rNeD G.K) (tMeth Cc "resize" (sp_C_resize G ea Cc) [] E0 (tVar 1) (tCons (tVar 5) tNil)) (tLst tNil))) (tRet (tC (.bl false))) tNext)
    (tIfS (tTest (tOp (rNeD G.K) (tMeth Cc "resize" (sp_C_resize G ea Cc) [] E0 (tVar 1) (tCons (tVar 2) tNil)) (tLst tNil))) (tRet (tC (.bl false))) tNext))) tNext)
    (tRet (tAndV (tOp (rEqD G.K) (tMeth Cc "holds" (sp_C_holds G Cc) [] E0 (tVar 1) tNil) (tVar 3)) (tOp (rEqD G.K) (tMeth Cc "pins" (sp_C_pins G Cc) [] E0 (tVar 1) tNil) (tLst tNil)))))))
theorem intsT_shaped (ns : List Int) : SeqAt.shaped (.tuple (ns.map PyData.int)) = true := by
  have h2 : PyData.depth (.tuple (ns.map PyData.int)) ≤ 64 := by
    simp only [PyData.depth, CB.ints_depth]
    omega
  show (PyData.canLay0 (.tuple (ns.map PyData.int)) && decide (PyData.depth (.tuple (ns.map PyData.int)) ≤ 64)) = true
  rw [Bool.and_eq_true]
  exact ⟨by simp only [PyData.canLay0]; exact CB.ints_lay ns, decide_eq_true h2⟩
theorem nil_shapedT : SeqAt.shaped (.tuple []) = true := intsT_shaped []
theorem nil_shapedL : SeqAt.shaped (.list []) = true := CB.ints_shaped []
theorem intsT_eqv_nil (ns : List Int) : PyData.eqv (.tuple (ns.map PyData.int)) (.tuple []) = decide (ns = []) := by
  cases ns with
  | nil => simp [PyData.eqv, PyData.eqvAll]
  | cons n ns => simp [PyData.eqv, PyData.eqvAll]
theorem intsT_refl (ns : List Int) : PyData.eqv (.tuple (ns.map PyData.int)) (.tuple (ns.map PyData.int)) = true := SeqAt.eqv_refl _ (SeqAt.canLay_of_shaped (intsT_shaped ns))
theorem intsL_refl (ns : List Int) : PyData.eqv (.list (ns.map PyData.int)) (.list (ns.map PyData.int)) = true := SeqAt.eqv_refl _ (SeqAt.canLay_of_shaped (CB.ints_shaped ns))
theorem place_ex {l : List Row} {p : Int} (h : p ∈ l.map (·.1)) : ∃ k, placeOf l p = some k := by
  cases e : placeOf l p with
  | some k => exact ⟨k, rfl⟩
  | none =>
    obtain ⟨x, hx, ex⟩ := List.mem_map.mp h
    exact absurd ex (placeOf_no e x hx)
theorem law_nothing_ok (G : Glob) (ea : Str → Addr) (X : XC) {Cc : Addr} (HC : ClsC G.K Cc) (xs : List VX) (W : Wd) (Φ : VX → Wd → Prop) (h : A__law_nothing Cc xs W Φ) : xs.length = 3 ∧ WS G.K X (t__law_nothing G ea Cc) (st0 xs 3) W (P0 Φ) := by
  obtain ⟨L, P, a, st, oL, oP, ⟨r, s, l, hd, ps, n, mm⟩, ns, i, m, ra, cs, g, rfl, rfl, b, e0, hl, s1, s6, pg, q⟩ := h
  dsimp only at e0 hl s1 s6 pg q
  subst e0
  refine ⟨rfl, ?_⟩
  have lh : (isort (l.map (·.1))).length = l.length := by rw [(isort_perm _).length_eq, List.length_map]
  -- the end
  have fin : ∀ (u4 u5 : Option VX) (i m r' : Int), DrI i m r' → WS G.K X (tRet (tAndV (tOp (rEqD G.K) (tMeth Cc "holds" (sp_C_holds G Cc) [] E0 (tVar 1) tNil) (tVar 3)) (tOp (rEqD G.K) (tMeth Cc "pins" (sp_C_pins G Cc) [] E0 (tVar 1) tNil) (tLst tNil))))
      [some (.r (.ref st)), some (.r (.ref a)), some (.d (.int (s : Int))), some (.d (heldD l)), u4, u5] ⟨(L, oL) :: (P, oP) :: (a, .ins Cc (insF ⟨r, s, l, hd, [], n, mm⟩ P)) :: (st, drO ns i m r') :: cs, g⟩ (P0 Φ) := fun u4 u5 i m r' b => by
    walk_at "ec"
    refine we_meth ?_
    walk_at "ec"
    refine ⟨a, _, _, rfl, .tl (.tl .hd), rfl, ?_⟩
    walk_at "ec"
    refine wb_spec0 ⟨a, P, _, _, rfl, .tl (.tl .hd), (show l.length < 64 by omega), ?_⟩
    walk_at "ec"
    refine w2_eqDt (intsT_shaped _) (intsT_shaped _) ?_
    rw [show PyData.eqv (heldD (CV.mk r s l hd [] n mm).l) (heldD l) = true from intsT_refl _]
    walk_at "ec"
    refine we_fz ?_
    refine we_meth ?_
    walk_at "ec"
    refine ⟨a, _, _, rfl, .tl (.tl .hd), rfl, ?_⟩
    walk_at "ec"
    refine wb_spec0 ⟨a, P, _, _, rfl, .tl (.tl .hd), fun L2 => ?_⟩
    refine ⟨L2, [], _, rfl, rfl, ?_⟩
    refine we_lstD (wa_nil ⟨[], rfl, Nat.zero_le _, ?_⟩)
    refine w2_eqDt nil_shapedL nil_shapedL ?_
    rw [show PyData.eqv (.list []) (.list []) = true from intsL_refl []]
    exact q _ _ _ b
  have rz : ∀ (z : Nat) (Ψ : VX → Wd → Prop) (τ : Ts) (j : Nat) (i m r' : Int) (s0 : Nat), 1 ≤ z → z ≤ 6 → l.length ≤ z → τ[1]? = some (some (.r (.ref a))) → τ[j]? = some (some (.d (.int (z : Int)))) →
      Ψ (.d (.bool false)) ⟨(L, oL) :: (P, oP) :: (a, .ins Cc (insF ⟨r, z, l, hd, [], n, mm⟩ P)) :: (st, drO ns i m r') :: cs, g⟩ → WE G.K X (tMeth Cc "resize" (sp_C_resize G ea Cc) [] E0 (tVar 1) (tCons (tVar j) tNil)) τ ⟨(L, oL) :: (P, oP) :: (a, .ins Cc (insF ⟨r, s0, l, hd, [], n, mm⟩ P)) :: (st, drO ns i m r') :: cs, g⟩ (fun x W1 => WE G.K X (tLst tNil) τ W1 fun y W2_ => W2 G.K (rNeD G.K) x y W2_ Ψ) := fun z Ψ τ j i m r' s0 z1 z6 zl t1 tj hq => by
    refine we_fz ?_
    refine we_meth ?_
    refine we_var t1 ⟨a, _, _, rfl, .tl (.tl .hd), rfl, ?_⟩
    refine wa_cons (we_var tj (wa_nil ?_))
    refine wb_specX0 ⟨a, P, _, _, .int (z : Int), rfl, .tl (.tl .hd), (show l.length ≤ 100 by omega), fun e => ?_, fun z' ez z1' z6' => ⟨fun e => absurd e (Nat.not_lt_zero _), fun _ => ⟨[], l, hd, .done ?_, fun L2 => ?_⟩⟩⟩
    · rw [numD_t (by omega) (by omega)] at e; cases e
    · show l.length ≤ z'
      have := PyData.int.inj ez
      omega
    · have ez' : z' = z := by have := PyData.int.inj ez; omega
      subst ez'
      refine ⟨L2, [], _, rfl, rfl, ?_⟩
      refine we_lstD (wa_nil ⟨[], rfl, Nat.zero_le _, ?_⟩)
      refine w2_neDt nil_shapedL nil_shapedL ?_
      rw [show PyData.eqv (.list []) (.list []) = true from intsL_refl []]
      exact hq
  have two : ∀ (u4 u5 : Option VX) (i m r' : Int), DrI i m r' → WS G.K X (tSeq (tIfS (tTest (tOp kEq (tCall (CB.sp__law_drawn G) [] E0 (tCons (tVar 0) (tCons (tC (.int 3)) tNil))) (tC (.int 0)))) (tSeq (tAsg (tOp (rIxL G.K) (tLst (tCons (tC (.int 6)) (tCons (tCB DW.bMax2 (tCons (tC (.int 1)) (tCons (tCB (bLen G.K) (tCons (tVar 3) tNil)) tNil))) tNil))) (tCall (CB.sp__law_drawn G) [] E0 (tCons (tVar 0) (tCons (tC (.int 2)) tNil)))) (gName 5))
    (tSeq (tIfS (tTest (tOp (rNeD G.K) (tMeth Cc "resize" (sp_C_resize G ea Cc) [] E0 (tVar 1) (tCons (tVar 5) tNil)) (tLst tNil))) (tRet (tC (.bl false))) tNext)
    (tIfS (tTest (tOp (rNeD G.K) (tMeth Cc "resize" (sp_C_resize G ea Cc) [] E0 (tVar 1) (tCons (tVar 2) tNil)) (tLst tNil))) (tRet (tC (.bl false))) tNext))) tNext)
    (tRet (tAndV (tOp (rEqD G.K) (tMeth Cc "holds" (sp_C_holds G Cc) [] E0 (tVar 1) tNil) (tVar 3)) (tOp (rEqD G.K) (tMeth Cc "pins" (sp_C_pins G Cc) [] E0 (tVar 1) tNil) (tLst tNil)))))
      [some (.r (.ref st)), some (.r (.ref a)), some (.d (.int (s : Int))), some (.d (heldD l)), u4, u5] ⟨(L, oL) :: (P, oP) :: (a, .ins Cc (insF ⟨r, s, l, hd, [], n, mm⟩ P)) :: (st, drO ns i m r') :: cs, g⟩ (P0 Φ) := fun u4 u5 i m r' b => by
    walk_at "ec"
    refine wb_drawn (.tl (.tl (.tl .hd))) b (by decide) (by decide) fun x i' m' r'' x0 x1 b' => ?_
    walk_at "ec"
    refine bD (fun c1 => ?_) (fun c1 => ?_)
    · refine ws_seq ?_
      refine ws_asg ?_
      refine we_op ?_
      refine we_lstD ?_
      walk_at "ec"
      refine wb_lenT (ds := (isort (l.map (·.1))).map .int) ?_
      walk_at "ec"
      refine wb_max2 ?_
      walk_at "ec"
      refine wb_drawn (.tl (.tl (.tl .hd))) b' (by decide) (by decide) fun y i2 m2 r2 y0 y1 b2 => ?_
      obtain ⟨z, hz, z1, z6, zl⟩ : ∃ z : Nat, atI [PyData.int 6, PyData.int (if (((isort (l.map (·.1))).map PyData.int).length : Int) > 1 then (((isort (l.map (·.1))).map PyData.int).length : Int) else 1)] y = some (.int (z : Int)) ∧ 1 ≤ z ∧ z ≤ 6 ∧ l.length ≤ z := by
        rw [List.length_map, lh]
        have e : y = 0 ∨ y = 1 := by omega
        rcases e with rfl | rfl
        · exact ⟨6, rfl, by omega, by omega, by omega⟩
        · by_cases c : (l.length : Int) > 1
          · rw [if_pos c]; exact ⟨l.length, rfl, by omega, by omega, by omega⟩
          · rw [if_neg c]; exact ⟨1, rfl, by omega, by omega, by omega⟩
      refine w2_ixL hz ?_
      walk_at "ec"
      refine rz z _ _ 5 i2 m2 r2 s z1 z6 zl rfl rfl ?_
      walk_at "ec"
      refine rz s _ _ 2 i2 m2 r2 z s1 s6 hl rfl rfl ?_
      exact ⟨false, rfl, fun z => (by cases z), fun _ => ws_next (fin _ _ _ _ _ b2)⟩
    · exact ws_next (fin _ _ _ _ _ b')
  unfold t__law_nothing
  walk_at "ec"
  refine we_meth ?_
  walk_at "ec"
  refine ⟨a, _, _, rfl, .tl (.tl .hd), rfl, ?_⟩
  walk_at "ec"
  refine wb_spec0 ⟨a, P, _, _, rfl, .tl (.tl .hd), (show l.length < 64 by omega), ?_⟩
  walk_at "ec"
  refine w2_neDt (intsT_shaped _) nil_shapedT ?_
  rw [show PyData.eqv (heldD (CV.mk r s l hd [] n mm).l) (.tuple []) = decide (isort (l.map (·.1)) = []) from intsT_eqv_nil _]
  walk_at "ec"
  by_cases c0 : isort (l.map (·.1)) = []
  · rw [decide_eq_true c0]
    refine bF ?_
    refine bF ?_
    exact ws_next (two _ _ _ _ _ b)
  · rw [decide_eq_false c0]
    refine bT ?_
    walk_at "ec"
    refine wb_drawn (.tl (.tl (.tl .hd))) b (by decide) (by decide) fun x i' m' r'' x0 x1 b' => ?_
    walk_at "ec"
    refine bD (fun c1 => ?_) (fun c1 => ?_)
    · have lp : 0 < (isort (l.map (·.1))).length := List.length_pos_iff.mpr c0
      walk_at "ec"
      refine wb_lenT (ds := (isort (l.map (·.1))).map .int) ?_
      walk_at "ec"
      have pl : ((isort (l.map (·.1))).map PyData.int).length = l.length := by rw [List.length_map, lh]
      rw [pl]
      refine wb_drawn (n := (l.length : Int)) (.tl (.tl (.tl .hd))) b' (by omega) (by omega) fun y i2 m2 r2 y0 y1 b2 => ?_
      obtain ⟨yn, rfl⟩ : ∃ k : Nat, y = (k : Int) := ⟨y.toNat, (Int.toNat_of_nonneg y0).symm⟩
      have yl : yn < (isort (l.map (·.1))).length := by omega
      obtain ⟨p, hp⟩ : ∃ p, (isort (l.map (·.1)))[yn]? = some p := ⟨_, List.getElem?_eq_getElem yl⟩
      have hm : p ∈ l.map (·.1) := (isort_perm _).mem_iff.mp (List.mem_of_getElem? hp)
      obtain ⟨x9, hx9, ex9⟩ := List.mem_map.mp hm
      have pr := pg x9 hx9
      rw [ex9] at pr
      have pk := place_ex hm
      refine w2_ixT (d := .int p) (atI_nat (by rw [List.getElem?_map, hp]; rfl)) ?_
      walk_at "ec"
      refine we_meth ?_
      walk_at "ec"
      refine ⟨a, _, _, rfl, .tl (.tl .hd), rfl, ?_⟩
      walk_at "ec"
      refine wb_specX0 ⟨a, P, _, _, .int p, rfl, .tl (.tl .hd), (show ([] : List Int).length < 60 by decide), fun e => ?_, fun p' ep _ _ => ?_⟩
      · rw [numD_t pr.1 pr.2] at e; cases e
      obtain rfl := PyData.int.inj ep
      refine ⟨fun e => ?_, fun _ => ?_⟩
      · obtain ⟨k, ek⟩ := pk
        rw [show placeOf l p = some k from ek] at e; cases e
      have e1 : (if p ∈ ([] : List Int) then ([] : List Int) else isort ([] ++ [p])) = [p] := by rw [if_neg (by simp)]; rfl
      have e2 : (List.filter (fun q => !decide (q = p)) [p]) = [] := by simp
      have un : ∀ (bb : Bool) (ps : List Int) (Ψ : VX → Wd → Prop) (τ : Ts) (i m r' : Int), (∀ q ∈ ps, q = p) → ps.length ≤ 1 → τ[1]? = some (some (.r (.ref a))) → τ[4]? = some (some (.d (.int p))) →
          Ψ (.d (.bool (!decide ((decide (p ∈ ps)) = bb)))) ⟨(L, oL) :: (P, oP) :: (a, .ins Cc (insF ⟨r, s, l, hd, [], n, mm⟩ P)) :: (st, drO ns i m r') :: cs, g⟩ →
          WE G.K X (tMeth Cc "unpin" (sp_C_unpin G ea Cc) [] E0 (tVar 1) (tCons (tVar 4) tNil)) τ ⟨(L, oL) :: (P, oP) :: (a, .ins Cc (insF ⟨r, s, l, hd, ps, n, mm⟩ P)) :: (st, drO ns i m r') :: cs, g⟩ (fun x W1 => WE G.K X (tC (.bl bb)) τ W1 fun y W2_ => W2 G.K DW.rNotBl x y W2_ Ψ) := fun bb ps Ψ τ i m r' hp1 hp2 t1 t4 hq => by
        refine we_meth ?_
        refine we_var t1 ⟨a, _, _, rfl, .tl (.tl .hd), rfl, ?_⟩
        refine wa_cons (we_var t4 (wa_nil ?_))
        refine wb_specX0 ⟨a, P, _, _, .int p, rfl, .tl (.tl .hd), (show ps.length ≤ 1000 by omega), fun e => ?_, fun p' ep _ _ => ?_⟩
        · rw [numD_t pr.1 pr.2] at e; cases e
        obtain rfl := PyData.int.inj ep
        refine ⟨fun e => ?_, fun _ => ?_⟩
        · obtain ⟨k, ek⟩ := pk
          rw [show placeOf l p = some k from ek] at e; cases e
        refine we_bl ?_
        refine w2_notBl ?_
        have e3 : List.filter (fun q => !decide (q = p)) ps = [] := by
          rw [List.filter_eq_nil_iff]
          intro q hq
          rw [hp1 q hq]
          simp
        dsimp only
        rw [e3]
        exact hq
      dsimp only
      rw [e1]
      walk_at "ec"
      refine un true [p] _ _ i2 m2 r2 (by simp) (by simp) rfl rfl ?_
      rw [show (decide (p ∈ [p])) = true from decide_eq_true (List.mem_singleton.mpr rfl), show (!decide (true = true)) = false from rfl]
      walk_at "ec"
      refine un false [] _ _ i2 m2 r2 (by simp) (by simp) rfl rfl ?_
      rw [show (decide (p ∈ ([] : List Int))) = false from decide_eq_false (by simp)]
      exact ⟨false, rfl, fun z => (by cases z), fun _ => ws_next (two _ _ _ _ _ b2)⟩
    · exact ws_next (two _ _ _ _ _ b')
end CB.N

namespace CB.N
open PySem PySem.Spec PyProof.Rows L2 DW CB2
local macro_rules | `(tactic| walk_at "e1") => `(tactic| (with_reducible first
  | refine ws_seq ?_ | refine ws_asg ?_ | refine ws_asgG ?_ | refine ws_ret ?_ | refine ws_retN ?_ | refine ws_drop ?_ | refine ws_ifs ?_ | refine ws_par ?_
  | refine we_int ?_ | refine we_bl ?_ | refine we_str ?_ | refine we_non ?_ | refine we_ty ?_ | refine we_op ?_ | refine wa_nil ?_ | refine wa_cons ?_ | refine we_tup ?_ | refine we_notV ?_ | refine we_andV ?_ | refine we_orV ?_ | refine we_ifE ?_ | refine we_neg ?_
  | refine wt_test ?_ | refine wt_B ?_ | refine wt_tru ?_ | refine wt_and ?_ | refine wt_or ?_ | refine wt_not ?_ | refine wt_yes ?_ | refine we_sl ?_ | refine wo_none ?_ | refine wo_some ?_ | refine we_call ?_ | refine we_CB ?_
  | refine wg_name ?_ | refine wgs_nil ?_ | refine wgs_cons ?_ | refine wg_tup2 ?_ | refine wg_tup3 ?_ | refine ws_for ?_ | refine wi_tup ?_ | refine wi_rng1 ?_ | refine wi_rng2 ?_ | refine wi_enumT ?_
  | refine w2_add ?_ | refine w2_sub ?_ | refine w2_lt ?_ | refine w2_le ?_ | refine w2_gt ?_ | refine w2_ge ?_ | refine w2_eqI ?_ | refine w2_neI ?_ | refine w2_eqS ?_ | refine w2_isN ?_ | refine w2_notN ?_ | refine w2_inT ?_ | refine w2_notInT ?_ | refine w2_inL ?_ | refine w2_notInL ?_
  | refine exB ?_ | refine exI ?_ | refine exT ?_ | refine exL ?_ | refine exI1 ?_ | refine exT1 ?_ | refine exV ?_ | refine exA0 ?_ | refine exA1 ?_ | refine exA2 ?_ | refine exA3 ?_ | refine exA4 ?_ | refine exA5 ?_ | refine exA6 ?_ | refine exA7 ?_ | refine bT ?_ | refine bF ?_ | refine bT' ?_ | refine bF' ?_
  | refine w3_slA ?_ | refine wb_lenT ?_ | refine wb_lenL ?_ | refine wb_listT ?_ | refine wb_tupL ?_ | refine ws_next ?_
  | refine we_var (by with_unfolding_all rfl) ?_))
local macro_rules | `(tactic| walk_at "ev") => `(tactic| (repeat (walk_at "e1")))

local macro_rules | `(tactic| walk_at "f1") => `(tactic| (with_reducible first
  | refine fe_rule (by assumption) (by with_unfolding_all rfl) (by first | assumption | exact Cut.up (by assumption)) ?_ | refine fe_size (by assumption) (by with_unfolding_all rfl) (by first | assumption | exact Cut.up (by assumption)) ?_
  | refine fe_state (by assumption) (by with_unfolding_all rfl) (by first | assumption | exact Cut.up (by assumption)) ?_ | refine fe_staying (by assumption) (by with_unfolding_all rfl) (by first | assumption | exact Cut.up (by assumption)) ?_
  | refine fe_asked (by assumption) (by with_unfolding_all rfl) (by first | assumption | exact Cut.up (by assumption)) ?_ | refine fe_missed (by assumption) (by with_unfolding_all rfl) (by first | assumption | exact Cut.up (by assumption)) ?_
  | refine fe_points (by assumption) (by with_unfolding_all rfl) (by first | assumption | exact Cut.up (by assumption)) ?_))
local macro_rules | `(tactic| walk_at "ec") => `(tactic| (repeat (first | walk_at "e1" | walk_at "f1")))
/-- the cache behind the first k asks of the stream -/
def cvAt (r : Rule) (s : Nat) (st : List Int) (k : Nat) : CV := ⟨r, s, (runTo r s (st.take k)).rows, (runTo r s (st.take k)).hand, [], k, misses (runTo r s (st.take k)).told⟩
def A_law (G : Glob) (ea : Str → Addr) : AT := fun xs W Φ => ∃ (ns : List Int) (c0 : List (Addr × OC)), xs = [.d (.list (ns.map .int))] ∧ W = ⟨c0, fun _ => True⟩ ∧ Con G ∧ NumX G (ea "BadStream") ∧ ∀ W', Φ (.d (.bool true)) W'
def sp_law (G : Glob) (ea : Str → Addr) (_Cc : Addr) : Sp := SPEC0 G.K (A_law G ea)
def t_law (G : Glob) (ea : Str → Addr) (Cc : Addr) : TS := (tSeq (tAsg (tCall (CB.sp__law_start G) [] E0 (tCons (tVar 0) tNil)) (gName 1))
    (tSeq (tFor (iRng1 (tCons (tC (.int 3)) tNil)) (gName 2) (tSeq (tPar 3 4 (tCons (tCall (CB.sp__law_rule G) [] E0 (tCons (tVar 1) tNil)) (tCons (tOp kAdd (tC (.int 1)) (tCall (CB.sp__law_drawn G) [] E0 (tCons (tVar 1) (tCons (tC (.int 6)) tNil)))) tNil)))
    (tSeq (tAsg (tCall (CB2.sp__law_stream G) [] E0 (tCons (tVar 1) (tCons (tOp kAdd (tC (.int 2)) (tCall (CB.sp__law_drawn G) [] E0 (tCons (tVar 1) (tCons (tC (.int 9)) tNil)))) (tCons (tOp (rIxL G.K) (tLst (tCons (tC (.int 12)) (tCons (tC (.int 60)) tNil))) (tCall (CB.sp__law_drawn G) [] E0 (tCons (tVar 1) (tCons (tC (.int 2)) tNil)))) tNil)))) (gName 5))
    (tSeq (tAsg (tCall (sp_run G ea) [] E0 (tCons (tVar 3) (tCons (tVar 4) (tCons (tVar 5) tNil)))) (gTup G.K 3 (gCons (gName 6) (gCons (gName 7) (gCons (gName 8) gNil)))))
    (tSeq (tAsg (tTup (tCons (tMake Cc (sp_C___init__ G ea Cc) [] E0 (tCons (tVar 3) (tCons (tVar 4) tNil))) (tCons (tCall (CB.sp__law_drawn G) [] E0 (tCons (tVar 1) (tCons (tOp kAdd (tCB (bLen G.K) (tCons (tVar 5) tNil)) (tC (.int 1))) tNil))) (tCons (tLst tNil) tNil)))) (gTup G.K 3 (gCons (gName 9) (gCons (gName 10) (gCons (gName 11) gNil)))))
    (tSeq (tFor (iRng1 (tCons (tCB (bLen G.K) (tCons (tVar 5) tNil)) tNil)) (gName 12) (tSeq (tIfS (tTest (tOp kEq (tVar 12) (tVar 10))) (tDrop (tMeth Cc "mark" (sp_C_mark G ea Cc) [] E0 (tVar 9) (tCons (tC (.str "near")) tNil))) tNext)
    (tSeq (tIfS (tAnd (tTest (tOp kEq (tCall (CB.sp__law_drawn G) [] E0 (tCons (tVar 1) (tCons (tC (.int 4)) tNil))) (tC (.int 0)))) (tNot (tB (tCall (sp__law_nothing G ea Cc) [] E0 (tCons (tVar 1) (tCons (tVar 9) (tCons (tVar 4) tNil))))))) (tRet (tC (.bl false))) tNext)
    (tDrop (tBM G.K "list" rAppend (tVar 11) (tCons (tMeth Cc "ask" (sp_C_ask G ea Cc) [] E0 (tVar 9) (tCons (tOp (rIxT G.K) (tVar 5) (tVar 12)) tNil)) tNil))))))
    (tSeq (tIfS (tOr (tNot (tB (tCall (CB.sp__law_same G 3) [] E0 (tCons (tVar 11) (tCons (tVar 7) tNil))))) (tOr (tTest (tOp (rNeD G.K) (tMeth Cc "holds" (sp_C_holds G Cc) [] E0 (tVar 9) tNil) (tVar 8))) (tTest (tOp (rNeD G.K) (tMeth Cc "counts" (sp_C_counts G Cc) [] E0 (tVar 9) tNil) (tTup (tCons (tCB (bLen G.K) (tCons (tVar 5) tNil)) (tCons (tVar 6) tNil))))))) (tRet (tC (.bl false))) tNext)
    (tSeq (tIfS (tTest (tOp (rNeD G.K) (tCB (rSortedT G.K) (tCons (tMeth Cc "order" (sp_C_order G Cc) [] E0 (tVar 9) tNil) tNil)) (tCB (bList G.K) (tCons (tVar 8) tNil)))) (tRet (tC (.bl false))) tNext)
    (tIfS (tTest (tOp kLt (tVar 10) (tCB (bLen G.K) (tCons (tVar 5) tNil)))) (tSeq (tDrop (tMeth Cc "go" (sp_C_go G ea Cc) [] E0 (tVar 9) (tCons (tC (.str "near")) tNil)))
    (tSeq (tAsg (tLc (iList G.K (tSl (rSlL G.K) (tVar 7) tNoPart (tPart (tVar 10)))) (gName 15) (tNot (tB (tOp (rIxT G.K) (tVar 15) (tC (.int 0))))) (tVar 15) [15]) (gName 13))
    (tSeq (tIfS (tTest (tOp (rNeD G.K) (tMeth Cc "counts" (sp_C_counts G Cc) [] E0 (tVar 9) tNil) (tTup (tCons (tVar 10) (tCons (tCB (bLen G.K) (tCons (tVar 13) tNil)) tNil))))) (tRet (tC (.bl false))) tNext)
    (tSeq (tAsg (tLc (iTup G.K (tSl (rSlA G.K) (tVar 5) (tPart (tVar 10)) tNoPart)) (gName 16) tYes (tMeth Cc "ask" (sp_C_ask G ea Cc) [] E0 (tVar 9) (tCons (tVar 16) tNil)) [16]) (gName 14))
    (tIfS (tOr (tNot (tB (tCall (CB.sp__law_same G 3) [] E0 (tCons (tVar 14) (tCons (tSl (rSlL G.K) (tVar 7) (tPart (tVar 10)) tNoPart) tNil))))) (tTest (tOp (rNeD G.K) (tMeth Cc "holds" (sp_C_holds G Cc) [] E0 (tVar 9) tNil) (tVar 8)))) (tRet (tC (.bl false))) tNext))))) tNext)))))))))
    (tRet (tC (.bl true)))))
theorem wb_ask0 (G : Glob) {ea : Str → Addr} {Cc : Addr} (HC : ClsC G.K Cc) {X : XC} {r : Rule} {s : Nat} {l : List Row} {h n m : Nat} {p : Int} {a P : Addr} {f : OC → List (Addr × OC)} {W : Wd} {Φ : VX → Wd → Prop} (o : Cut a (.ins Cc (insF ⟨r, s, l, h, [], n, m⟩ P)) W.c f)
    (hs : 1 ≤ s) (hl : l.length ≤ s) (h6 : s ≤ 6) (hc : r = .clock → l.length = s → h < l.length) (p0 : 0 ≤ p) (p9 : p ≤ 9)
    (q : Φ (.d (tellD ((CB.step r s l h p).held, (CB.step r s l h p).gone))) ⟨f (.ins Cc (insF ⟨r, s, (CB.step r s l h p).rows, (CB.step r s l h p).hand, [], n + 1, if (CB.step r s l h p).held then m else m + 1⟩ P)), W.g⟩) :
    WB G.K X (SPC (sp_C_ask G ea Cc) [] E0) [.r (.ref a), .d (.int p)] W Φ := by
  refine wb_specX0 ⟨a, P, _, f, .int p, swept l h, rfl, o, (show l.length ≤ 100 by omega), fun e => ?_, fun p' ep _ _ => ⟨fun z => ?_, fun _ => ⟨fun _ nl => ⟨fun e => ?_, fun e => ?_⟩, ?_⟩⟩⟩
  · rw [numD_t p0 p9] at e; cases e
  · have e := z.2.2
    have e : 0 = s := e
    omega
  · have nl : ¬ l.length < s := nl
    have := hc e (by omega)
    exact ⟨this, _, sweepP_swept this⟩
  · have nl : ¬ l.length < s := nl
    rw [show spots [] l = List.range l.length from spots_nil l]
    intro z
    have := congrArg List.length z
    rw [List.length_range] at this
    have e0 : l.length = 0 := this
    omega
  · obtain rfl := PyData.int.inj ep
    show Φ (.d (.tuple [.bool (stepP [] (swept l h) r s l h p).held, intD (stepP [] (swept l h) r s l h p).gone])) ⟨f (.ins Cc (insF (CV.asks ⟨r, s, l, h, [], n, m⟩ (stepP [] (swept l h) r s l h p)) P)), W.g⟩
    rw [stepP_nil]
    exact q
theorem cv_next (r : Rule) (s : Nat) (st : List Int) (k : Nat) (p : Int) (hp : st[k]? = some p) : cvAt r s st (k + 1) = ⟨r, s, (CB.step r s (runTo r s (st.take k)).rows (runTo r s (st.take k)).hand p).rows, (CB.step r s (runTo r s (st.take k)).rows (runTo r s (st.take k)).hand p).hand, [], k + 1,
    if (CB.step r s (runTo r s (st.take k)).rows (runTo r s (st.take k)).hand p).held then misses (runTo r s (st.take k)).told else misses (runTo r s (st.take k)).told + 1⟩ ∧
    (runTo r s (st.take (k + 1))).told = (runTo r s (st.take k)).told ++ [((CB.step r s (runTo r s (st.take k)).rows (runTo r s (st.take k)).hand p).held, (CB.step r s (runTo r s (st.take k)).rows (runTo r s (st.take k)).hand p).gone)] := by
  have et : st.take (k + 1) = st.take k ++ [p] := by rw [List.take_succ, hp]; rfl
  have er := tell_snoc r s (st.take k) p
  rw [← et] at er
  have em := misses_snoc (runTo r s (st.take k)).told ((CB.step r s (runTo r s (st.take k)).rows (runTo r s (st.take k)).hand p).held, (CB.step r s (runTo r s (st.take k)).rows (runTo r s (st.take k)).hand p).gone)
  refine ⟨?_, by rw [er]⟩
  unfold cvAt
  rw [er]
  dsimp only
  rw [em]
  dsimp only
  cases (CB.step r s (runTo r s (st.take k)).rows (runTo r s (st.take k)).hand p).held <;> rfl
theorem okD_tell (t : Bool × Option Int) : okD 1 (tellD t) = true := by
  obtain ⟨b, g⟩ := t
  cases g <;> rfl
theorem okD_told (ts : List (Bool × Option Int)) (h : ts.length ≤ 1000) : okD 2 (.list (ts.map tellD)) = true := by
  show (decide ((ts.map tellD).length ≤ 1000) && (ts.map tellD).all (okD 1)) = true
  rw [Bool.and_eq_true, decide_eq_true_eq, List.length_map, List.all_eq_true]
  refine ⟨h, fun d hd => ?_⟩
  obtain ⟨t, _, rfl⟩ := List.mem_map.mp hd
  exact okD_tell t
def Pg (l : List Row) : Prop := ∀ y ∈ l, 0 ≤ y.1 ∧ y.1 ≤ 9
theorem pg_put {l : List Row} {k : Nat} {x : Row} (h : Pg l) (hx : 0 ≤ x.1 ∧ x.1 ≤ 9) : Pg (putAt l k x) := fun y hy => by
  rcases List.mem_append.mp hy with hy | hy
  · exact h y (List.mem_of_mem_take hy)
  · rcases List.mem_cons.mp hy with rfl | hy
    · exact hx
    · exact h y (List.mem_of_mem_drop hy)
theorem pg_out {l : List Row} {k : Nat} {x : Row} (h : Pg l) (hx : 0 ≤ x.1 ∧ x.1 ≤ 9) : Pg (outAt l k x) := fun y hy => by
  rcases List.mem_append.mp hy with hy | hy
  · rcases List.mem_append.mp hy with hy | hy
    · exact h y (List.mem_of_mem_take hy)
    · exact h y (List.mem_of_mem_drop hy)
  · rw [List.mem_singleton.mp hy]; exact hx
theorem pg_sweep : ∀ (f : Nat) (l : List Row) (h : Nat), Pg l → Pg (sweep f l h).1
  | 0, _, _, k => k
  | f + 1, l, h, k => by
    unfold sweep
    cases e : l[h]? with
    | none => exact k
    | some x =>
      obtain ⟨p, m⟩ := x
      dsimp only
      by_cases c : m = 0
      · rw [if_pos c]; exact k
      · rw [if_neg c]
        refine pg_sweep f _ _ fun y hy => ?_
        rcases List.mem_or_eq_of_mem_set hy with z | z
        · exact k y z
        · rw [z]; exact k (p, m) (List.mem_of_getElem? e)
theorem pg_step {r : Rule} {s : Nat} {l : List Row} {h : Nat} {p : Int} (k : Pg l) (hp : 0 ≤ p ∧ p ≤ 9) : Pg (CB.step r s l h p).rows := by
  unfold CB.step
  cases e : placeOf l p with
  | some n =>
    obtain ⟨x, hx, _⟩ := placeOf_lt e
    have ex : l.getD n (0, 0) = x := by rw [List.getD_eq_getElem?_getD, hx]; rfl
    have qx := k x (List.mem_of_getElem? hx)
    dsimp only
    rw [ex]
    cases r with
    | used => exact pg_out k qx
    | last => exact pg_out k qx
    | often => exact pg_put k qx
    | clock => exact pg_put k qx
    | came => exact k
    | high => exact k
  | none =>
    dsimp only
    by_cases c : l.length < s
    · rw [if_pos c]
      intro y hy
      rcases List.mem_append.mp hy with hy | hy
      · exact k y hy
      · rw [List.mem_singleton.mp hy]; exact hp
    · rw [if_neg c]
      by_cases c2 : r = .clock
      · rw [if_pos c2]; exact pg_put (pg_sweep _ _ _ k) hp
      · rw [if_neg c2]; exact pg_out k hp
/-- the rows hold the stream's pages -/
theorem rows_pages {r : Rule} {s : Nat} : ∀ (st : List Int) (x : RS), (∀ p ∈ st, 0 ≤ p ∧ p ≤ 9) → Pg x.rows → Pg (runS r s st x).rows
  | [], _, _, k => k
  | p :: st, x, h, k => rows_pages st _ (fun q hq => h q (List.mem_cons_of_mem _ hq)) (pg_step k (h p List.mem_cons_self))
theorem told_pre {r : Rule} {s : Nat} : ∀ (st : List Int) (x : RS), ∃ w, (runS r s st x).told = x.told ++ w
  | [], x => ⟨[], by simp [runS]⟩
  | p :: st, x => by
    obtain ⟨w, hw⟩ := told_pre st ⟨(CB.step r s x.rows x.hand p).rows, (CB.step r s x.rows x.hand p).hand, x.told ++ [((CB.step r s x.rows x.hand p).held, (CB.step r s x.rows x.hand p).gone)]⟩
    exact ⟨_, hw.trans (List.append_assoc ..)⟩
theorem runS_two {r : Rule} {s : Nat} : ∀ (st su : List Int) (x : RS), runS r s (st ++ su) x = runS r s su (runS r s st x)
  | [], _, _ => rfl
  | p :: st, su, x => runS_two st su _
theorem told_take {r : Rule} {s : Nat} (st : List Int) (k : Nat) (hk : k ≤ st.length) : (runTo r s st).told.take k = (runTo r s (st.take k)).told := by
  obtain ⟨w, hw⟩ := told_pre (r := r) (s := s) (st.drop k) (runTo r s (st.take k))
  have e : runTo r s st = runS r s (st.drop k) (runTo r s (st.take k)) := by
    unfold runTo
    rw [← runS_two, List.take_append_drop]
  rw [e, hw]
  have l := told_length r s (st.take k)
  rw [List.length_take, Nat.min_eq_left hk] at l
  rw [List.take_append_of_le_length (by omega), List.take_of_length_le (by omega)]
theorem told_at {r : Rule} {s : Nat} (st : List Int) (k : Nat) (p : Int) (hp : st[k]? = some p) : (runTo r s st).told[k]? = some ((CB.step r s (runTo r s (st.take k)).rows (runTo r s (st.take k)).hand p).held, (CB.step r s (runTo r s (st.take k)).rows (runTo r s (st.take k)).hand p).gone) := by
  have hk := (List.getElem?_eq_some_iff.mp hp).1
  have e := told_take (r := r) (s := s) st (k + 1) hk
  rw [(cv_next r s st k p hp).2] at e
  have l := told_length r s (st.take k)
  rw [List.length_take, Nat.min_eq_left (by omega)] at l
  have e2 : ((runTo r s st).told.take (k + 1))[k]? = some ((CB.step r s (runTo r s (st.take k)).rows (runTo r s (st.take k)).hand p).held, (CB.step r s (runTo r s (st.take k)).rows (runTo r s (st.take k)).hand p).gone) := by
    rw [e, List.getElem?_append_right (by omega), l, Nat.sub_self]; rfl
  rwa [List.getElem?_take_of_lt (Nat.lt_succ_self k)] at e2
theorem valX_self {k : Key} {x : VX} {r : List (Key × VX)} : valX ((k, x) :: r) k = some x := by
  unfold valX
  rw [List.find?_cons_of_pos (by exact decide_eq_true rfl)]
  rfl
theorem ptD_ins {c c' : CV} (h : ptD c = ptD c') (r : Rule) (P : Addr) : insF { c with r := r } P = insF { c' with r := r } P := by
  have h := PyData.tuple.inj h
  have h1 := List.cons.inj h
  have h2 := List.cons.inj h1.2
  have h3 := List.cons.inj h2.2
  have h4 := List.cons.inj h3.2
  have h5 := List.cons.inj h4.2
  unfold insF
  dsimp only
  rw [show PyData.int (c.s : Int) = .int (c'.s : Int) from h1.1, show stateD c.l c.h = stateD c'.l c'.h from h2.1, show stayD c.ps = stayD c'.ps from h3.1, show PyData.int (c.n : Int) = .int (c'.n : Int) from h4.1, show PyData.int (c.m : Int) = .int (c'.m : Int) from h5.1]
theorem range_getT (T : List (Bool × Option Int)) : (List.range T.length).map (fun i => T.getD i (true, none)) = T := by
  apply List.ext_getElem
  · simp
  · intro i h1 h2
    simp at h1
    simp [List.getElem?_eq_getElem h1]
theorem miss_map (T : List (Bool × Option Int)) : (List.range T.length).filterMap (fun i => if (!(T.getD i (true, none)).1) = true then some (tellD (T.getD i (true, none))) else none) = (T.filter fun t => !t.1).map tellD := by
  rw [show (fun i => if (!(T.getD i (true, none)).1) = true then some (tellD (T.getD i (true, none))) else none) = (fun t : Bool × Option Int => if (!t.1) = true then some (tellD t) else none) ∘ (fun i => T.getD i (true, none)) from rfl, ← List.filterMap_map, range_getT]
  induction T with
  | nil => rfl
  | cons x T ih =>
    simp only [List.filterMap_cons, List.filter_cons]
    cases c : (!x.1) with
    | false => simp only [Bool.false_eq_true, if_false]; exact ih
    | true => simp only [if_true, List.map_cons]; rw [ih]
theorem miss_len (T : List (Bool × Option Int)) : ((T.filter fun t => !t.1).map tellD).length = misses T := by
  rw [List.length_map]
  exact List.countP_eq_length_filter.symm
theorem law_ok (G : Glob) (ea : Str → Addr) (X : XC) {Cc : Addr} (HC : ClsC G.K Cc) (xs : List VX) (W : Wd) (Φ : VX → Wd → Prop) (h : A_law G ea xs W Φ) : xs.length = 1 ∧ WS G.K X (t_law G ea Cc) (st0 xs 16) W (P0 Φ) := by
  obtain ⟨ns, c0, rfl, rfl, C, N, q⟩ := h
  refine ⟨rfl, ?_⟩
  unfold t_law
  walk_at "ec"
  refine wb_start fun st m b => ?_
  walk_at "ec"
  refine ⟨by decide, by decide, fun j τ' W' => ∃ (u2 u3 u4 u5 u6 u7 u8 u9 u10 u11 u12 u13 u14 u15 u16 : Option VX) (i m r : Int), τ' = [some (.d (.list (ns.map .int))), some (.r (.ref st)), u2, u3, u4, u5, u6, u7, u8, u9, u10, u11, u12, u13, u14, u15, u16] ∧ DrI i m r ∧ W' = ⟨(st, drO ns i m r) :: c0, fun _ => True⟩, ⟨_, _, _, _, _, _, _, _, _, _, _, _, _, _, _, _, _, _, rfl, b, rfl⟩, fun _ _ _ _ _ => trivial, ?_, ?_⟩
  · rintro j τ' W' hj ⟨u2, u3, u4, u5, u6, u7, u8, u9, u10, u11, u12, u13, u14, u15, u16, i, m, r, rfl, b, rfl⟩
    walk_at "ec"
    refine wb_rule .hd b fun ru i m r b => ?_
    walk_at "ec"
    refine wb_drawn .hd b (by decide) (by decide) fun x i m r x0 x1 b => ?_
    obtain ⟨s, hs⟩ : ∃ s : Nat, 1 + x = (s : Int) := ⟨(1 + x).toNat, (Int.toNat_of_nonneg (by omega)).symm⟩
    have s1 : 1 ≤ s := by omega
    have s6 : s ≤ 6 := by omega
    walk_at "ec"
    rw [hs]
    refine wb_drawn .hd b (by decide) (by decide) fun y i m r y0 y1 b => ?_
    walk_at "ec"
    refine we_lstD ?_
    walk_at "ec"
    refine wb_drawn .hd b (by decide) (by decide) fun cc i m r cc0 cc1 b => ?_
    obtain ⟨mo, hmo, mo0, mo1⟩ : ∃ mo : Int, atI [PyData.int 12, PyData.int 60] cc = some (.int mo) ∧ 0 ≤ mo ∧ mo ≤ 60 := by
      have e : cc = 0 ∨ cc = 1 := by omega
      rcases e with rfl | rfl
      · exact ⟨12, rfl, by omega, by omega⟩
      · exact ⟨60, rfl, by omega, by omega⟩
    refine w2_ixL hmo ?_
    walk_at "ec"
    refine wb_stream .hd b (by omega) (by omega) mo0 mo1 fun sm i m r ok b => ?_
    walk_at "ec"
    refine wb_run0 G C N s1 s6 ok ?_
    unfold runD
    refine wg_tup3 (wgs_cons (wg_name (wgs_cons (wg_name (wgs_cons (wg_name (wgs_nil ?_)))))))
    refine ws_seq (ws_asgG (we_tupR ?_))
    refine wa_cons (we_make ?_)
    walk_at "ec"
    intro a
    refine wb_specX0 ⟨a, _, _, _, rfl, .hd, C, fun z => absurd rfl (z ru), fun _ z => ?_, fun r' s' e1 e2 _ _ P => ⟨rfl, ?_⟩⟩
    · rw [numD_t (by omega) (by omega)] at z; cases z
    obtain rfl := rs_inj (PyData.str.inj e1)
    have es : s' = s := by have := PyData.int.inj e2; omega
    subst es
    walk_at "ec"
    have sl : (sm.map PyData.int).length = sm.length := List.length_map ..
    rw [sl]
    refine wb_drawn (n := (sm.length : Int) + 1) (.tl (.tl .hd)) b (by omega) (by have := ok.1; omega) fun nr i m r nr0 nr1 b => ?_
    obtain ⟨near, rfl⟩ : ∃ k : Nat, nr = (k : Int) := ⟨nr.toNat, (Int.toNat_of_nonneg nr0).symm⟩
    have nl : near ≤ sm.length := by omega
    refine wa_cons (we_lstO (wa_nil ⟨Nat.zero_le _, fun L => wa_nil ⟨Nat.le_of_ble_eq_true rfl, fun p vs => ?_⟩⟩))
    refine wg_tupR rfl rfl (fun _ _ _ _ => trivial) ?_
    refine wgs_cons (wg_name (wgs_cons (wg_name (wgs_cons (wg_name (wgs_nil ?_))))))
    walk_at "ec"
    rw [sl]
    refine ⟨by omega, by have := ok.1; omega, ?_⟩
    rw [Int.toNat_natCast]
    have inv := fun k : Nat => run_inv (r := ru) (s := s') s1 (sm.take k) rs0 (inv2_start ru s1)
    have pages := fun k : Nat => rows_pages (r := ru) (s := s') (sm.take k) rs0 (fun p hp => ok.2 p (List.mem_of_mem_take hp)) (fun y hy => (by cases hy))
    have ask : ∀ (k : Nat) (p : Int) (o : List (Addr × OC)) (Ψ : VX → Wd → Prop) (oP : OC) (cs : List (Addr × OC)), sm[k]? = some p → Ψ (.d (tellD ((CB.step ru s' (runTo ru s' (sm.take k)).rows (runTo ru s' (sm.take k)).hand p).held, (CB.step ru s' (runTo ru s' (sm.take k)).rows (runTo ru s' (sm.take k)).hand p).gone))) ⟨o ++ (P, oP) :: (a, .ins Cc (insF (cvAt ru s' sm (k + 1)) P)) :: cs, fun _ => True⟩ →
        ∀ f, Cut a (.ins Cc (insF (cvAt ru s' sm k) P)) (o ++ (P, oP) :: (a, .ins Cc (insF (cvAt ru s' sm k) P)) :: cs) f → (∀ o', f o' = o ++ (P, oP) :: (a, o') :: cs) → WB G.K X (SPC (sp_C_ask G ea Cc) [] E0) [.r (.ref a), .d (.int p)] ⟨o ++ (P, oP) :: (a, .ins Cc (insF (cvAt ru s' sm k) P)) :: cs, fun _ => True⟩ Ψ := fun k p o Ψ oP cs hp hq f cu ef => by
      have pr := ok.2 p (List.mem_of_getElem? hp)
      refine wb_ask0 G HC cu s1 (inv k).1 s6 (fun e1 e2 => ((inv k).2 e1).2 e2) pr.1 pr.2 ?_
      rw [ef]
      rw [← (cv_next ru s' sm k p hp).1]
      exact hq
    refine ⟨fun k τ' W' => k ≤ sm.length ∧ (∃ (u12 u13 u14 u15 u16 : Option VX), τ' = [some (.d (.list (ns.map .int))), some (.r (.ref st)), some (.d (.int (j : Int))), some (.d (.str ru.s)), some (.d (.int (s' : Int))), some (.d (streamD sm)), some (.d (.int ((misses (runTo ru s' sm).told : Nat) : Int))), some (.d (.list ((runTo ru s' sm).told.map tellD))), some (.d (heldD (runTo ru s' sm).rows)), some (.r (.ref a)), some (.d (.int (near : Int))), some (.r (.ref L)), u12, u13, u14, u15, u16]) ∧
      ∃ i m r, DrI i m r ∧ W' = ⟨(L, .lst (((runTo ru s' (sm.take k)).told.map tellD).map VX.d)) :: (P, .dK (ptsX (if near < k then [(.inr "near", cvAt ru s' sm near)] else []))) :: (a, .ins Cc (insF (cvAt ru s' sm k) P)) :: (st, drO ns i m r) :: c0, fun _ => True⟩, ⟨Nat.zero_le _, ⟨_, _, _, _, _, rfl⟩, i, m, r, b, ?_⟩, fun _ _ _ _ _ => trivial, ?_, ?_⟩
    · rw [if_neg (Nat.not_lt_zero _)]
      rfl
    · rintro k τ' W' hk ⟨_, ⟨u12, u13, u14, u15, u16, rfl⟩, i, m, r, b, rfl⟩
      obtain ⟨p, hp⟩ : ∃ p, sm[k]? = some p := ⟨_, List.getElem?_eq_getElem hk⟩
      have eS : ∀ (u : VX), True := fun _ => trivial
      have app : ∀ (oP : OC) (i m r : Int) (Pp : Pst), DrI i m r → (∀ u13 u14 u15 u16 i m r, DrI i m r → Pp.nx [some (.d (.list (ns.map .int))), some (.r (.ref st)), some (.d (.int (j : Int))), some (.d (.str ru.s)), some (.d (.int (s' : Int))), some (.d (streamD sm)), some (.d (.int ((misses (runTo ru s' sm).told : Nat) : Int))), some (.d (.list ((runTo ru s' sm).told.map tellD))), some (.d (heldD (runTo ru s' sm).rows)), some (.r (.ref a)), some (.d (.int (near : Int))), some (.r (.ref L)), some (.d (.int (k : Int))), u13, u14, u15, u16]
          ⟨(L, .lst (((runTo ru s' (sm.take (k + 1))).told.map tellD).map VX.d)) :: (P, oP) :: (a, .ins Cc (insF (cvAt ru s' sm (k + 1)) P)) :: (st, drO ns i m r) :: c0, fun _ => True⟩) →
          ∀ u13 u14 u15 u16, WS G.K X (tDrop (tBM G.K "list" rAppend (tVar 11) (tCons (tMeth Cc "ask" (sp_C_ask G ea Cc) [] E0 (tVar 9) (tCons (tOp (rIxT G.K) (tVar 5) (tVar 12)) tNil)) tNil))) [some (.d (.list (ns.map .int))), some (.r (.ref st)), some (.d (.int (j : Int))), some (.d (.str ru.s)), some (.d (.int (s' : Int))), some (.d (streamD sm)), some (.d (.int ((misses (runTo ru s' sm).told : Nat) : Int))), some (.d (.list ((runTo ru s' sm).told.map tellD))), some (.d (heldD (runTo ru s' sm).rows)), some (.r (.ref a)), some (.d (.int (near : Int))), some (.r (.ref L)), some (.d (.int (k : Int))), u13, u14, u15, u16]
            ⟨(L, .lst (((runTo ru s' (sm.take k)).told.map tellD).map VX.d)) :: (P, oP) :: (a, .ins Cc (insF (cvAt ru s' sm k) P)) :: (st, drO ns i m r) :: c0, fun _ => True⟩ Pp := fun oP i m r Pp b hP u13 u14 u15 u16 => by
        refine ws_drop (we_append ?_)
        walk_at "ec"
        refine ⟨L, _, _, rfl, .hd, ?_⟩
        walk_at "ec"
        refine we_meth ?_
        walk_at "ec"
        refine ⟨a, _, _, rfl, .tl (.tl .hd), rfl, ?_⟩
        walk_at "ec"
        refine w2_ixT (d := .int p) (atI_nat (by rw [List.getElem?_map, hp]; rfl)) ?_
        walk_at "ec"
        refine ask k p [(L, .lst (((runTo ru s' (sm.take k)).told.map tellD).map VX.d))] _ oP _ hp ?_ _ (.tl (.tl .hd)) (fun _ => rfl)
        walk_at "ec"
        refine ⟨_, _, _, rfl, .hd, ?_, ?_⟩
        · rw [List.length_map, List.length_map, told_length]
          have := List.length_take_le k sm
          have := ok.1
          omega
        rw [dmap_snoc tellD, ← (cv_next ru s' sm k p hp).2]
        exact hP _ _ _ _ _ _ _ b
      have rest : ∀ (oP : OC) (i m r : Int) (Pp : Pst), DrI i m r → (∀ u13 u14 u15 u16 i m r, DrI i m r → Pp.nx [some (.d (.list (ns.map .int))), some (.r (.ref st)), some (.d (.int (j : Int))), some (.d (.str ru.s)), some (.d (.int (s' : Int))), some (.d (streamD sm)), some (.d (.int ((misses (runTo ru s' sm).told : Nat) : Int))), some (.d (.list ((runTo ru s' sm).told.map tellD))), some (.d (heldD (runTo ru s' sm).rows)), some (.r (.ref a)), some (.d (.int (near : Int))), some (.r (.ref L)), some (.d (.int (k : Int))), u13, u14, u15, u16]
          ⟨(L, .lst (((runTo ru s' (sm.take (k + 1))).told.map tellD).map VX.d)) :: (P, oP) :: (a, .ins Cc (insF (cvAt ru s' sm (k + 1)) P)) :: (st, drO ns i m r) :: c0, fun _ => True⟩) →
          ∀ u13 u14 u15 u16, WS G.K X (tSeq (tIfS (tAnd (tTest (tOp kEq (tCall (CB.sp__law_drawn G) [] E0 (tCons (tVar 1) (tCons (tC (.int 4)) tNil))) (tC (.int 0)))) (tNot (tB (tCall (sp__law_nothing G ea Cc) [] E0 (tCons (tVar 1) (tCons (tVar 9) (tCons (tVar 4) tNil))))))) (tRet (tC (.bl false))) tNext)
            (tDrop (tBM G.K "list" rAppend (tVar 11) (tCons (tMeth Cc "ask" (sp_C_ask G ea Cc) [] E0 (tVar 9) (tCons (tOp (rIxT G.K) (tVar 5) (tVar 12)) tNil)) tNil)))) [some (.d (.list (ns.map .int))), some (.r (.ref st)), some (.d (.int (j : Int))), some (.d (.str ru.s)), some (.d (.int (s' : Int))), some (.d (streamD sm)), some (.d (.int ((misses (runTo ru s' sm).told : Nat) : Int))), some (.d (.list ((runTo ru s' sm).told.map tellD))), some (.d (heldD (runTo ru s' sm).rows)), some (.r (.ref a)), some (.d (.int (near : Int))), some (.r (.ref L)), some (.d (.int (k : Int))), u13, u14, u15, u16]
            ⟨(L, .lst (((runTo ru s' (sm.take k)).told.map tellD).map VX.d)) :: (P, oP) :: (a, .ins Cc (insF (cvAt ru s' sm k) P)) :: (st, drO ns i m r) :: c0, fun _ => True⟩ Pp := fun oP i m r Pp b hP u13 u14 u15 u16 => by
        walk_at "ec"
        refine wb_drawn (.tl (.tl (.tl .hd))) b (by decide) (by decide) fun y i m r y0 y1 b => ?_
        walk_at "ec"
        refine bD (fun c1 => ?_) (fun c1 => ?_)
        · walk_at "ec"
          refine wb_spec0 ⟨L, P, a, st, _, _, cvAt ru s' sm k, ns, i, m, r, c0, _, rfl, rfl, b, rfl, (inv k).1, s1, s6, pages k, fun i m r b => ?_⟩
          refine ⟨true, rfl, ?_⟩
          show _ ∧ _
          refine ⟨fun z => (by cases z), fun _ => ws_next (app oP i m r Pp b hP _ _ _ _)⟩
        · exact ⟨fun z => (by cases z), fun _ => ws_next (app oP i m r Pp b hP _ _ _ _)⟩
      walk_at "ec"
      refine bD (fun c1 => ?_) (fun c1 => ?_)
      · have ek : k = near := by omega
        have e0 : (if near < k then [((.inr "near" : Key), cvAt ru s' sm near)] else []) = [] := if_neg (by omega)
        rw [e0]
        walk_at "ec"
        refine we_meth ?_
        walk_at "ec"
        refine ⟨a, _, _, rfl, .tl (.tl .hd), rfl, ?_⟩
        walk_at "ec"
        refine wb_specX0 ⟨a, P, cvAt ru s' sm k, _, _, .str "near", [], rfl, .tl (.tl .hd), .tl .hd, by decide, fun z e => ?_, fun z e hz => ?_, fun z => ?_⟩
        · rw [← PyData.str.inj e]; decide
        · obtain rfl := PyData.str.inj e
          refine rest _ _ _ _ _ b ?_ _ _ _ _
          intro u13 u14 u15 u16 i m r b
          refine ⟨hk, ⟨_, _, _, _, _, rfl⟩, i, m, r, b, ?_⟩
          rw [if_pos (by omega), ← ek]
          rfl
        · have := z "near" rfl
          rw [show nameB "near" = true by decide +kernel] at this
          cases this
      · refine ws_next (rest _ _ _ _ _ b ?_ _ _ _ _)
        intro u13 u14 u15 u16 i m r b
        refine ⟨hk, ⟨_, _, _, _, _, rfl⟩, i, m, r, b, ?_⟩
        by_cases c2 : near < k
        · rw [if_pos c2, if_pos (show near < k + 1 by omega)]
        · rw [if_neg c2, if_neg (show ¬ near < k + 1 by omega)]
    · rintro τ' W' ⟨_, ⟨u12, u13, u14, u15, u16, rfl⟩, i, m, r, b, rfl⟩
      have etk : sm.take sm.length = sm := List.take_length
      have hrows : (cvAt ru s' sm sm.length).l = (runTo ru s' sm).rows := by show (runTo ru s' (sm.take sm.length)).rows = _; rw [etk]
      have hmiss : (cvAt ru s' sm sm.length).m = misses (runTo ru s' sm).told := by show misses (runTo ru s' (sm.take sm.length)).told = _; rw [etk]
      have invn : (runTo ru s' sm).rows.length ≤ s' := by have := (inv sm.length).1; rw [etk] at this; exact this
      have tl : (runTo ru s' sm).told.length ≤ 1000 := by rw [told_length]; have := ok.1; omega
      rw [etk]
      refine ws_fz (n := 11) rfl ?_
      walk_at "ec"
      refine wb_same (n := 2) (okD_told _ tl) ?_
      walk_at "ec"
      refine ⟨fun _ => ?_, fun z => (by cases z)⟩
      walk_at "ec"
      refine we_meth ?_
      walk_at "ec"
      refine ⟨a, _, _, rfl, .tl .hd, rfl, ?_⟩
      walk_at "ec"
      refine wb_spec0 ⟨a, P, cvAt ru s' sm sm.length, _, rfl, .tl .hd, (by rw [hrows]; omega), ?_⟩
      rw [hrows]
      walk_at "ec"
      refine w2_neDt (intsT_shaped _) (intsT_shaped _) ?_
      rw [show PyData.eqv (heldD (runTo ru s' sm).rows) (heldD (runTo ru s' sm).rows) = true from intsT_refl _, Bool.not_true]
      walk_at "ec"
      refine we_meth ?_
      walk_at "ec"
      refine ⟨a, _, _, rfl, .tl .hd, rfl, ?_⟩
      walk_at "ec"
      refine wb_spec0 ⟨a, P, cvAt ru s' sm sm.length, _, rfl, .tl .hd, ?_⟩
      rw [hmiss, show (cvAt ru s' sm sm.length).n = sm.length from rfl]
      walk_at "ec"
      rw [sl]
      have cnt : ∀ x y : Nat, SeqAt.shaped (.tuple [.int (x : Int), .int (y : Int)]) = true ∧ PyData.eqv (.tuple [.int (x : Int), .int (y : Int)]) (.tuple [.int (x : Int), .int (y : Int)]) = true := fun x y => ⟨intsT_shaped [(x : Int), (y : Int)], intsT_refl [(x : Int), (y : Int)]⟩
      refine w2_neDt (cnt _ _).1 (cnt _ _).1 ?_
      rw [(cnt _ _).2, Bool.not_true]
      walk_at "ec"
      refine we_meth ?_
      walk_at "ec"
      refine ⟨a, _, _, rfl, .tl .hd, rfl, ?_⟩
      walk_at "ec"
      refine wb_spec0 ⟨a, P, cvAt ru s' sm sm.length, _, rfl, .tl .hd, (by rw [hrows]; omega), ?_⟩
      rw [hrows]
      walk_at "ec"
      refine wb_sortedT (by rw [List.length_map]; omega) fun ms pm pw => ?_
      rw [isort_of pm pw]
      refine we_CB (wa_cons (we_var rfl (wa_nil (wb_listTd (ds := (isort ((runTo ru s' sm).rows.map (·.1))).map .int) ?_))))
      refine w2_neDt (CB.ints_shaped _) (CB.ints_shaped _) ?_
      rw [intsL_refl, Bool.not_true]
      walk_at "ec"
      rw [sl]
      refine bD (fun c1 => ?_) (fun c1 => ?_)
      · have nlt : near < sm.length := by omega
        have e0 : (if near < sm.length then [((.inr "near" : Key), cvAt ru s' sm near)] else []) = [(.inr "near", cvAt ru s' sm near)] := if_pos nlt
        rw [e0]
        walk_at "ec"
        refine we_meth ?_
        walk_at "ec"
        refine ⟨a, _, _, rfl, .tl .hd, rfl, ?_⟩
        walk_at "ec"
        have vs : valX (ptsX [((.inr "near" : Key), cvAt ru s' sm near)]) (.inr "near") = some (.d (ptD (cvAt ru s' sm near))) := valX_self (r := [])
        refine wb_specX0 ⟨a, P, cvAt ru s' sm sm.length, _, _, .str "near", [(.inr "near", cvAt ru s' sm near)], rfl, .tl .hd, .hd, fun z => ?_, fun z c' e1 e2 => ?_⟩
        · have := z "near" rfl
          rw [vs] at this
          cases this
        obtain rfl := PyData.str.inj e1
        rw [vs] at e2
        rw [show insF { c' with r := (cvAt ru s' sm sm.length).r } P = insF (cvAt ru s' sm near) P from (ptD_ins (VX.d.inj (Option.some.inj e2)) ru P).symm]
        have ml : ((runTo ru s' sm).told.map tellD).length = sm.length := by rw [List.length_map, told_length]
        have et : ((runTo ru s' sm).told.map tellD).take near = (runTo ru s' (sm.take near)).told.map tellD := by rw [← List.map_take, told_take sm near nl]
        walk_at "ec"
        refine we_lcM ?_
        refine wi_list ?_
        walk_at "ec"
        refine w3_slL ?_
        rw [cutD_take (by omega), et]
        walk_at "ec"
        have tn : (runTo ru s' (sm.take near)).told.length = near := by rw [told_length, List.length_take, Nat.min_eq_left nl]
        refine ⟨by rw [List.length_map, tn]; have := ok.1; omega, trivial, fun i => if (!((runTo ru s' (sm.take near)).told.getD i (true, none)).1) = true then some (tellD ((runTo ru s' (sm.take near)).told.getD i (true, none))) else none, ((runTo ru s' (sm.take near)).told.filter fun t => !t.1).map tellD, fun i hi => ?_, ?_, ?_⟩
        · rw [List.length_map] at hi
          have eg : ((runTo ru s' (sm.take near)).told.map tellD).getD i .none = tellD ((runTo ru s' (sm.take near)).told.getD i (true, none)) := by rw [List.getD_eq_getElem?_getD, List.getD_eq_getElem?_getD, List.getElem?_map, List.getElem?_eq_getElem hi]; rfl
          refine ⟨[(15, .d (tellD ((runTo ru s' (sm.take near)).told.getD i (true, none))))], ?_, fun p hp => by rw [List.mem_singleton.mp hp]; exact List.mem_singleton.mpr rfl, ?_⟩
          · dsimp only
            rw [eg]
            exact cg_name
          generalize eg2 : (runTo ru s' (sm.take near)).told.getD i (true, none) = t
          obtain ⟨hb, hg⟩ := t
          unfold tellD
          walk_at "ec"
          refine w2_ixT (i := ((0 : Nat) : Int)) rfl ?_
          walk_at "ec"
          cases hb with
          | true => exact ⟨rfl, fun z => (by cases z), fun _ => by dsimp only; rw [eg2]; rfl⟩
          | false =>
            refine ⟨rfl, fun _ => ?_, fun z => (by cases z)⟩
            walk_at "ec"
            exact ⟨rfl, _, rfl, by dsimp only; rw [eg2]; rfl⟩
        · rw [List.length_map]
          exact miss_map _
        walk_at "ec"
        refine we_meth ?_
        walk_at "ec"
        refine ⟨a, _, _, rfl, .tl .hd, rfl, ?_⟩
        walk_at "ec"
        refine wb_spec0 ⟨a, P, cvAt ru s' sm near, _, rfl, .tl .hd, ?_⟩
        rw [show (cvAt ru s' sm near).n = near from rfl, show (cvAt ru s' sm near).m = misses (runTo ru s' (sm.take near)).told from rfl]
        walk_at "ec"
        rw [miss_len]
        refine w2_neDt (cnt _ _).1 (cnt _ _).1 ?_
        rw [(cnt _ _).2, Bool.not_true]
        walk_at "ec"
        refine we_lcG ?_
        walk_at "ec"
        rw [cutD_drop (by rw [sl]; omega)]
        have dl : ((sm.map PyData.int).drop near).length = sm.length - near := by rw [List.length_drop, sl]
        rw [dl]
        refine ⟨by have := ok.1; omega, fun k acc W' => acc = ((((runTo ru s' sm).told.drop near).take k).map tellD).map VX.d ∧ W' = ⟨(P, .dK (ptsX [((.inr "near" : Key), cvAt ru s' sm near)])) :: (a, .ins Cc (insF (cvAt ru s' sm (near + k)) P)) :: (st, drO ns i m r) :: c0, fun _ => True⟩, ⟨rfl, rfl⟩, fun _ _ _ _ _ => trivial, ?_, ?_⟩
        · rintro k acc W' hk ⟨rfl, rfl⟩
          obtain ⟨p, hp⟩ : ∃ p, sm[near + k]? = some p := ⟨_, List.getElem?_eq_getElem (by omega)⟩
          have eg : ((sm.map PyData.int).drop near).getD k .none = .int p := by rw [List.getD_eq_getElem?_getD, List.getElem?_drop, List.getElem?_map, hp]; rfl
          refine ⟨[(16, .d (.int p))], ?_, fun p hp => by rw [List.mem_singleton.mp hp]; exact List.mem_singleton.mpr rfl, ?_⟩
          · dsimp only
            rw [eg]
            exact cg_name
          refine wt_yes ⟨fun _ => ?_, fun z => (by cases z)⟩
          refine we_meth ?_
          walk_at "ec"
          refine ⟨a, _, _, rfl, .tl .hd, rfl, ?_⟩
          walk_at "ec"
          refine ask (near + k) p [] _ _ _ hp ?_ _ (.tl .hd) (fun _ => rfl)
          refine ⟨?_, rfl⟩
          have ht := told_at (r := ru) (s := s') sm (near + k) p hp
          rw [← List.getElem?_drop] at ht
          rw [List.take_succ, ht]
          exact dmap_snoc tellD _ _
        · rintro acc W' ⟨rfl, rfl⟩
          have tk : ((runTo ru s' sm).told.drop near).take (sm.length - near) = (runTo ru s' sm).told.drop near := List.take_of_length_le (Nat.le_of_eq (by rw [List.length_drop, told_length]))
          rw [tk]
          refine .inl ⟨_, rfl, ?_⟩
          rw [show near + (sm.length - near) = sm.length by omega]
          walk_at "ec"
          refine w3_slL ?_
          rw [cutD_drop (by omega), ← List.map_drop]
          walk_at "ec"
          refine wb_same (n := 2) (okD_told _ (by rw [List.length_drop]; omega)) ?_
          walk_at "ec"
          refine ⟨fun _ => ?_, fun z => (by cases z)⟩
          walk_at "ec"
          refine we_meth ?_
          walk_at "ec"
          refine ⟨a, _, _, rfl, .tl .hd, rfl, ?_⟩
          walk_at "ec"
          refine wb_spec0 ⟨a, P, cvAt ru s' sm sm.length, _, rfl, .tl .hd, (by rw [hrows]; omega), ?_⟩
          rw [hrows]
          walk_at "ec"
          refine w2_neDt (intsT_shaped _) (intsT_shaped _) ?_
          rw [show PyData.eqv (heldD (runTo ru s' sm).rows) (heldD (runTo ru s' sm).rows) = true from intsT_refl _, Bool.not_true]
          refine ⟨false, rfl, fun z => (by cases z), fun _ => ws_drop1 (ws_drop1 (ws_next ?_))⟩
          exact ⟨_, _, _, _, _, _, _, _, _, _, _, _, _, _, _, _, _, _, rfl, b, rfl⟩
      · refine ws_drop1 (ws_drop1 (ws_next ?_))
        exact ⟨_, _, _, _, _, _, _, _, _, _, _, _, _, _, _, _, _, _, rfl, b, rfl⟩
  · rintro τ' W' ⟨u2, u3, u4, u5, u6, u7, u8, u9, u10, u11, u12, u13, u14, u15, u16, i, m, r, rfl, b, rfl⟩
    walk_at "ec"
    exact q _
theorem len__law_nothing (G : Glob) (ea : Str → Addr) {Cc : Addr} (HC : ClsC G.K Cc) (vs : List V) (H : Hp) (Q : VK) (E : XK) (h : sp__law_nothing G ea Cc vs H Q E) : vs.length = 3 := len0 (fun xs W Φ a => (law_nothing_ok G ea ⟨E, fun _ => 0, fun _ _ _ => False⟩ HC xs W Φ a).1) vs H Q E h
theorem rd__law_nothing {N : List Str} (hN : N.length = 6) (G : Glob) (ea : Str → Addr) {Cc : Addr} (HC : ClsC G.K Cc) (vs : List V) (H : Hp) (Q : VK) (E : XK) (h : sp__law_nothing G ea Cc vs H Q E) : t__law_nothing G ea Cc { nx := fun _ H' => Q .non H', rt := Q } (L2.start N vs) H := rd0 (k := 3) hN (fun X => law_nothing_ok G ea X HC) vs H Q E h
theorem len_law (G : Glob) (ea : Str → Addr) {Cc : Addr} (HC : ClsC G.K Cc) (vs : List V) (H : Hp) (Q : VK) (E : XK) (h : sp_law G ea Cc vs H Q E) : vs.length = 1 := len0 (fun xs W Φ a => (law_ok G ea ⟨E, fun _ => 0, fun _ _ _ => False⟩ HC xs W Φ a).1) vs H Q E h
theorem rd_law {N : List Str} (hN : N.length = 17) (G : Glob) (ea : Str → Addr) {Cc : Addr} (HC : ClsC G.K Cc) (vs : List V) (H : Hp) (Q : VK) (E : XK) (h : sp_law G ea Cc vs H Q E) : t_law G ea Cc { nx := fun _ H' => Q .non H', rt := Q } (L2.start N vs) H := rd0 (k := 1) hN (fun X => law_ok G ea X HC) vs H Q E h
end CB.N

/-! a cache with pages that stay: what it may be, and that it goes on -/
namespace CB.N
open PySem PySem.Spec PyProof.Rows L2 DW CB2
def cntU (ps : List Int) (l : List Row) : Nat := l.countP fun x => decide (x.2 ≠ 0) && !decide (x.1 ∈ ps)
theorem cntU_set {ps : List Int} {l : List Row} {h : Nat} {x : Row} (e : l[h]? = some x) (m : x.2 ≠ 0) (u : x.1 ∉ ps) : cntU ps (l.set h (x.1, 0)) + 1 = cntU ps l := by
  unfold cntU
  induction l generalizing h with
  | nil => cases e
  | cons y l ih =>
    cases h with
    | zero =>
      obtain rfl := Option.some.inj e
      simp [m, u]
    | succ h =>
      have e : l[h]? = some x := e
      have := ih e
      rw [List.set_cons_succ, List.countP_cons, List.countP_cons]
      omega
theorem sweepP_ex (ps : List Int) : ∀ (c d : Nat) (l : List Row) (h u : Nat), cntU ps l ≤ c → h < l.length → (∃ x, l[u]? = some x ∧ x.1 ∉ ps) → (h + d) % l.length = u → ∃ f sw, sweepP ps f l h = some sw := by
  intro c
  induction c with
  | zero =>
    intro d
    induction d with
    | zero =>
      intro l h u hc hl hu hd
      rw [Nat.add_zero, Nat.mod_eq_of_lt hl] at hd
      subst hd
      obtain ⟨x, hx, ux⟩ := hu
      refine ⟨1, (l, h), ?_⟩
      unfold sweepP
      rw [hx]
      dsimp only
      have m0 : x.2 = 0 := by
        apply Classical.byContradiction
        intro m
        have := cntU_set hx m ux
        omega
      rw [if_neg (fun z => z.elim (fun z => z m0) ux)]
    | succ d ih =>
      intro l h u hc hl hu hd
      obtain ⟨x, hx⟩ : ∃ x, l[h]? = some x := ⟨_, List.getElem?_eq_getElem hl⟩
      by_cases px : x.1 ∈ ps
      · obtain ⟨f, sw, hf⟩ := ih l ((h + 1) % l.length) u hc (Nat.mod_lt _ (by omega)) hu (by rw [Nat.mod_add_mod, ← hd]; congr 1; omega)
        refine ⟨f + 1, sw, ?_⟩
        unfold sweepP
        rw [hx]
        dsimp only
        rw [if_pos (Or.inr px), if_pos px]
        exact hf
      · refine ⟨1, (l, h), ?_⟩
        unfold sweepP
        rw [hx]
        dsimp only
        have m0 : x.2 = 0 := by
          apply Classical.byContradiction
          intro m
          have := cntU_set hx m px
          omega
        rw [if_neg (fun z => z.elim (fun z => z m0) px)]
  | succ c ihc =>
    have step : ∀ (l : List Row) (h u : Nat) (x : Row), cntU ps l ≤ c + 1 → h < l.length → l[h]? = some x → x.1 ∉ ps → (∃ y, l[u]? = some y ∧ y.1 ∉ ps) → u < l.length → ∃ f sw, sweepP ps f l h = some sw := fun l h u x hc hl hx px hu ul => by
      by_cases m : x.2 = 0
      · refine ⟨1, (l, h), ?_⟩
        unfold sweepP
        rw [hx]
        dsimp only
        rw [if_neg (fun z => z.elim (fun z => z m) px)]
      · have cs := cntU_set hx m px
        have hm : (h + 1) % l.length < l.length := Nat.mod_lt _ (by omega)
        obtain ⟨f, sw, hf⟩ := ihc (u + l.length - (h + 1) % l.length) (l.set h (x.1, 0)) ((h + 1) % l.length) u (by omega) (by rw [List.length_set]; exact hm) (by
          obtain ⟨y, hy, uy⟩ := hu
          by_cases e : h = u
          · subst e
            exact ⟨(x.1, 0), by rw [List.getElem?_set_self hl], px⟩
          · exact ⟨y, by rw [List.getElem?_set_ne e]; exact hy, uy⟩) (by
          rw [List.length_set, show (h + 1) % l.length + (u + l.length - (h + 1) % l.length) = u + l.length by omega, Nat.add_mod_right, Nat.mod_eq_of_lt ul])
        refine ⟨f + 1, sw, ?_⟩
        unfold sweepP
        rw [hx]
        dsimp only
        rw [if_pos (Or.inl m), if_neg px]
        exact hf
    intro d
    induction d with
    | zero =>
      intro l h u hc hl hu hd
      rw [Nat.add_zero, Nat.mod_eq_of_lt hl] at hd
      subst hd
      obtain ⟨x, hx, ux⟩ := hu
      exact step l h h x hc hl hx ux ⟨x, hx, ux⟩ hl
    | succ d ih =>
      intro l h u hc hl hu hd
      obtain ⟨x, hx⟩ : ∃ x, l[h]? = some x := ⟨_, List.getElem?_eq_getElem hl⟩
      by_cases px : x.1 ∈ ps
      · obtain ⟨f, sw, hf⟩ := ih l ((h + 1) % l.length) u hc (Nat.mod_lt _ (by omega)) hu (by rw [Nat.mod_add_mod, ← hd]; congr 1; omega)
        refine ⟨f + 1, sw, ?_⟩
        unfold sweepP
        rw [hx]
        dsimp only
        rw [if_pos (Or.inr px), if_pos px]
        exact hf
      · exact step l h u x hc hl hx px hu (by rw [← hd]; exact Nat.mod_lt _ (by omega))
/-- a way for the hand, told once for all -/
noncomputable def swF (ps : List Int) (l : List Row) (h : Nat) : List Row × Nat := by
  classical
  exact if e : ∃ (sw : List Row × Nat) (f : Nat), sweepP ps f l h = some sw then e.choose else ([], 0)
theorem swF_ok {ps : List Int} {l : List Row} {h : Nat} (e : ∃ f sw, sweepP ps f l h = some sw) : ∃ f, sweepP ps f l h = some (swF ps l h) := by
  have e' : ∃ (sw : List Row × Nat) (f : Nat), sweepP ps f l h = some sw := let ⟨f, sw, z⟩ := e; ⟨sw, f, z⟩
  unfold swF
  rw [dif_pos e']
  exact e'.choose_spec
/-- what a cache may be -/
structure CI (c : CV) : Prop where
  s1 : 1 ≤ c.s
  s6 : c.s ≤ 6
  len : c.l.length ≤ c.s
  nd : (c.l.map (·.1)).Nodup
  hand : c.h = 0 ∨ c.h < c.l.length
  pn : c.ps.Nodup
  ps : ∀ p ∈ c.ps, p ∈ c.l.map (·.1)
  pg : Pg c.l
theorem nd_len : ∀ {a b : List Int}, a.Nodup → (∀ x ∈ a, x ∈ b) → a.length ≤ b.length
  | [], _, _, _ => Nat.zero_le _
  | x :: a, b, nd, h => by
    have hx := h x List.mem_cons_self
    obtain ⟨n1, n2⟩ := List.nodup_cons.mp nd
    have := nd_len (b := b.erase x) n2 fun y hy => (List.mem_erase_of_ne (fun e => n1 (by rw [← e]; exact hy))).mpr (h y (List.mem_cons_of_mem _ hy))
    have l := List.length_erase_of_mem hx
    have p := List.length_pos_of_mem hx
    rw [List.length_cons]
    omega
theorem nd_len' {α : Type} [DecidableEq α] : ∀ {a b : List α}, a.Nodup → (∀ x ∈ a, x ∈ b) → a.length ≤ b.length
  | [], _, _, _ => Nat.zero_le _
  | x :: a, b, nd, h => by
    have hx := h x List.mem_cons_self
    obtain ⟨n1, n2⟩ := List.nodup_cons.mp nd
    have := nd_len' (b := b.erase x) n2 fun y hy => (List.mem_erase_of_ne (fun e => n1 (by rw [← e]; exact hy))).mpr (h y (List.mem_cons_of_mem _ hy))
    have l := List.length_erase_of_mem hx
    have p := List.length_pos_of_mem hx
    rw [List.length_cons]
    omega
theorem free_ex {ps : List Int} {l : List Row} (pn : ps.Nodup) (nd : (l.map (·.1)).Nodup) (h : ps.length < l.length) : ∃ (u : Nat) (x : Row), l[u]? = some x ∧ x.1 ∉ ps := by
  apply Classical.byContradiction
  intro no
  have sub : ∀ p ∈ l.map (·.1), p ∈ ps := fun p hp => by
    obtain ⟨x, hx, rfl⟩ := List.mem_map.mp hp
    obtain ⟨u, hu, e⟩ := List.getElem_of_mem hx
    apply Classical.byContradiction
    intro z
    exact no ⟨u, x, by rw [List.getElem?_eq_getElem hu, e], z⟩
  have := nd_len nd sub
  rw [List.length_map] at this
  omega
theorem spots_ne {ps : List Int} {l : List Row} {u : Nat} {x : Row} (hx : l[u]? = some x) (ux : x.1 ∉ ps) : spots ps l ≠ [] := fun e => by
  have hu := (List.getElem?_eq_some_iff.mp hx).1
  have : u ∈ spots ps l := by
    unfold spots
    rw [List.mem_filter]
    refine ⟨List.mem_range.mpr hu, ?_⟩
    have e : rowAt l u = x := by unfold rowAt; rw [List.getD_eq_getElem?_getD, hx]; rfl
    rw [e, decide_eq_false ux]
    rfl
  rw [e] at this
  cases this
theorem sw_ok {r : Rule} {ps : List Int} {l : List Row} {h : Nat} (pn : ps.Nodup) (nd : (l.map (·.1)).Nodup) (hd : h = 0 ∨ h < l.length) (lt : ps.length < l.length) : SwOk r l h ps (swF ps l h) := by
  obtain ⟨u, x, hx, ux⟩ := free_ex pn nd lt
  have hl : h < l.length := by omega
  have hu := (List.getElem?_eq_some_iff.mp hx).1
  refine ⟨fun _ => ⟨hl, swF_ok (sweepP_ex ps _ (u + l.length - h) l h u (Nat.le_refl _) hl ⟨x, hx, ux⟩ ?_)⟩, fun _ => spots_ne hx ux⟩
  rw [show h + (u + l.length - h) = u + l.length by omega, Nat.add_mod_right, Nat.mod_eq_of_lt hu]
structure HO_ (l : List Row) (ps : List Int) : Prop where
  nd : (l.map (·.1)).Nodup
  pn : ps.Nodup
  ps : ∀ p ∈ ps, p ∈ l.map (·.1)
  pg : Pg l
theorem perm_l {l : List Row} {k : Nat} {y : Row} (h : l[k]? = some y) : l.Perm (y :: outL l k) := by
  obtain ⟨hk, e⟩ := List.getElem?_eq_some_iff.mp h
  have e1 : l = l.take k ++ y :: l.drop (k + 1) := by
    have := (List.take_append_drop k l).symm
    rw [List.drop_eq_getElem_cons hk, e] at this
    exact this
  unfold outL
  conv => lhs; rw [e1]
  exact List.perm_middle
theorem perm_put (l : List Row) (k : Nat) (x : Row) : (putAt l k x).Perm (x :: outL l k) := List.perm_middle
theorem perm_out (l : List Row) (k : Nat) (x : Row) : (outAt l k x).Perm (x :: outL l k) := List.perm_append_comm
theorem ho_perm {l l' : List Row} {ps : List Int} (p : l.Perm l') (h : HO_ l ps) : HO_ l' ps := ⟨(p.map _).nodup_iff.mp h.nd, h.pn, fun q hq => (p.map _).mem_iff.mp (h.ps q hq), fun y hy => h.pg y (p.mem_iff.mpr hy)⟩
theorem ho_same {l l' m : List Row} {ps : List Int} {x y : Row} (p : l.Perm (y :: m)) (p' : l'.Perm (x :: m)) (e : x.1 = y.1) (h : HO_ l ps) : HO_ l' ps := by
  have h1 := ho_perm p h
  refine ho_perm p'.symm ⟨?_, h1.pn, fun q hq => ?_, fun z hz => ?_⟩
  · have := h1.nd; rw [List.map_cons] at this ⊢; rw [e]; exact this
  · have := h1.ps q hq; rw [List.map_cons] at this ⊢; rw [e]; exact this
  · rcases List.mem_cons.mp hz with rfl | hz
    · rw [e]; exact h1.pg y List.mem_cons_self
    · exact h1.pg z (List.mem_cons_of_mem _ hz)
theorem ho_swap {l l' m : List Row} {ps : List Int} {x y : Row} (p : l.Perm (y :: m)) (p' : l'.Perm (x :: m)) (hy : y.1 ∉ ps) (hx : x.1 ∉ l.map (·.1)) (hp : 0 ≤ x.1 ∧ x.1 ≤ 9) (h : HO_ l ps) : HO_ l' ps := by
  have h1 := ho_perm p h
  have hx1 : x.1 ∉ (y :: m).map (·.1) := fun z => hx ((p.map _).mem_iff.mpr z)
  have nd := h1.nd
  rw [List.map_cons] at nd hx1
  have nd2 := (List.nodup_cons.mp nd).2
  refine ho_perm p'.symm ⟨?_, h1.pn, fun q hq => ?_, fun z hz => ?_⟩
  · rw [List.map_cons]; exact List.nodup_cons.mpr ⟨fun z => hx1 (List.mem_cons_of_mem _ z), nd2⟩
  · have := h1.ps q hq
    rw [List.map_cons] at this ⊢
    rcases List.mem_cons.mp this with e | z
    · exact absurd (e ▸ hq) hy
    · exact List.mem_cons_of_mem _ z
  · rcases List.mem_cons.mp hz with rfl | hz
    · exact hp
    · exact h1.pg z (List.mem_cons_of_mem _ hz)
theorem ho_add {l : List Row} {ps : List Int} {x : Row} (hx : x.1 ∉ l.map (·.1)) (hp : 0 ≤ x.1 ∧ x.1 ≤ 9) (h : HO_ l ps) : HO_ (l ++ [x]) ps := by
  refine ho_perm (l := x :: l) (List.perm_append_comm (l₁ := [x]) (l₂ := l)) ⟨?_, h.pn, fun q hq => ?_, fun z hz => ?_⟩
  · rw [List.map_cons]; exact List.nodup_cons.mpr ⟨hx, h.nd⟩
  · rw [List.map_cons]; exact List.mem_cons_of_mem _ (h.ps q hq)
  · rcases List.mem_cons.mp hz with rfl | hz
    · exact hp
    · exact h.pg z hz
theorem ho_less {l m : List Row} {ps : List Int} {y : Row} (p : l.Perm (y :: m)) (hy : y.1 ∉ ps) (h : HO_ l ps) : HO_ m ps := by
  have h1 := ho_perm p h
  have nd := h1.nd
  rw [List.map_cons] at nd
  refine ⟨(List.nodup_cons.mp nd).2, h1.pn, fun q hq => ?_, fun z hz => h1.pg z (List.mem_cons_of_mem _ hz)⟩
  have := h1.ps q hq
  rw [List.map_cons] at this
  rcases List.mem_cons.mp this with e | z
  · exact absurd (e ▸ hq) hy
  · exact z
theorem ho_free {l : List Row} {ps : List Int} (p : Int) (h : HO_ l ps) : HO_ l (ps.filter fun q => !decide (q = p)) := ⟨h.nd, h.pn.filter _, fun q hq => h.ps q (List.mem_filter.mp hq).1, h.pg⟩
theorem spots_free {s : List Int} {l : List Row} {i : Nat} (h : i ∈ spots s l) : i < l.length ∧ (rowAt l i).1 ∉ s := by
  unfold spots at h
  rw [List.mem_filter] at h
  refine ⟨List.mem_range.mp h.1, fun z => ?_⟩
  have := h.2
  rw [decide_eq_true z] at this
  cases this
theorem goPlace_in {r : Rule} {l : List Row} {s : List Int} (c : r ≠ .clock) (hne : spots s l ≠ []) : goPlace r l s ∈ spots s l := by
  have inl : ∀ k, k < (spots s l).length → (spots s l).getD k 0 ∈ spots s l := fun k hk => by
    rw [List.getD_eq_getElem?_getD, List.getElem?_eq_getElem hk]
    exact List.getElem_mem hk
  have hd : (spots s l).headD 0 ∈ spots s l := by
    cases e : spots s l with
    | nil => exact absurd e hne
    | cons a t => exact List.mem_cons_self
  have l0 : 0 < (spots s l).length := List.length_pos_iff.mpr hne
  cases r with
  | clock => exact absurd rfl c
  | came => exact hd
  | used => exact hd
  | last =>
    show (spots s l).getLastD 0 ∈ _
    rw [List.getLastD_eq_getLast?, List.getLast?_eq_getElem?, List.getElem?_eq_getElem (by omega)]
    exact List.getElem_mem _
  | high =>
    have := (lastIdx_spec (l := (spots s l).map fun i => (rowAt l i).1) (by simpa using hne)).1
    rw [List.length_map] at this
    exact inl _ this
  | often =>
    have := (bestIdx_spec (l := (spots s l).map fun i => - (rowAt l i).2) (by simpa using hne)).1
    rw [List.length_map] at this
    exact inl _ this
theorem sweepP_fst {stay : List Int} : ∀ {f : Nat} {l : List Row} {h : Nat} {sw : List Row × Nat}, sweepP stay f l h = some sw → sw.1.map (·.1) = l.map (·.1) ∧ ∃ x, sw.1[sw.2]? = some x ∧ x.1 ∉ stay
  | 0, _, _, _, e => by cases e
  | f + 1, l, h, sw, e => by
    unfold sweepP at e
    cases hx : l[h]? with
    | none => rw [hx] at e; cases e
    | some x =>
      rw [hx] at e
      dsimp only at e
      by_cases c : x.2 ≠ 0 ∨ x.1 ∈ stay
      · rw [if_pos c] at e
        obtain ⟨h1, h2⟩ := sweepP_fst e
        refine ⟨h1.trans ?_, h2⟩
        split
        · rfl
        · rw [List.map_set]
          have : (l.map (·.1))[h]? = some x.1 := by rw [List.getElem?_map, hx]; rfl
          obtain ⟨a1, a2⟩ := List.getElem?_eq_some_iff.mp this
          apply List.ext_getElem?
          intro i
          by_cases e : h = i
          · subst e; rw [List.getElem?_set_self a1, this]
          · rw [List.getElem?_set_ne e]
      · rw [if_neg c] at e
        cases e
        exact ⟨rfl, x, hx, fun z => c (.inr z)⟩
end CB.N

namespace CB.N
open PySem PySem.Spec PyProof.Rows L2 DW CB2
theorem CI.ho {c : CV} (i : CI c) : HO_ c.l c.ps := ⟨i.nd, i.pn, i.ps, i.pg⟩
theorem CI.of {c : CV} (s1 : 1 ≤ c.s) (s6 : c.s ≤ 6) (len : c.l.length ≤ c.s) (hd : c.h = 0 ∨ c.h < c.l.length) (h : HO_ c.l c.ps) : CI c := ⟨s1, s6, len, h.nd, hd, h.pn, h.ps, h.pg⟩
theorem no_place {l : List Row} {p : Int} (h : placeOf l p = none) : p ∉ l.map (·.1) := fun z => by
  obtain ⟨x, hx, e⟩ := List.mem_map.mp z
  exact placeOf_no h x hx e
/-- an ask keeps what a cache may be -/
theorem ci_ask {c : CV} {p : Int} (i : CI c) (hp : 0 ≤ p ∧ p ≤ 9) (nf : ¬ Full c p) : (placeOf c.l p = none → ¬ c.l.length < c.s → SwOk c.r c.l c.h c.ps (swF c.ps c.l c.h)) ∧ CI (c.asks (stepP c.ps (swF c.ps c.l c.h) c.r c.s c.l c.h p)) := by
  have sw : placeOf c.l p = none → ¬ c.l.length < c.s → SwOk c.r c.l c.h c.ps (swF c.ps c.l c.h) := fun e nl => by
    have el : c.l.length = c.s := by have := i.len; omega
    have le := nd_len i.pn i.ps
    rw [List.length_map] at le
    refine sw_ok i.pn i.nd i.hand ?_
    have : c.ps.length ≠ c.s := fun z => nf ⟨e, el, z⟩
    omega
  refine ⟨sw, ?_⟩
  have key : (stepP c.ps (swF c.ps c.l c.h) c.r c.s c.l c.h p).rows.length ≤ c.s ∧ ((stepP c.ps (swF c.ps c.l c.h) c.r c.s c.l c.h p).hand = 0 ∨ (stepP c.ps (swF c.ps c.l c.h) c.r c.s c.l c.h p).hand < (stepP c.ps (swF c.ps c.l c.h) c.r c.s c.l c.h p).rows.length) ∧ HO_ (stepP c.ps (swF c.ps c.l c.h) c.r c.s c.l c.h p).rows c.ps := by
    unfold stepP
    cases e : placeOf c.l p with
    | some k =>
      obtain ⟨x, hx, ex⟩ := placeOf_lt e
      have hk := (List.getElem?_eq_some_iff.mp hx).1
      have gx : c.l.getD k (0, 0) = x := by rw [List.getD_eq_getElem?_getD, hx]; rfl
      dsimp only
      rw [gx]
      refine ⟨by rw [asked_len x hk]; exact i.len, by rw [asked_len x hk]; exact i.hand, ?_⟩
      have pl := perm_l hx
      cases c.r with
      | used => exact ho_same pl (perm_out c.l k x) rfl i.ho
      | last => exact ho_same pl (perm_out c.l k x) rfl i.ho
      | often => exact ho_same pl (perm_put c.l k (x.1, x.2 + 1)) rfl i.ho
      | clock => exact ho_same pl (perm_put c.l k (x.1, 1)) rfl i.ho
      | came => exact i.ho
      | high => exact i.ho
    | none =>
      dsimp only
      have np := no_place e
      by_cases lt : c.l.length < c.s
      · rw [if_pos lt]
        refine ⟨by simp; omega, ?_, ho_add np hp i.ho⟩
        rcases i.hand with z | z
        · exact .inl z
        · exact .inr (by simp; omega)
      · rw [if_neg lt]
        have ok := sw e lt
        by_cases cl : c.r = .clock
        · rw [if_pos cl]
          obtain ⟨hl, f, hf⟩ := ok.1 cl
          have e1 := sweepP_len hf
          have e2 := sweepP_lt hl hf
          obtain ⟨e3, x, hx, ux⟩ := sweepP_fst hf
          have l2 := putAt_len (l := (swF c.ps c.l c.h).1) (k := (swF c.ps c.l c.h).2) (p, firstMark c.r) (by omega)
          refine ⟨by rw [l2, e1]; exact i.len, .inr (by rw [l2]; exact Nat.mod_lt _ (by omega)), ?_⟩
          have h0 : HO_ (swF c.ps c.l c.h).1 c.ps := ⟨by rw [e3]; exact i.nd, i.pn, fun q hq => by rw [e3]; exact i.ps q hq, fun y hy => by
            have : y.1 ∈ c.l.map (·.1) := by rw [← e3]; exact List.mem_map.mpr ⟨y, hy, rfl⟩
            obtain ⟨z, hz, ez⟩ := List.mem_map.mp this
            rw [← ez]; exact i.pg z hz⟩
          exact ho_swap (perm_l hx) (perm_put _ _ _) ux (by rw [e3]; exact np) hp h0
        · rw [if_neg cl]
          obtain ⟨g1, g2⟩ := spots_free (goPlace_in cl (ok.2 cl))
          have l2 := outAt_len (l := c.l) (k := goPlace c.r c.l c.ps) (p, firstMark c.r) g1
          refine ⟨by rw [l2]; exact i.len, by rw [l2]; exact i.hand, ?_⟩
          exact ho_swap (perm_l (rowAt_some g1)) (perm_out _ _ _) g2 np hp i.ho
  exact .of i.s1 i.s6 key.1 key.2.1 key.2.2
theorem woHand_ok {l : List Row} {h k : Nat} (hk : k < l.length) (hh : h = 0 ∨ h < l.length) : woHand l h k = 0 ∨ woHand l h k < l.length - 1 := by
  unfold woHand
  by_cases c : k < h
  · rw [if_pos c]; split <;> omega
  · rw [if_neg c]; split <;> omega
/-- pages can be let go until no more than z are held -/
theorem goes_ex (r : Rule) (ps : List Int) (z : Nat) (hz : ps.length ≤ z) : ∀ (n : Nat) (l : List Row) (h : Nat), l.length = n → HO_ l ps → (h = 0 ∨ h < l.length) → ∃ gs l' h', Goes r ps z l h gs l' h' ∧ HO_ l' ps ∧ l'.length ≤ z ∧ (h' = 0 ∨ h' < l'.length) := by
  intro n
  induction n with
  | zero =>
    intro l h e ho hh
    exact ⟨[], l, h, .done (by omega), ho, by omega, hh⟩
  | succ n ih =>
    intro l h e ho hh
    by_cases c : l.length ≤ z
    · exact ⟨[], l, h, .done c, ho, c, hh⟩
    · have ok := sw_ok (r := r) ho.pn ho.nd hh (by omega)
      by_cases cl : r = .clock
      · obtain ⟨hl, f, hf⟩ := ok.1 cl
        have e1 := sweepP_len hf
        have e2 := sweepP_lt hl hf
        obtain ⟨e3, x, hx, ux⟩ := sweepP_fst hf
        have h0 : HO_ (swF ps l h).1 ps := ⟨by rw [e3]; exact ho.nd, ho.pn, fun q hq => by rw [e3]; exact ho.ps q hq, fun y hy => by
          have : y.1 ∈ l.map (·.1) := by rw [← e3]; exact List.mem_map.mpr ⟨y, hy, rfl⟩
          obtain ⟨w, hw, ez⟩ := List.mem_map.mp this
          rw [← ez]; exact ho.pg w hw⟩
        have ol := outL_len (l := (swF ps l h).1) (k := (swF ps l h).2) (by omega)
        obtain ⟨gs, l', h', g1, g2, g3, g4⟩ := ih (outL (swF ps l h).1 (swF ps l h).2) (woHand (swF ps l h).1 (swF ps l h).2 (swF ps l h).2) (by omega) (ho_less (perm_l hx) ux h0) (by
          have := woHand_ok (l := (swF ps l h).1) (h := (swF ps l h).2) (k := (swF ps l h).2) (by omega) (.inr (by omega))
          rw [ol]; exact this)
        exact ⟨_, l', h', .clock (by omega) cl hl hf g1, g2, g3, g4⟩
      · obtain ⟨g1, g2⟩ := spots_free (goPlace_in cl (ok.2 cl))
        have ol := outL_len g1
        obtain ⟨gs, l', h', k1, k2, k3, k4⟩ := ih (outL l (goPlace r l ps)) (woHand l h (goPlace r l ps)) (by omega) (ho_less (perm_l (rowAt_some g1)) g2 ho) (by
          have := woHand_ok g1 hh
          rw [ol]; exact this)
        exact ⟨_, l', h', .other (by omega) cl (ok.2 cl) k1, k2, k3, k4⟩
theorem sweepP_more {ps : List Int} : ∀ {f : Nat} {l : List Row} {h : Nat} {sw : List Row × Nat}, sweepP ps f l h = some sw → ∀ k, sweepP ps (f + k) l h = some sw
  | 0, _, _, _, e, _ => by cases e
  | f + 1, l, h, sw, e, k => by
    rw [show f + 1 + k = (f + k) + 1 by omega]
    unfold sweepP at e ⊢
    cases hx : l[h]? with
    | none => rw [hx] at e; cases e
    | some x =>
      rw [hx] at e
      dsimp only at e ⊢
      by_cases c : x.2 ≠ 0 ∨ x.1 ∈ ps
      · rw [if_pos c] at e ⊢; exact sweepP_more e k
      · rw [if_neg c] at e ⊢; exact e
theorem sweepP_one {ps : List Int} {f g : Nat} {l : List Row} {h : Nat} {a b : List Row × Nat} (h1 : sweepP ps f l h = some a) (h2 : sweepP ps g l h = some b) : a = b := by
  have e1 := sweepP_more h1 g
  have e2 := sweepP_more h2 f
  rw [Nat.add_comm] at e2
  exact Option.some.inj (e1.symm.trans e2)
theorem goes_one {r : Rule} {ps : List Int} {z : Nat} {l : List Row} {h : Nat} {gs gs2 : List Int} {l' l2 : List Row} {h' h2 : Nat} (a : Goes r ps z l h gs l' h') : Goes r ps z l h gs2 l2 h2 → gs = gs2 ∧ l' = l2 ∧ h' = h2 := by
  induction a generalizing gs2 l2 h2 with
  | done c =>
    intro b
    cases b with
    | done _ => exact ⟨rfl, rfl, rfl⟩
    | clock c2 => omega
    | other c2 => omega
  | clock c1 c2 c3 c4 _ ih =>
    intro b
    cases b with
    | done c => omega
    | clock d1 d2 d3 d4 d5 =>
      have e := sweepP_one c4 d4
      subst e
      obtain ⟨e1, e2, e3⟩ := ih d5
      exact ⟨by rw [e1], e2, e3⟩
    | other d1 d2 => exact absurd c2 d2
  | other c1 c2 c3 _ ih =>
    intro b
    cases b with
    | done c => omega
    | clock d1 d2 => exact absurd d2 c2
    | other d1 d2 d3 d4 =>
      obtain ⟨e1, e2, e3⟩ := ih d4
      exact ⟨by rw [e1], e2, e3⟩
end CB.N

/-! try: .. except X: return [] ; sorted(d) of a dict by texts -/
namespace L2
open PySem PySem.Spec PyProof.Rows
def tTryN (K : PySem.W.Frag) (c : Value) (tb : XK → TS) (Wout : WX) : TS := fun D σ H => tb (fun cls d H' => ∀ σ', wOnly K c (fun _ _ _ => tRet (tLst tNil)) Wout D cls d σ' H') D σ H
theorem ps_tryN {X : Cx} {x : Str} {c : Value} {body : List Stmt} {np pos pos' p1 p2 : Pos} {tb : XK → TS} {Wout : WX} (hs : X.stack = X.env :: X.outer) (hf : X.env.frame = some X.env.locals) (hc : Names X x c) (tk : Takes X Wout)
    (hb : ∀ (W : WX) (pn : List (Addr × Obj)) (xe : Value → Shared → Prop), Takes (X.tr pn xe) W → PassesOwn (model X.prog X.w) X.A X.env xe → PSs (X.tr pn xe) body (tb fun cls d H' => ∀ σ', W cls d σ' H')) :
    PS X (.Try body [.ExceptHandler (some (.Name x np)) none [.Return (some (.List [] p1)) p2] pos'] [] [] pos) (tTryN X.K c tb Wout) :=
  ps_try_only (tb := fun W => tb fun cls d H' => ∀ σ', W cls d σ' H') (ts := fun _ _ _ => tRet (tLst tNil)) hs hf hc tk hb fun a oe cls d pn _ _ => pss_one (ps_ret (pe_lst pa_nil))
end L2
namespace DW
open PySem PySem.Spec PyProof.Rows L2
theorem ws_tryN {K : PySem.W.Frag} {X : XC} {τ : Ts} {W : Wd} {P : Pst} {cc : Value} {tb : XK → TS} {Wout : WX} {Ξ : Str → Option (Str × VX) → Wd → Prop} {ea : Str → Addr} (hb : ∀ E', WS K ⟨E', ea, Ξ⟩ (tb E') τ W P)
    (hx : ∀ c n W', Ξ c n W' → PySem.W.exmOne K (.ref (ea c)) cc = some true ∧ ∀ L, P.rt (.r (.ref L)) ⟨(L, .lst []) :: W'.c, W'.g⟩) : WS K X (tTryN K cc tb Wout) τ W P := fun σ H M D s R kx k => by
  refine hb _ σ H M D s R (fun c n H' M' W' q R' t' => ?_) k
  obtain ⟨e, l⟩ := hx c n W' q
  have key : ∀ d σ', wOnly K cc (fun _ _ _ => tRet (tLst tNil)) Wout D (.ref (ea c)) d σ' H' := fun d σ' => ⟨true, e, fun _ a na => ⟨Nat.zero_le _, fun p np => by
    obtain ⟨R2, t2⟩ := R'.cnew (u := .lst []) (o := .lst []) np ⟨[], upd_same, .nil⟩
    exact k.rt _ _ _ _ _ (l p) R2 (t'.trans t2) rfl⟩, fun z => by cases z⟩
  cases n with
  | none => exact fun σ' => key none σ'
  | some fx => obtain ⟨f, x⟩ := fx; exact fun p v _ _ σ' => key (some p) σ'
def rSortedDS : List V → Hp → VK → Prop := fun xs H Q => ∃ (a : Addr) (kvs : List (Key × V)) (ks : List Str), xs = [.ref a] ∧ Rd H a (.dK kvs) ∧ kvs.map (·.1) = ks.map Sum.inr ∧ ks.length < 64 ∧
    ∀ ys p, ys.Perm ks → sortedS ys = true → H p = none → Q (.ref p) (upd H p (.lst (ys.map V.str)))
theorem cr_sortedDS {X : Cx} (hc : X.calm = true) : CallR X (.builtin "sorted") rSortedDS := call_sortedD hc
theorem pr_fst {K : PySem.W.Frag} {M : Hp} : ∀ {kvs : List (Key × VX)} {ks : List (Key × V)}, Paired (PrR K M) kvs ks → ks.map (·.1) = kvs.map (·.1)
  | _, _, .nil => rfl
  | _, _, .cons h t => by rw [List.map_cons, List.map_cons, pr_fst t, h.1]
theorem wb_sortedDS {K : PySem.W.Frag} {X : XC} {W : Wd} {Φ : VX → Wd → Prop} {a : Addr} {kvs : List (Key × VX)} {f : OC → List (Addr × OC)} {ks : List Str} (c : Cut a (.dK kvs) W.c f) (hk : kvs.map (·.1) = ks.map Sum.inr) (hl : ks.length < 64)
    (h : ∀ ys : List Str, ys.Perm ks → sortedS ys = true → ∀ L, Φ (.r (.ref L)) ⟨(L, .lst ((ys.map PyData.str).map VX.d)) :: W.c, W.g⟩) : WB K X rSortedDS [.r (.ref a)] W Φ := fun H M vs Q R p kx k => by
  cases p with
  | cons p1 p =>
    cases p
    cases p1
    obtain ⟨ls, h1, h2⟩ := R.cell _ c.mem
    refine ⟨a, ls, ks, rfl, .inl h1, (pr_fst h2).trans hk, hl, fun ys p py sy np => ?_⟩
    obtain ⟨R2, t2⟩ := R.cnew (u := .lst (ys.map V.str)) (o := .lst ((ys.map PyData.str).map VX.d)) np ⟨_, upd_same, by
      have key : ∀ zs : List Str, Paired (VR K M) ((zs.map PyData.str).map VX.d) (zs.map V.str) := fun zs => by
        induction zs with
        | nil => exact .nil
        | cons z zs ih => exact .cons (Dp.str z) ih
      exact key ys⟩
    exact k _ _ _ _ _ (h ys py sy p) R2 t2 rfl
end DW

namespace CB.N
open PySem PySem.Spec PyProof.Rows L2 DW CB2
/-- the names told, rising -/
def A_C_marks (Cc : Addr) : AT := fun xs W Φ => ∃ (a P : Addr) (c : CV) (f f2 : OC → List (Addr × OC)) (pts : List (Key × CV)) (ks : List Str), xs = [.r (.ref a)] ∧ Cut a (.ins Cc (insF c P)) W.c f ∧ Cut P (.dK (ptsX pts)) W.c f2 ∧ pts.map (·.1) = ks.map Sum.inr ∧ ks.length < 64 ∧
  ∀ ys : List Str, ys.Perm ks → sortedS ys = true → ∀ L, Φ (.r (.ref L)) ⟨(L, .lst ((ys.map PyData.str).map VX.d)) :: W.c, W.g⟩
def sp_C_marks (G : Glob) (Cc : Addr) : Sp := SPEC0 G.K (A_C_marks Cc)
def t_C_marks (G : Glob) (Cc : Addr) : TS := (tRet (tCB DW.rSortedDS (tCons (tFld G.K (tVar 0) "points") tNil)))
theorem C_marks_ok (G : Glob) (X : XC) {Cc : Addr} (HC : ClsC G.K Cc) (xs : List VX) (W : Wd) (Φ : VX → Wd → Prop) (h : A_C_marks Cc xs W Φ) : xs.length = 1 ∧ WS G.K X (t_C_marks G Cc) (st0 xs 0) W (P0 Φ) := by
  obtain ⟨a, P, c, f, f2, pts, ks, rfl, o, o2, hk, hl, q⟩ := h
  refine ⟨rfl, ?_⟩
  unfold t_C_marks
  refine ws_ret (we_CB (wa_cons (fe_points HC rfl o (wa_nil ?_))))
  refine wb_sortedDS o2 ?_ hl q
  unfold ptsX
  rw [List.map_map]
  exact hk
theorem len_C_marks (G : Glob) {Cc : Addr} (HC : ClsC G.K Cc) (vs : List V) (H : Hp) (Q : VK) (E : XK) (h : sp_C_marks G Cc vs H Q E) : vs.length = 1 := len0 (fun xs W Φ a => (C_marks_ok G ⟨E, fun _ => 0, fun _ _ _ => False⟩ HC xs W Φ a).1) vs H Q E h
theorem rd_C_marks {N : List Str} (hN : N.length = 1) (G : Glob) {Cc : Addr} (HC : ClsC G.K Cc) (vs : List V) (H : Hp) (Q : VK) (E : XK) (h : sp_C_marks G Cc vs H Q E) : t_C_marks G Cc { nx := fun _ H' => Q .non H', rt := Q } (L2.start N vs) H := rd0 (k := 1) hN (fun X => C_marks_ok G X HC) vs H Q E h
end CB.N

namespace CB
open PySem PySem.Spec PyProof.Rows L2
def topS (i : Nat) : Stmt := PySem.Challenge.pw_cachebet_k16_caches_apart.main.body.getD i (.Pass ⟨0, 0, 0, 0⟩)
end CB
namespace CB.N
open PySem PySem.Spec PyProof.Rows L2 CB2
abbrev s_first_mark : Stmt := topS 16
abbrev s_place_of : Stmt := topS 15
abbrev s_rows_asked : Stmt := topS 17
abbrev s_place_to_go : Stmt := topS 19
abbrev s_swept : Stmt := topS 20
abbrev s_searched : Stmt := topS 18
abbrev s_step : Stmt := topS 11
abbrev s_pages_held : Stmt := topS 14
abbrev s_without : Stmt := topS 13
abbrev s_let_go : Stmt := topS 12
abbrev s_is_number : Stmt := topS 25
abbrev s_check_rule : Stmt := topS 26
abbrev s_check_size : Stmt := topS 27
abbrev s_check_page : Stmt := topS 28
abbrev s_check_name : Stmt := topS 29
abbrev s_C__held_place : Stmt := (clsBodyS (topS 31)).getD 13 (.Pass ⟨0, 0, 0, 0⟩)
abbrev s_C__set_free : Stmt := (clsBodyS (topS 31)).getD 14 (.Pass ⟨0, 0, 0, 0⟩)
abbrev s_C___init__ : Stmt := (clsBodyS (topS 31)).getD 0 (.Pass ⟨0, 0, 0, 0⟩)
abbrev s_C_ask : Stmt := (clsBodyS (topS 31)).getD 1 (.Pass ⟨0, 0, 0, 0⟩)
abbrev s_C_pin : Stmt := (clsBodyS (topS 31)).getD 2 (.Pass ⟨0, 0, 0, 0⟩)
abbrev s_C_unpin : Stmt := (clsBodyS (topS 31)).getD 3 (.Pass ⟨0, 0, 0, 0⟩)
abbrev s_C_drop : Stmt := (clsBodyS (topS 31)).getD 4 (.Pass ⟨0, 0, 0, 0⟩)
abbrev s_C_resize : Stmt := (clsBodyS (topS 31)).getD 5 (.Pass ⟨0, 0, 0, 0⟩)
abbrev s_C_holds : Stmt := (clsBodyS (topS 31)).getD 6 (.Pass ⟨0, 0, 0, 0⟩)
abbrev s_C_order : Stmt := (clsBodyS (topS 31)).getD 7 (.Pass ⟨0, 0, 0, 0⟩)
abbrev s_C_pins : Stmt := (clsBodyS (topS 31)).getD 8 (.Pass ⟨0, 0, 0, 0⟩)
abbrev s_C_counts : Stmt := (clsBodyS (topS 31)).getD 9 (.Pass ⟨0, 0, 0, 0⟩)
abbrev s_C_mark : Stmt := (clsBodyS (topS 31)).getD 10 (.Pass ⟨0, 0, 0, 0⟩)
abbrev s_C_go : Stmt := (clsBodyS (topS 31)).getD 11 (.Pass ⟨0, 0, 0, 0⟩)
abbrev s_C_marks : Stmt := (clsBodyS (topS 31)).getD 12 (.Pass ⟨0, 0, 0, 0⟩)
theorem sc_first_mark : FnScope ["rule"] ["rule"] (defScope s_first_mark) := ⟨rfl, rfl, rfl, by decide +kernel, rfl, by decide +kernel, by decide +kernel⟩
theorem ok_first_mark {P : Program} {w : World} {mg : Str → Option Value} {base : Heap} (G : Glob) (T : Bl mg)  {f : Addr} {fd : FuncData} (F : Fun G.K "first_mark" "first_mark" s_first_mark f fd) (hm : mg "first_mark" = some (.ref f)) : Cal P w G.K mg base CX0 1 "first_mark" ["rule"] (sp_first_mark G) := by
  refine ⟨f, fd, hm, F.kp, F.binds (ps := ["rule"]) (fun _ _ _ _ _ _ us hl => match us, hl with | [_], _ => rfl), ?_⟩
  refine F.ok sc_first_mark (fun vs H Q E h => len_first_mark G vs H Q E h) (fun cdv A outer s H vs Q E hr h => ⟨t_first_mark G, ?_, rd_first_mark rfl G vs H Q E h⟩)
  have hu := hu_of hr
  have nd := sc_first_mark.nd
  exact (pss_cons (ps_if (PW.pt (pw_or (pt_cmpR oEq (pv 0) pe_str (nomark _)) (pw_or1 (pt_cmpR oEq (pv 0) pe_str (nomark _))))) (pss_one (ps_ret pe_int)) pss_nil)
    (pss_one (ps_ret pe_int)))

theorem sc_place_of : FnScope ["rows", "page", "place", "row"] ["rows", "page"] (defScope s_place_of) := ⟨rfl, rfl, rfl, by decide +kernel, rfl, by decide +kernel, by decide +kernel⟩
theorem ok_place_of {P : Program} {w : World} {mg : Str → Option Value} {base : Heap} (G : Glob) (T : Bl mg)  {f : Addr} {fd : FuncData} (F : Fun G.K "place_of" "place_of" s_place_of f fd) (hm : mg "place_of" = some (.ref f)) : Cal P w G.K mg base CX0 1 "place_of" ["rows", "page"] (sp_place_of G) := by
  refine ⟨f, fd, hm, F.kp, F.binds (ps := ["rows", "page"]) (fun _ _ _ _ _ _ us hl => match us, hl with | [_, _], _ => rfl), ?_⟩
  refine F.ok sc_place_of (fun vs H Q E h => len_place_of G vs H Q E h) (fun cdv A outer s H vs Q E hr h => ⟨t_place_of G, ?_, rd_place_of rfl G vs H Q E h⟩)
  have hu := hu_of hr
  have nd := sc_place_of.nd
  exact (pss_cons (ps_for PassesOwn.never rfl (pi_enumT rfl T.n_enumerate (pa_cons (pv 0) pa_nil)) (pg_tup rfl (pgs_cons (pg_name (i := 2) nd rfl (Or.inl rfl)) (pgs_cons (pg_name (i := 3) nd rfl (Or.inl rfl)) pgs_nil))) (pss_one (ps_if (pt_cmpR oEq (pe_ix ix_tup (pv 3) pe_int (fun _ _ => rfl)) (pv 1) (nomark _)) (pss_one (ps_ret (pv 2))) pss_nil)))
    (pss_one (ps_ret pe_non)))

theorem sc_rows_asked : FnScope ["rule", "rows", "place", "page", "mark"] ["rule", "rows", "place"] (defScope s_rows_asked) := ⟨rfl, rfl, rfl, by decide +kernel, rfl, by decide +kernel, by decide +kernel⟩
theorem ok_rows_asked {P : Program} {w : World} {mg : Str → Option Value} {base : Heap} (G : Glob) (T : Bl mg)  {f : Addr} {fd : FuncData} (F : Fun G.K "rows_asked" "rows_asked" s_rows_asked f fd) (hm : mg "rows_asked" = some (.ref f)) : Cal P w G.K mg base CX0 1 "rows_asked" ["rule", "rows", "place"] (sp_rows_asked G) := by
  refine ⟨f, fd, hm, F.kp, F.binds (ps := ["rule", "rows", "place"]) (fun _ _ _ _ _ _ us hl => match us, hl with | [_, _, _], _ => rfl), ?_⟩
  refine F.ok sc_rows_asked (fun vs H Q E h => len_rows_asked G vs H Q E h) (fun cdv A outer s H vs Q E hr h => ⟨t_rows_asked G, ?_, rd_rows_asked rfl G vs H Q E h⟩)
  have hu := hu_of hr
  have nd := sc_rows_asked.nd
  exact (pss_cons (ps_asg (pe_ix ix_tup (pv 1) (pv 2) (fun _ _ => rfl)) (pg_tup rfl (pgs_cons (pg_name (i := 3) nd rfl (Or.inl rfl)) (pgs_cons (pg_name (i := 4) nd rfl (Or.inl rfl)) pgs_nil))))
    (pss_cons (ps_if (PW.pt (pw_or (pt_cmpR oEq (pv 0) pe_str (nomark _)) (pw_or1 (pt_cmpR oEq (pv 0) pe_str (nomark _))))) (pss_one (ps_ret (pe_op op_catA (pe_op op_catA (pe_slice sl_tupA (pv 1) po_none (po_some (pv 2))) (pe_slice sl_tupA (pv 1) (po_some (pe_op oAdd (pv 2) pe_int)) po_none)) (pe_tup (pa_cons (pe_tup (pa_cons (pv 3) (pa_cons (pv 4) pa_nil))) pa_nil))))) pss_nil)
    (pss_cons (ps_if (pt_cmpR oEq (pv 0) pe_str (nomark _)) (pss_one (ps_ret (pe_op op_catA (pe_op op_catA (pe_slice sl_tupA (pv 1) po_none (po_some (pv 2))) (pe_tup (pa_cons (pe_tup (pa_cons (pv 3) (pa_cons (pe_op oAdd (pv 4) pe_int) pa_nil))) pa_nil))) (pe_slice sl_tupA (pv 1) (po_some (pe_op oAdd (pv 2) pe_int)) po_none)))) pss_nil)
    (pss_cons (ps_if (pt_cmpR oEq (pv 0) pe_str (nomark _)) (pss_one (ps_ret (pe_op op_catA (pe_op op_catA (pe_slice sl_tupA (pv 1) po_none (po_some (pv 2))) (pe_tup (pa_cons (pe_tup (pa_cons (pv 3) (pa_cons pe_int pa_nil))) pa_nil))) (pe_slice sl_tupA (pv 1) (po_some (pe_op oAdd (pv 2) pe_int)) po_none)))) pss_nil)
    (pss_one (ps_ret (pv 1)))))))

theorem sc_place_to_go : FnScope ["rule", "rows", "stay", "places", "place", "row"] ["rule", "rows", "stay"] (defScope s_place_to_go) := ⟨rfl, rfl, rfl, by decide +kernel, rfl, by decide +kernel, by decide +kernel⟩
theorem ok_place_to_go {P : Program} {w : World} {mg : Str → Option Value} {base : Heap} (G : Glob) (T : Bl mg)  {f : Addr} {fd : FuncData} (F : Fun G.K "place_to_go" "place_to_go" s_place_to_go f fd) (hm : mg "place_to_go" = some (.ref f)) : Cal P w G.K mg base CX0 1 "place_to_go" ["rule", "rows", "stay"] (sp_place_to_go G) := by
  refine ⟨f, fd, hm, F.kp, F.binds (ps := ["rule", "rows", "stay"]) (fun _ _ _ _ _ _ us hl => match us, hl with | [_, _, _], _ => rfl), ?_⟩
  refine F.ok sc_place_to_go (fun vs H Q E h => len_place_to_go G vs H Q E h) (fun cdv A outer s H vs Q E hr h => ⟨t_place_to_go G, ?_, rd_place_to_go rfl G vs H Q E h⟩)
  have hu := hu_of hr
  have nd := sc_place_to_go.nd
  exact (pss_cons (ps_setLc (i := 3) (own := [("place", 4), ("row", 5)]) (g := (gTup G.K 2 (gCons (gName 4) (gCons (gName 5) gNil)))) (tt := (tTest (tOp (kNotIn G.K) (tOp (rIxT G.K) (tVar 5) (tC (.int 0))) (tVar 2)))) rfl nd rfl rfl (sw_true rfl rfl rfl (by decide +kernel)) (pi_enumT rfl T.n_enumerate (pa_cons (pv 1) pa_nil)) (blkOk_by (N := ["rule", "rows", "stay", "places", "place", "row"]) (sc := defScope s_place_to_go) (by decide +kernel)) (fun _ _ _ _ _ => (pg_tup rfl (pgs_cons (pg_name (i := 4) nd rfl (Or.inl rfl)) (pgs_cons (pg_name (i := 5) nd rfl (Or.inl rfl)) pgs_nil)))) (fun _ _ _ _ _ => (pts_one (pt_cmpR oNotIn (pe_ix ix_tup (pv 5) pe_int (fun _ _ => rfl)) (pv 2) (by first | exact nomark _ | rfl)))) (fun _ _ _ _ _ => (pv 4)))
    (pss_cons (ps_if (pt_cmpR oEq (pv 0) pe_str (nomark _)) (pss_one (ps_ret (pe_ix ix_list (pv 3) (pe_un un_neg pe_int) (fun _ _ => rfl)))) pss_nil)
    (pss_cons (ps_if (pt_cmpR oEq (pv 0) pe_str (nomark _)) (pss_one (ps_ret (pe_ix ix_tup (pe_callB (DW.crMaxR rfl hr) (by rfl) T.n_max (by decide +kernel) (pa_cons (pe_lc (own := [("place", 4)]) (g := (gName 4)) (tt := tYes) rfl nd (pi_list (pv 3)) (blkOk_by (N := ["rule", "rows", "stay", "places", "place", "row"]) (sc := defScope s_place_to_go) (by decide +kernel)) (fun _ _ _ _ _ => (pg_name (i := 4) nd rfl (Or.inl rfl))) (fun _ _ _ _ _ => pts_nil) (fun _ _ _ _ _ => (pe_tup (pa_cons (pe_ix ix_tup (pe_ix ix_tup (pv 1) (pv 4) (fun _ _ => rfl)) pe_int (fun _ _ => rfl)) (pa_cons (pv 4) pa_nil))))) pa_nil)) pe_int (fun _ _ => rfl)))) pss_nil)
    (pss_cons (ps_if (pt_cmpR oEq (pv 0) pe_str (nomark _)) (pss_one (ps_ret (pe_ix ix_tup (pe_callB (DW.crMinR rfl hr) (by rfl) T.n_min (by decide +kernel) (pa_cons (pe_lc (own := [("place", 4)]) (g := (gName 4)) (tt := tYes) rfl nd (pi_list (pv 3)) (blkOk_by (N := ["rule", "rows", "stay", "places", "place", "row"]) (sc := defScope s_place_to_go) (by decide +kernel)) (fun _ _ _ _ _ => (pg_name (i := 4) nd rfl (Or.inl rfl))) (fun _ _ _ _ _ => pts_nil) (fun _ _ _ _ _ => (pe_tup (pa_cons (pe_ix ix_tup (pe_ix ix_tup (pv 1) (pv 4) (fun _ _ => rfl)) pe_int (fun _ _ => rfl)) (pa_cons (pv 4) pa_nil))))) pa_nil)) pe_int (fun _ _ => rfl)))) pss_nil)
    (pss_one (ps_ret (pe_ix ix_list (pv 3) pe_int (fun _ _ => rfl))))))))

theorem sc_swept : FnScope ["rows", "hand", "stay", "left"] ["rows", "hand", "stay"] (defScope s_swept) := ⟨rfl, rfl, rfl, by decide +kernel, rfl, by decide +kernel, by decide +kernel⟩
theorem ok_swept {P : Program} {w : World} {mg : Str → Option Value} {base : Heap} (G : Glob) (T : Bl mg)  {f : Addr} {fd : FuncData} (F : Fun G.K "swept" "swept" s_swept f fd) (hm : mg "swept" = some (.ref f)) : Cal P w G.K mg base CX0 1 "swept" ["rows", "hand", "stay"] (sp_swept G) := by
  refine ⟨f, fd, hm, F.kp, F.binds (ps := ["rows", "hand", "stay"]) (fun _ _ _ _ _ _ us hl => match us, hl with | [_, _, _], _ => rfl), ?_⟩
  refine F.ok sc_swept (fun vs H Q E h => len_swept G vs H Q E h) (fun cdv A outer s H vs Q E hr h => ⟨t_swept G, ?_, rd_swept rfl G vs H Q E h⟩)
  have hu := hu_of hr
  have nd := sc_swept.nd
  exact (pss_cons (ps_set (i := 3) nd rfl (Or.inl rfl) (pe_callTy cbList (by rfl) T.n_list (by decide +kernel) (pa_cons (pv 0) pa_nil)))
    (pss_cons (ps_while PassesOwn.never (PW.pt (pw_or (pt_truth (pe_ix ix_tup (pe_ix ix_list (pv 3) (pv 1) (fun _ _ => rfl)) pe_int (fun _ _ => rfl)) (by intro _; rfl)) (pw_or1 (pt_cmpR oIn (pe_ix ix_tup (pe_ix ix_list (pv 3) (pv 1) (fun _ _ => rfl)) pe_int (fun _ _ => rfl)) (pv 2) (by first | exact nomark _ | rfl))))) (pss_cons (ps_if (pt_cmpR oNotIn (pe_ix ix_tup (pe_ix ix_list (pv 3) (pv 1) (fun _ _ => rfl)) pe_int (fun _ _ => rfl)) (pv 2) (by first | exact nomark _ | rfl)) (pss_one (ps_asg (pe_tup (pa_cons (pe_ix ix_tup (pe_ix ix_list (pv 3) (pv 1) (fun _ _ => rfl)) pe_int (fun _ _ => rfl)) (pa_cons pe_int pa_nil))) (pg_sub (pv 3) (pv 1) set_list))) pss_nil)
    (pss_one (ps_set (i := 1) nd rfl (Or.inl rfl) (pe_op oMod (pe_op oAdd (pv 1) pe_int) (pe_callB cbLen (by rfl) T.n_len (by decide +kernel) (pa_cons (pv 3) pa_nil)))))))
    (pss_one (ps_ret (pe_tup (pa_cons (pe_callTy cbTuple (by rfl) T.n_tuple (by decide +kernel) (pa_cons (pv 3) pa_nil)) (pa_cons (pv 1) pa_nil)))))))

theorem sc_searched : FnScope ["rule", "state", "stay", "rows", "hand"] ["rule", "state", "stay"] (defScope s_searched) := ⟨rfl, rfl, rfl, by decide +kernel, rfl, by decide +kernel, by decide +kernel⟩
theorem ok_searched {P : Program} {w : World} {mg : Str → Option Value} {base : Heap} (G : Glob) (T : Bl mg) (c_swept : Cal P w G.K mg base CX0 1 "swept" ["rows", "hand", "stay"] (sp_swept G)) (c_place_to_go : Cal P w G.K mg base CX0 1 "place_to_go" ["rule", "rows", "stay"] (sp_place_to_go G)) {f : Addr} {fd : FuncData} (F : Fun G.K "searched" "searched" s_searched f fd) (hm : mg "searched" = some (.ref f)) : Cal P w G.K mg base CX0 2 "searched" ["rule", "state", "stay"] (sp_searched G) := by
  refine ⟨f, fd, hm, F.kp, F.binds (ps := ["rule", "state", "stay"]) (fun _ _ _ _ _ _ us hl => match us, hl with | [_, _, _], _ => rfl), ?_⟩
  refine F.ok sc_searched (fun vs H Q E h => len_searched G vs H Q E h) (fun cdv A outer s H vs Q E hr h => ⟨t_searched G, ?_, rd_searched rfl G vs H Q E h⟩)
  have hu := hu_of hr
  have nd := sc_searched.nd
  exact (pss_cons (ps_asg (pv 1) (pg_tup rfl (pgs_cons (pg_name (i := 3) nd rfl (Or.inl rfl)) (pgs_cons (pg_name (i := 4) nd rfl (Or.inl rfl)) pgs_nil))))
    (pss_cons (ps_if (pt_cmpR oEq (pv 0) pe_str (nomark _)) (pss_cons (ps_asg (pe_cal c_swept hr (by decide) rfl pass0 (pa_cons (pv 3) (pa_cons (pv 4) (pa_cons (pv 2) pa_nil)))) (pg_tup rfl (pgs_cons (pg_name (i := 3) nd rfl (Or.inl rfl)) (pgs_cons (pg_name (i := 4) nd rfl (Or.inl rfl)) pgs_nil))))
    (pss_one (ps_ret (pe_tup (pa_cons (pv 3) (pa_cons (pv 4) (pa_cons (pv 4) pa_nil))))))) pss_nil)
    (pss_one (ps_ret (pe_tup (pa_cons (pv 3) (pa_cons (pv 4) (pa_cons (pe_cal c_place_to_go hr (by decide) rfl pass0 (pa_cons (pv 0) (pa_cons (pv 3) (pa_cons (pv 2) pa_nil)))) pa_nil))))))))

theorem sc_step : FnScope ["rule", "size", "state", "page", "stay", "rows", "hand", "place", "comer", "behind"] ["rule", "size", "state", "page", "stay"] (defScope s_step) := ⟨rfl, rfl, rfl, by decide +kernel, rfl, by decide +kernel, by decide +kernel⟩
theorem ok_step {P : Program} {w : World} {mg : Str → Option Value} {base : Heap} (G : Glob) (T : Bl mg) (c_place_of : Cal P w G.K mg base CX0 1 "place_of" ["rows", "page"] (sp_place_of G)) (c_rows_asked : Cal P w G.K mg base CX0 1 "rows_asked" ["rule", "rows", "place"] (sp_rows_asked G)) (c_first_mark : Cal P w G.K mg base CX0 1 "first_mark" ["rule"] (sp_first_mark G)) (c_searched : Cal P w G.K mg base CX0 2 "searched" ["rule", "state", "stay"] (sp_searched G)) {f : Addr} {fd : FuncData} (F : FunD G.K "step" "step" (defArgs s_step) (defBody s_step) (defScope s_step) [.ref G.aSTAY] [] f fd) (hm : mg "step" = some (.ref f)) : CalD P w G.K mg base CX0 3 "step" ["rule", "size", "state", "page", "stay"] (sp_step G) [.ref G.aSTAY] ∧ Cal P w G.K mg base CX0 3 "step" ["rule", "size", "state", "page", "stay"] (sp_step G) := by
  obtain ⟨ds, hd, hb⟩ := F.binds1 (ps := ["rule", "size", "state", "page", "stay"]) 4 0 (fun z => nomatch z) rfl (fun T kV doc pm an cdv ct us its hl hi => match us, hl, its, hi with | [_, _, _, _], _, [_], _ => ⟨_, rfl, rfl⟩)
  obtain ⟨ds5, hd5, hb5⟩ := F.binds1 (ps := ["rule", "size", "state", "page", "stay"]) 5 1 (fun z => nomatch z) rfl (fun T kV doc pm an cdv ct us its hl hi => match us, hl, its, hi with | [_, _, _, _, _], _, [_], _ => ⟨_, rfl, rfl⟩)
  cases hd5
  have ok := F.ok (P := P) (w := w) (mg := mg) (base := base) (CX := CX0) (k := 2) sc_step (fun vs H Q E h => len_step G vs H Q E h) (fun cdv A outer s H vs Q E hr h => ⟨t_step G, PSs.nox (by
    have hu := hu_of hr
    have nd := sc_step.nd
    exact (pss_cons (ps_asg (pv 2) (pg_tup rfl (pgs_cons (pg_name (i := 5) nd rfl (Or.inl rfl)) (pgs_cons (pg_name (i := 6) nd rfl (Or.inl rfl)) pgs_nil))))
    (pss_cons (ps_set (i := 7) nd rfl (Or.inl rfl) (pe_cal c_place_of hr (by decide) rfl pass0 (pa_cons (pv 5) (pa_cons (pv 3) pa_nil))))
    (pss_cons (ps_if (pt_cmpR oNotN (pv 7) pe_non (nomark _)) (pss_one (ps_ret (pe_tup (pa_cons pe_bl (pa_cons pe_non (pa_cons (pe_tup (pa_cons (pe_cal c_rows_asked hr (by decide) rfl pass0 (pa_cons (pv 0) (pa_cons (pv 5) (pa_cons (pv 7) pa_nil)))) (pa_cons (pv 6) pa_nil))) pa_nil)))))) pss_nil)
    (pss_cons (ps_set (i := 8) nd rfl (Or.inl rfl) (pe_tup (pa_cons (pv 3) (pa_cons (pe_cal c_first_mark hr (by decide) rfl pass0 (pa_cons (pv 0) pa_nil)) pa_nil))))
    (pss_cons (ps_if (pt_cmpR oLt (pe_callB cbLen (by rfl) T.n_len (by decide +kernel) (pa_cons (pv 5) pa_nil)) (pv 1) (nomark _)) (pss_one (ps_ret (pe_tup (pa_cons pe_bl (pa_cons pe_non (pa_cons (pe_tup (pa_cons (pe_op op_catA (pv 5) (pe_tup (pa_cons (pv 8) pa_nil))) (pa_cons (pv 6) pa_nil))) pa_nil)))))) pss_nil)
    (pss_cons (ps_asg (pe_cal c_searched hr (by decide) rfl pass0 (pa_cons (pv 0) (pa_cons (pv 2) (pa_cons (pv 4) pa_nil)))) (pg_tup rfl (pgs_cons (pg_name (i := 5) nd rfl (Or.inl rfl)) (pgs_cons (pg_name (i := 6) nd rfl (Or.inl rfl)) (pgs_cons (pg_name (i := 7) nd rfl (Or.inl rfl)) pgs_nil)))))
    (pss_cons (ps_if (pt_cmpR oEq (pv 0) pe_str (nomark _)) (pss_one (ps_set (i := 9) nd rfl (Or.inl rfl) (pe_tup (pa_cons (pe_op op_catA (pe_op op_catA (pe_slice sl_tupA (pv 5) po_none (po_some (pv 7))) (pe_tup (pa_cons (pv 8) pa_nil))) (pe_slice sl_tupA (pv 5) (po_some (pe_op oAdd (pv 7) pe_int)) po_none)) (pa_cons (pe_op oMod (pe_op oAdd (pv 7) pe_int) (pe_callB cbLen (by rfl) T.n_len (by decide +kernel) (pa_cons (pv 5) pa_nil))) pa_nil))))) (pss_one (ps_set (i := 9) nd rfl (Or.inl rfl) (pe_tup (pa_cons (pe_op op_catA (pe_op op_catA (pe_slice sl_tupA (pv 5) po_none (po_some (pv 7))) (pe_slice sl_tupA (pv 5) (po_some (pe_op oAdd (pv 7) pe_int)) po_none)) (pe_tup (pa_cons (pv 8) pa_nil))) (pa_cons (pv 6) pa_nil))))))
    (pss_one (ps_ret (pe_tup (pa_cons pe_bl (pa_cons (pe_ix ix_tup (pe_ix ix_tup (pv 5) (pv 7) (fun _ _ => rfl)) pe_int (fun _ _ => rfl)) (pa_cons (pv 9) pa_nil)))))))))))))), rd_step rfl G vs H Q E h⟩)
  exact ⟨⟨f, fd, ds, hm, F.kp, hb, hd, ok⟩, ⟨f, fd, hm, F.kp, hb5, ok⟩⟩

theorem sc_pages_held : FnScope ["state", "row"] ["state"] (defScope s_pages_held) := ⟨rfl, rfl, rfl, by decide +kernel, rfl, by decide +kernel, by decide +kernel⟩
theorem ok_pages_held {P : Program} {w : World} {mg : Str → Option Value} {base : Heap} (G : Glob) (T : Bl mg)  {f : Addr} {fd : FuncData} (F : Fun G.K "pages_held" "pages_held" s_pages_held f fd) (hm : mg "pages_held" = some (.ref f)) : Cal P w G.K mg base CX0 1 "pages_held" ["state"] (sp_pages_held G) := by
  refine ⟨f, fd, hm, F.kp, F.binds (ps := ["state"]) (fun _ _ _ _ _ _ us hl => match us, hl with | [_], _ => rfl), ?_⟩
  refine F.ok sc_pages_held (fun vs H Q E h => len_pages_held G vs H Q E h) (fun cdv A outer s H vs Q E hr h => ⟨t_pages_held G, ?_, rd_pages_held rfl G vs H Q E h⟩)
  have hu := hu_of hr
  have nd := sc_pages_held.nd
  exact (pss_one (ps_ret (pe_callTy cbTuple (by rfl) T.n_tuple (by decide +kernel) (pa_cons (pe_callB cr_sorted (by rfl) T.n_sorted (by decide +kernel) (pa_cons (pe_lc (own := [("row", 1)]) (g := (gName 1)) (tt := tYes) rfl nd (pi_tup (pe_ix ix_tup (pv 0) pe_int (fun _ _ => rfl))) (blkOk_by (N := ["state", "row"]) (sc := defScope s_pages_held) (by decide +kernel)) (fun _ _ _ _ _ => (pg_name (i := 1) nd rfl (Or.inl rfl))) (fun _ _ _ _ _ => pts_nil) (fun _ _ _ _ _ => (pe_ix ix_tup (pv 1) pe_int (fun _ _ => rfl)))) pa_nil)) pa_nil))))

theorem sc_without : FnScope ["state", "place", "rows", "hand", "left"] ["state", "place"] (defScope s_without) := ⟨rfl, rfl, rfl, by decide +kernel, rfl, by decide +kernel, by decide +kernel⟩
theorem ok_without {P : Program} {w : World} {mg : Str → Option Value} {base : Heap} (G : Glob) (T : Bl mg)  {f : Addr} {fd : FuncData} (F : Fun G.K "without" "without" s_without f fd) (hm : mg "without" = some (.ref f)) : Cal P w G.K mg base CX0 1 "without" ["state", "place"] (sp_without G) := by
  refine ⟨f, fd, hm, F.kp, F.binds (ps := ["state", "place"]) (fun _ _ _ _ _ _ us hl => match us, hl with | [_, _], _ => rfl), ?_⟩
  refine F.ok sc_without (fun vs H Q E h => len_without G vs H Q E h) (fun cdv A outer s H vs Q E hr h => ⟨t_without G, ?_, rd_without rfl G vs H Q E h⟩)
  have hu := hu_of hr
  have nd := sc_without.nd
  exact (pss_cons (ps_asg (pv 0) (pg_tup rfl (pgs_cons (pg_name (i := 2) nd rfl (Or.inl rfl)) (pgs_cons (pg_name (i := 3) nd rfl (Or.inl rfl)) pgs_nil))))
    (pss_cons (ps_set (i := 4) nd rfl (Or.inl rfl) (pe_op op_catA (pe_slice sl_tupA (pv 2) po_none (po_some (pv 1))) (pe_slice sl_tupA (pv 2) (po_some (pe_op oAdd (pv 1) pe_int)) po_none)))
    (pss_cons (ps_if (pt_cmpR oLt (pv 1) (pv 3) (nomark _)) (pss_one (ps_aug (i := 3) nd rfl (Or.inl rfl) pe_int ip_sub)) pss_nil)
    (pss_cons (ps_if (pt_cmpR oEq (pv 3) (pe_callB cbLen (by rfl) T.n_len (by decide +kernel) (pa_cons (pv 4) pa_nil)) (nomark _)) (pss_one (ps_set (i := 3) nd rfl (Or.inl rfl) pe_int)) pss_nil)
    (pss_one (ps_ret (pe_tup (pa_cons (pv 4) (pa_cons (pv 3) pa_nil)))))))))

theorem sc_let_go : FnScope ["rule", "state", "stay", "rows", "hand", "place"] ["rule", "state", "stay"] (defScope s_let_go) := ⟨rfl, rfl, rfl, by decide +kernel, rfl, by decide +kernel, by decide +kernel⟩
theorem ok_let_go {P : Program} {w : World} {mg : Str → Option Value} {base : Heap} (G : Glob) (T : Bl mg) (c_searched : Cal P w G.K mg base CX0 2 "searched" ["rule", "state", "stay"] (sp_searched G)) (c_without : Cal P w G.K mg base CX0 1 "without" ["state", "place"] (sp_without G)) {f : Addr} {fd : FuncData} (F : Fun G.K "let_go" "let_go" s_let_go f fd) (hm : mg "let_go" = some (.ref f)) : Cal P w G.K mg base CX0 3 "let_go" ["rule", "state", "stay"] (sp_let_go G) := by
  refine ⟨f, fd, hm, F.kp, F.binds (ps := ["rule", "state", "stay"]) (fun _ _ _ _ _ _ us hl => match us, hl with | [_, _, _], _ => rfl), ?_⟩
  refine F.ok sc_let_go (fun vs H Q E h => len_let_go G vs H Q E h) (fun cdv A outer s H vs Q E hr h => ⟨t_let_go G, ?_, rd_let_go rfl G vs H Q E h⟩)
  have hu := hu_of hr
  have nd := sc_let_go.nd
  exact (pss_cons (ps_asg (pe_cal c_searched hr (by decide) rfl pass0 (pa_cons (pv 0) (pa_cons (pv 1) (pa_cons (pv 2) pa_nil)))) (pg_tup rfl (pgs_cons (pg_name (i := 3) nd rfl (Or.inl rfl)) (pgs_cons (pg_name (i := 4) nd rfl (Or.inl rfl)) (pgs_cons (pg_name (i := 5) nd rfl (Or.inl rfl)) pgs_nil)))))
    (pss_one (ps_ret (pe_tup (pa_cons (pe_ix ix_tup (pe_ix ix_tup (pv 3) (pv 5) (fun _ _ => rfl)) pe_int (fun _ _ => rfl)) (pa_cons (pe_cal c_without hr (by decide) rfl pass0 (pa_cons (pe_tup (pa_cons (pv 3) (pa_cons (pv 4) pa_nil))) (pa_cons (pv 5) pa_nil))) pa_nil))))))

theorem sc_is_number : FnScope ["value", "low", "high"] ["value", "low", "high"] (defScope s_is_number) := ⟨rfl, rfl, rfl, by decide +kernel, rfl, by decide +kernel, by decide +kernel⟩
theorem ok_is_number {P : Program} {w : World} {mg : Str → Option Value} {base : Heap} (G : Glob) (T : Bl mg)  {f : Addr} {fd : FuncData} (F : Fun G.K "is_number" "is_number" s_is_number f fd) (hm : mg "is_number" = some (.ref f)) : Cal P w G.K mg base CX0 1 "is_number" ["value", "low", "high"] (sp_is_number G) := by
  refine ⟨f, fd, hm, F.kp, F.binds (ps := ["value", "low", "high"]) (fun _ _ _ _ _ _ us hl => match us, hl with | [_, _, _], _ => rfl), ?_⟩
  refine F.ok sc_is_number (fun vs H Q E h => len_is_number G vs H Q E h) (fun cdv A outer s H vs Q E hr h => ⟨t_is_number G, ?_, rd_is_number rfl G vs H Q E h⟩)
  have hu := hu_of hr
  have nd := sc_is_number.nd
  exact (pss_cons (ps_if (PW.pt (pw_or (pt_val (pe_callB call_isi (by rfl) T.n_isinstance (by decide +kernel) (pa_cons (pv 0) (pa_cons (pe_bltn rfl T.n_bool rfl rfl) pa_nil)))) (pw_or1 (pt_not (pt_val (pe_callB call_isi (by rfl) T.n_isinstance (by decide +kernel) (pa_cons (pv 0) (pa_cons (pe_bltn rfl T.n_int rfl rfl) pa_nil)))))))) (pss_one (ps_ret pe_bl)) pss_nil)
    (pss_one (ps_ret (pe_chain oLe oLe (pv 1) (pv 0) (pv 2)))))

theorem sc_check_rule : FnScope ["rule"] ["rule"] (defScope s_check_rule) := ⟨rfl, rfl, rfl, by decide +kernel, rfl, by decide +kernel, by decide +kernel⟩
theorem ok_check_rule {P : Program} {w : World} {mg : Str → Option Value} {base : Heap} (G : Glob) (ea : Str → Addr) (T : Bl mg) (g_RULES : mg "RULES" = some (.ref G.aRULES)) (x_BadRule : XF G.K mg "BadRule" (ea "BadRule")) {f : Addr} {fd : FuncData} (F : Fun G.K "check_rule" "check_rule" s_check_rule f fd) (hm : mg "check_rule" = some (.ref f)) : Cal P w G.K mg base (L2.CX P w) 1 "check_rule" ["rule"] (sp_check_rule G ea) := by
  refine ⟨f, fd, hm, F.kp, F.binds (ps := ["rule"]) (fun _ _ _ _ _ _ us hl => match us, hl with | [_], _ => rfl), ?_⟩
  refine F.okX sc_check_rule (fun vs H Q E h => len_check_rule G ea vs H Q E h) (fun cdv A outer s H vs Q E hr h => ⟨t_check_rule G ea E, ?_, rd_check_rule rfl G ea vs H Q E h⟩)
  have hu := hu_of hr
  have nd := sc_check_rule.nd
  exact (pss_one (ps_if (pt_cmpR (op_notInSt hu) (pv 0) (pe_glob rfl g_RULES rfl) (by first | exact nomark _ | rfl)) (pss_one (ps_rs x_BadRule rfl (takes_of rfl rfl rfl rfl) rfl pe_str)) pss_nil))

theorem sc_check_size : FnScope ["size"] ["size"] (defScope s_check_size) := ⟨rfl, rfl, rfl, by decide +kernel, rfl, by decide +kernel, by decide +kernel⟩
theorem ok_check_size {P : Program} {w : World} {mg : Str → Option Value} {base : Heap} (G : Glob) (ea : Str → Addr) (T : Bl mg) (c_is_number : Cal P w G.K mg base CX0 1 "is_number" ["value", "low", "high"] (sp_is_number G)) (g_MOST_SIZE : ∃ t, mg "MOST_SIZE" = some (.int 6 t)) (x_BadSize : XF G.K mg "BadSize" (ea "BadSize")) {f : Addr} {fd : FuncData} (F : Fun G.K "check_size" "check_size" s_check_size f fd) (hm : mg "check_size" = some (.ref f)) : Cal P w G.K mg base (L2.CX P w) 2 "check_size" ["size"] (sp_check_size G ea) := by
  refine ⟨f, fd, hm, F.kp, F.binds (ps := ["size"]) (fun _ _ _ _ _ _ us hl => match us, hl with | [_], _ => rfl), ?_⟩
  refine F.okX sc_check_size (fun vs H Q E h => len_check_size G ea vs H Q E h) (fun cdv A outer s H vs Q E hr h => ⟨t_check_size G ea E, ?_, rd_check_size rfl G ea vs H Q E h⟩)
  have hu := hu_of hr
  have nd := sc_check_size.nd
  exact (pss_one (ps_if (pt_not (pt_val (pe_cal c_is_number hr (by decide) rfl pass0 (pa_cons (pv 0) (pa_cons pe_int (pa_cons (pe_gint g_MOST_SIZE rfl) pa_nil)))))) (pss_one (ps_rs x_BadSize rfl (takes_of rfl rfl rfl rfl) rfl (pe_joined (PJ.cons pe_str (PJ.cons (pe_fmt (pe_gint g_MOST_SIZE rfl)) PJ.nil))))) pss_nil))

theorem sc_check_page : FnScope ["page"] ["page"] (defScope s_check_page) := ⟨rfl, rfl, rfl, by decide +kernel, rfl, by decide +kernel, by decide +kernel⟩
theorem ok_check_page {P : Program} {w : World} {mg : Str → Option Value} {base : Heap} (G : Glob) (ea : Str → Addr) (T : Bl mg) (c_is_number : Cal P w G.K mg base CX0 1 "is_number" ["value", "low", "high"] (sp_is_number G)) (g_PAGES : ∃ t, mg "PAGES" = some (.int 10 t)) (x_BadPage : XF G.K mg "BadPage" (ea "BadPage")) {f : Addr} {fd : FuncData} (F : Fun G.K "check_page" "check_page" s_check_page f fd) (hm : mg "check_page" = some (.ref f)) : Cal P w G.K mg base (L2.CX P w) 2 "check_page" ["page"] (sp_check_page G ea) := by
  refine ⟨f, fd, hm, F.kp, F.binds (ps := ["page"]) (fun _ _ _ _ _ _ us hl => match us, hl with | [_], _ => rfl), ?_⟩
  refine F.okX sc_check_page (fun vs H Q E h => len_check_page G ea vs H Q E h) (fun cdv A outer s H vs Q E hr h => ⟨t_check_page G ea E, ?_, rd_check_page rfl G ea vs H Q E h⟩)
  have hu := hu_of hr
  have nd := sc_check_page.nd
  exact (pss_one (ps_if (pt_not (pt_val (pe_cal c_is_number hr (by decide) rfl pass0 (pa_cons (pv 0) (pa_cons pe_int (pa_cons (pe_op oSub (pe_gint g_PAGES rfl) pe_int) pa_nil)))))) (pss_one (ps_rs x_BadPage rfl (takes_of rfl rfl rfl rfl) rfl (pe_joined (PJ.cons pe_str (PJ.cons (pe_fmt (pe_op oSub (pe_gint g_PAGES rfl) pe_int)) PJ.nil))))) pss_nil))

theorem sc_check_name : FnScope ["name", "letter"] ["name"] (defScope s_check_name) := ⟨rfl, rfl, rfl, by decide +kernel, rfl, by decide +kernel, by decide +kernel⟩
theorem ok_check_name {P : Program} {w : World} {mg : Str → Option Value} {base : Heap} (G : Glob) (ea : Str → Addr) (T : Bl mg) (n_str : mg "str" = none) (g_MOST_LETTERS : ∃ t, mg "MOST_LETTERS" = some (.int 8 t)) (x_BadName : XF G.K mg "BadName" (ea "BadName")) {f : Addr} {fd : FuncData} (F : Fun G.K "check_name" "check_name" s_check_name f fd) (hm : mg "check_name" = some (.ref f)) : Cal P w G.K mg base (L2.CX P w) 1 "check_name" ["name"] (sp_check_name G ea) := by
  refine ⟨f, fd, hm, F.kp, F.binds (ps := ["name"]) (fun _ _ _ _ _ _ us hl => match us, hl with | [_], _ => rfl), ?_⟩
  refine F.okX sc_check_name (fun vs H Q E h => len_check_name G ea vs H Q E h) (fun cdv A outer s H vs Q E hr h => ⟨t_check_name G ea E, ?_, rd_check_name rfl G ea vs H Q E h⟩)
  have hu := hu_of hr
  have nd := sc_check_name.nd
  exact (pss_cons (ps_if (PW.pt (pw_or (pt_not (pt_val (pe_callB call_isi (by rfl) T.n_isinstance (by decide +kernel) (pa_cons (pv 0) (pa_cons (pe_bltn rfl n_str rfl rfl) pa_nil))))) (pw_or1 (pt_not (pt_chain oLe oLe pe_int (pe_callB call_len_str (by rfl) T.n_len (by decide +kernel) (pa_cons (pv 0) pa_nil)) (pe_gint g_MOST_LETTERS rfl)))))) (pss_one (ps_rs x_BadName rfl (takes_of rfl rfl rfl rfl) rfl (pe_joined (PJ.cons pe_str (PJ.cons (pe_fmt (pe_gint g_MOST_LETTERS rfl)) (PJ.cons pe_str PJ.nil)))))) pss_nil)
    (pss_one (ps_for (passes_of rfl) rfl (pi_str (pv 0)) (pg_name (i := 1) nd rfl (Or.inl rfl)) (pss_one (ps_if (pt_not (pt_chain op_le_str op_le_str pe_str (pv 1) pe_str)) (pss_one (ps_rs x_BadName rfl (takes_of rfl rfl rfl rfl) rfl pe_str)) pss_nil)))))

theorem sc_C__held_place : FnScope ["self", "page", "place"] ["self", "page"] (defScope s_C__held_place) := ⟨rfl, rfl, rfl, by decide +kernel, rfl, by decide +kernel, by decide +kernel⟩
theorem ok_C__held_place {P : Program} {w : World} {mg : Str → Option Value} {base : Heap} (G : Glob) (ea : Str → Addr) {Cc : Addr} (HC : ClsC G.K Cc) (T : Bl mg) (c_check_page : Cal P w G.K mg base (L2.CX P w) 2 "check_page" ["page"] (sp_check_page G ea)) (c_place_of : Cal P w G.K mg base CX0 1 "place_of" ["rows", "page"] (sp_place_of G)) (x_BadPage : XF G.K mg "BadPage" (ea "BadPage")) {f : Addr} {fd : FuncData} (F : Fun G.K "_held_place" "Cache._held_place" s_C__held_place f fd) (hm : Meth G.K Cc "_held_place" f) : CalM P w G.K mg base (L2.CX P w) 3 Cc "_held_place" ["self", "page"] (sp_C__held_place G ea Cc) := by
  refine ⟨f, fd, hm, F.binds (ps := ["self", "page"]) (fun _ _ _ _ _ _ us hl => match us, hl with | [_, _], _ => rfl), ?_⟩
  refine F.okX sc_C__held_place (fun vs H Q E h => len_C__held_place G ea HC vs H Q E h) (fun cdv A outer s H vs Q E hr h => ⟨t_C__held_place G ea Cc E, ?_, rd_C__held_place rfl G ea HC vs H Q E h⟩)
  have hu := hu_of hr
  have nd := sc_C__held_place.nd
  exact (pss_cons (ps_expr (pe_cal c_check_page hr (by decide) rfl (passes_call (takes_of rfl rfl rfl rfl) (fun _ _ _ _ h => h)) (pa_cons (pv 1) pa_nil)))
    (pss_cons (ps_set (i := 2) nd rfl (Or.inl rfl) (pe_cal c_place_of hr (by decide) rfl pass0 (pa_cons (pe_ix ix_tup (pe_fld (pv 0) rfl) pe_int (fun _ _ => rfl)) (pa_cons (pv 1) pa_nil))))
    (pss_cons (ps_if (pt_cmpR oIsN (pv 2) pe_non (nomark _)) (pss_one (ps_rs x_BadPage rfl (takes_of rfl rfl rfl rfl) rfl pe_str)) pss_nil)
    (pss_one (ps_ret (pv 2))))))

theorem sc_C__set_free : FnScope ["self", "page", "other"] ["self", "page"] (defScope s_C__set_free) := ⟨rfl, rfl, rfl, by decide +kernel, rfl, by decide +kernel, by decide +kernel⟩
theorem ok_C__set_free {P : Program} {w : World} {mg : Str → Option Value} {base : Heap} (G : Glob) {Cc : Addr} (HC : ClsC G.K Cc) (T : Bl mg)  {f : Addr} {fd : FuncData} (F : Fun G.K "_set_free" "Cache._set_free" s_C__set_free f fd) (hm : Meth G.K Cc "_set_free" f) : CalM P w G.K mg base CX0 1 Cc "_set_free" ["self", "page"] (sp_C__set_free G Cc) := by
  refine ⟨f, fd, hm, F.binds (ps := ["self", "page"]) (fun _ _ _ _ _ _ us hl => match us, hl with | [_, _], _ => rfl), ?_⟩
  refine F.ok sc_C__set_free (fun vs H Q E h => len_C__set_free G HC vs H Q E h) (fun cdv A outer s H vs Q E hr h => ⟨t_C__set_free G Cc, ?_, rd_C__set_free rfl G HC vs H Q E h⟩)
  have hu := hu_of hr
  have nd := sc_C__set_free.nd
  exact (pss_one (ps_fld (pv 0) (pe_callTy cbTuple (by rfl) T.n_tuple (by decide +kernel) (pa_cons (pe_lc (own := [("other", 2)]) (g := (gName 2)) (tt := (tTest (tOp kNe (tVar 2) (tVar 1)))) rfl nd (pi_tup (pe_fld (pv 0) rfl)) (blkOk_by (N := ["self", "page", "other"]) (sc := defScope s_C__set_free) (by decide +kernel)) (fun _ _ _ _ _ => (pg_name (i := 2) nd rfl (Or.inl rfl))) (fun _ _ _ _ _ => (pts_one (pt_cmpR oNe (pv 2) (pv 1) (nomark _)))) (fun _ _ _ _ _ => (pv 2))) pa_nil)) rfl))

theorem sc_C___init__ : FnScope ["self", "rule", "size"] ["self", "rule", "size"] (defScope s_C___init__) := ⟨rfl, rfl, rfl, by decide +kernel, rfl, by decide +kernel, by decide +kernel⟩
theorem ok_C___init__ {P : Program} {w : World} {mg : Str → Option Value} {base : Heap} (G : Glob) (ea : Str → Addr) {Cc : Addr} (HC : ClsC G.K Cc) (T : Bl mg) (c_check_rule : Cal P w G.K mg base (L2.CX P w) 1 "check_rule" ["rule"] (sp_check_rule G ea)) (c_check_size : Cal P w G.K mg base (L2.CX P w) 2 "check_size" ["size"] (sp_check_size G ea)) (g_EMPTY : mg "EMPTY" = some (.ref G.aEMPTY)) {f : Addr} {fd : FuncData} (F : Fun G.K "__init__" "Cache.__init__" s_C___init__ f fd) (hm : mg "Cache" = some (.ref Cc)) (hk : Mk G.K Cc f) : CalK P w G.K mg base (L2.CX P w) 3 Cc "Cache" ["self", "rule", "size"] (sp_C___init__ G ea Cc) := by
  refine ⟨f, fd, hm, hk, F.binds (ps := ["self", "rule", "size"]) (fun _ _ _ _ _ _ us hl => match us, hl with | [_, _, _], _ => rfl), ?_⟩
  refine F.okX sc_C___init__ (fun vs H Q E h => len_C___init__ G ea HC vs H Q E h) (fun cdv A outer s H vs Q E hr h => ⟨t_C___init__ G ea Cc E, ?_, rd_C___init__ rfl G ea HC vs H Q E h⟩)
  have hu := hu_of hr
  have nd := sc_C___init__.nd
  exact (pss_cons (ps_expr (pe_cal c_check_rule hr (by decide) rfl (passes_call (takes_of rfl rfl rfl rfl) (fun _ _ _ _ h => h)) (pa_cons (pv 1) pa_nil)))
    (pss_cons (ps_expr (pe_cal c_check_size hr (by decide) rfl (passes_call (takes_of rfl rfl rfl rfl) (fun _ _ _ _ h => h)) (pa_cons (pv 2) pa_nil)))
    (pss_cons (ps_fld (pv 0) (pv 1) rfl)
    (pss_cons (ps_fld (pv 0) (pv 2) rfl)
    (pss_cons (ps_fld (pv 0) (pe_glob rfl g_EMPTY rfl) rfl)
    (pss_cons (ps_fld (pv 0) (pe_tup pa_nil) rfl)
    (pss_cons (ps_fld (pv 0) pe_int rfl)
    (pss_cons (ps_fld (pv 0) pe_int rfl)
    (pss_one (ps_fld (pv 0) pe_dnewK rfl))))))))))

theorem sc_C_ask : FnScope ["self", "page", "rows", "is_held", "was_held", "gone"] ["self", "page"] (defScope s_C_ask) := ⟨rfl, rfl, rfl, by decide +kernel, rfl, by decide +kernel, by decide +kernel⟩
theorem ok_C_ask {P : Program} {w : World} {mg : Str → Option Value} {base : Heap} (G : Glob) (ea : Str → Addr) {Cc : Addr} (HC : ClsC G.K Cc) (T : Bl mg) (c_check_page : Cal P w G.K mg base (L2.CX P w) 2 "check_page" ["page"] (sp_check_page G ea)) (c_place_of : Cal P w G.K mg base CX0 1 "place_of" ["rows", "page"] (sp_place_of G)) (c_step : Cal P w G.K mg base CX0 3 "step" ["rule", "size", "state", "page", "stay"] (sp_step G)) (x_NoRoom : XF G.K mg "NoRoom" (ea "NoRoom")) {f : Addr} {fd : FuncData} (F : Fun G.K "ask" "Cache.ask" s_C_ask f fd) (hm : Meth G.K Cc "ask" f) : CalM P w G.K mg base (L2.CX P w) 4 Cc "ask" ["self", "page"] (sp_C_ask G ea Cc) := by
  refine ⟨f, fd, hm, F.binds (ps := ["self", "page"]) (fun _ _ _ _ _ _ us hl => match us, hl with | [_, _], _ => rfl), ?_⟩
  refine F.okX sc_C_ask (fun vs H Q E h => len_C_ask G ea HC vs H Q E h) (fun cdv A outer s H vs Q E hr h => ⟨t_C_ask G ea Cc E, ?_, rd_C_ask rfl G ea HC vs H Q E h⟩)
  have hu := hu_of hr
  have nd := sc_C_ask.nd
  exact (pss_cons (ps_expr (pe_cal c_check_page hr (by decide) rfl (passes_call (takes_of rfl rfl rfl rfl) (fun _ _ _ _ h => h)) (pa_cons (pv 1) pa_nil)))
    (pss_cons (ps_set (i := 2) nd rfl (Or.inl rfl) (pe_ix ix_tup (pe_fld (pv 0) rfl) pe_int (fun _ _ => rfl)))
    (pss_cons (ps_set (i := 3) nd rfl (Or.inl rfl) (pe_cmpR oNotN (pe_cal c_place_of hr (by decide) rfl pass0 (pa_cons (pv 2) (pa_cons (pv 1) pa_nil))) pe_non (nomark _)))
    (pss_cons (ps_if (PW.pt (pw_and (pt_not (pt_val (pv 3))) (pw_and (pt_cmpR oEq (pe_callB cbLen (by rfl) T.n_len (by decide +kernel) (pa_cons (pv 2) pa_nil)) (pe_fld (pv 0) rfl) (nomark _)) (pw_and1 (pt_cmpR oEq (pe_callB cbLen (by rfl) T.n_len (by decide +kernel) (pa_cons (pe_fld (pv 0) rfl) pa_nil)) (pe_fld (pv 0) rfl) (nomark _)))))) (pss_one (ps_rs x_NoRoom rfl (takes_of rfl rfl rfl rfl) rfl pe_str)) pss_nil)
    (pss_cons (ps_asg (pe_cal c_step hr (by decide) rfl pass0 (pa_cons (pe_fld (pv 0) rfl) (pa_cons (pe_fld (pv 0) rfl) (pa_cons (pe_fld (pv 0) rfl) (pa_cons (pv 1) (pa_cons (pe_fld (pv 0) rfl) pa_nil)))))) (pg_tup rfl (pgs_cons (pg_name (i := 4) nd rfl (Or.inl rfl)) (pgs_cons (pg_name (i := 5) nd rfl (Or.inl rfl)) (pgs_cons (pg_fld (pv 0)) pgs_nil)))))
    (pss_cons (ps_fldaug (pv 0) pe_int in_add)
    (pss_cons (ps_if (pt_not (pt_val (pv 4))) (pss_one (ps_fldaug (pv 0) pe_int in_add)) pss_nil)
    (pss_one (ps_ret (pe_tup (pa_cons (pv 4) (pa_cons (pv 5) pa_nil))))))))))))

theorem sc_C_pin : FnScope ["self", "page"] ["self", "page"] (defScope s_C_pin) := ⟨rfl, rfl, rfl, by decide +kernel, rfl, by decide +kernel, by decide +kernel⟩
theorem ok_C_pin {P : Program} {w : World} {mg : Str → Option Value} {base : Heap} (G : Glob) (ea : Str → Addr) {Cc : Addr} (HC : ClsC G.K Cc) (T : Bl mg) (m__held_place : CalM P w G.K mg base (L2.CX P w) 3 Cc "_held_place" ["self", "page"] (sp_C__held_place G ea Cc)) {f : Addr} {fd : FuncData} (F : Fun G.K "pin" "Cache.pin" s_C_pin f fd) (hm : Meth G.K Cc "pin" f) : CalM P w G.K mg base (L2.CX P w) 4 Cc "pin" ["self", "page"] (sp_C_pin G ea Cc) := by
  refine ⟨f, fd, hm, F.binds (ps := ["self", "page"]) (fun _ _ _ _ _ _ us hl => match us, hl with | [_, _], _ => rfl), ?_⟩
  refine F.okX sc_C_pin (fun vs H Q E h => len_C_pin G ea HC vs H Q E h) (fun cdv A outer s H vs Q E hr h => ⟨t_C_pin G ea Cc E, ?_, rd_C_pin rfl G ea HC vs H Q E h⟩)
  have hu := hu_of hr
  have nd := sc_C_pin.nd
  exact (pss_cons (ps_expr (pe_calM m__held_place HC.cls hr (by decide) (passes_call (takes_of rfl rfl rfl rfl) (fun _ _ _ _ h => h)) (pv 0) (pa_cons (pv 1) pa_nil)))
    (pss_one (ps_if (pt_cmpR oNotIn (pv 1) (pe_fld (pv 0) rfl) (by first | exact nomark _ | rfl)) (pss_one (ps_fld (pv 0) (pe_callTy cbTuple (by rfl) T.n_tuple (by decide +kernel) (pa_cons (pe_callB cr_sortedT (by rfl) T.n_sorted (by decide +kernel) (pa_cons (pe_op op_catA (pe_fld (pv 0) rfl) (pe_tup (pa_cons (pv 1) pa_nil))) pa_nil)) pa_nil)) rfl)) pss_nil)))

theorem sc_C_unpin : FnScope ["self", "page", "had_to"] ["self", "page"] (defScope s_C_unpin) := ⟨rfl, rfl, rfl, by decide +kernel, rfl, by decide +kernel, by decide +kernel⟩
theorem ok_C_unpin {P : Program} {w : World} {mg : Str → Option Value} {base : Heap} (G : Glob) (ea : Str → Addr) {Cc : Addr} (HC : ClsC G.K Cc) (T : Bl mg) (m__held_place : CalM P w G.K mg base (L2.CX P w) 3 Cc "_held_place" ["self", "page"] (sp_C__held_place G ea Cc)) (m__set_free : CalM P w G.K mg base CX0 1 Cc "_set_free" ["self", "page"] (sp_C__set_free G Cc)) {f : Addr} {fd : FuncData} (F : Fun G.K "unpin" "Cache.unpin" s_C_unpin f fd) (hm : Meth G.K Cc "unpin" f) : CalM P w G.K mg base (L2.CX P w) 4 Cc "unpin" ["self", "page"] (sp_C_unpin G ea Cc) := by
  refine ⟨f, fd, hm, F.binds (ps := ["self", "page"]) (fun _ _ _ _ _ _ us hl => match us, hl with | [_, _], _ => rfl), ?_⟩
  refine F.okX sc_C_unpin (fun vs H Q E h => len_C_unpin G ea HC vs H Q E h) (fun cdv A outer s H vs Q E hr h => ⟨t_C_unpin G ea Cc E, ?_, rd_C_unpin rfl G ea HC vs H Q E h⟩)
  have hu := hu_of hr
  have nd := sc_C_unpin.nd
  exact (pss_cons (ps_expr (pe_calM m__held_place HC.cls hr (by decide) (passes_call (takes_of rfl rfl rfl rfl) (fun _ _ _ _ h => h)) (pv 0) (pa_cons (pv 1) pa_nil)))
    (pss_cons (ps_set (i := 2) nd rfl (Or.inl rfl) (pe_cmpR oIn (pv 1) (pe_fld (pv 0) rfl) (by first | exact nomark _ | rfl)))
    (pss_cons (ps_expr (pe_calM m__set_free HC.cls hr (by decide) pass0 (pv 0) (pa_cons (pv 1) pa_nil)))
    (pss_one (ps_ret (pv 2))))))

theorem sc_C_drop : FnScope ["self", "page", "place"] ["self", "page"] (defScope s_C_drop) := ⟨rfl, rfl, rfl, by decide +kernel, rfl, by decide +kernel, by decide +kernel⟩
theorem ok_C_drop {P : Program} {w : World} {mg : Str → Option Value} {base : Heap} (G : Glob) (ea : Str → Addr) {Cc : Addr} (HC : ClsC G.K Cc) (T : Bl mg) (c_without : Cal P w G.K mg base CX0 1 "without" ["state", "place"] (sp_without G)) (m__held_place : CalM P w G.K mg base (L2.CX P w) 3 Cc "_held_place" ["self", "page"] (sp_C__held_place G ea Cc)) (m__set_free : CalM P w G.K mg base CX0 1 Cc "_set_free" ["self", "page"] (sp_C__set_free G Cc)) {f : Addr} {fd : FuncData} (F : Fun G.K "drop" "Cache.drop" s_C_drop f fd) (hm : Meth G.K Cc "drop" f) : CalM P w G.K mg base (L2.CX P w) 4 Cc "drop" ["self", "page"] (sp_C_drop G ea Cc) := by
  refine ⟨f, fd, hm, F.binds (ps := ["self", "page"]) (fun _ _ _ _ _ _ us hl => match us, hl with | [_, _], _ => rfl), ?_⟩
  refine F.okX sc_C_drop (fun vs H Q E h => len_C_drop G ea HC vs H Q E h) (fun cdv A outer s H vs Q E hr h => ⟨t_C_drop G ea Cc E, ?_, rd_C_drop rfl G ea HC vs H Q E h⟩)
  have hu := hu_of hr
  have nd := sc_C_drop.nd
  exact (pss_cons (ps_set (i := 2) nd rfl (Or.inl rfl) (pe_calM m__held_place HC.cls hr (by decide) (passes_call (takes_of rfl rfl rfl rfl) (fun _ _ _ _ h => h)) (pv 0) (pa_cons (pv 1) pa_nil)))
    (pss_cons (ps_fld (pv 0) (pe_cal c_without hr (by decide) rfl pass0 (pa_cons (pe_fld (pv 0) rfl) (pa_cons (pv 2) pa_nil))) rfl)
    (pss_one (ps_expr (pe_calM m__set_free HC.cls hr (by decide) pass0 (pv 0) (pa_cons (pv 1) pa_nil))))))

theorem sc_C_resize : FnScope ["self", "size", "goes", "gone"] ["self", "size"] (defScope s_C_resize) := ⟨rfl, rfl, rfl, by decide +kernel, rfl, by decide +kernel, by decide +kernel⟩
theorem ok_C_resize {P : Program} {w : World} {mg : Str → Option Value} {base : Heap} (G : Glob) (ea : Str → Addr) {Cc : Addr} (HC : ClsC G.K Cc) (T : Bl mg) (c_check_size : Cal P w G.K mg base (L2.CX P w) 2 "check_size" ["size"] (sp_check_size G ea)) (c_let_go : Cal P w G.K mg base CX0 3 "let_go" ["rule", "state", "stay"] (sp_let_go G)) (x_NoRoom : XF G.K mg "NoRoom" (ea "NoRoom")) {f : Addr} {fd : FuncData} (F : Fun G.K "resize" "Cache.resize" s_C_resize f fd) (hm : Meth G.K Cc "resize" f) : CalM P w G.K mg base (L2.CX P w) 4 Cc "resize" ["self", "size"] (sp_C_resize G ea Cc) := by
  refine ⟨f, fd, hm, F.binds (ps := ["self", "size"]) (fun _ _ _ _ _ _ us hl => match us, hl with | [_, _], _ => rfl), ?_⟩
  refine F.okX sc_C_resize (fun vs H Q E h => len_C_resize G ea HC vs H Q E h) (fun cdv A outer s H vs Q E hr h => ⟨t_C_resize G ea Cc E, ?_, rd_C_resize rfl G ea HC vs H Q E h⟩)
  have hu := hu_of hr
  have nd := sc_C_resize.nd
  exact (pss_cons (ps_expr (pe_cal c_check_size hr (by decide) rfl (passes_call (takes_of rfl rfl rfl rfl) (fun _ _ _ _ h => h)) (pa_cons (pv 1) pa_nil)))
    (pss_cons (ps_if (pt_cmpR oGt (pe_callB cbLen (by rfl) T.n_len (by decide +kernel) (pa_cons (pe_fld (pv 0) rfl) pa_nil)) (pv 1) (nomark _)) (pss_one (ps_rs x_NoRoom rfl (takes_of rfl rfl rfl rfl) rfl pe_str)) pss_nil)
    (pss_cons (ps_fld (pv 0) (pv 1) rfl)
    (pss_cons (ps_set (i := 2) nd rfl (Or.inl rfl) (pe_lst pa_nil))
    (pss_cons (ps_while (passes_of rfl) (pt_cmpR oGt (pe_callB cbLen (by rfl) T.n_len (by decide +kernel) (pa_cons (pe_ix ix_tup (pe_fld (pv 0) rfl) pe_int (fun _ _ => rfl)) pa_nil)) (pv 1) (nomark _)) (pss_cons (ps_asg (pe_cal c_let_go hr (by decide) rfl pass0 (pa_cons (pe_fld (pv 0) rfl) (pa_cons (pe_fld (pv 0) rfl) (pa_cons (pe_fld (pv 0) rfl) pa_nil)))) (pg_tup rfl (pgs_cons (pg_name (i := 3) nd rfl (Or.inl rfl)) (pgs_cons (pg_fld (pv 0)) pgs_nil))))
    (pss_one (ps_expr (pe_bm PySem.F.plainAttrs_list PySem.F.slot_list_append PySem.F.type_list_append mt_append (pv 2) (pa_cons (pv 3) pa_nil))))))
    (pss_one (ps_ret (pv 2))))))))

theorem sc_C_holds : FnScope ["self"] ["self"] (defScope s_C_holds) := ⟨rfl, rfl, rfl, by decide +kernel, rfl, by decide +kernel, by decide +kernel⟩
theorem ok_C_holds {P : Program} {w : World} {mg : Str → Option Value} {base : Heap} (G : Glob) {Cc : Addr} (HC : ClsC G.K Cc) (T : Bl mg) (c_pages_held : Cal P w G.K mg base CX0 1 "pages_held" ["state"] (sp_pages_held G)) {f : Addr} {fd : FuncData} (F : Fun G.K "holds" "Cache.holds" s_C_holds f fd) (hm : Meth G.K Cc "holds" f) : CalM P w G.K mg base CX0 2 Cc "holds" ["self"] (sp_C_holds G Cc) := by
  refine ⟨f, fd, hm, F.binds (ps := ["self"]) (fun _ _ _ _ _ _ us hl => match us, hl with | [_], _ => rfl), ?_⟩
  refine F.ok sc_C_holds (fun vs H Q E h => len_C_holds G HC vs H Q E h) (fun cdv A outer s H vs Q E hr h => ⟨t_C_holds G Cc, ?_, rd_C_holds rfl G HC vs H Q E h⟩)
  have hu := hu_of hr
  have nd := sc_C_holds.nd
  exact (pss_one (ps_ret (pe_cal c_pages_held hr (by decide) rfl pass0 (pa_cons (pe_fld (pv 0) rfl) pa_nil))))

theorem sc_C_order : FnScope ["self", "row"] ["self"] (defScope s_C_order) := ⟨rfl, rfl, rfl, by decide +kernel, rfl, by decide +kernel, by decide +kernel⟩
theorem ok_C_order {P : Program} {w : World} {mg : Str → Option Value} {base : Heap} (G : Glob) {Cc : Addr} (HC : ClsC G.K Cc) (T : Bl mg)  {f : Addr} {fd : FuncData} (F : Fun G.K "order" "Cache.order" s_C_order f fd) (hm : Meth G.K Cc "order" f) : CalM P w G.K mg base CX0 1 Cc "order" ["self"] (sp_C_order G Cc) := by
  refine ⟨f, fd, hm, F.binds (ps := ["self"]) (fun _ _ _ _ _ _ us hl => match us, hl with | [_], _ => rfl), ?_⟩
  refine F.ok sc_C_order (fun vs H Q E h => len_C_order G HC vs H Q E h) (fun cdv A outer s H vs Q E hr h => ⟨t_C_order G Cc, ?_, rd_C_order rfl G HC vs H Q E h⟩)
  have hu := hu_of hr
  have nd := sc_C_order.nd
  exact (pss_one (ps_ret (pe_callTy cbTuple (by rfl) T.n_tuple (by decide +kernel) (pa_cons (pe_lc (own := [("row", 1)]) (g := (gName 1)) (tt := tYes) rfl nd (pi_tup (pe_ix ix_tup (pe_fld (pv 0) rfl) pe_int (fun _ _ => rfl))) (blkOk_by (N := ["self", "row"]) (sc := defScope s_C_order) (by decide +kernel)) (fun _ _ _ _ _ => (pg_name (i := 1) nd rfl (Or.inl rfl))) (fun _ _ _ _ _ => pts_nil) (fun _ _ _ _ _ => (pe_ix ix_tup (pv 1) pe_int (fun _ _ => rfl)))) pa_nil))))

theorem sc_C_pins : FnScope ["self"] ["self"] (defScope s_C_pins) := ⟨rfl, rfl, rfl, by decide +kernel, rfl, by decide +kernel, by decide +kernel⟩
theorem ok_C_pins {P : Program} {w : World} {mg : Str → Option Value} {base : Heap} (G : Glob) {Cc : Addr} (HC : ClsC G.K Cc) (T : Bl mg)  {f : Addr} {fd : FuncData} (F : Fun G.K "pins" "Cache.pins" s_C_pins f fd) (hm : Meth G.K Cc "pins" f) : CalM P w G.K mg base CX0 1 Cc "pins" ["self"] (sp_C_pins G Cc) := by
  refine ⟨f, fd, hm, F.binds (ps := ["self"]) (fun _ _ _ _ _ _ us hl => match us, hl with | [_], _ => rfl), ?_⟩
  refine F.ok sc_C_pins (fun vs H Q E h => len_C_pins G HC vs H Q E h) (fun cdv A outer s H vs Q E hr h => ⟨t_C_pins G Cc, ?_, rd_C_pins rfl G HC vs H Q E h⟩)
  have hu := hu_of hr
  have nd := sc_C_pins.nd
  exact (pss_one (ps_ret (pe_callTy cbList (by rfl) T.n_list (by decide +kernel) (pa_cons (pe_fld (pv 0) rfl) pa_nil))))

theorem sc_C_counts : FnScope ["self"] ["self"] (defScope s_C_counts) := ⟨rfl, rfl, rfl, by decide +kernel, rfl, by decide +kernel, by decide +kernel⟩
theorem ok_C_counts {P : Program} {w : World} {mg : Str → Option Value} {base : Heap} (G : Glob) {Cc : Addr} (HC : ClsC G.K Cc) (T : Bl mg)  {f : Addr} {fd : FuncData} (F : Fun G.K "counts" "Cache.counts" s_C_counts f fd) (hm : Meth G.K Cc "counts" f) : CalM P w G.K mg base CX0 1 Cc "counts" ["self"] (sp_C_counts G Cc) := by
  refine ⟨f, fd, hm, F.binds (ps := ["self"]) (fun _ _ _ _ _ _ us hl => match us, hl with | [_], _ => rfl), ?_⟩
  refine F.ok sc_C_counts (fun vs H Q E h => len_C_counts G HC vs H Q E h) (fun cdv A outer s H vs Q E hr h => ⟨t_C_counts G Cc, ?_, rd_C_counts rfl G HC vs H Q E h⟩)
  have hu := hu_of hr
  have nd := sc_C_counts.nd
  exact (pss_one (ps_ret (pe_tup (pa_cons (pe_fld (pv 0) rfl) (pa_cons (pe_fld (pv 0) rfl) pa_nil)))))

theorem sc_C_mark : FnScope ["self", "name"] ["self", "name"] (defScope s_C_mark) := ⟨rfl, rfl, rfl, by decide +kernel, rfl, by decide +kernel, by decide +kernel⟩
theorem ok_C_mark {P : Program} {w : World} {mg : Str → Option Value} {base : Heap} (G : Glob) (ea : Str → Addr) {Cc : Addr} (HC : ClsC G.K Cc) (T : Bl mg) (c_check_name : Cal P w G.K mg base (L2.CX P w) 1 "check_name" ["name"] (sp_check_name G ea)) {f : Addr} {fd : FuncData} (F : Fun G.K "mark" "Cache.mark" s_C_mark f fd) (hm : Meth G.K Cc "mark" f) : CalM P w G.K mg base (L2.CX P w) 2 Cc "mark" ["self", "name"] (sp_C_mark G ea Cc) := by
  refine ⟨f, fd, hm, F.binds (ps := ["self", "name"]) (fun _ _ _ _ _ _ us hl => match us, hl with | [_, _], _ => rfl), ?_⟩
  refine F.okX sc_C_mark (fun vs H Q E h => len_C_mark G ea HC vs H Q E h) (fun cdv A outer s H vs Q E hr h => ⟨t_C_mark G ea Cc E, ?_, rd_C_mark rfl G ea HC vs H Q E h⟩)
  have hu := hu_of hr
  have nd := sc_C_mark.nd
  exact (pss_cons (ps_expr (pe_cal c_check_name hr (by decide) rfl (passes_call (takes_of rfl rfl rfl rfl) (fun _ _ _ _ h => h)) (pa_cons (pv 1) pa_nil)))
    (pss_one (ps_dput hu (pe_fld (pv 0) rfl) (pv 1) (pe_tup (pa_cons (pe_fld (pv 0) rfl) (pa_cons (pe_fld (pv 0) rfl) (pa_cons (pe_fld (pv 0) rfl) (pa_cons (pe_fld (pv 0) rfl) (pa_cons (pe_fld (pv 0) rfl) pa_nil)))))) rfl)))

theorem sc_C_go : FnScope ["self", "name"] ["self", "name"] (defScope s_C_go) := ⟨rfl, rfl, rfl, by decide +kernel, rfl, by decide +kernel, by decide +kernel⟩
theorem ok_C_go {P : Program} {w : World} {mg : Str → Option Value} {base : Heap} (G : Glob) (ea : Str → Addr) {Cc : Addr} (HC : ClsC G.K Cc) (T : Bl mg) (n_str : mg "str" = none) (x_NoPoint : XF G.K mg "NoPoint" (ea "NoPoint")) {f : Addr} {fd : FuncData} (F : Fun G.K "go" "Cache.go" s_C_go f fd) (hm : Meth G.K Cc "go" f) : CalM P w G.K mg base (L2.CX P w) 1 Cc "go" ["self", "name"] (sp_C_go G ea Cc) := by
  refine ⟨f, fd, hm, F.binds (ps := ["self", "name"]) (fun _ _ _ _ _ _ us hl => match us, hl with | [_, _], _ => rfl), ?_⟩
  refine F.okX sc_C_go (fun vs H Q E h => len_C_go G ea HC vs H Q E h) (fun cdv A outer s H vs Q E hr h => ⟨t_C_go G ea Cc E, ?_, rd_C_go rfl G ea HC vs H Q E h⟩)
  have hu := hu_of hr
  have nd := sc_C_go.nd
  exact (pss_cons (ps_if (PW.pt (pw_or (pt_not (pt_val (pe_callB call_isi (by rfl) T.n_isinstance (by decide +kernel) (pa_cons (pv 1) (pa_cons (pe_bltn rfl n_str rfl rfl) pa_nil))))) (pw_or1 (pt_cmp (pc_dnotin hu (pv 1) (pe_fld (pv 0) rfl)))))) (pss_one (ps_rs x_NoPoint rfl (takes_of rfl rfl rfl rfl) rfl pe_str)) pss_nil)
    (pss_one (ps_asg (pe_dget hu (pe_fld (pv 0) rfl) (pv 1) (fun _ _ => rfl)) (pg_tup rfl (pgs_cons (pg_fld (pv 0)) (pgs_cons (pg_fld (pv 0)) (pgs_cons (pg_fld (pv 0)) (pgs_cons (pg_fld (pv 0)) (pgs_cons (pg_fld (pv 0)) pgs_nil)))))))))

theorem sc_C_marks : FnScope ["self"] ["self"] (defScope s_C_marks) := ⟨rfl, rfl, rfl, by decide +kernel, rfl, by decide +kernel, by decide +kernel⟩
theorem ok_C_marks {P : Program} {w : World} {mg : Str → Option Value} {base : Heap} (G : Glob) {Cc : Addr} (HC : ClsC G.K Cc) (T : Bl mg)  {f : Addr} {fd : FuncData} (F : Fun G.K "marks" "Cache.marks" s_C_marks f fd) (hm : Meth G.K Cc "marks" f) : CalM P w G.K mg base CX0 1 Cc "marks" ["self"] (sp_C_marks G Cc) := by
  refine ⟨f, fd, hm, F.binds (ps := ["self"]) (fun _ _ _ _ _ _ us hl => match us, hl with | [_], _ => rfl), ?_⟩
  refine F.ok sc_C_marks (fun vs H Q E h => len_C_marks G HC vs H Q E h) (fun cdv A outer s H vs Q E hr h => ⟨t_C_marks G Cc, ?_, rd_C_marks rfl G HC vs H Q E h⟩)
  have hu := hu_of hr
  have nd := sc_C_marks.nd
  exact (pss_one (ps_ret (pe_callB (DW.cr_sortedDS rfl) (by rfl) T.n_sorted (by decide +kernel) (pa_cons (pe_fld (pv 0) rfl) pa_nil))))

end CB.N

namespace CB2
open PySem PySem.Spec PyProof.Rows L2 CB
abbrev s__law_start : Stmt := topS 33
abbrev s__law_drawn : Stmt := topS 34
abbrev s__law_rule : Stmt := topS 35
theorem sc__law_start : FnScope ["_law_script", "_law_mixed", "_law_cell"] ["_law_script"] (defScope s__law_start) := ⟨rfl, rfl, rfl, by decide +kernel, rfl, by decide +kernel, by decide +kernel⟩
theorem ok__law_start {P : Program} {w : World} {mg : Str → Option Value} {base : Heap} (G : Glob) (T : Bl mg)  {f : Addr} {fd : FuncData} (F : Fun G.K "_law_start" "_law_start" s__law_start f fd) (hm : mg "_law_start" = some (.ref f)) : Cal P w G.K mg base CX0 1 "_law_start" ["_law_script"] (sp__law_start G) := by
  refine ⟨f, fd, hm, F.kp, F.binds (ps := ["_law_script"]) (fun _ _ _ _ _ _ us hl => match us, hl with | [_], _ => rfl), ?_⟩
  refine F.ok sc__law_start (fun vs H Q E h => len__law_start G vs H Q E h) (fun cdv A outer s H vs Q E hr h => ⟨t__law_start G, ?_, rd__law_start G vs H Q E h⟩)
  have hu := hu_of hr
  have nd := sc__law_start.nd
  exact (pss_cons (ps_set (i := 1) nd rfl (Or.inl rfl) pe_int)
    (pss_cons (ps_for PassesOwn.never rfl (pi_list (pv 0)) (pg_name (i := 2) nd rfl (Or.inl rfl)) (pss_one (ps_set (i := 1) nd rfl (Or.inl rfl) (pe_op oMod (pe_op oAdd (pe_op oAdd (pe_op oMul (pv 1) pe_int) (pv 2)) pe_int) pe_int))))
    (pss_one (ps_ret (pe_lst (pa_cons (pv 0) (pa_cons pe_int (pa_cons (pv 1) (pa_cons pe_int pa_nil)))))))))

theorem sc__law_drawn : FnScope ["_law_state", "_law_many", "_law_found", "_law_cell"] ["_law_state", "_law_many"] (defScope s__law_drawn) := ⟨rfl, rfl, rfl, by decide +kernel, rfl, by decide +kernel, by decide +kernel⟩
theorem ok__law_drawn {P : Program} {w : World} {mg : Str → Option Value} {base : Heap} (G : Glob) (T : Bl mg)  {f : Addr} {fd : FuncData} (F : Fun G.K "_law_drawn" "_law_drawn" s__law_drawn f fd) (hm : mg "_law_drawn" = some (.ref f)) : Cal P w G.K mg base CX0 1 "_law_drawn" ["_law_state", "_law_many"] (sp__law_drawn G) := by
  refine ⟨f, fd, hm, F.kp, F.binds (ps := ["_law_state", "_law_many"]) (fun _ _ _ _ _ _ us hl => match us, hl with | [_, _], _ => rfl), ?_⟩
  refine F.ok sc__law_drawn (fun vs H Q E h => len__law_drawn G vs H Q E h) (fun cdv A outer s H vs Q E hr h => ⟨t__law_drawn G, ?_, rd__law_drawn G vs H Q E h⟩)
  have hu := hu_of hr
  have nd := sc__law_drawn.nd
  exact (pss_cons (ps_if (pt_cmpR oGt (pe_ix ix_list (pv 0) pe_int (fun _ _ => rfl)) pe_int (nomark _)) (pss_cons (ps_set (i := 2) nd rfl (Or.inl rfl) (pe_op oMod (pe_ix ix_list (pv 0) pe_int (fun _ _ => rfl)) (pv 1)))
    (pss_cons (ps_asg (pe_op oFdiv (pe_ix ix_list (pv 0) pe_int (fun _ _ => rfl)) (pv 1)) (pg_sub (pv 0) pe_int set_list))
    (pss_one (ps_ret (pv 2))))) pss_nil)
    (pss_cons (ps_asg (pe_op oAdd (pe_ix ix_list (pv 0) pe_int (fun _ _ => rfl)) pe_int) (pg_sub (pv 0) pe_int set_list))
    (pss_cons (ps_if (pt_cmpR oLe (pe_ix ix_list (pv 0) pe_int (fun _ _ => rfl)) (pe_callB cbLen (by rfl) T.n_len (by decide +kernel) (pa_cons (pe_ix ix_list (pv 0) pe_int (fun _ _ => rfl)) pa_nil)) (nomark _)) (pss_cons (ps_set (i := 3) nd rfl (Or.inl rfl) (pe_ix ix_list (pe_ix ix_list (pv 0) pe_int (fun _ _ => rfl)) (pe_op oSub (pe_ix ix_list (pv 0) pe_int (fun _ _ => rfl)) pe_int) (fun _ _ => rfl)))
    (pss_cons (ps_asg (pe_ifExp (pt_cmpR oGe (pv 3) (pe_op oPow pe_int pe_int) (nomark _)) (pe_op oFdiv (pv 3) (pv 1)) pe_int) (pg_sub (pv 0) pe_int set_list))
    (pss_one (ps_ret (pe_op oMod (pv 3) (pv 1)))))) pss_nil)
    (pss_cons (ps_asg (pe_op oMod (pe_op oAdd (pe_op oMul (pe_ix ix_list (pv 0) pe_int (fun _ _ => rfl)) pe_int) pe_int) pe_int) (pg_sub (pv 0) pe_int set_list))
    (pss_one (ps_ret (pe_op oMod (pe_op oFdiv (pe_ix ix_list (pv 0) pe_int (fun _ _ => rfl)) pe_int) (pv 1))))))))

theorem sc__law_rule : FnScope ["_law_state"] ["_law_state"] (defScope s__law_rule) := ⟨rfl, rfl, rfl, by decide +kernel, rfl, by decide +kernel, by decide +kernel⟩
theorem ok__law_rule {P : Program} {w : World} {mg : Str → Option Value} {base : Heap} (G : Glob) (T : Bl mg) (c__law_drawn : Cal P w G.K mg base CX0 1 "_law_drawn" ["_law_state", "_law_many"] (sp__law_drawn G)) {f : Addr} {fd : FuncData} (F : Fun G.K "_law_rule" "_law_rule" s__law_rule f fd) (hm : mg "_law_rule" = some (.ref f)) : Cal P w G.K mg base CX0 2 "_law_rule" ["_law_state"] (sp__law_rule G) := by
  refine ⟨f, fd, hm, F.kp, F.binds (ps := ["_law_state"]) (fun _ _ _ _ _ _ us hl => match us, hl with | [_], _ => rfl), ?_⟩
  refine F.ok sc__law_rule (fun vs H Q E h => len__law_rule G vs H Q E h) (fun cdv A outer s H vs Q E hr h => ⟨t__law_rule G, ?_, rd__law_rule G vs H Q E h⟩)
  have hu := hu_of hr
  have nd := sc__law_rule.nd
  exact (pss_one (ps_ret (pe_ix ix_list (pe_lst (pa_cons pe_str (pa_cons pe_str (pa_cons pe_str (pa_cons pe_str (pa_cons pe_str (pa_cons pe_str pa_nil))))))) (pe_cal c__law_drawn hr (by decide) rfl pass0 (pa_cons (pv 0) (pa_cons pe_int pa_nil))) (fun _ _ => rfl))))

end CB2

namespace CB
open PySem PySem.Spec PyProof.Rows L2
abbrev s__law_same : Stmt := topS 36
theorem sc__law_same : FnScope ["_law_found", "_law_due", "_law_alike", "_law_k"] ["_law_found", "_law_due"] (defScope s__law_same) := ⟨rfl, rfl, rfl, by decide +kernel, rfl, by decide +kernel, by decide +kernel⟩
theorem ok__law_same {P : Program} {w : World} {mg : Str → Option Value} {base : Heap} (G : Glob) (T : Bl mg) {f : Addr} {fd : FuncData} (F : Fun G.K "_law_same" "_law_same" s__law_same f fd) (hm : mg "_law_same" = some (.ref f)) :
    ∀ n : Nat, Cal P w G.K mg base CX0 n "_law_same" ["_law_found", "_law_due"] (sp__law_same G n)
  | 0 => ⟨f, fd, hm, F.kp, F.binds (ps := ["_law_found", "_law_due"]) (fun _ _ _ _ _ _ us hl => match us, hl with | [_, _], _ => rfl), ⟨fun vs H Q E h => h.elim, fun A outer s H args us vs Q E _ _ _ _ h => h.elim⟩⟩
  | n + 1 => by
    have c__law_same : Cal P w G.K mg base CX0 n "_law_same" ["_law_found", "_law_due"] (sp__law_same G n) := ok__law_same G T F hm n
    refine ⟨f, fd, hm, F.kp, F.binds (ps := ["_law_found", "_law_due"]) (fun _ _ _ _ _ _ us hl => match us, hl with | [_, _], _ => rfl), ?_⟩
    refine F.ok sc__law_same (fun vs H Q E h => len__law_same G _ vs H Q E h) (fun cdv A outer s H vs Q E hr h => ⟨t__law_same G n, ?_, rd__law_same G n vs H Q E h⟩)
    have hu := hu_of hr
    have nd := sc__law_same.nd
    exact (pss_cons (ps_if (pt_val (pe_callB call_isiT (by rfl) T.n_isinstance (by decide +kernel) (pa_cons (pv 1) (pa_cons (pe_tup (pa_cons (pe_bltn rfl T.n_tuple rfl rfl) (pa_cons (pe_bltn rfl T.n_list rfl rfl) pa_nil))) pa_nil)))) (pss_cons (ps_if (PW.pt (pw_or (pt_not (pt_val (pe_callB call_isiT (by rfl) T.n_isinstance (by decide +kernel) (pa_cons (pv 0) (pa_cons (pe_tup (pa_cons (pe_bltn rfl T.n_tuple rfl rfl) (pa_cons (pe_bltn rfl T.n_list rfl rfl) pa_nil))) pa_nil))))) (pw_or1 (pt_cmpR oNe (pe_callB call_isi (by rfl) T.n_isinstance (by decide +kernel) (pa_cons (pv 0) (pa_cons (pe_bltn rfl T.n_list rfl rfl) pa_nil))) (pe_callB call_isi (by rfl) T.n_isinstance (by decide +kernel) (pa_cons (pv 1) (pa_cons (pe_bltn rfl T.n_list rfl rfl) pa_nil))) (nomark _))))) (pss_one (ps_ret pe_bl)) pss_nil)
    (pss_cons (ps_if (pt_cmpR oNe (pe_callB cbLen (by rfl) T.n_len (by decide +kernel) (pa_cons (pv 0) pa_nil)) (pe_callB cbLen (by rfl) T.n_len (by decide +kernel) (pa_cons (pv 1) pa_nil)) (nomark _)) (pss_one (ps_ret pe_bl)) pss_nil)
    (pss_one (ps_ret (pe_cmpR (op_eqD hr.units) (pe_lc (own := [("_law_k", 3)]) (g := (gName 3)) (tt := (tNot (tB (tCall (sp__law_same G n) [] E0 (tCons (tOp (rIxA G.K) (tVar 0) (tVar 3)) (tCons (tOp (rIxA G.K) (tVar 1) (tVar 3)) tNil)))))) rfl nd (pi_range1 rfl T.n_range (pa_cons (pe_callB cbLen (by rfl) T.n_len (by decide +kernel) (pa_cons (pv 1) pa_nil)) pa_nil)) (blkOk_by (N := ["_law_found", "_law_due", "_law_alike", "_law_k"]) (sc := defScope s__law_same) (by decide +kernel)) (fun _ _ _ _ _ => (pg_name (i := 3) nd rfl (Or.inl rfl))) (fun _ _ _ _ _ => (pts_one (pt_not (pt_val (pe_cal c__law_same hr (Nat.le_refl _) rfl pass0 (pa_cons (pe_ix ix_any (pv 0) (pv 3) (fun _ _ => rfl)) (pa_cons (pe_ix ix_any (pv 1) (pv 3) (fun _ _ => rfl)) pa_nil))))))) (fun _ _ _ _ _ => (pv 3))) (pe_lst pa_nil) (nomark _)))))) pss_nil)
    (pss_cons (ps_set (i := 2) nd rfl (Or.inl rfl) (pe_and (pe_cmpR oEq (pe_callB call_isi (by rfl) T.n_isinstance (by decide +kernel) (pa_cons (pv 0) (pa_cons (pe_bltn rfl T.n_bool rfl rfl) pa_nil))) (pe_callB call_isi (by rfl) T.n_isinstance (by decide +kernel) (pa_cons (pv 1) (pa_cons (pe_bltn rfl T.n_bool rfl rfl) pa_nil))) (nomark _)) (pe_one (pe_cmpR oEq (pe_callB call_isi (by rfl) T.n_isinstance (by decide +kernel) (pa_cons (pv 0) (pa_cons (pe_bltn rfl T.n_int rfl rfl) pa_nil))) (pe_callB call_isi (by rfl) T.n_isinstance (by decide +kernel) (pa_cons (pv 1) (pa_cons (pe_bltn rfl T.n_int rfl rfl) pa_nil))) (nomark _)))))
    (pss_one (ps_ret (pe_and (pv 2) (pe_one (pe_cmpR oEq (pv 0) (pv 1) (nomark _))))))))
end CB

/-! what a cache with its points tells, call by call, as a function -/
namespace CB.N
open PySem PySem.Spec PyProof.Rows L2 DW CB2
noncomputable def goesF (r : Rule) (ps : List Int) (z : Nat) (l : List Row) (h : Nat) : List Int × List Row × Nat := by
  classical
  exact if e : ∃ q : List Int × List Row × Nat, Goes r ps z l h q.1 q.2.1 q.2.2 then e.choose else ([], l, h)
theorem goesF_eq {r : Rule} {ps : List Int} {z : Nat} {l l' : List Row} {h h' : Nat} {gs : List Int} (g : Goes r ps z l h gs l' h') : goesF r ps z l h = (gs, l', h') := by
  have e : ∃ q : List Int × List Row × Nat, Goes r ps z l h q.1 q.2.1 q.2.2 := ⟨(gs, l', h'), g⟩
  unfold goesF
  rw [dif_pos e]
  obtain ⟨e1, e2, e3⟩ := goes_one e.choose_spec g
  exact Prod.ext e1 (Prod.ext e2 e3)
def putP (pts : List (Key × CV)) (k : Key) (c : CV) : List (Key × CV) :=
  if (pts.any fun kv => decide (kv.1 = k)) = true then pts.map (fun kv => if kv.1 = k then (kv.1, c) else kv) else pts ++ [(k, c)]
def valP (pts : List (Key × CV)) (k : Key) : Option CV := (pts.find? fun kv => decide (kv.1 = k)).map (·.2)
theorem putP_X (pts : List (Key × CV)) (k : Key) (c : CV) : ptsX (putP pts k c) = putKX (ptsX pts) k (.d (ptD c)) := by
  unfold putP putKX ptsX
  rw [List.any_map]
  show List.map _ (if _ then _ else _) = if (pts.any fun kv => decide (kv.1 = k)) = true then _ else _
  by_cases e : (pts.any fun kv => decide (kv.1 = k)) = true
  · rw [if_pos e, if_pos e, List.map_map, List.map_map]
    refine List.map_congr_left fun kv _ => ?_
    simp only [Function.comp]
    by_cases z : kv.1 = k
    · rw [if_pos z, if_pos z]
    · rw [if_neg z, if_neg z]
  · rw [if_neg e, if_neg e, List.map_append]
    rfl
theorem valP_X (pts : List (Key × CV)) (k : Key) : valX (ptsX pts) k = (valP pts k).map fun c => VX.d (ptD c) := by
  unfold valX valP ptsX
  rw [List.find?_map, Option.map_map, Option.map_map]
  rfl
/-- what a call tells: nothing (it was refused), a value, a list of pages -/
inductive Ret where
  | no
  | val (d : PyData)
  | goes (gs : List Int)
def Ret.d : Ret → PyData
  | .no => .list []
  | .val d => .list [d]
  | .goes gs => .list [.list (gs.map .int)]
abbrev ST := CV × List (Key × CV)
def nameAt (t : Int) : Str := if t % 3 = 0 then "a" else if t % 3 = 1 then "b" else "c"
noncomputable def askF (S : ST) (t : Int) : Ret × ST := by
  classical
  exact if Full S.1 t then (.no, S) else (.val (tellD ((stepP S.1.ps (swF S.1.ps S.1.l S.1.h) S.1.r S.1.s S.1.l S.1.h t).held, (stepP S.1.ps (swF S.1.ps S.1.l S.1.h) S.1.r S.1.s S.1.l S.1.h t).gone)), (S.1.asks (stepP S.1.ps (swF S.1.ps S.1.l S.1.h) S.1.r S.1.s S.1.l S.1.h t), S.2))
def pinF (S : ST) (t : Int) : Ret × ST := match placeOf S.1.l t with
  | none => (.no, S)
  | some _ => (.val .none, ({ S.1 with ps := if t ∈ S.1.ps then S.1.ps else isort (S.1.ps ++ [t]) }, S.2))
def unpinF (S : ST) (t : Int) : Ret × ST := match placeOf S.1.l t with
  | none => (.no, S)
  | some _ => (.val (.bool (decide (t ∈ S.1.ps))), ({ S.1 with ps := S.1.ps.filter fun q => !decide (q = t) }, S.2))
def dropF (S : ST) (t : Int) : Ret × ST := match placeOf S.1.l t with
  | none => (.no, S)
  | some k => (.val .none, ({ S.1 with l := outL S.1.l k, h := woHand S.1.l S.1.h k, ps := S.1.ps.filter fun q => !decide (q = t) }, S.2))
noncomputable def resizeF (S : ST) (z : Nat) : Ret × ST := if z < S.1.ps.length then (.no, S) else (.goes (goesF S.1.r S.1.ps z S.1.l S.1.h).1, ({ S.1 with s := z, l := (goesF S.1.r S.1.ps z S.1.l S.1.h).2.1, h := (goesF S.1.r S.1.ps z S.1.l S.1.h).2.2 }, S.2))
def markF (S : ST) (n : Str) : Ret × ST := (.val .none, (S.1, putP S.2 (.inr n) S.1))
def goF (S : ST) (n : Str) : Ret × ST := match valP S.2 (.inr n) with
  | none => (.no, S)
  | some c => (.val .none, ({ c with r := S.1.r }, S.2))
/-- what a cache and its points may be -/
structure SI (S : ST) : Prop where
  c : CI S.1
  p : ∀ q ∈ S.2, CI q.2
  k : ∀ q ∈ S.2, q.1 ∈ [(.inr "a" : Key), .inr "b", .inr "c"]
  n : (S.2.map (·.1)).Nodup
theorem ci_r {c : CV} (h : CI c) (r : Rule) : CI { c with r := r } := ⟨h.s1, h.s6, h.len, h.nd, h.hand, h.pn, h.ps, h.pg⟩
theorem si_ask {S : ST} {t : Int} (h : SI S) (ht : 0 ≤ t ∧ t ≤ 9) : SI (askF S t).2 := by
  unfold askF
  split
  · exact h
  · rename_i nf
    exact ⟨(ci_ask h.c ht nf).2, h.p, h.k, h.n⟩
theorem si_pin {S : ST} {t : Int} (h : SI S) : SI (pinF S t).2 := by
  unfold pinF
  cases e : placeOf S.1.l t with
  | none => exact h
  | some k =>
    obtain ⟨x, hx, ex⟩ := placeOf_lt e
    have hm : t ∈ S.1.l.map (·.1) := List.mem_map.mpr ⟨x, List.mem_of_getElem? hx, ex⟩
    refine ⟨⟨h.c.s1, h.c.s6, h.c.len, h.c.nd, h.c.hand, ?_, ?_, h.c.pg⟩, h.p, h.k, h.n⟩
    · show (if t ∈ S.1.ps then S.1.ps else isort (S.1.ps ++ [t])).Nodup
      split
      · exact h.c.pn
      · rename_i c
        refine (isort_perm _).nodup_iff.mpr ?_
        rw [List.nodup_append]
        exact ⟨h.c.pn, by simp, fun a ha b hb => by rw [List.mem_singleton.mp hb]; exact fun e => c (e ▸ ha)⟩
    · show ∀ p ∈ (if t ∈ S.1.ps then S.1.ps else isort (S.1.ps ++ [t])), _
      split
      · exact h.c.ps
      · intro p hp
        rcases List.mem_append.mp ((isort_perm _).mem_iff.mp hp) with z | z
        · exact h.c.ps p z
        · rw [List.mem_singleton.mp z]; exact hm
theorem si_free {S : ST} {t : Int} (h : SI S) : SI ({ S.1 with ps := S.1.ps.filter fun q => !decide (q = t) }, S.2) :=
  ⟨⟨h.c.s1, h.c.s6, h.c.len, h.c.nd, h.c.hand, h.c.pn.filter _, fun p hp => h.c.ps p (List.mem_filter.mp hp).1, h.c.pg⟩, h.p, h.k, h.n⟩
theorem si_unpin {S : ST} {t : Int} (h : SI S) : SI (unpinF S t).2 := by
  unfold unpinF
  cases placeOf S.1.l t with
  | none => exact h
  | some k => exact si_free h
theorem si_drop {S : ST} {t : Int} (h : SI S) : SI (dropF S t).2 := by
  unfold dropF
  cases e : placeOf S.1.l t with
  | none => exact h
  | some k =>
    obtain ⟨x, hx, ex⟩ := placeOf_lt e
    have hk := (List.getElem?_eq_some_iff.mp hx).1
    have ol := outL_len hk
    have ho := ho_less (perm_l hx) (fun z => by
      have := (List.mem_filter.mp z).2
      rw [ex, decide_eq_true rfl] at this
      cases this) (ho_free t h.c.ho)
    refine ⟨.of h.c.s1 h.c.s6 (by show (outL S.1.l k).length ≤ S.1.s; have := h.c.len; omega) ?_ ho, h.p, h.k, h.n⟩
    show woHand S.1.l S.1.h k = 0 ∨ woHand S.1.l S.1.h k < (outL S.1.l k).length
    rw [ol]
    exact woHand_ok hk h.c.hand
theorem si_resize {S : ST} {z : Nat} (h : SI S) (z1 : 1 ≤ z) (z6 : z ≤ 6) : SI (resizeF S z).2 ∧ (¬ z < S.1.ps.length → Goes S.1.r S.1.ps z S.1.l S.1.h (goesF S.1.r S.1.ps z S.1.l S.1.h).1 (goesF S.1.r S.1.ps z S.1.l S.1.h).2.1 (goesF S.1.r S.1.ps z S.1.l S.1.h).2.2) := by
  by_cases c : z < S.1.ps.length
  · unfold resizeF
    rw [if_pos c]
    exact ⟨h, fun n => absurd c n⟩
  · obtain ⟨gs, l', h', g1, g2, g3, g4⟩ := goes_ex S.1.r S.1.ps z (by omega) S.1.l.length S.1.l S.1.h rfl h.c.ho h.c.hand
    have e := goesF_eq g1
    unfold resizeF
    rw [if_neg c, e]
    exact ⟨⟨.of z1 z6 g3 g4 g2, h.p, h.k, h.n⟩, fun _ => g1⟩
theorem si_go {S : ST} {n : Str} (h : SI S) : SI (goF S n).2 := by
  unfold goF
  cases e : valP S.2 (.inr n) with
  | none => exact h
  | some c =>
    have : ∃ q ∈ S.2, q.2 = c := by
      unfold valP at e
      cases f : S.2.find? (fun kv => decide (kv.1 = (.inr n : Key))) with
      | none => rw [f] at e; cases e
      | some q => rw [f] at e; exact ⟨q, List.mem_of_find?_eq_some f, Option.some.inj e⟩
    obtain ⟨q, hq, rfl⟩ := this
    exact ⟨ci_r (h.p q hq) _, h.p, h.k, h.n⟩
end CB.N

namespace CB.Q
open PySem PySem.Spec PyProof.Rows L2 DW CB2 CB.N
local macro_rules | `(tactic| walk_at "e1") => `(tactic| (with_reducible first
  | refine ws_seq ?_ | refine ws_asg ?_ | refine ws_asgG ?_ | refine ws_ret ?_ | refine ws_retN ?_ | refine ws_drop ?_ | refine ws_ifs ?_ | refine ws_par ?_
  | refine we_int ?_ | refine we_bl ?_ | refine we_str ?_ | refine we_non ?_ | refine we_ty ?_ | refine we_op ?_ | refine wa_nil ?_ | refine wa_cons ?_ | refine we_tup ?_ | refine we_notV ?_ | refine we_andV ?_ | refine we_orV ?_ | refine we_ifE ?_ | refine we_neg ?_
  | refine wt_test ?_ | refine wt_B ?_ | refine wt_tru ?_ | refine wt_and ?_ | refine wt_or ?_ | refine wt_not ?_ | refine wt_yes ?_ | refine we_sl ?_ | refine wo_none ?_ | refine wo_some ?_ | refine we_call ?_ | refine we_CB ?_
  | refine wg_name ?_ | refine wgs_nil ?_ | refine wgs_cons ?_ | refine wg_tup2 ?_ | refine wg_tup3 ?_ | refine ws_for ?_ | refine wi_tup ?_ | refine wi_rng1 ?_ | refine wi_rng2 ?_ | refine wi_enumT ?_
  | refine w2_add ?_ | refine w2_sub ?_ | refine w2_lt ?_ | refine w2_le ?_ | refine w2_gt ?_ | refine w2_ge ?_ | refine w2_eqI ?_ | refine w2_neI ?_ | refine w2_eqS ?_ | refine w2_isN ?_ | refine w2_notN ?_ | refine w2_inT ?_ | refine w2_notInT ?_ | refine w2_inL ?_ | refine w2_notInL ?_
  | refine exB ?_ | refine exI ?_ | refine exT ?_ | refine exL ?_ | refine exI1 ?_ | refine exT1 ?_ | refine exV ?_ | refine exA0 ?_ | refine exA1 ?_ | refine exA2 ?_ | refine exA3 ?_ | refine exA4 ?_ | refine exA5 ?_ | refine exA6 ?_ | refine exA7 ?_ | refine bT ?_ | refine bF ?_ | refine bT' ?_ | refine bF' ?_
  | refine w3_slA ?_ | refine wb_lenT ?_ | refine wb_lenL ?_ | refine wb_listT ?_ | refine wb_tupL ?_ | refine ws_next ?_
  | refine we_var (by with_unfolding_all rfl) ?_))
local macro_rules | `(tactic| walk_at "ev") => `(tactic| (repeat (walk_at "e1")))

local macro_rules | `(tactic| walk_at "f1") => `(tactic| (with_reducible first
  | refine fe_rule (by assumption) (by with_unfolding_all rfl) (by first | assumption | exact Cut.up (by assumption)) ?_ | refine fe_size (by assumption) (by with_unfolding_all rfl) (by first | assumption | exact Cut.up (by assumption)) ?_
  | refine fe_state (by assumption) (by with_unfolding_all rfl) (by first | assumption | exact Cut.up (by assumption)) ?_ | refine fe_staying (by assumption) (by with_unfolding_all rfl) (by first | assumption | exact Cut.up (by assumption)) ?_
  | refine fe_asked (by assumption) (by with_unfolding_all rfl) (by first | assumption | exact Cut.up (by assumption)) ?_ | refine fe_missed (by assumption) (by with_unfolding_all rfl) (by first | assumption | exact Cut.up (by assumption)) ?_
  | refine fe_points (by assumption) (by with_unfolding_all rfl) (by first | assumption | exact Cut.up (by assumption)) ?_))
local macro_rules | `(tactic| walk_at "ec") => `(tactic| (repeat (first | walk_at "e1" | walk_at "f1")))
inductive Wo | ask | pin | unpin | drop | resize | mark | go
def Wo.s : Wo → Str
  | .ask => "ask" | .pin => "pin" | .unpin => "unpin" | .drop => "drop" | .resize => "resize" | .mark => "mark" | .go => "go"
noncomputable def callF (S : ST) (w : Wo) (t : Int) : Ret × ST := match w with
  | .ask => askF S t
  | .pin => pinF S t
  | .unpin => unpinF S t
  | .drop => dropF S t
  | .resize => resizeF S (1 + t % 6).toNat
  | .mark => markF S (CB.N.nameAt t)
  | .go => goF S (CB.N.nameAt t)
/-- where a cache and its points stand among the cells -/
structure At2 (a P : Addr) (F : OC → OC → List (Addr × OC)) : Prop where
  a : ∀ o p, Cut a o (F o p) fun o' => F o' p
  p : ∀ o p, Cut P p (F o p) fun p' => F o p'
def telC (F : List (Addr × OC)) (g : Hp → Prop) (Φ : VX → Wd → Prop) : Ret → Prop
  | .no => ∀ T, Φ (.r (.ref T)) ⟨(T, .lst []) :: F, g⟩
  | .val d => ∀ T, Φ (.r (.ref T)) ⟨(T, .lst [.d d]) :: F, g⟩
  | .goes gs => ∀ T L, Φ (.r (.ref T)) ⟨(T, .lst [.r (.ref L)]) :: (L, .lst ((gs.map PyData.int).map VX.d)) :: F, g⟩
def kinds : List Str := ["BadPage", "NoRoom", "NoPoint"]
def A__law_called (G : Glob) (ea : Str → Addr) (Cc : Addr) : AT := fun xs W Φ => ∃ (a P : Addr) (F : OC → OC → List (Addr × OC)) (S : ST) (w : Wo) (t : Int) (g : Hp → Prop), xs = [.r (.ref a), .d (.tuple [.str w.s, .int t])] ∧ W = ⟨F (.ins Cc (insF S.1 P)) (.dK (ptsX S.2)), g⟩ ∧ At2 a P F ∧ SI S ∧ 0 ≤ t ∧ t ≤ 9 ∧
  (∀ c ∈ kinds, PySem.W.exmOne G.K (.ref (ea c)) (.ref (ea "CacheError")) = some true) ∧ telC (F (.ins Cc (insF (callF S w t).2.1 P)) (.dK (ptsX (callF S w t).2.2))) g Φ (callF S w t).1
def sp__law_called (G : Glob) (ea : Str → Addr) (Cc : Addr) : Sp := SPEC0 G.K (A__law_called G ea Cc)
def t__law_called (G : Glob) (ea : Str → Addr) (Cc : Addr) : TS := (tSeq (tAsg (tVar 1) (gTup G.K 2 (gCons (gName 2) (gCons (gName 3) gNil))))
    (tTryN G.K (.ref (ea "CacheError")) (fun E_ => (tSeq (tIfS (tTest (tOp (kIn G.K) (tVar 2) (tTup (tCons (tC (.str "ask")) (tCons (tC (.str "pin")) tNil))))) (tRet (tLst (tCons (tIf (tTest (tOp kEq (tVar 2) (tC (.str "ask")))) (tMeth Cc "ask" (sp_C_ask G ea Cc) [] E_ (tVar 0) (tCons (tVar 3) tNil)) (tMeth Cc "pin" (sp_C_pin G ea Cc) [] E_ (tVar 0) (tCons (tVar 3) tNil))) tNil))) tNext)
    (tSeq (tIfS (tTest (tOp (kIn G.K) (tVar 2) (tTup (tCons (tC (.str "unpin")) (tCons (tC (.str "drop")) tNil))))) (tRet (tLst (tCons (tIf (tTest (tOp kEq (tVar 2) (tC (.str "unpin")))) (tMeth Cc "unpin" (sp_C_unpin G ea Cc) [] E_ (tVar 0) (tCons (tVar 3) tNil)) (tMeth Cc "drop" (sp_C_drop G ea Cc) [] E_ (tVar 0) (tCons (tVar 3) tNil))) tNil))) tNext)
    (tSeq (tIfS (tTest (tOp kEq (tVar 2) (tC (.str "resize")))) (tRet (tLst (tCons (tMeth Cc "resize" (sp_C_resize G ea Cc) [] E_ (tVar 0) (tCons (tOp kAdd (tC (.int 1)) (tOp kMod (tVar 3) (tC (.int 6)))) tNil)) tNil))) tNext)
    (tRet (tLst (tCons (tIf (tTest (tOp kEq (tVar 2) (tC (.str "mark")))) (tMeth Cc "mark" (sp_C_mark G ea Cc) [] E_ (tVar 0) (tCons (tOp rIxS (tC (.str "abc")) (tOp kMod (tVar 3) (tC (.int 3)))) tNil)) (tMeth Cc "go" (sp_C_go G ea Cc) [] E_ (tVar 0) (tCons (tOp rIxS (tC (.str "abc")) (tOp kMod (tVar 3) (tC (.int 3)))) tNil))) tNil))))))) (fun _ _ _ _ => False)))
def t__law_stands (G : Glob) (ea : Str → Addr) (Cc : Addr) : TS := (tRet (tLst (tCons (tMeth Cc "holds" (sp_C_holds G Cc) [] E0 (tVar 0) tNil) (tCons (tMeth Cc "order" (sp_C_order G Cc) [] E0 (tVar 0) tNil) (tCons (tMeth Cc "pins" (sp_C_pins G Cc) [] E0 (tVar 0) tNil) (tCons (tMeth Cc "counts" (sp_C_counts G Cc) [] E0 (tVar 0) tNil) (tCons (tMeth Cc "marks" (sp_C_marks G Cc) [] E0 (tVar 0) tNil) tNil)))))))

theorem inV_strs (p : Str) : ∀ ss : List Str, inV (.str p) (ss.map V.str) = decide (p ∈ ss)
  | [] => rfl
  | n :: ss => by
    show (eqV (.str n) (.str p) || inV (.str p) (ss.map V.str)) = _
    rw [inV_strs p ss]
    show ((n == p) || decide (p ∈ ss)) = _
    by_cases h : n = p
    · subst h; simp
    · simp [h, Ne.symm h]
theorem dpAll_strs {K : PySem.W.Frag} {M : Hp} : ∀ {ns : List Str} {vs : List V}, DpAll K M vs (ns.map .str) → vs = ns.map V.str
  | [], _, .nil => rfl
  | n :: ns, _, .cons h t => by cases h; rw [dpAll_strs t]; rfl
theorem w2_inS {K : PySem.W.Frag} {p : Str} {ss : List Str} {W : Wd} {Φ : VX → Wd → Prop} (h : Φ (.d (.bool (decide (p ∈ ss)))) W) : W2 K (kIn K) (.d (.str p)) (.d (.tuple (ss.map .str))) W Φ := fun H M u v Q R pu pv k => by
  cases pu
  cases pv with
  | @tup a xs _ h1 h2 =>
    rw [dpAll_strs h2] at h1
    refine ⟨a, _, rfl, .inr (sqT_same R.sm h1), rfl, ?_, by rw [if_neg Bool.false_ne_true, inV_strs]; exact k _ _ _ _ _ h R (.refl ..) (Dp.bl _)⟩
    rw [List.all_eq_true]
    intro x hx
    obtain ⟨n, _, rfl⟩ := List.mem_map.mp hx
    rfl
theorem w2_ixS {K : PySem.W.Frag} {z : Str} {i : Int} {c : _} {W : Wd} {Φ : VX → Wd → Prop} (hz : z.length ≤ sizeLine) (e : atI z.cps.toList i = some c) (h : Φ (.d (.str ⟨#[c]⟩)) W) : W2 K rIxS (.d (.str z)) (.d (.int i)) W Φ := fun H M u v Q R pu pv k => by
  cases pu
  cases pv
  exact ⟨z, i, c, rfl, rfl, hz, e, k _ _ _ _ _ h R (.refl ..) (Dp.str _)⟩
theorem called_ask (G : Glob) (ea : Str → Addr) {Cc : Addr} (HC : ClsC G.K Cc) {X : XC} {a P : Addr} {F : OC → OC → List (Addr × OC)} {S : ST} {t : Int} {g : Hp → Prop} {Φ : VX → Wd → Prop} (A : At2 a P F) (si : SI S) (t0 : 0 ≤ t) (t9 : t ≤ 9) (hea : X.ea = ea)
    (no : (askF S t).1 = .no → X.ex "NoRoom" none ⟨F (.ins Cc (insF S.1 P)) (.dK (ptsX S.2)), g⟩) (q : ∀ d, (askF S t).1 = .val d → Φ (.d d) ⟨F (.ins Cc (insF (askF S t).2.1 P)) (.dK (ptsX (askF S t).2.2)), g⟩) :
    WB G.K X (SPC (sp_C_ask G ea Cc) [] X.E) [.r (.ref a), .d (.int t)] ⟨F (.ins Cc (insF S.1 P)) (.dK (ptsX S.2)), g⟩ Φ := by
  subst hea
  have hl : S.1.l.length ≤ 100 := by have := si.c.len; have := si.c.s6; omega
  refine wb_specX ⟨a, P, S.1, _, .int t, swF S.1.ps S.1.l S.1.h, rfl, A.a _ _, hl, fun e => ?_, fun p ep _ _ => ?_⟩
  · rw [numD_t t0 t9] at e; cases e
  obtain rfl := PyData.int.inj ep
  refine ⟨fun f => no ?_, fun nf => ⟨(ci_ask si.c ⟨t0, t9⟩ nf).1, ?_⟩⟩
  · unfold askF; rw [if_pos f]
  · have e : askF S t = (.val (tellD ((stepP S.1.ps (swF S.1.ps S.1.l S.1.h) S.1.r S.1.s S.1.l S.1.h t).held, (stepP S.1.ps (swF S.1.ps S.1.l S.1.h) S.1.r S.1.s S.1.l S.1.h t).gone)), (S.1.asks (stepP S.1.ps (swF S.1.ps S.1.l S.1.h) S.1.r S.1.s S.1.l S.1.h t), S.2)) := by unfold askF; rw [if_neg nf]
    rw [e] at q
    exact q _ rfl
section
variable (G : Glob) (ea : Str → Addr) {Cc : Addr} (HC : ClsC G.K Cc) {X : XC} {a P : Addr} {F : OC → OC → List (Addr × OC)} {S : ST} {t : Int} {g : Hp → Prop} {Φ : VX → Wd → Prop} (A : At2 a P F) (si : SI S) (t0 : 0 ≤ t) (t9 : t ≤ 9) (hea : X.ea = ea)
include A si t0 t9 hea
theorem ps_short : S.1.ps.length ≤ 6 := by
  have := nd_len si.c.pn si.c.ps
  rw [List.length_map] at this
  have := si.c.len
  have := si.c.s6
  omega
theorem called_pin (no : (pinF S t).1 = .no → X.ex "BadPage" none ⟨F (.ins Cc (insF S.1 P)) (.dK (ptsX S.2)), g⟩) (q : ∀ d, (pinF S t).1 = .val d → Φ (.d d) ⟨F (.ins Cc (insF (pinF S t).2.1 P)) (.dK (ptsX (pinF S t).2.2)), g⟩) :
    WB G.K X (SPC (sp_C_pin G ea Cc) [] X.E) [.r (.ref a), .d (.int t)] ⟨F (.ins Cc (insF S.1 P)) (.dK (ptsX S.2)), g⟩ Φ := by
  have psl := ps_short ea A si t0 t9 hea
  subst hea
  refine wb_specX ⟨a, P, S.1, _, .int t, rfl, A.a _ _, by omega, fun e => ?_, fun p ep _ _ => ?_⟩
  · rw [numD_t t0 t9] at e; cases e
  obtain rfl := PyData.int.inj ep
  unfold pinF at no q
  refine ⟨fun e => no (by rw [e]), fun ⟨k, ek⟩ => ?_⟩
  rw [ek] at q
  exact q _ rfl
theorem called_unpin (no : (unpinF S t).1 = .no → X.ex "BadPage" none ⟨F (.ins Cc (insF S.1 P)) (.dK (ptsX S.2)), g⟩) (q : ∀ d, (unpinF S t).1 = .val d → Φ (.d d) ⟨F (.ins Cc (insF (unpinF S t).2.1 P)) (.dK (ptsX (unpinF S t).2.2)), g⟩) :
    WB G.K X (SPC (sp_C_unpin G ea Cc) [] X.E) [.r (.ref a), .d (.int t)] ⟨F (.ins Cc (insF S.1 P)) (.dK (ptsX S.2)), g⟩ Φ := by
  have psl := ps_short ea A si t0 t9 hea
  subst hea
  refine wb_specX ⟨a, P, S.1, _, .int t, rfl, A.a _ _, by omega, fun e => ?_, fun p ep _ _ => ?_⟩
  · rw [numD_t t0 t9] at e; cases e
  obtain rfl := PyData.int.inj ep
  unfold unpinF at no q
  refine ⟨fun e => no (by rw [e]), fun ⟨k, ek⟩ => ?_⟩
  rw [ek] at q
  exact q _ rfl
theorem called_drop (no : (dropF S t).1 = .no → X.ex "BadPage" none ⟨F (.ins Cc (insF S.1 P)) (.dK (ptsX S.2)), g⟩) (q : ∀ d, (dropF S t).1 = .val d → Φ (.d d) ⟨F (.ins Cc (insF (dropF S t).2.1 P)) (.dK (ptsX (dropF S t).2.2)), g⟩) :
    WB G.K X (SPC (sp_C_drop G ea Cc) [] X.E) [.r (.ref a), .d (.int t)] ⟨F (.ins Cc (insF S.1 P)) (.dK (ptsX S.2)), g⟩ Φ := by
  have psl := ps_short ea A si t0 t9 hea
  have hl : S.1.l.length ≤ 100 := by have := si.c.len; have := si.c.s6; omega
  subst hea
  refine wb_specX ⟨a, P, S.1, _, .int t, rfl, A.a _ _, by omega, hl, fun e => ?_, fun p ep _ _ => ?_⟩
  · rw [numD_t t0 t9] at e; cases e
  obtain rfl := PyData.int.inj ep
  unfold dropF at no q
  refine ⟨fun e => no (by rw [e]), fun k ek => ?_⟩
  rw [ek] at q
  exact q _ rfl
theorem called_resize (no : (resizeF S (1 + t % 6).toNat).1 = .no → X.ex "NoRoom" none ⟨F (.ins Cc (insF S.1 P)) (.dK (ptsX S.2)), g⟩)
    (q : ∀ gs, (resizeF S (1 + t % 6).toNat).1 = .goes gs → ∀ L, Φ (.r (.ref L)) ⟨(L, .lst ((gs.map PyData.int).map VX.d)) :: F (.ins Cc (insF (resizeF S (1 + t % 6).toNat).2.1 P)) (.dK (ptsX (resizeF S (1 + t % 6).toNat).2.2)), g⟩) :
    WB G.K X (SPC (sp_C_resize G ea Cc) [] X.E) [.r (.ref a), .d (.int (1 + t % 6))] ⟨F (.ins Cc (insF S.1 P)) (.dK (ptsX S.2)), g⟩ Φ := by
  have hl : S.1.l.length ≤ 100 := by have := si.c.len; have := si.c.s6; omega
  have m0 := Int.emod_nonneg t (b := 6) (by decide)
  have m1 := Int.emod_lt_of_pos t (b := 6) (by decide)
  generalize hz : (1 + t % 6).toNat = z at no q
  have ez : 1 + t % 6 = (z : Int) := by omega
  rw [ez]
  subst hea
  refine wb_specX ⟨a, P, S.1, _, .int (z : Int), rfl, A.a _ _, hl, fun e => ?_, fun z' e z1 z6 => ?_⟩
  · rw [numD_t (by omega) (by omega)] at e; cases e
  have e' : z' = z := by have := PyData.int.inj e; omega
  subst e'
  have sr := (si_resize si z1 z6).2
  unfold resizeF at no q
  refine ⟨fun c => no (by rw [if_pos c]), fun c => ?_⟩
  rw [if_neg c] at q
  exact ⟨_, _, _, sr c, fun L => q _ rfl L⟩
theorem name_ok (t : Int) : nameB (CB.N.nameAt t) = true ∧ (CB.N.nameAt t).length ≤ 1000 := by
  unfold CB.N.nameAt
  split
  · exact ⟨by decide +kernel, by decide⟩
  · split
    · exact ⟨by decide +kernel, by decide⟩
    · exact ⟨by decide +kernel, by decide⟩
theorem pts_short : S.2.length ≤ 3 := by
  have := nd_len' si.n (b := [(.inr "a" : Key), .inr "b", .inr "c"]) fun k hk => by
    obtain ⟨q, hq, rfl⟩ := List.mem_map.mp hk
    exact si.k q hq
  rw [List.length_map] at this
  exact this
theorem called_mark (q : Φ (.d .none) ⟨F (.ins Cc (insF S.1 P)) (.dK (ptsX (markF S (CB.N.nameAt t)).2.2)), g⟩) :
    WB G.K X (SPC (sp_C_mark G ea Cc) [] X.E) [.r (.ref a), .d (.str (CB.N.nameAt t))] ⟨F (.ins Cc (insF S.1 P)) (.dK (ptsX S.2)), g⟩ Φ := by
  have pl := pts_short ea A si t0 t9 hea
  have nk := name_ok ea A si t0 t9 hea t
  subst hea
  refine wb_specX ⟨a, P, S.1, _, _, .str (CB.N.nameAt t), S.2, rfl, A.a _ _, A.p _ _, by omega, fun z e => by rw [← PyData.str.inj e]; exact nk.2, fun z e _ => ?_, fun z => ?_⟩
  · rw [← PyData.str.inj e, ← putP_X]
    exact q
  · have := z _ rfl
    rw [nk.1] at this
    cases this
theorem called_go (no : (goF S (CB.N.nameAt t)).1 = .no → X.ex "NoPoint" none ⟨F (.ins Cc (insF S.1 P)) (.dK (ptsX S.2)), g⟩) (q : (goF S (CB.N.nameAt t)).1 = .val .none → Φ (.d .none) ⟨F (.ins Cc (insF (goF S (CB.N.nameAt t)).2.1 P)) (.dK (ptsX (goF S (CB.N.nameAt t)).2.2)), g⟩) :
    WB G.K X (SPC (sp_C_go G ea Cc) [] X.E) [.r (.ref a), .d (.str (CB.N.nameAt t))] ⟨F (.ins Cc (insF S.1 P)) (.dK (ptsX S.2)), g⟩ Φ := by
  subst hea
  unfold goF at no q
  refine wb_specX ⟨a, P, S.1, _, _, .str (CB.N.nameAt t), S.2, rfl, A.a _ _, A.p _ _, fun z => ?_, fun z c' e1 e2 => ?_⟩
  · have := z _ rfl
    rw [valP_X] at this
    cases e : valP S.2 (.inr (CB.N.nameAt t)) with
    | none => rw [e] at no; exact no rfl
    | some c => rw [e] at this; cases this
  · rw [← PyData.str.inj e1, valP_X] at e2
    cases e : valP S.2 (.inr (CB.N.nameAt t)) with
    | none => rw [e] at e2; cases e2
    | some c =>
      rw [e] at q e2
      have e3 : ptD c = ptD c' := VX.d.inj (Option.some.inj e2)
      rw [← ptD_ins e3 S.1.r P]
      exact q rfl
end
theorem no_same (S : ST) (w : Wo) (t : Int) : (callF S w t).1 = .no → (callF S w t).2 = S := by
  cases w with
  | ask => unfold callF askF; dsimp only; split <;> intro h <;> first | rfl | cases h
  | pin => unfold callF pinF; dsimp only; split <;> intro h <;> first | rfl | cases h
  | unpin => unfold callF unpinF; dsimp only; split <;> intro h <;> first | rfl | cases h
  | drop => unfold callF dropF; dsimp only; split <;> intro h <;> first | rfl | cases h
  | resize => unfold callF resizeF; dsimp only; split <;> intro h <;> first | rfl | cases h
  | mark => unfold callF markF; intro h; cases h
  | go => unfold callF goF; dsimp only; split <;> intro h <;> first | rfl | cases h
theorem abc_at (t : Int) : ∃ c, atI ("abc" : Str).cps.toList (t % 3) = some c ∧ (⟨#[c]⟩ : Str) = CB.N.nameAt t := by
  have m0 := Int.emod_nonneg t (b := 3) (by decide)
  have m1 := Int.emod_lt_of_pos t (b := 3) (by decide)
  have e : t % 3 = 0 ∨ t % 3 = 1 ∨ t % 3 = 2 := by omega
  unfold CB.N.nameAt
  rcases e with e | e | e
  · rw [e, if_pos rfl]
    exact ⟨_, rfl, by decide +kernel⟩
  · rw [e, if_neg (by decide), if_pos rfl]
    exact ⟨_, rfl, by decide +kernel⟩
  · rw [e, if_neg (by decide), if_neg (by decide)]
    exact ⟨_, rfl, by decide +kernel⟩
theorem law_called_ok (G : Glob) (ea : Str → Addr) (X : XC) {Cc : Addr} (HC : ClsC G.K Cc) (xs : List VX) (W : Wd) (Φ : VX → Wd → Prop) (h : A__law_called G ea Cc xs W Φ) : xs.length = 2 ∧ WS G.K X (t__law_called G ea Cc) (st0 xs 2) W (P0 Φ) := by
  obtain ⟨a, P, F, S, w, t, g, rfl, rfl, A, si, t0, t9, KX, q⟩ := h
  refine ⟨rfl, ?_⟩
  unfold t__law_called
  refine ws_seq (ws_asgG (we_var rfl (wg_tup2 (wgs_cons (wg_name (wgs_cons (wg_name (wgs_nil ?_))))))))
  refine ws_tryN (ea := ea) (Ξ := fun c n W' => n = none ∧ c ∈ kinds ∧ W' = ⟨F (.ins Cc (insF S.1 P)) (.dK (ptsX S.2)), g⟩ ∧ (callF S w t).1 = .no ∧ (callF S w t).2 = S) (fun E' => ?_) fun c n W' ⟨_, hk, e, en, es⟩ => ⟨KX c hk, fun L => ?_⟩
  rotate_left
  · rw [en, es] at q
    rw [e]
    exact q L
  have noS : (callF S w t).1 = .no → (callF S w t).2 = S := no_same S w t
  cases w with
  | ask =>
    walk_at "ev"
    refine w2_inS (ss := ["ask", "pin"]) ?_
    rw [show decide (Wo.ask.s ∈ (["ask", "pin"] : List Str)) = true by decide +kernel]
    walk_at "ev"
    refine we_lstO ?_
    walk_at "ev"
    rw [show decide (Wo.ask.s = ("ask" : Str)) = true by decide +kernel]
    walk_at "ev"
    refine we_meth ?_
    walk_at "ev"
    refine ⟨a, _, _, rfl, A.a _ _, rfl, ?_⟩
    walk_at "ev"
    refine called_ask (X := ⟨E', ea, _⟩) G ea HC A si t0 t9 rfl (fun e => ⟨rfl, by decide, rfl, e, noS e⟩) (fun d ed => ?_)
    walk_at "ev"
    refine ⟨Nat.le_of_ble_eq_true rfl, fun T => ?_⟩
    rw [show (callF S .ask t).1 = .val d from ed] at q
    exact q T
  | pin =>
    walk_at "ev"
    refine w2_inS (ss := ["ask", "pin"]) ?_
    rw [show decide (Wo.pin.s ∈ (["ask", "pin"] : List Str)) = true by decide +kernel]
    walk_at "ev"
    refine we_lstO ?_
    walk_at "ev"
    rw [show decide (Wo.pin.s = ("ask" : Str)) = false by decide +kernel]
    walk_at "ev"
    refine we_meth ?_
    walk_at "ev"
    refine ⟨a, _, _, rfl, A.a _ _, rfl, ?_⟩
    walk_at "ev"
    refine called_pin (X := ⟨E', ea, _⟩) G ea A si t0 t9 rfl (fun e => ⟨rfl, by decide, rfl, e, noS e⟩) (fun d ed => ?_)
    walk_at "ev"
    refine ⟨Nat.le_of_ble_eq_true rfl, fun T => ?_⟩
    rw [show (callF S .pin t).1 = .val d from ed] at q
    exact q T
  | unpin =>
    walk_at "ev"
    refine w2_inS (ss := ["ask", "pin"]) ?_
    rw [show decide (Wo.unpin.s ∈ (["ask", "pin"] : List Str)) = false by decide +kernel]
    walk_at "ev"
    refine w2_inS (ss := ["unpin", "drop"]) ?_
    rw [show decide (Wo.unpin.s ∈ (["unpin", "drop"] : List Str)) = true by decide +kernel]
    walk_at "ev"
    refine we_lstO ?_
    walk_at "ev"
    rw [show decide (Wo.unpin.s = ("unpin" : Str)) = true by decide +kernel]
    walk_at "ev"
    refine we_meth ?_
    walk_at "ev"
    refine ⟨a, _, _, rfl, A.a _ _, rfl, ?_⟩
    walk_at "ev"
    refine called_unpin (X := ⟨E', ea, _⟩) G ea A si t0 t9 rfl (fun e => ⟨rfl, by decide, rfl, e, noS e⟩) (fun d ed => ?_)
    walk_at "ev"
    refine ⟨Nat.le_of_ble_eq_true rfl, fun T => ?_⟩
    rw [show (callF S .unpin t).1 = .val d from ed] at q
    exact q T
  | drop =>
    walk_at "ev"
    refine w2_inS (ss := ["ask", "pin"]) ?_
    rw [show decide (Wo.drop.s ∈ (["ask", "pin"] : List Str)) = false by decide +kernel]
    walk_at "ev"
    refine w2_inS (ss := ["unpin", "drop"]) ?_
    rw [show decide (Wo.drop.s ∈ (["unpin", "drop"] : List Str)) = true by decide +kernel]
    walk_at "ev"
    refine we_lstO ?_
    walk_at "ev"
    rw [show decide (Wo.drop.s = ("unpin" : Str)) = false by decide +kernel]
    walk_at "ev"
    refine we_meth ?_
    walk_at "ev"
    refine ⟨a, _, _, rfl, A.a _ _, rfl, ?_⟩
    walk_at "ev"
    refine called_drop (X := ⟨E', ea, _⟩) G ea A si t0 t9 rfl (fun e => ⟨rfl, by decide, rfl, e, noS e⟩) (fun d ed => ?_)
    walk_at "ev"
    refine ⟨Nat.le_of_ble_eq_true rfl, fun T => ?_⟩
    rw [show (callF S .drop t).1 = .val d from ed] at q
    exact q T
  | resize =>
    walk_at "ev"
    refine w2_inS (ss := ["ask", "pin"]) ?_
    rw [show decide (Wo.resize.s ∈ (["ask", "pin"] : List Str)) = false by decide +kernel]
    walk_at "ev"
    refine w2_inS (ss := ["unpin", "drop"]) ?_
    rw [show decide (Wo.resize.s ∈ (["unpin", "drop"] : List Str)) = false by decide +kernel]
    walk_at "ev"
    rw [show decide (Wo.resize.s = ("resize" : Str)) = true by decide +kernel]
    walk_at "ev"
    refine we_lstO ?_
    walk_at "ev"
    refine we_meth ?_
    walk_at "ev"
    refine ⟨a, _, _, rfl, A.a _ _, rfl, ?_⟩
    walk_at "ev"
    refine w2_mod (by decide) ?_
    walk_at "ev"
    refine called_resize (X := ⟨E', ea, _⟩) G ea A si t0 t9 rfl (fun e => ⟨rfl, by decide, rfl, e, noS e⟩) (fun gs ed L => ?_)
    walk_at "ev"
    refine ⟨Nat.le_of_ble_eq_true rfl, fun T => ?_⟩
    rw [show (callF S .resize t).1 = .goes gs from ed] at q
    exact q T L
  | mark =>
    walk_at "ev"
    refine w2_inS (ss := ["ask", "pin"]) ?_
    rw [show decide (Wo.mark.s ∈ (["ask", "pin"] : List Str)) = false by decide +kernel]
    walk_at "ev"
    refine w2_inS (ss := ["unpin", "drop"]) ?_
    rw [show decide (Wo.mark.s ∈ (["unpin", "drop"] : List Str)) = false by decide +kernel]
    walk_at "ev"
    rw [show decide (Wo.mark.s = ("resize" : Str)) = false by decide +kernel]
    walk_at "ev"
    refine we_lstO ?_
    walk_at "ev"
    rw [show decide (Wo.mark.s = ("mark" : Str)) = true by decide +kernel]
    walk_at "ev"
    refine we_meth ?_
    walk_at "ev"
    refine ⟨a, _, _, rfl, A.a _ _, rfl, ?_⟩
    walk_at "ev"
    obtain ⟨cc, hc1, hc2⟩ := abc_at t
    refine w2_mod (by decide) ?_
    refine w2_ixS (by decide) hc1 ?_
    rw [hc2]
    walk_at "ev"
    refine called_mark (X := ⟨E', ea, _⟩) G ea A si t0 t9 rfl ?_
    walk_at "ev"
    exact ⟨Nat.le_of_ble_eq_true rfl, fun T => q T⟩
  | go =>
    walk_at "ev"
    refine w2_inS (ss := ["ask", "pin"]) ?_
    rw [show decide (Wo.go.s ∈ (["ask", "pin"] : List Str)) = false by decide +kernel]
    walk_at "ev"
    refine w2_inS (ss := ["unpin", "drop"]) ?_
    rw [show decide (Wo.go.s ∈ (["unpin", "drop"] : List Str)) = false by decide +kernel]
    walk_at "ev"
    rw [show decide (Wo.go.s = ("resize" : Str)) = false by decide +kernel]
    walk_at "ev"
    refine we_lstO ?_
    walk_at "ev"
    rw [show decide (Wo.go.s = ("mark" : Str)) = false by decide +kernel]
    walk_at "ev"
    refine we_meth ?_
    walk_at "ev"
    refine ⟨a, _, _, rfl, A.a _ _, rfl, ?_⟩
    walk_at "ev"
    obtain ⟨cc, hc1, hc2⟩ := abc_at t
    refine w2_mod (by decide) ?_
    refine w2_ixS (by decide) hc1 ?_
    rw [hc2]
    walk_at "ev"
    refine called_go (X := ⟨E', ea, _⟩) G ea A si t0 t9 rfl (fun e => ⟨rfl, by decide, rfl, e, noS e⟩) (fun ed => ?_)
    walk_at "ev"
    refine ⟨Nat.le_of_ble_eq_true rfl, fun T => ?_⟩
    rw [show (callF S .go t).1 = .val .none from ed] at q
    exact q T
theorem len__law_called (G : Glob) (ea : Str → Addr) {Cc : Addr} (HC : ClsC G.K Cc) (vs : List V) (H : Hp) (Q : VK) (E : XK) (h : sp__law_called G ea Cc vs H Q E) : vs.length = 2 := len0 (fun xs W Φ a => (law_called_ok G ea ⟨E, fun _ => 0, fun _ _ _ => False⟩ HC xs W Φ a).1) vs H Q E h
theorem rd__law_called {N : List Str} (hN : N.length = 4) (G : Glob) (ea : Str → Addr) {Cc : Addr} (HC : ClsC G.K Cc) (vs : List V) (H : Hp) (Q : VK) (E : XK) (h : sp__law_called G ea Cc vs H Q E) : t__law_called G ea Cc { nx := fun _ H' => Q .non H', rt := Q } (L2.start N vs) H := rd0 (k := 2) hN (fun X => law_called_ok G ea X HC) vs H Q E h
end CB.Q

namespace CB.Q
open PySem PySem.Spec PyProof.Rows L2 DW CB2 CB.N
def leT (a b : Str) : Prop := a.cps.toList ≤ b.cps.toList
theorem rising_pw : ∀ (ss : List Str) (p : Str), risingS p ss = true → (p :: ss).Pairwise leT
  | [], _, _ => List.pairwise_singleton ..
  | x :: r, p, h => by
    have h : (!ltCps x.cps.toList p.cps.toList && risingS x r) = true := h
    rw [ltCps_eq] at h
    rw [Bool.and_eq_true] at h
    have ih := rising_pw r x h.2
    have le : leT p x := by
      have z := h.1
      show ¬ (x.cps.toList < p.cps.toList)
      intro c
      rw [decide_eq_true c] at z
      cases z
    refine List.pairwise_cons.mpr ⟨fun y hy => ?_, ih⟩
    rcases List.mem_cons.mp hy with rfl | hy
    · exact le
    · exact List.le_trans le ((List.pairwise_cons.mp ih).1 y hy)
theorem sorted_pw {ss : List Str} (h : sortedS ss = true) : ss.Pairwise leT := by
  cases ss with
  | nil => exact .nil
  | cons x r => exact rising_pw r x h
theorem str_ext {a b : Str} (h : a.cps.toList = b.cps.toList) : a = b := by
  cases a; cases b
  exact congrArg _ (Array.ext' h)
theorem sorted_one : ∀ {a b : List Str}, a.Perm b → a.Pairwise leT → b.Pairwise leT → a = b
  | [], b, p, _, _ => (List.nil_perm.mp p).symm
  | x :: a, [], p, _, _ => absurd (List.perm_nil.mp p) (by simp)
  | x :: a, y :: b, p, ha, hb => by
    have e : x = y := by
      have h1 := p.mem_iff.mp (List.mem_cons_self (a := x) (l := a))
      have h2 := p.mem_iff.mpr (List.mem_cons_self (a := y) (l := b))
      rcases List.mem_cons.mp h1 with h1 | h1
      · exact h1
      · rcases List.mem_cons.mp h2 with h2 | h2
        · exact h2.symm
        · exact str_ext (List.le_antisymm ((List.pairwise_cons.mp ha).1 y h2) ((List.pairwise_cons.mp hb).1 x h1))
    subst e
    rw [sorted_one p.cons_inv (List.pairwise_cons.mp ha).2 (List.pairwise_cons.mp hb).2]

/-- all that a cache tells of itself -/
def standsD (S : ST) (ys : List Str) : PyData := .list [heldD S.1.l, .tuple ((S.1.l.map (·.1)).map .int), .list (S.1.ps.map .int), .tuple [.int (S.1.n : Int), .int (S.1.m : Int)], .list (ys.map .str)]
def A__law_stands (Cc : Addr) : AT := fun xs W Φ => ∃ (a P : Addr) (F : OC → OC → List (Addr × OC)) (S : ST) (ks : List Str) (g : Hp → Prop), xs = [.r (.ref a)] ∧ W = ⟨F (.ins Cc (insF S.1 P)) (.dK (ptsX S.2)), g⟩ ∧ At2 a P F ∧ SI S ∧ S.2.map (·.1) = ks.map Sum.inr ∧
  ∀ ys : List Str, ys.Perm ks → sortedS ys = true → Φ (.d (standsD S ys)) ⟨F (.ins Cc (insF S.1 P)) (.dK (ptsX S.2)), g⟩
def sp__law_stands (G : Glob) (_ea : Str → Addr) (Cc : Addr) : Sp := SPEC0 G.K (A__law_stands Cc)
theorem law_stands_ok (G : Glob) (ea : Str → Addr) (X : XC) {Cc : Addr} (HC : ClsC G.K Cc) (xs : List VX) (W : Wd) (Φ : VX → Wd → Prop) (h : A__law_stands Cc xs W Φ) : xs.length = 1 ∧ WS G.K X (t__law_stands G ea Cc) (st0 xs 0) W (P0 Φ) := by
  obtain ⟨a, P, F, S, ks, g, rfl, rfl, A, si, hk, q⟩ := h
  refine ⟨rfl, ?_⟩
  have hl : S.1.l.length ≤ 6 := by have := si.c.len; have := si.c.s6; omega
  have kl : ks.length ≤ 3 := by
    have := nd_len' si.n (b := [(.inr "a" : Key), .inr "b", .inr "c"]) fun k hk => by
      obtain ⟨q, hq, rfl⟩ := List.mem_map.mp hk
      exact si.k q hq
    rw [hk, List.length_map] at this
    exact this
  unfold t__law_stands
  refine ws_ret (we_lstD ?_)
  refine wa_cons (we_meth (we_var rfl ⟨a, _, _, rfl, A.a _ _, rfl, wa_nil ?_⟩))
  refine wb_spec0 ⟨a, P, S.1, _, rfl, A.a _ _, by omega, ?_⟩
  refine wa_cons (we_meth (we_var rfl ⟨a, _, _, rfl, A.a _ _, rfl, wa_nil ?_⟩))
  refine wb_spec0 ⟨a, P, S.1, _, rfl, A.a _ _, by omega, ?_⟩
  refine wa_cons (we_fz (we_meth (we_var rfl ⟨a, _, _, rfl, A.a _ _, rfl, wa_nil ?_⟩)))
  refine wb_spec0 ⟨a, P, S.1, _, rfl, A.a _ _, fun L => ⟨L, _, _, rfl, rfl, ?_⟩⟩
  refine wa_cons (we_meth (we_var rfl ⟨a, _, _, rfl, A.a _ _, rfl, wa_nil ?_⟩))
  refine wb_spec0 ⟨a, P, S.1, _, rfl, A.a _ _, ?_⟩
  refine wa_cons (we_fz (we_meth (we_var rfl ⟨a, _, _, rfl, A.a _ _, rfl, wa_nil ?_⟩)))
  refine wb_spec0 ⟨a, P, S.1, _, _, S.2, ks, rfl, A.a _ _, A.p _ _, hk, by omega, fun ys py sy L => ⟨L, _, _, rfl, rfl, ?_⟩⟩
  exact wa_nil ⟨_, rfl, Nat.le_of_ble_eq_true rfl, q ys py sy⟩
theorem len__law_stands (G : Glob) (ea : Str → Addr) {Cc : Addr} (HC : ClsC G.K Cc) (vs : List V) (H : Hp) (Q : VK) (E : XK) (h : sp__law_stands G ea Cc vs H Q E) : vs.length = 1 := len0 (fun xs W Φ a => (law_stands_ok G ea ⟨E, fun _ => 0, fun _ _ _ => False⟩ HC xs W Φ a).1) vs H Q E h
theorem rd__law_stands {N : List Str} (hN : N.length = 1) (G : Glob) (ea : Str → Addr) {Cc : Addr} (HC : ClsC G.K Cc) (vs : List V) (H : Hp) (Q : VK) (E : XK) (h : sp__law_stands G ea Cc vs H Q E) : t__law_stands G ea Cc { nx := fun _ H' => Q .non H', rt := Q } (L2.start N vs) H := rd0 (k := 1) hN (fun X => law_stands_ok G ea X HC) vs H Q E h
end CB.Q

/-! lists that are cells: put together, repeated, asked for what they are -/
namespace DW
open PySem PySem.Spec PyProof.Rows L2 CB
section
variable {K : PySem.W.Frag} {X : XC} {W : Wd} {Φ : VX → Wd → Prop} {a b : Addr} {xs ys : List VX} {f f2 : OC → List (Addr × OC)}
theorem w2_catO (c : Cut a (.lst xs) W.c f) (c2 : Cut b (.lst ys) W.c f2) (hl : xs.length + ys.length ≤ 1000) (h : ∀ L, Φ (.r (.ref L)) ⟨(L, .lst (xs ++ ys)) :: W.c, W.g⟩) : W2 K rCat (.r (.ref a)) (.r (.ref b)) W Φ := fun H M u v Q R p q k => by
  cases p
  cases q
  obtain ⟨us, h1, h2⟩ := R.cell _ c.mem
  obtain ⟨ws, h3, h4⟩ := R.cell _ c2.mem
  refine ⟨a, b, us, ws, rfl, rfl, h1, h3, ?_, fun p np => ?_⟩
  · rw [← paired_len h2, ← paired_len h4]; exact Nat.le_trans hl (by decide)
  obtain ⟨R2, t2⟩ := R.cnew (u := .lst (us ++ ws)) (o := .lst (xs ++ ys)) np ⟨_, upd_same, paired_append h2 h4⟩
  exact k _ _ _ _ _ (h p) R2 t2 rfl
theorem paired_rep {α β : Type} {R : α → β → Prop} {xs : List α} {ys : List β} (h : Paired R xs ys) : ∀ n : Nat, Paired R (List.replicate n xs).flatten (List.replicate n ys).flatten
  | 0 => .nil
  | n + 1 => by
    rw [List.replicate_succ, List.replicate_succ, List.flatten_cons, List.flatten_cons]
    exact paired_append h (paired_rep h n)
theorem w2_repO {n : Nat} (c : Cut a (.lst xs) W.c f) (hn : n ≤ 100) (hl : xs.length * n ≤ 1000) (h : ∀ L, Φ (.r (.ref L)) ⟨(L, .lst (List.replicate n xs).flatten) :: W.c, W.g⟩) : W2 K rRep (.r (.ref a)) (.d (.int (n : Int))) W Φ := fun H M u v Q R p q k => by
  cases p
  cases q
  obtain ⟨us, h1, h2⟩ := R.cell _ c.mem
  refine ⟨a, (n : Int), us, rfl, rfl, h1, by omega, by omega, ?_, fun p np => ?_⟩
  · rw [Int.toNat_natCast, ← paired_len h2]; exact Nat.le_trans hl (by decide)
  rw [Int.toNat_natCast]
  obtain ⟨R2, t2⟩ := R.cnew (u := .lst (List.replicate n us).flatten) (o := .lst (List.replicate n xs).flatten) np ⟨_, upd_same, paired_rep h2 n⟩
  exact k _ _ _ _ _ (h p) R2 t2 rfl
theorem wb_isiO (c : Cut a (.lst xs) W.c f) (h : Φ (.d (.bool true)) W) : WB K X (rIsi K) [.r (.ref a), .r (.ty "list")] W Φ := fun H M vs Q R p kx k => by
  cases p with
  | cons p1 p => cases p with
    | cons p2 p =>
      cases p; cases p1; cases p2
      obtain ⟨us, h1, h2⟩ := R.cell _ c.mem
      exact ⟨_, _, _, _, _, rfl, .ty "list", tyL (SqL.of h1), by kernel_rfl, k _ _ _ _ _ h R (.refl ..) (Dp.bl _)⟩
end
end DW
namespace DW
open PySem PySem.Spec PyProof.Rows L2 CB
section
variable {K : PySem.W.Frag} {X : XC} {W : Wd} {Φ : VX → Wd → Prop} {a : Addr} {ds : List PyData} {f : OC → List (Addr × OC)}
/-- list(x) of a list that is a cell, the new one data -/
theorem wb_listOd (c : Cut a (.lst (ds.map .d)) W.c f) (h : Φ (.d (.list ds)) W) : WB K X (bList K) [.r (.ref a)] W Φ := fun H M vs Q R p kx k => by
  cases p with
  | cons p1 p =>
    cases p; cases p1
    obtain ⟨us, h1, h2⟩ := R.cell _ c.mem
    exact ⟨a, us, rfl, .inl (SqL.of h1), k_lstA R k h (dpAll_of h2)⟩
end
end DW

/-! calls one behind the other -/
namespace CB.Q
open PySem PySem.Spec PyProof.Rows L2 DW CB2 CB.N
theorem putP_keys (pts : List (Key × CV)) (k : Key) (c : CV) : (putP pts k c).map (·.1) = pts.map (·.1) ∨ (k ∉ pts.map (·.1) ∧ (putP pts k c).map (·.1) = pts.map (·.1) ++ [k]) := by
  have ha : (pts.any fun kv => decide (kv.1 = k)) = true ↔ k ∈ pts.map (·.1) := by
    rw [List.any_eq_true, List.mem_map]
    exact ⟨fun ⟨x, h1, h2⟩ => ⟨x, h1, of_decide_eq_true h2⟩, fun ⟨x, h1, h2⟩ => ⟨x, h1, decide_eq_true h2⟩⟩
  unfold putP
  by_cases h : (pts.any fun kv => decide (kv.1 = k)) = true
  · left
    rw [if_pos h, List.map_map]
    refine List.map_congr_left fun kv _ => ?_
    simp only [Function.comp]
    by_cases z : kv.1 = k
    · rw [if_pos z]
    · rw [if_neg z]
  · right
    rw [if_neg h, List.map_append]
    exact ⟨fun z => h (ha.mpr z), rfl⟩
theorem putP_mem {pts : List (Key × CV)} {k : Key} {c : CV} {q : Key × CV} (h : q ∈ putP pts k c) : q.2 = c ∨ q ∈ pts := by
  unfold putP at h
  split at h
  · obtain ⟨x, hx, e⟩ := List.mem_map.mp h
    by_cases z : x.1 = k
    · rw [if_pos z] at e; exact .inl (by rw [← e])
    · rw [if_neg z] at e; exact .inr (by rw [← e]; exact hx)
  · rcases List.mem_append.mp h with z | z
    · exact .inr z
    · exact .inl (by rw [List.mem_singleton.mp z])
theorem name_in (t : Int) : (.inr (CB.N.nameAt t) : Key) ∈ [(.inr "a" : Key), .inr "b", .inr "c"] := by
  unfold CB.N.nameAt
  split
  · simp
  · split <;> simp
theorem si_mark {S : ST} (h : SI S) (t : Int) : SI (markF S (CB.N.nameAt t)).2 := by
  have hk := putP_keys S.2 (.inr (CB.N.nameAt t)) S.1
  refine ⟨h.c, fun q hq => ?_, fun q hq => ?_, ?_⟩
  · rcases putP_mem hq with e | e
    · rw [e]; exact h.c
    · exact h.p q e
  · have : q.1 ∈ (putP S.2 (.inr (CB.N.nameAt t)) S.1).map (·.1) := List.mem_map.mpr ⟨q, hq, rfl⟩
    have old : ∀ k, k ∈ S.2.map (·.1) → k ∈ [(.inr "a" : Key), .inr "b", .inr "c"] := fun k hk => by
      obtain ⟨x, hx, rfl⟩ := List.mem_map.mp hk
      exact h.k x hx
    rcases hk with e | ⟨_, e⟩
    · rw [e] at this; exact old _ this
    · rw [e] at this
      rcases List.mem_append.mp this with z | z
      · exact old _ z
      · rw [List.mem_singleton.mp z]; exact name_in t
  · show ((putP S.2 (.inr (CB.N.nameAt t)) S.1).map (·.1)).Nodup
    rcases hk with e | ⟨c, e⟩
    · rw [e]; exact h.n
    · rw [e, List.nodup_append]
      exact ⟨h.n, by simp, fun a ha b hb => by rw [List.mem_singleton.mp hb]; exact fun e => c (e ▸ ha)⟩
theorem si_call {S : ST} (h : SI S) (w : Wo) {t : Int} (t0 : 0 ≤ t) (t9 : t ≤ 9) : SI (callF S w t).2 := by
  have m0 := Int.emod_nonneg t (b := 6) (by decide)
  have m1 := Int.emod_lt_of_pos t (b := 6) (by decide)
  cases w with
  | ask => exact si_ask h ⟨t0, t9⟩
  | pin => exact si_pin h
  | unpin => exact si_unpin h
  | drop => exact si_drop h
  | resize => exact (si_resize h (by omega) (by omega)).1
  | mark => exact si_mark h t
  | go => exact si_go h
noncomputable def runF (S : ST) : List (Wo × Int) → ST
  | [] => S
  | c :: r => runF (callF S c.1 c.2).2 r
def callD (c : Wo × Int) : PyData := .tuple [.str c.1.s, .int c.2]
noncomputable def bookF (S : ST) : List (Wo × Int) → List PyData
  | [] => []
  | c :: r => .tuple [callD c, (callF S c.1 c.2).1.d] :: bookF (callF S c.1 c.2).2 r
theorem runF_snoc (c : Wo × Int) : ∀ (cs : List (Wo × Int)) (S : ST), runF S (cs ++ [c]) = (callF (runF S cs) c.1 c.2).2
  | [], _ => rfl
  | _ :: r, _ => runF_snoc c r _
theorem bookF_snoc (c : Wo × Int) : ∀ (cs : List (Wo × Int)) (S : ST), bookF S (cs ++ [c]) = bookF S cs ++ [.tuple [callD c, (callF (runF S cs) c.1 c.2).1.d]]
  | [], _ => rfl
  | d :: r, S => by
    show _ :: bookF _ (r ++ [c]) = _
    rw [bookF_snoc c r]
    rfl
def CallOk (c : Wo × Int) : Prop := 0 ≤ c.2 ∧ c.2 ≤ 9
theorem si_run : ∀ (cs : List (Wo × Int)) {S : ST}, SI S → (∀ c ∈ cs, CallOk c) → SI (runF S cs)
  | [], _, h, _ => h
  | c :: r, _, h, k => si_run r (si_call h c.1 (k c List.mem_cons_self).1 (k c List.mem_cons_self).2) fun d hd => k d (List.mem_cons_of_mem _ hd)
theorem bookF_len : ∀ (cs : List (Wo × Int)) (S : ST), (bookF S cs).length = cs.length
  | [], _ => rfl
  | _ :: r, _ => congrArg (· + 1) (bookF_len r _)
theorem bookF_at : ∀ (cs : List (Wo × Int)) (S : ST) (i : Nat) (c : Wo × Int), cs[i]? = some c → (bookF S cs)[i]? = some (.tuple [callD c, (callF (runF S (cs.take i)) c.1 c.2).1.d])
  | [], _, _, _, h => by simp at h
  | d :: r, S, 0, c, h => by obtain rfl := Option.some.inj h; rfl
  | d :: r, S, i + 1, c, h => by
    have h : r[i]? = some c := by simpa using h
    exact bookF_at r _ i c h
end CB.Q

namespace DW
open PySem PySem.Spec PyProof.Rows L2
/-- a list in a list, both new ones, become data -/
theorem Rp.fz2 {K : PySem.W.Frag} {H M : Hp} {T L : Addr} {es : List PyData} {c : List (Addr × OC)} {g : Hp → Prop} (R : Rp K H M ⟨(T, .lst [.r (.ref L)]) :: (L, .lst (es.map .d)) :: c, g⟩) :
    ∃ M', Rp K H M' ⟨c, g⟩ ∧ Tr H M ⟨(T, .lst [.r (.ref L)]) :: (L, .lst (es.map .d)) :: c, g⟩ H M' ⟨c, g⟩ ∧ Dp K M' (.ref T) (.list [.list es]) := by
  obtain ⟨R1, t1⟩ := R.perm (List.Perm.swap (L, .lst (es.map .d)) (T, .lst [.r (.ref L)]) c)
  obtain ⟨M1, R2, t2, d2⟩ := R1.fz
  have R3 : Rp K H M1 ⟨(T, .lst ([PyData.list es].map .d)) :: c, g⟩ := by
    refine ⟨R2.sm, R2.nd, fun q hq => ?_, fun q hq => ?_, R2.gok, R2.g⟩
    · rcases List.mem_cons.mp hq with rfl | hq
      · exact R2.out (T, .lst [.r (.ref L)]) List.mem_cons_self
      · exact R2.out q (List.mem_cons_of_mem _ hq)
    · rcases List.mem_cons.mp hq with rfl | hq
      · obtain ⟨vs, h1, h2⟩ := R2.cell (T, .lst [.r (.ref L)]) List.mem_cons_self
        cases h2 with
        | cons a1 h2 =>
          cases h2
          cases a1
          exact ⟨_, h1, .cons d2 .nil⟩
      · exact R2.cell q (List.mem_cons_of_mem _ hq)
  have t3 : Tr H M1 ⟨(T, .lst [.r (.ref L)]) :: c, g⟩ H M1 ⟨(T, .lst ([PyData.list es].map .d)) :: c, g⟩ := ⟨.refl M1, fun _ _ e _ => e, fun _ _ e _ n m => ⟨e, n, m⟩⟩
  obtain ⟨M2, R4, t4, d4⟩ := R3.fz
  exact ⟨M2, R4, t1.trans (t2.trans (t3.trans t4)), d4⟩
theorem we_fz2 {K : PySem.W.Frag} {X : XC} {τ : Ts} {W : Wd} {Φ : VX → Wd → Prop} {te : TE} (w : WE K X te τ W fun x W1 => ∃ T L es c, x = .r (.ref T) ∧ W1.c = (T, .lst [.r (.ref L)]) :: (L, .lst (es.map .d)) :: c ∧ Φ (.d (.list [.list es])) ⟨c, W1.g⟩) : WE K X te τ W Φ := fun σ H M Q s R kx k =>
  w σ H M Q s R kx fun x v H1 M1 W1 ⟨T, L, es, c, e, e2, q⟩ R1 t1 p => by
    subst e
    obtain ⟨c1, g1⟩ := W1
    cases e2
    cases p
    obtain ⟨M2, R2, t2, d2⟩ := R1.fz2
    exact k _ _ _ _ _ q R2 (t1.trans t2) d2
end DW
namespace DW
open PySem PySem.Spec PyProof.Rows L2
section
variable {K : PySem.W.Frag} {X : XC} {W : Wd} {Φ : VX → Wd → Prop} {r : List V → Hp → VK → Prop} {xs : List VX}
theorem wb_fz (w : WB K X r xs W fun x W1 => ∃ a ds c, x = .r (.ref a) ∧ W1.c = (a, .lst (ds.map .d)) :: c ∧ Φ (.d (.list ds)) ⟨c, W1.g⟩) : WB K X r xs W Φ := fun H M vs Q R p kx k =>
  w H M vs Q R p kx fun x v H1 M1 W1 ⟨a, ds, c, e, e2, q⟩ R1 t1 p1 => by
    subst e
    obtain ⟨c1, g1⟩ := W1
    cases e2
    cases p1
    obtain ⟨M2, R2, t2, d2⟩ := R1.fz
    exact k _ _ _ _ _ q R2 (t1.trans t2) d2
theorem wb_fz2 (w : WB K X r xs W fun x W1 => ∃ T L es c, x = .r (.ref T) ∧ W1.c = (T, .lst [.r (.ref L)]) :: (L, .lst (es.map .d)) :: c ∧ Φ (.d (.list [.list es])) ⟨c, W1.g⟩) : WB K X r xs W Φ := fun H M vs Q R p kx k =>
  w H M vs Q R p kx fun x v H1 M1 W1 ⟨T, L, es, c, e, e2, q⟩ R1 t1 p1 => by
    subst e
    obtain ⟨c1, g1⟩ := W1
    cases e2
    cases p1
    obtain ⟨M2, R2, t2, d2⟩ := R1.fz2
    exact k _ _ _ _ _ q R2 (t1.trans t2) d2
end
end DW
namespace CB.Q
open PySem PySem.Spec PyProof.Rows L2 DW CB2 CB.N
/-- a call's telling taken for data -/
theorem wb_called (G : Glob) (ea : Str → Addr) {Cc : Addr} {X : XC} {a P : Addr} {F : OC → OC → List (Addr × OC)} {S : ST} {w : Wo} {t : Int} {g : Hp → Prop} {Φ : VX → Wd → Prop} (A : At2 a P F) (si : SI S) (t0 : 0 ≤ t) (t9 : t ≤ 9)
    (KX : ∀ c ∈ kinds, PySem.W.exmOne G.K (.ref (ea c)) (.ref (ea "CacheError")) = some true) (q : Φ (.d (callF S w t).1.d) ⟨F (.ins Cc (insF (callF S w t).2.1 P)) (.dK (ptsX (callF S w t).2.2)), g⟩) :
    WB G.K X (SPC (sp__law_called G ea Cc) [] E0) [.r (.ref a), .d (.tuple [.str w.s, .int t])] ⟨F (.ins Cc (insF S.1 P)) (.dK (ptsX S.2)), g⟩ Φ := by
  cases e : (callF S w t).1 with
  | no =>
    rw [e] at q
    exact wb_fz (wb_spec0 ⟨a, P, F, S, w, t, g, rfl, rfl, A, si, t0, t9, KX, by rw [e]; exact fun T => ⟨T, [], _, rfl, rfl, q⟩⟩)
  | val d =>
    rw [e] at q
    exact wb_fz (wb_spec0 ⟨a, P, F, S, w, t, g, rfl, rfl, A, si, t0, t9, KX, by rw [e]; exact fun T => ⟨T, [d], _, rfl, rfl, q⟩⟩)
  | goes gs =>
    rw [e] at q
    exact wb_fz2 (wb_spec0 ⟨a, P, F, S, w, t, g, rfl, rfl, A, si, t0, t9, KX, by rw [e]; exact fun T L => ⟨T, L, gs.map .int, _, rfl, rfl, q⟩⟩)
end CB.Q

namespace CB.Q
open PySem PySem.Spec PyProof.Rows L2 DW CB2 CB.N
local macro_rules | `(tactic| walk_at "e1") => `(tactic| (with_reducible first
  | refine ws_seq ?_ | refine ws_asg ?_ | refine ws_asgG ?_ | refine ws_ret ?_ | refine ws_retN ?_ | refine ws_drop ?_ | refine ws_ifs ?_ | refine ws_par ?_
  | refine we_int ?_ | refine we_bl ?_ | refine we_str ?_ | refine we_non ?_ | refine we_ty ?_ | refine we_op ?_ | refine wa_nil ?_ | refine wa_cons ?_ | refine we_tup ?_ | refine we_notV ?_ | refine we_andV ?_ | refine we_orV ?_ | refine we_ifE ?_ | refine we_neg ?_
  | refine wt_test ?_ | refine wt_B ?_ | refine wt_tru ?_ | refine wt_and ?_ | refine wt_or ?_ | refine wt_not ?_ | refine wt_yes ?_ | refine we_sl ?_ | refine wo_none ?_ | refine wo_some ?_ | refine we_call ?_ | refine we_CB ?_
  | refine wg_name ?_ | refine wgs_nil ?_ | refine wgs_cons ?_ | refine wg_tup2 ?_ | refine wg_tup3 ?_ | refine ws_for ?_ | refine wi_tup ?_ | refine wi_rng1 ?_ | refine wi_rng2 ?_ | refine wi_enumT ?_
  | refine w2_add ?_ | refine w2_sub ?_ | refine w2_lt ?_ | refine w2_le ?_ | refine w2_gt ?_ | refine w2_ge ?_ | refine w2_eqI ?_ | refine w2_neI ?_ | refine w2_eqS ?_ | refine w2_isN ?_ | refine w2_notN ?_ | refine w2_inT ?_ | refine w2_notInT ?_ | refine w2_inL ?_ | refine w2_notInL ?_
  | refine exB ?_ | refine exI ?_ | refine exT ?_ | refine exL ?_ | refine exI1 ?_ | refine exT1 ?_ | refine exV ?_ | refine exA0 ?_ | refine exA1 ?_ | refine exA2 ?_ | refine exA3 ?_ | refine exA4 ?_ | refine exA5 ?_ | refine exA6 ?_ | refine exA7 ?_ | refine bT ?_ | refine bF ?_ | refine bT' ?_ | refine bF' ?_
  | refine w3_slA ?_ | refine wb_lenT ?_ | refine wb_lenL ?_ | refine wb_listT ?_ | refine wb_tupL ?_ | refine ws_next ?_
  | refine we_var (by with_unfolding_all rfl) ?_))
local macro_rules | `(tactic| walk_at "ev") => `(tactic| (repeat (walk_at "e1")))

local macro_rules | `(tactic| walk_at "ec") => `(tactic| (repeat (walk_at "e1")))
/-! what calls tell: data of few levels -/
theorem okD_ints (ns : List Int) (h : ns.length ≤ 1000) (n : Nat) : okD (n + 1) (.list (ns.map .int)) = true := by
  show (decide ((ns.map PyData.int).length ≤ 1000) && (ns.map PyData.int).all (okD n)) = true
  rw [Bool.and_eq_true, decide_eq_true_eq, List.length_map, List.all_eq_true]
  refine ⟨h, fun d hd => ?_⟩
  obtain ⟨t, _, rfl⟩ := List.mem_map.mp hd
  cases n <;> rfl
theorem okD_intsT (ns : List Int) (h : ns.length ≤ 1000) (n : Nat) : okD (n + 1) (.tuple (ns.map .int)) = true := okD_ints ns h n
theorem okD_strs (ns : List Str) (h : ns.length ≤ 1000) (n : Nat) : okD (n + 1) (.list (ns.map .str)) = true := by
  show (decide ((ns.map PyData.str).length ≤ 1000) && (ns.map PyData.str).all (okD n)) = true
  rw [Bool.and_eq_true, decide_eq_true_eq, List.length_map, List.all_eq_true]
  refine ⟨h, fun d hd => ?_⟩
  obtain ⟨t, _, rfl⟩ := List.mem_map.mp hd
  cases n <;> rfl
theorem okD_list {ds : List PyData} {n : Nat} (h : ds.length ≤ 1000) (k : ∀ d ∈ ds, okD n d = true) : okD (n + 1) (.list ds) = true := by
  show (decide (ds.length ≤ 1000) && ds.all (okD n)) = true
  rw [Bool.and_eq_true, decide_eq_true_eq, List.all_eq_true]
  exact ⟨h, k⟩
theorem goes_len {r : Rule} {ps : List Int} {z : Nat} {l l' : List Row} {h h' : Nat} {gs : List Int} (g : Goes r ps z l h gs l' h') : gs.length ≤ l.length := by
  induction g with
  | done _ => exact Nat.zero_le _
  | @clock l l' h h' gs sw f z1 c hl hf g ih =>
    have e1 := sweepP_len hf
    have e2 := sweepP_lt hl hf
    rw [outL_len (by omega)] at ih
    rw [List.length_cons]
    omega
  | @other l l' h h' gs z1 c hne g ih =>
    obtain ⟨g1, _⟩ := spots_free (goPlace_in c hne)
    rw [outL_len g1] at ih
    rw [List.length_cons]
    omega
theorem ci_l {S : ST} (si : SI S) : S.1.l.length ≤ 6 := by have := si.c.len; have := si.c.s6; omega
theorem ci_ps {S : ST} (si : SI S) : S.1.ps.length ≤ 6 := by
  have := nd_len si.c.pn si.c.ps
  rw [List.length_map] at this
  have := ci_l si
  omega
/-- a value that is told: no list, and flat -/
def Plain1 (d : PyData) : Prop := isiB (tyD d) "list" = false ∧ ∀ n, okD (n + 1) d = true
theorem pl_none : Plain1 .none := ⟨by decide, fun _ => rfl⟩
theorem isiL : isiB "tuple" "list" = false := by decide
theorem isiL2 : isiB "bool" "list" = false := by decide
theorem pl_bool (b : Bool) : Plain1 (.bool b) := ⟨isiL2, fun _ => rfl⟩
theorem pl_tell (t : Bool × Option Int) : Plain1 (tellD t) := ⟨isiL, fun n => by
  obtain ⟨b, g⟩ := t
  cases g <;> cases n <;> rfl⟩
theorem ret_ok {S : ST} (si : SI S) (w : Wo) {t : Int} (t0 : 0 ≤ t) (t9 : t ≤ 9) : (∀ d, (callF S w t).1 = .val d → Plain1 d) ∧ (∀ gs, (callF S w t).1 = .goes gs → gs.length ≤ 6) := by
  cases w with
  | ask =>
    show (∀ d, (askF S t).1 = .val d → _) ∧ (∀ gs, (askF S t).1 = .goes gs → _)
    unfold askF
    split
    · exact ⟨fun d e => (by cases e), fun gs e => (by cases e)⟩
    · exact ⟨fun d e => by cases e; exact pl_tell _, fun gs e => (by cases e)⟩
  | pin =>
    show (∀ d, (pinF S t).1 = .val d → _) ∧ (∀ gs, (pinF S t).1 = .goes gs → _)
    unfold pinF
    cases placeOf S.1.l t with
    | none => exact ⟨fun d e => (by cases e), fun gs e => (by cases e)⟩
    | some k => exact ⟨fun d e => by cases e; exact pl_none, fun gs e => (by cases e)⟩
  | unpin =>
    show (∀ d, (unpinF S t).1 = .val d → _) ∧ (∀ gs, (unpinF S t).1 = .goes gs → _)
    unfold unpinF
    cases placeOf S.1.l t with
    | none => exact ⟨fun d e => (by cases e), fun gs e => (by cases e)⟩
    | some k => exact ⟨fun d e => by cases e; exact pl_bool _, fun gs e => (by cases e)⟩
  | drop =>
    show (∀ d, (dropF S t).1 = .val d → _) ∧ (∀ gs, (dropF S t).1 = .goes gs → _)
    unfold dropF
    cases placeOf S.1.l t with
    | none => exact ⟨fun d e => (by cases e), fun gs e => (by cases e)⟩
    | some k => exact ⟨fun d e => by cases e; exact pl_none, fun gs e => (by cases e)⟩
  | resize =>
    have m0 := Int.emod_nonneg t (b := 6) (by decide)
    have m1 := Int.emod_lt_of_pos t (b := 6) (by decide)
    have sr := (si_resize (z := (1 + t % 6).toNat) si (by omega) (by omega)).2
    show (∀ d, (resizeF S (1 + t % 6).toNat).1 = .val d → _) ∧ (∀ gs, (resizeF S (1 + t % 6).toNat).1 = .goes gs → _)
    unfold resizeF
    by_cases c : (1 + t % 6).toNat < S.1.ps.length
    · rw [if_pos c]
      exact ⟨fun d e => (by cases e), fun gs e => (by cases e)⟩
    · rw [if_neg c]
      refine ⟨fun d e => (by cases e), fun gs e => ?_⟩
      have g := goes_len (sr c)
      have := ci_l si
      cases e
      omega
  | mark => exact ⟨fun d e => by cases e; exact pl_none, fun gs e => (by cases e)⟩
  | go =>
    show (∀ d, (goF S (CB.N.nameAt t)).1 = .val d → _) ∧ (∀ gs, (goF S (CB.N.nameAt t)).1 = .goes gs → _)
    unfold goF
    cases valP S.2 (.inr (CB.N.nameAt t)) with
    | none => exact ⟨fun d e => (by cases e), fun gs e => (by cases e)⟩
    | some k => exact ⟨fun d e => by cases e; exact pl_none, fun gs e => (by cases e)⟩
theorem okD_ret {S : ST} (si : SI S) (w : Wo) {t : Int} (t0 : 0 ≤ t) (t9 : t ≤ 9) (n : Nat) : okD (n + 2) (callF S w t).1.d = true := by
  obtain ⟨h1, h2⟩ := ret_ok si w t0 t9
  cases e : (callF S w t).1 with
  | no => exact okD_list (Nat.zero_le _) fun d hd => (by cases hd)
  | val d => exact okD_list (Nat.le_of_ble_eq_true rfl) fun d' hd => by rw [List.mem_singleton.mp hd]; exact (h1 d e).2 n
  | goes gs => exact okD_list (Nat.le_of_ble_eq_true rfl) fun d' hd => by rw [List.mem_singleton.mp hd]; exact okD_ints gs (by have := h2 gs e; omega) n
theorem si_ks {S : ST} (si : SI S) : ∃ ks : List Str, S.2.map (·.1) = ks.map Sum.inr ∧ ks.length ≤ 3 := by
  have hl : S.2.length ≤ 3 := by
    have := nd_len' si.n (b := [(.inr "a" : Key), .inr "b", .inr "c"]) fun k hk => by
      obtain ⟨q, hq, rfl⟩ := List.mem_map.mp hk
      exact si.k q hq
    rw [List.length_map] at this
    exact this
  have key : ∀ l : List (Key × CV), (∀ q ∈ l, q.1 ∈ [(.inr "a" : Key), .inr "b", .inr "c"]) → ∃ ks : List Str, l.map (·.1) = ks.map Sum.inr ∧ ks.length = l.length := by
    intro l
    induction l with
    | nil => exact fun _ => ⟨[], rfl, rfl⟩
    | cons q l ih =>
      intro h
      obtain ⟨ks, e, el⟩ := ih fun x hx => h x (List.mem_cons_of_mem _ hx)
      have hq := h q List.mem_cons_self
      obtain ⟨s, hs⟩ : ∃ s : Str, q.1 = .inr s := by
        simp only [List.mem_cons, List.not_mem_nil, or_false] at hq
        rcases hq with e | e | e <;> exact ⟨_, e⟩
      exact ⟨s :: ks, by rw [List.map_cons, List.map_cons, e, hs], by rw [List.length_cons, List.length_cons, el]⟩
  obtain ⟨ks, e, el⟩ := key S.2 si.k
  exact ⟨ks, e, by omega⟩
theorem okD_stands {S : ST} (si : SI S) (ys : List Str) (hy : ys.length ≤ 3) (n : Nat) : okD (n + 2) (standsD S ys) = true := by
  have hl := ci_l si
  have hp := ci_ps si
  refine okD_list (Nat.le_of_ble_eq_true rfl) fun d hd => ?_
  simp only [List.mem_cons, List.not_mem_nil, or_false] at hd
  rcases hd with rfl | rfl | rfl | rfl | rfl
  · exact okD_intsT _ (by rw [(isort_perm _).length_eq, List.length_map]; omega) n
  · exact okD_intsT _ (by rw [List.length_map]; omega) n
  · exact okD_ints _ (by omega) n
  · cases n <;> rfl
  · exact okD_strs _ (by omega) n
/-! ### one of the two caches, with its book, among the cells -/
structure At4 (a P B BB Dc st : Addr) (bb dc : List VX) (F : OC → OC → OC → OC → List (Addr × OC)) : Prop where
  a : ∀ o p b d, Cut a o (F o p b d) fun o' => F o' p b d
  p : ∀ o p b d, Cut P p (F o p b d) fun p' => F o p' b d
  b : ∀ o p b d, Cut B b (F o p b d) fun b' => F o p b' d
  d : ∀ o p b d, Cut st d (F o p b d) fun d' => F o p b d'
  bb : ∀ o p b d, ∃ f, Cut BB (.lst bb) (F o p b d) f
  dc : ∀ o p b d, ∃ f, Cut Dc (.lst dc) (F o p b d) f
def t_tail (G : Glob) (Cc : Addr) : TS := (tSeq (tDrop (tBM G.K "list" rAppend (tMeth Cc "pins" (sp_C_pins G Cc) [] E0 (tOp (rIxL G.K) (tVar 5) (tVar 3)) tNil) (tCons (tC (.int 77)) tNil)))
    (tDrop (tBM G.K "list" rAppend (tMeth Cc "marks" (sp_C_marks G Cc) [] E0 (tOp (rIxL G.K) (tVar 5) (tVar 3)) tNil) (tCons (tC (.str "none")) tNil))))
section
variable {G : Glob} {ea : Str → Addr} {Cc : Addr} {X : XC} {a P B BB Dc st : Addr} {bb dc : List VX} {F : OC → OC → OC → OC → List (Addr × OC)} {S : ST} {k : Int} {g : Hp → Prop} {Pp : Pst}
theorem tail_ok {τ : Ts} {b d : OC} (A : At4 a P B BB Dc st bb dc F) (si : SI S) (e3 : τ[3]? = some (some (.d (.int k)))) (e5 : τ[5]? = some (some (.r (.ref Dc)))) (hk : atI dc k = some (.r (.ref a)))
    (hP : Pp.nx τ ⟨F (.ins Cc (insF S.1 P)) (.dK (ptsX S.2)) b d, g⟩) : WS G.K X (t_tail G Cc) τ ⟨F (.ins Cc (insF S.1 P)) (.dK (ptsX S.2)) b d, g⟩ Pp := by
  unfold t_tail
  obtain ⟨f5, c5⟩ := A.dc (.ins Cc (insF S.1 P)) (.dK (ptsX S.2)) b d
  have hp := ci_ps si
  refine ws_seq (ws_drop (we_drop (we_append ?_)))
  refine we_meth (we_op (we_var e5 (we_var e3 (w2_ixO c5 hk ⟨a, _, _, rfl, A.a _ _ _ _, rfl, wa_nil ?_⟩))))
  refine wb_spec0 ⟨a, P, S.1, _, rfl, A.a _ _ _ _, fun L => ⟨L, _, _, rfl, .hd, wa_cons (we_int (wa_nil ⟨_, _, _, rfl, .hd, ?_, ⟨_, _, rfl, ?_⟩⟩))⟩⟩
  · rw [List.length_map, List.length_map]; omega
  refine ws_drop (we_drop (we_append ?_))
  refine we_meth (we_op (we_var e5 (we_var e3 (w2_ixO c5 hk ⟨a, _, _, rfl, A.a _ _ _ _, rfl, wa_nil ?_⟩))))
  obtain ⟨ks, hk2, kl⟩ := si_ks si
  refine wb_spec0 ⟨a, P, S.1, _, _, S.2, ks, rfl, A.a _ _ _ _, A.p _ _ _ _, hk2, by omega, fun ys py sy L => ⟨L, _, _, rfl, .hd, wa_cons (we_str (wa_nil ⟨_, _, _, rfl, .hd, ?_, ⟨_, _, rfl, hP⟩⟩))⟩⟩
  rw [List.length_map, List.length_map, py.length_eq]; omega
def words : List Wo := [.ask, .ask, .ask, .ask, .ask, .ask, .ask, .pin, .pin, .unpin, .drop, .resize, .mark, .go]
def wordsD : PyData := .list (words.map fun w => PyData.str w.s)
theorem words_at {x : Int} (x0 : 0 ≤ x) (x1 : x < 14) : ∃ w : Wo, atI (words.map fun w => PyData.str w.s) x = some (.str w.s) := by
  obtain ⟨n, rfl⟩ : ∃ n : Nat, x = (n : Int) := ⟨x.toNat, (Int.toNat_of_nonneg x0).symm⟩
  have hn : n < words.length := by show n < 14; omega
  refine ⟨words[n], ?_⟩
  exact atI_nat (by rw [List.getElem?_map, List.getElem?_eq_getElem hn]; rfl)
def t_turn (G : Glob) (ea : Str → Addr) (Cc : Addr) : TS := (tSeq (tAsg (tTup (tCons (tOp (rIxL G.K) (tVar 7) (tCall (CB.sp__law_drawn G) [] E0 (tCons (tVar 1) (tCons (tC (.int 14)) tNil)))) (tCons (tCall (CB.sp__law_drawn G) [] E0 (tCons (tVar 1) (tCons (tC (.int 10)) tNil))) tNil))) (gName 9))
    (tSeq (tAsg (tCall (sp__law_called G ea Cc) [] E0 (tCons (tOp (rIxL G.K) (tVar 5) (tVar 3)) (tCons (tVar 9) tNil))) (gName 10))
    (tSeq (tDrop (tBM G.K "list" rAppend (tOp (rIxL G.K) (tVar 6) (tVar 3)) (tCons (tTup (tCons (tVar 9) (tCons (tLc (iList G.K (tVar 10)) (gName 11) tYes (tIf (tB (tCB (rIsi G.K) (tCons (tVar 11) (tCons (tC (.ty "list")) tNil)))) (tCB (bList G.K) (tCons (tVar 11) tNil)) (tVar 11)) [11]) tNil))) tNil)))
    (tSeq (tFor (iList G.K (tVar 10)) (gName 11) (tIfS (tB (tCB (rIsi G.K) (tCons (tVar 11) (tCons (tC (.ty "list")) tNil)))) (tDrop (tBM G.K "list" rAppend (tVar 11) (tCons (tC (.int 0)) tNil))) tNext))
    (t_tail G Cc)))))
theorem turn_ok {u0 u2 u4 u8 u9 u10 u11 u12 u13 : Option VX} {bk : List PyData} {ns : List Int} {i m r : Int} (A : At4 a P B BB Dc st bb dc F) (si : SI S) (hk : atI dc k = some (.r (.ref a))) (hb : atI bb k = some (.r (.ref B))) (hl : bk.length ≤ 1000) (b : DrI i m r)
    (KX : ∀ c ∈ kinds, PySem.W.exmOne G.K (.ref (ea c)) (.ref (ea "CacheError")) = some true)
    (hP : ∀ (w : Wo) (t i m r : Int) (u9 u10 u11 : Option VX), 0 ≤ t → t ≤ 9 → DrI i m r → Pp.nx [u0, some (.r (.ref st)), u2, some (.d (.int k)), u4, some (.r (.ref Dc)), some (.r (.ref BB)), some (.d wordsD), u8, u9, u10, u11, u12, u13]
      ⟨F (.ins Cc (insF (callF S w t).2.1 P)) (.dK (ptsX (callF S w t).2.2)) (.lst ((bk ++ [PyData.tuple [callD (w, t), (callF S w t).1.d]]).map VX.d)) (drO ns i m r), g⟩) :
    WS G.K X (t_turn G ea Cc) [u0, some (.r (.ref st)), u2, some (.d (.int k)), u4, some (.r (.ref Dc)), some (.r (.ref BB)), some (.d wordsD), u8, u9, u10, u11, u12, u13] ⟨F (.ins Cc (insF S.1 P)) (.dK (ptsX S.2)) (.lst (bk.map VX.d)) (drO ns i m r), g⟩ Pp := by
  unfold t_turn
  walk_at "ec"
  refine wb_drawn (A.d _ _ _ _) b (by decide) (by decide) fun x i m r x0 x1 b => ?_
  obtain ⟨w, hw⟩ := words_at x0 x1
  refine w2_ixL hw ?_
  walk_at "ec"
  refine wb_drawn (A.d _ _ _ _) b (by decide) (by decide) fun t i0 m r t0 t1 b => ?_
  have t9 : t ≤ 9 := by omega
  walk_at "ec"
  obtain ⟨f5, c5⟩ := A.dc (.ins Cc (insF S.1 P)) (.dK (ptsX S.2)) (.lst (bk.map VX.d)) (drO ns i0 m r)
  refine w2_ixO c5 hk ?_
  walk_at "ec"
  have si2 := si_call si w t0 t9
  obtain ⟨f6, c6⟩ := A.bb (.ins Cc (insF (callF S w t).2.1 P)) (.dK (ptsX (callF S w t).2.2)) (.lst (bk.map VX.d)) (drO ns i0 m r)
  obtain ⟨rv, rg⟩ := ret_ok si w t0 t9
  have hl2 : (bk.map VX.d).length < 100000 := by rw [List.length_map]; omega
  refine wb_spec0 ⟨a, P, fun o p => F o p (.lst (bk.map VX.d)) (drO ns i0 m r), S, w, t, g, rfl, rfl, ⟨fun o p => A.a _ _ _ _, fun o p => A.p _ _ _ _⟩, si, t0, t9, KX, ?_⟩
  have hP' := fun u9 u10 u11 => hP w t i0 m r u9 u10 u11 t0 t9 b
  rw [List.map_append] at hP'
  cases e : (callF S w t).1 with
  | no =>
    intro T
    rw [e] at hP'
    dsimp only
    refine ws_seq (ws_drop (we_append ?_))
    walk_at "ec"
    refine w2_ixO (.tl c6) hb ?_
    refine ⟨B, _, _, rfl, .tl (A.b _ _ _ _), ?_⟩
    walk_at "ec"
    refine we_lcM (wi_listO (we_var rfl ⟨T, [], rfl, List.mem_cons_self, ?_⟩))
    refine ⟨Nat.zero_le _, List.mem_cons_self, fun _ => none, [], fun i hi => absurd hi (Nat.not_lt_zero _), rfl, ?_⟩
    walk_at "ec"
    refine ⟨_, _, _, rfl, .tl (A.b _ _ _ _), hl2, ?_⟩
    refine ws_seq (ws_for (wi_listO (we_var rfl ⟨T, [], rfl, List.mem_cons_self, ?_⟩)))
    refine ⟨fun _ τ' W' => τ' = _ ∧ W' = _, ⟨rfl, rfl⟩, fun i τ' W' _ h => by rw [h.2]; exact List.mem_cons_self, fun i τ' W' hi => absurd hi (Nat.not_lt_zero _), fun τ' W' h => ?_⟩
    obtain ⟨rfl, rfl⟩ := h
    exact ws_drop1 (tail_ok A si2 rfl rfl hk (hP' _ _ _))
  | val d =>
    intro T
    rw [e] at hP'
    have nl := (rv d e).1
    dsimp only
    refine ws_seq (ws_drop (we_append ?_))
    walk_at "ec"
    refine w2_ixO (.tl c6) hb ?_
    refine ⟨B, _, _, rfl, .tl (A.b _ _ _ _), ?_⟩
    walk_at "ec"
    refine we_lcM (wi_listO (we_var rfl ⟨T, [.d d], rfl, List.mem_cons_self, ?_⟩))
    refine ⟨Nat.le_of_ble_eq_true rfl, List.mem_cons_self, fun _ => some d, [d], fun i hi => ?_, rfl, ?_⟩
    · have hi : i < 1 := hi
      obtain rfl : i = 0 := by omega
      refine ⟨[(11, .d d)], cg_name, fun p hp => by rw [List.mem_singleton.mp hp]; exact List.mem_singleton.mpr rfl, wt_yes ⟨rfl, fun _ => ?_, fun z => (by cases z)⟩⟩
      walk_at "ec"
      refine wb_isi (by decide) ?_
      rw [nl]
      walk_at "ec"
      exact ⟨rfl, d, rfl, rfl⟩
    walk_at "ec"
    refine ⟨_, _, _, rfl, .tl (A.b _ _ _ _), hl2, ?_⟩
    refine ws_seq (ws_for (wi_listO (we_var rfl ⟨T, [.d d], rfl, List.mem_cons_self, ?_⟩)))
    refine ⟨fun _ τ' W' => (∃ u11, τ' = [u0, some (.r (.ref st)), u2, some (.d (.int k)), u4, some (.r (.ref Dc)), some (.r (.ref BB)), some (.d wordsD), u8, some (.d (.tuple [.str w.s, .int t])), some (.r (.ref T)), u11, u12, u13]) ∧ W' = _, ⟨⟨_, rfl⟩, rfl⟩, fun i τ' W' _ h => by rw [h.2]; exact List.mem_cons_self, fun i τ' W' hi h => ?_, fun τ' W' h => ?_⟩
    · obtain ⟨⟨u11, rfl⟩, rfl⟩ := h
      have hi : i < 1 := hi
      obtain rfl : i = 0 := by omega
      show WG _ _ _ (.d d) _ _ _
      walk_at "ec"
      refine wb_isi (by decide) ?_
      rw [nl]
      walk_at "ec"
      exact ⟨⟨_, rfl⟩, rfl⟩
    obtain ⟨⟨u11, rfl⟩, rfl⟩ := h
    exact ws_drop1 (tail_ok A si2 rfl rfl hk (hP' _ _ _))
  | goes gs =>
    intro T L
    rw [e] at hP'
    dsimp only
    refine ws_seq (ws_drop (we_append ?_))
    walk_at "ec"
    refine w2_ixO (.tl (.tl c6)) hb ?_
    refine ⟨B, _, _, rfl, .tl (.tl (A.b _ _ _ _)), ?_⟩
    walk_at "ec"
    refine we_lcM (wi_listO (we_var rfl ⟨T, [.r (.ref L)], rfl, List.mem_cons_self, ?_⟩))
    refine ⟨Nat.le_of_ble_eq_true rfl, List.mem_cons_self, fun _ => some (.list (gs.map .int)), [.list (gs.map .int)], fun i hi => ?_, rfl, ?_⟩
    · have hi : i < 1 := hi
      obtain rfl : i = 0 := by omega
      refine ⟨[(11, .r (.ref L))], cg_name, fun p hp => by rw [List.mem_singleton.mp hp]; exact List.mem_singleton.mpr rfl, wt_yes ⟨rfl, fun _ => ?_, fun z => (by cases z)⟩⟩
      walk_at "ec"
      refine wb_isiO (.tl .hd) ?_
      walk_at "ec"
      refine wb_listOd (.tl .hd) ?_
      exact ⟨rfl, _, rfl, rfl⟩
    walk_at "ec"
    refine ⟨_, _, _, rfl, .tl (.tl (A.b _ _ _ _)), hl2, ?_⟩
    refine ws_seq (ws_for (wi_listO (we_var rfl ⟨T, [.r (.ref L)], rfl, List.mem_cons_self, ?_⟩)))
    have g6 := rg gs e
    refine ⟨fun i τ' W' => (∃ u11, τ' = [u0, some (.r (.ref st)), u2, some (.d (.int k)), u4, some (.r (.ref Dc)), some (.r (.ref BB)), some (.d wordsD), u8, some (.d (.tuple [.str w.s, .int t])), some (.r (.ref T)), u11, u12, u13]) ∧ ∃ ys : List VX, ys.length ≤ 100 + i ∧ W' = ⟨(T, .lst [.r (.ref L)]) :: (L, .lst ys) :: F (.ins Cc (insF (callF S w t).2.1 P)) (.dK (ptsX (callF S w t).2.2)) (.lst (bk.map VX.d ++ [.d (.tuple [.tuple [.str w.s, .int t], .list [.list (gs.map .int)]])])) (drO ns i0 m r), g⟩, ⟨⟨_, rfl⟩, _, ?_, rfl⟩, fun i τ' W' _ h => by obtain ⟨_, ys, _, e⟩ := h; rw [e]; exact List.mem_cons_self, fun i τ' W' hi h => ?_, fun τ' W' h => ?_⟩
    · rw [List.length_map, List.length_map]; omega
    · obtain ⟨⟨u11, rfl⟩, ys, hy, rfl⟩ := h
      have hi : i < 1 := hi
      obtain rfl : i = 0 := by omega
      show WG _ _ _ (.r (.ref L)) _ _ _
      walk_at "ec"
      refine wb_isiO (.tl .hd) ?_
      walk_at "ec"
      refine we_append (we_var rfl ⟨L, _, _, rfl, .tl .hd, wa_cons (we_int (wa_nil ⟨_, _, _, rfl, .tl .hd, by omega, ⟨_, rfl⟩, _, ?_, rfl⟩))⟩)
      rw [List.length_append]
      show ys.length + 1 ≤ _
      omega
    obtain ⟨⟨u11, rfl⟩, ys, _, rfl⟩ := h
    exact ws_drop1 (ws_drop1 (tail_ok A si2 rfl rfl hk (hP' _ _ _)))
end
end CB.Q

namespace CB.Q
open PySem PySem.Spec PyProof.Rows L2 DW CB2 CB.N
local macro_rules | `(tactic| walk_at "e1") => `(tactic| (with_reducible first
  | refine ws_seq ?_ | refine ws_asg ?_ | refine ws_asgG ?_ | refine ws_ret ?_ | refine ws_retN ?_ | refine ws_drop ?_ | refine ws_ifs ?_ | refine ws_par ?_
  | refine we_int ?_ | refine we_bl ?_ | refine we_str ?_ | refine we_non ?_ | refine we_ty ?_ | refine we_op ?_ | refine wa_nil ?_ | refine wa_cons ?_ | refine we_tup ?_ | refine we_notV ?_ | refine we_andV ?_ | refine we_orV ?_ | refine we_ifE ?_ | refine we_neg ?_
  | refine wt_test ?_ | refine wt_B ?_ | refine wt_tru ?_ | refine wt_and ?_ | refine wt_or ?_ | refine wt_not ?_ | refine wt_yes ?_ | refine we_sl ?_ | refine wo_none ?_ | refine wo_some ?_ | refine we_call ?_ | refine we_CB ?_
  | refine wg_name ?_ | refine wgs_nil ?_ | refine wgs_cons ?_ | refine wg_tup2 ?_ | refine wg_tup3 ?_ | refine ws_for ?_ | refine wi_tup ?_ | refine wi_rng1 ?_ | refine wi_rng2 ?_ | refine wi_enumT ?_
  | refine w2_add ?_ | refine w2_sub ?_ | refine w2_lt ?_ | refine w2_le ?_ | refine w2_gt ?_ | refine w2_ge ?_ | refine w2_eqI ?_ | refine w2_neI ?_ | refine w2_eqS ?_ | refine w2_isN ?_ | refine w2_notN ?_ | refine w2_inT ?_ | refine w2_notInT ?_ | refine w2_inL ?_ | refine w2_notInL ?_
  | refine exB ?_ | refine exI ?_ | refine exT ?_ | refine exL ?_ | refine exI1 ?_ | refine exT1 ?_ | refine exV ?_ | refine exA0 ?_ | refine exA1 ?_ | refine exA2 ?_ | refine exA3 ?_ | refine exA4 ?_ | refine exA5 ?_ | refine exA6 ?_ | refine exA7 ?_ | refine bT ?_ | refine bF ?_ | refine bT' ?_ | refine bF' ?_
  | refine w3_slA ?_ | refine wb_lenT ?_ | refine wb_lenL ?_ | refine wb_listT ?_ | refine wb_tupL ?_ | refine ws_next ?_
  | refine we_var (by with_unfolding_all rfl) ?_))
local macro_rules | `(tactic| walk_at "ev") => `(tactic| (repeat (walk_at "e1")))

local macro_rules | `(tactic| walk_at "ec") => `(tactic| (repeat (walk_at "e1")))
/-- a new cache -/
def cv0 (r : Rule) (s : Nat) : CV := ⟨r, s, [], 0, [], 0, 0⟩
theorem wb_init (G : Glob) {ea : Str → Addr} {Cc : Addr} (HC : ClsC G.K Cc) (C : Con G) {X : XC} {r : Rule} {s : Nat} {a : Addr} {c : List (Addr × OC)} {g : Hp → Prop} {Φ : VX → Wd → Prop} (s1 : 1 ≤ s) (s6 : s ≤ 6)
    (q : ∀ P, Φ (.d .none) ⟨(P, .dK (ptsX [])) :: (a, .ins Cc (insF (cv0 r s) P)) :: c, g⟩) : WB G.K X (SPC (sp_C___init__ G ea Cc) [] E0) [.r (.ref a), .d (.str r.s), .d (.int (s : Int))] ⟨(a, .ins Cc []) :: c, g⟩ Φ := by
  refine wb_specX0 ⟨a, _, _, _, rfl, .hd, C, fun z => absurd rfl (z r), fun _ z => ?_, fun r' s' e1 e2 _ _ P => ?_⟩
  · rw [numD_t (by omega) (by omega)] at z; cases z
  obtain rfl := rs_inj (PyData.str.inj e1)
  have es : s' = s := by have := PyData.int.inj e2; omega
  subst es
  exact q P
theorem si0 {r : Rule} {s : Nat} (s1 : 1 ≤ s) (s6 : s ≤ 6) : SI (cv0 r s, []) :=
  ⟨⟨s1, s6, Nat.zero_le _, .nil, .inl rfl, .nil, fun p hp => (by cases hp), fun y hy => (by cases hy)⟩, fun q hq => (by cases hq), fun q hq => (by cases hq), .nil⟩
def t_replay (G : Glob) (ea : Str → Addr) (Cc : Addr) : TS := (tSeq (tAsg (tMake Cc (sp_C___init__ G ea Cc) [] E0 (tCons (tOp (rIxL G.K) (tVar 2) (tVar 3)) (tCons (tOp (rIxL G.K) (tVar 4) (tVar 3)) tNil))) (gName 12))
    (tSeq (tFor (iList G.K (tOp (rIxL G.K) (tVar 6) (tVar 3))) (gTup G.K 2 (gCons (gName 9) (gCons (gName 13) gNil))) (tIfS (tNot (tB (tCall (CB.sp__law_same G 5) [] E0 (tCons (tCall (sp__law_called G ea Cc) [] E0 (tCons (tVar 12) (tCons (tVar 9) tNil))) (tCons (tVar 13) tNil))))) (tRet (tC (.bl false))) tNext))
    (tIfS (tNot (tB (tCall (CB.sp__law_same G 5) [] E0 (tCons (tCall (sp__law_stands G ea Cc) [] E0 (tCons (tVar 12) tNil)) (tCons (tCall (sp__law_stands G ea Cc) [] E0 (tCons (tOp (rIxL G.K) (tVar 5) (tVar 3)) tNil)) tNil))))) (tRet (tC (.bl false))) tNext)))
section
variable {G : Glob} {ea : Str → Addr} {Cc : Addr} {X : XC} {a P B BB Dc st R : Addr} {bb dc rs : List VX} {F : OC → OC → OC → OC → List (Addr × OC)} {k : Int} {g : Hp → Prop} {Pp : Pst}
theorem wb_stands {S : ST} {F2 : OC → OC → List (Addr × OC)} {Φ : VX → Wd → Prop} (A : At2 a P F2) (si : SI S) (q : ∀ ks ys : List Str, S.2.map (·.1) = ks.map Sum.inr → ys.Perm ks → sortedS ys = true → ys.length ≤ 3 → Φ (.d (standsD S ys)) ⟨F2 (.ins Cc (insF S.1 P)) (.dK (ptsX S.2)), g⟩) :
    WB G.K X (SPC (sp__law_stands G ea Cc) [] E0) [.r (.ref a)] ⟨F2 (.ins Cc (insF S.1 P)) (.dK (ptsX S.2)), g⟩ Φ := by
  obtain ⟨ks, hk, kl⟩ := si_ks si
  exact wb_spec0 ⟨a, P, F2, S, ks, g, rfl, rfl, A, si, hk, fun ys py sy => q ks ys hk py sy (by rw [py.length_eq]; exact kl)⟩
theorem inr_inj {a b : List Str} (h : a.map (Sum.inr : Str → Key) = b.map Sum.inr) : a = b := by
  induction a generalizing b with
  | nil => cases b with
    | nil => rfl
    | cons y b => cases h
  | cons x a ih => cases b with
    | nil => cases h
    | cons y b =>
      rw [List.map_cons, List.map_cons] at h
      injection h with h1 h2
      rw [Sum.inr.inj h1, ih h2]
theorem replay_ok {u0 u1 u7 u8 u9 u10 u11 u12 u13 : Option VX} {zs : List Int} {d : OC} {r : Rule} {s : Nat} {cs : List (Wo × Int)} (HC : ClsC G.K Cc) (C : Con G) (A : At4 a P B BB Dc st bb dc F) (AR : ∀ o p b d, ∃ f, Cut R (.lst rs) (F o p b d) f)
    (hr : atI rs k = some (.d (.str r.s))) (hz : atI (zs.map PyData.int) k = some (.int (s : Int))) (s1 : 1 ≤ s) (s6 : s ≤ 6) (hk : atI dc k = some (.r (.ref a))) (hb : atI bb k = some (.r (.ref B))) (hc : ∀ c ∈ cs, CallOk c)
    (KX : ∀ c ∈ kinds, PySem.W.exmOne G.K (.ref (ea c)) (.ref (ea "CacheError")) = some true)
    (hP : ∀ (u9 u12 u13 : Option VX), Pp.nx [u0, u1, some (.r (.ref R)), some (.d (.int k)), some (.d (.list (zs.map PyData.int))), some (.r (.ref Dc)), some (.r (.ref BB)), u7, u8, u9, u10, u11, u12, u13]
      ⟨F (.ins Cc (insF (runF (cv0 r s, []) cs).1 P)) (.dK (ptsX (runF (cv0 r s, []) cs).2)) (.lst ((bookF (cv0 r s, []) cs).map VX.d)) d, g⟩) :
    WS G.K X (t_replay G ea Cc) [u0, u1, some (.r (.ref R)), some (.d (.int k)), some (.d (.list (zs.map PyData.int))), some (.r (.ref Dc)), some (.r (.ref BB)), u7, u8, u9, u10, u11, u12, u13]
      ⟨F (.ins Cc (insF (runF (cv0 r s, []) cs).1 P)) (.dK (ptsX (runF (cv0 r s, []) cs).2)) (.lst ((bookF (cv0 r s, []) cs).map VX.d)) d, g⟩ Pp := by
  have siT := fun n : Nat => si_run (cs.take n) (si0 (r := r) s1 s6) fun c h => hc c (List.mem_of_mem_take h)
  have siE := si_run cs (si0 (r := r) s1 s6) hc
  unfold t_replay
  obtain ⟨f2, c2⟩ := AR (.ins Cc (insF (runF (cv0 r s, []) cs).1 P)) (.dK (ptsX (runF (cv0 r s, []) cs).2)) (.lst ((bookF (cv0 r s, []) cs).map VX.d)) d
  obtain ⟨f5, c5⟩ := A.dc (.ins Cc (insF (runF (cv0 r s, []) cs).1 P)) (.dK (ptsX (runF (cv0 r s, []) cs).2)) (.lst ((bookF (cv0 r s, []) cs).map VX.d)) d
  obtain ⟨f6, c6⟩ := A.bb (.ins Cc (insF (runF (cv0 r s, []) cs).1 P)) (.dK (ptsX (runF (cv0 r s, []) cs).2)) (.lst ((bookF (cv0 r s, []) cs).map VX.d)) d
  have mB := (A.b (.ins Cc (insF (runF (cv0 r s, []) cs).1 P)) (.dK (ptsX (runF (cv0 r s, []) cs).2)) (.lst ((bookF (cv0 r s, []) cs).map VX.d)) d).mem
  refine ws_seq (ws_asg (we_make ?_))
  walk_at "ec"
  refine w2_ixO c2 hr ?_
  walk_at "ec"
  refine w2_ixL hz ?_
  walk_at "ec"
  intro a'
  refine wb_init G HC C s1 s6 fun P' => ⟨rfl, ?_⟩
  refine ws_seq (ws_for (wi_listO (we_op (we_var rfl (we_var rfl (w2_ixO (.tl (.tl c6)) hb ⟨B, _, rfl, List.mem_cons_of_mem _ (List.mem_cons_of_mem _ mB), ?_⟩))))))
  have el : ((bookF (cv0 r s, []) cs).map VX.d).length = cs.length := by rw [List.length_map, bookF_len]
  rw [el]
  refine ⟨fun j τ' W' => j ≤ cs.length ∧ (∃ u9 u13, τ' = [u0, u1, some (.r (.ref R)), some (.d (.int k)), some (.d (.list (zs.map PyData.int))), some (.r (.ref Dc)), some (.r (.ref BB)), u7, u8, u9, u10, u11, some (.r (.ref a')), u13]) ∧
    W' = ⟨(P', .dK (ptsX (runF (cv0 r s, []) (cs.take j)).2)) :: (a', .ins Cc (insF (runF (cv0 r s, []) (cs.take j)).1 P')) :: F (.ins Cc (insF (runF (cv0 r s, []) cs).1 P)) (.dK (ptsX (runF (cv0 r s, []) cs).2)) (.lst ((bookF (cv0 r s, []) cs).map VX.d)) d, g⟩, ⟨Nat.zero_le _, ⟨_, _, rfl⟩, rfl⟩, fun i τ' W' _ h => by rw [h.2.2]; exact List.mem_cons_of_mem _ (List.mem_cons_of_mem _ mB), ?_, ?_⟩
  · rintro j τ' W' hj ⟨_, ⟨u9, u13, rfl⟩, rfl⟩
    have hcj : cs[j]? = some cs[j] := List.getElem?_eq_getElem hj
    have it : ((bookF (cv0 r s, []) cs).map VX.d).getD j (.d .none) = .d (.tuple [callD cs[j], (callF (runF (cv0 r s, []) (cs.take j)) cs[j].1 cs[j].2).1.d]) := by
      rw [List.getD_eq_getElem?_getD, List.getElem?_map, bookF_at _ _ _ _ hcj]
      rfl
    have ok := hc cs[j] (List.getElem_mem hj)
    show WG _ _ _ (((bookF (cv0 r s, []) cs).map VX.d).getD j (.d .none)) _ _ _
    rw [it]
    walk_at "ec"
    refine wb_called G ea (F := fun o p => (P', p) :: (a', o) :: F (.ins Cc (insF (runF (cv0 r s, []) cs).1 P)) (.dK (ptsX (runF (cv0 r s, []) cs).2)) (.lst ((bookF (cv0 r s, []) cs).map VX.d)) d) ⟨fun o p => .tl .hd, fun o p => .hd⟩ (siT j) ok.1 ok.2 KX ?_
    walk_at "ec"
    refine wb_same (n := 4) (okD_ret (siT j) _ ok.1 ok.2 2) ?_
    walk_at "ec"
    refine ⟨fun z => (by cases z), fun _ => ws_next ⟨hj, ⟨_, _, rfl⟩, ?_⟩⟩
    rw [List.take_add_one, hcj, Option.toList_some, runF_snoc]
  · rintro τ' W' ⟨_, ⟨u9, u13, rfl⟩, rfl⟩
    rw [List.take_length]
    walk_at "ec"
    refine wb_stands (F2 := fun o p => (P', p) :: (a', o) :: F (.ins Cc (insF (runF (cv0 r s, []) cs).1 P)) (.dK (ptsX (runF (cv0 r s, []) cs).2)) (.lst ((bookF (cv0 r s, []) cs).map VX.d)) d) ⟨fun o p => .tl .hd, fun o p => .hd⟩ siE fun ks ys hks py sy yl => ?_
    walk_at "ec"
    refine w2_ixO (.tl (.tl c5)) hk ?_
    walk_at "ec"
    refine wb_stands (F2 := fun o p => (P', .dK (ptsX (runF (cv0 r s, []) cs).2)) :: (a', .ins Cc (insF (runF (cv0 r s, []) cs).1 P')) :: F o p (.lst ((bookF (cv0 r s, []) cs).map VX.d)) d) ⟨fun o p => .tl (.tl (A.a _ _ _ _)), fun o p => .tl (.tl (A.p _ _ _ _))⟩ siE fun ks2 ys2 hks2 py2 sy2 yl2 => ?_
    obtain rfl := inr_inj (hks.symm.trans hks2)
    obtain rfl := sorted_one (py.trans py2.symm) (sorted_pw sy) (sorted_pw sy2)
    walk_at "ec"
    refine wb_same (n := 4) (okD_stands siE ys yl 2) ?_
    walk_at "ec"
    exact ⟨fun z => (by cases z), fun _ => ws_drop1 (ws_drop1 (ws_next (hP _ _ _)))⟩
end
end CB.Q

namespace CB.Q
open PySem PySem.Spec PyProof.Rows L2 DW CB2 CB.N
local macro_rules | `(tactic| walk_at "e1") => `(tactic| (with_reducible first
  | refine ws_seq ?_ | refine ws_asg ?_ | refine ws_asgG ?_ | refine ws_ret ?_ | refine ws_retN ?_ | refine ws_drop ?_ | refine ws_ifs ?_ | refine ws_par ?_
  | refine we_int ?_ | refine we_bl ?_ | refine we_str ?_ | refine we_non ?_ | refine we_ty ?_ | refine we_op ?_ | refine wa_nil ?_ | refine wa_cons ?_ | refine we_tup ?_ | refine we_notV ?_ | refine we_andV ?_ | refine we_orV ?_ | refine we_ifE ?_ | refine we_neg ?_
  | refine wt_test ?_ | refine wt_B ?_ | refine wt_tru ?_ | refine wt_and ?_ | refine wt_or ?_ | refine wt_not ?_ | refine wt_yes ?_ | refine we_sl ?_ | refine wo_none ?_ | refine wo_some ?_ | refine we_call ?_ | refine we_CB ?_
  | refine wg_name ?_ | refine wgs_nil ?_ | refine wgs_cons ?_ | refine wg_tup2 ?_ | refine wg_tup3 ?_ | refine ws_for ?_ | refine wi_tup ?_ | refine wi_rng1 ?_ | refine wi_rng2 ?_ | refine wi_enumT ?_
  | refine w2_add ?_ | refine w2_sub ?_ | refine w2_lt ?_ | refine w2_le ?_ | refine w2_gt ?_ | refine w2_ge ?_ | refine w2_eqI ?_ | refine w2_neI ?_ | refine w2_eqS ?_ | refine w2_isN ?_ | refine w2_notN ?_ | refine w2_inT ?_ | refine w2_notInT ?_ | refine w2_inL ?_ | refine w2_notInL ?_
  | refine exB ?_ | refine exI ?_ | refine exT ?_ | refine exL ?_ | refine exI1 ?_ | refine exT1 ?_ | refine exV ?_ | refine exA0 ?_ | refine exA1 ?_ | refine exA2 ?_ | refine exA3 ?_ | refine exA4 ?_ | refine exA5 ?_ | refine exA6 ?_ | refine exA7 ?_ | refine bT ?_ | refine bF ?_ | refine bT' ?_ | refine bF' ?_
  | refine w3_slA ?_ | refine wb_lenT ?_ | refine wb_lenL ?_ | refine wb_listT ?_ | refine wb_tupL ?_ | refine ws_next ?_
  | refine we_var (by with_unfolding_all rfl) ?_))
local macro_rules | `(tactic| walk_at "ev") => `(tactic| (repeat (walk_at "e1")))

-- f1
local macro_rules | `(tactic| walk_at "f1") => `(tactic| (with_reducible first
  | refine fe_rule (by assumption) (by with_unfolding_all rfl) (by first | assumption | exact Cut.up (by assumption)) ?_ | refine fe_size (by assumption) (by with_unfolding_all rfl) (by first | assumption | exact Cut.up (by assumption)) ?_
  | refine fe_state (by assumption) (by with_unfolding_all rfl) (by first | assumption | exact Cut.up (by assumption)) ?_ | refine fe_staying (by assumption) (by with_unfolding_all rfl) (by first | assumption | exact Cut.up (by assumption)) ?_
  | refine fe_asked (by assumption) (by with_unfolding_all rfl) (by first | assumption | exact Cut.up (by assumption)) ?_ | refine fe_missed (by assumption) (by with_unfolding_all rfl) (by first | assumption | exact Cut.up (by assumption)) ?_
  | refine fe_points (by assumption) (by with_unfolding_all rfl) (by first | assumption | exact Cut.up (by assumption)) ?_))
local macro_rules | `(tactic| walk_at "ec") => `(tactic| (repeat (first | walk_at "e1" | walk_at "f1")))
def A_law (G : Glob) (ea : Str → Addr) : AT := fun xs W Φ => ∃ ns : List Int, xs = [.d (.list (ns.map .int))] ∧ W = ⟨[], fun _ => True⟩ ∧ Con G ∧ (∀ c ∈ kinds, PySem.W.exmOne G.K (.ref (ea c)) (.ref (ea "CacheError")) = some true) ∧ ∀ W', Φ (.d (.bool true)) W'
def sp_law (G : Glob) (ea : Str → Addr) (_Cc : Addr) : Sp := SPEC0 G.K (A_law G ea)
def t_law (G : Glob) (ea : Str → Addr) (Cc : Addr) : TS := (tSeq (tAsg (tCall (CB.sp__law_start G) [] E0 (tCons (tVar 0) tNil)) (gName 1))
    (tSeq (tAsg (tLst (tCons (tCall (CB.sp__law_rule G) [] E0 (tCons (tVar 1) tNil)) (tCons (tCall (CB.sp__law_rule G) [] E0 (tCons (tVar 1) tNil)) tNil))) (gName 2))
    (tSeq (tAsg (tLc (iRng1 (tCons (tC (.int 2)) tNil)) (gName 3) tYes (tOp kAdd (tC (.int 1)) (tCall (CB.sp__law_drawn G) [] E0 (tCons (tVar 1) (tCons (tC (.int 6)) tNil)))) [3]) (gName 4))
    (tSeq (tAsg (tOp (rIxL G.K) (tVar 2) (tCall (CB.sp__law_drawn G) [] E0 (tCons (tVar 1) (tCons (tC (.int 2)) tNil)))) (gSub (tVar 2) (tC (.int 1)) rSetL))
    (tSeq (tPar 5 6 (tCons (tLc (iRng1 (tCons (tC (.int 2)) tNil)) (gName 3) tYes (tMake Cc (sp_C___init__ G ea Cc) [] E0 (tCons (tOp (rIxL G.K) (tVar 2) (tVar 3)) (tCons (tOp (rIxL G.K) (tVar 4) (tVar 3)) tNil))) [3]) (tCons (tLst (tCons (tLst tNil) (tCons (tLst tNil) tNil))) tNil)))
    (tSeq (tAsg (tOp rCat (tOp rRep (tLst (tCons (tC (.str "ask")) tNil)) (tC (.int 7))) (tLst (tCons (tC (.str "pin")) (tCons (tC (.str "pin")) (tCons (tC (.str "unpin")) (tCons (tC (.str "drop")) (tCons (tC (.str "resize")) (tCons (tC (.str "mark")) (tCons (tC (.str "go")) tNil))))))))) (gName 7))
    (tSeq (tFor (iRng1 (tCons (tOp kAdd (tC (.int 10)) (tCall (CB.sp__law_drawn G) [] E0 (tCons (tVar 1) (tCons (tC (.int 40)) tNil)))) tNil)) (gName 8) (tSeq (tAsg (tCall (CB.sp__law_drawn G) [] E0 (tCons (tVar 1) (tCons (tC (.int 2)) tNil))) (gName 3))
    (tSeq (tAsg (tTup (tCons (tOp (rIxL G.K) (tVar 7) (tCall (CB.sp__law_drawn G) [] E0 (tCons (tVar 1) (tCons (tC (.int 14)) tNil)))) (tCons (tCall (CB.sp__law_drawn G) [] E0 (tCons (tVar 1) (tCons (tC (.int 10)) tNil))) tNil))) (gName 9))
    (tSeq (tAsg (tCall (sp__law_called G ea Cc) [] E0 (tCons (tOp (rIxL G.K) (tVar 5) (tVar 3)) (tCons (tVar 9) tNil))) (gName 10))
    (tSeq (tDrop (tBM G.K "list" rAppend (tOp (rIxL G.K) (tVar 6) (tVar 3)) (tCons (tTup (tCons (tVar 9) (tCons (tLc (iList G.K (tVar 10)) (gName 11) tYes (tIf (tB (tCB (rIsi G.K) (tCons (tVar 11) (tCons (tC (.ty "list")) tNil)))) (tCB (bList G.K) (tCons (tVar 11) tNil)) (tVar 11)) [11]) tNil))) tNil)))
    (tSeq (tFor (iList G.K (tVar 10)) (gName 11) (tIfS (tB (tCB (rIsi G.K) (tCons (tVar 11) (tCons (tC (.ty "list")) tNil)))) (tDrop (tBM G.K "list" rAppend (tVar 11) (tCons (tC (.int 0)) tNil))) tNext))
    (tSeq (tDrop (tBM G.K "list" rAppend (tMeth Cc "pins" (sp_C_pins G Cc) [] E0 (tOp (rIxL G.K) (tVar 5) (tVar 3)) tNil) (tCons (tC (.int 77)) tNil)))
    (tDrop (tBM G.K "list" rAppend (tMeth Cc "marks" (sp_C_marks G Cc) [] E0 (tOp (rIxL G.K) (tVar 5) (tVar 3)) tNil) (tCons (tC (.str "none")) tNil))))))))))
    (tSeq (tFor (iRng1 (tCons (tC (.int 2)) tNil)) (gName 3) (tSeq (tAsg (tMake Cc (sp_C___init__ G ea Cc) [] E0 (tCons (tOp (rIxL G.K) (tVar 2) (tVar 3)) (tCons (tOp (rIxL G.K) (tVar 4) (tVar 3)) tNil))) (gName 12))
    (tSeq (tFor (iList G.K (tOp (rIxL G.K) (tVar 6) (tVar 3))) (gTup G.K 2 (gCons (gName 9) (gCons (gName 13) gNil))) (tIfS (tNot (tB (tCall (CB.sp__law_same G 5) [] E0 (tCons (tCall (sp__law_called G ea Cc) [] E0 (tCons (tVar 12) (tCons (tVar 9) tNil))) (tCons (tVar 13) tNil))))) (tRet (tC (.bl false))) tNext))
    (tIfS (tNot (tB (tCall (CB.sp__law_same G 5) [] E0 (tCons (tCall (sp__law_stands G ea Cc) [] E0 (tCons (tVar 12) tNil)) (tCons (tCall (sp__law_stands G ea Cc) [] E0 (tCons (tOp (rIxL G.K) (tVar 5) (tVar 3)) tNil)) tNil))))) (tRet (tC (.bl false))) tNext))))
    (tRet (tC (.bl true)))))))))))
theorem law_ok (G : Glob) (ea : Str → Addr) (X : XC) {Cc : Addr} (HC : ClsC G.K Cc) (xs : List VX) (W : Wd) (Φ : VX → Wd → Prop) (h : A_law G ea xs W Φ) : xs.length = 1 ∧ WS G.K X (t_law G ea Cc) (st0 xs 13) W (P0 Φ) := by
  obtain ⟨ns, rfl, rfl, C, KX, q⟩ := h
  refine ⟨rfl, ?_⟩
  unfold t_law
  walk_at "ec"
  refine wb_start fun st m b => ?_
  walk_at "ec"
  refine we_lstO ?_
  walk_at "ec"
  refine wb_rule .hd b fun r0 i m r b => ?_
  walk_at "ec"
  refine wb_rule .hd b fun r1 i m r b => ?_
  walk_at "ec"
  refine ⟨Nat.le_of_ble_eq_true rfl, fun R => ?_⟩
  walk_at "ec"
  refine we_lcG ?_
  walk_at "ec"
  refine ⟨by decide, by decide, ?_⟩
  refine ⟨by decide, fun k acc W' => ∃ (zs : List Nat) (i m r : Int), acc = (zs.map fun z : Nat => PyData.int (z : Int)).map VX.d ∧ zs.length = k ∧ (∀ z ∈ zs, 1 ≤ z ∧ z ≤ 6) ∧ DrI i m r ∧ W' = ⟨(R, .lst [.d (.str r0.s), .d (.str r1.s)]) :: (st, drO ns i m r) :: [], fun _ => True⟩, ⟨[], _, _, _, rfl, rfl, fun z hz => (by cases hz), b, rfl⟩, fun _ _ _ _ _ => trivial, ?_, ?_⟩
  · rintro k acc W' hk ⟨zs, i, m, r, rfl, lz, hz, b, rfl⟩
    refine ⟨[(3, .d (.int ((k : Nat) : Int)))], cg_name, fun p hp => by rw [List.mem_singleton.mp hp]; exact List.mem_singleton.mpr rfl, wt_yes ⟨fun _ => ?_, fun z => (by cases z)⟩⟩
    walk_at "ec"
    refine wb_drawn (.tl .hd) b (by decide) (by decide) fun x i m r x0 x1 b => ?_
    walk_at "ec"
    refine ⟨zs ++ [(1 + x).toNat], i, m, r, ?_, by rw [List.length_append, lz]; rfl, fun z h => ?_, b, rfl⟩
    · rw [List.map_append, List.map_append, List.map_cons, List.map_nil, show (((1 + x).toNat : Nat) : Int) = 1 + x from Int.toNat_of_nonneg (by omega)]
      rfl
    · rcases List.mem_append.mp h with h | h
      · exact hz z h
      · rw [List.mem_singleton.mp h]; omega
  rintro acc W' ⟨zs, i, m, r, rfl, lz, hz, b, rfl⟩
  refine .inl ⟨_, rfl, ?_⟩
  obtain ⟨z0, z1, rfl⟩ : ∃ z0 z1, zs = [z0, z1] := by
    match zs, lz with
    | [z0, z1], _ => exact ⟨z0, z1, rfl⟩
  walk_at "ec"
  refine wb_drawn (.tl .hd) b (by decide) (by decide) fun x i m r x0 x1 b => ?_
  obtain ⟨r2, hr2⟩ : ∃ r2 : Rule, atI [VX.d (.str r0.s), VX.d (.str r1.s)] x = some (.d (.str r2.s)) := by
    have e : x = 0 ∨ x = 1 := by omega
    rcases e with rfl | rfl
    · exact ⟨r0, rfl⟩
    · exact ⟨r1, rfl⟩
  refine w2_ixO .hd hr2 ?_
  refine wg_setO (xs := []) (k := 1) ?_
  walk_at "ec"
  refine ⟨R, 1, _, _, 1, rfl, rfl, .hd, rfl, ?_⟩
  have hz0 := hz z0 (by simp)
  have hz1 := hz z1 (by simp)
  walk_at "ec"
  refine we_lcG ?_
  walk_at "ec"
  refine ⟨by decide, by decide, by decide, fun k acc W' => (k = 0 ∧ acc = [] ∧ W' = ⟨(R, .lst [.d (.str r0.s), .d (.str r2.s)]) :: (st, drO ns i m r) :: [], fun _ => True⟩) ∨
    (k = 1 ∧ ∃ a0 P0, acc = [.r (.ref a0)] ∧ W' = ⟨(P0, .dK (ptsX [])) :: (a0, .ins Cc (insF (cv0 r0 z0) P0)) :: (R, .lst [.d (.str r0.s), .d (.str r2.s)]) :: (st, drO ns i m r) :: [], fun _ => True⟩) ∨
    (k = 2 ∧ ∃ a0 P0 a1 P1, acc = [.r (.ref a0), .r (.ref a1)] ∧ W' = ⟨(P1, .dK (ptsX [])) :: (a1, .ins Cc (insF (cv0 r2 z1) P1)) :: (P0, .dK (ptsX [])) :: (a0, .ins Cc (insF (cv0 r0 z0) P0)) :: (R, .lst [.d (.str r0.s), .d (.str r2.s)]) :: (st, drO ns i m r) :: [], fun _ => True⟩), .inl ⟨rfl, rfl, rfl⟩, fun _ _ _ _ _ => trivial, ?_, ?_⟩
  · rintro k acc W' hk hI
    refine ⟨[(3, .d (.int ((k : Nat) : Int)))], cg_name, fun p hp => by rw [List.mem_singleton.mp hp]; exact List.mem_singleton.mpr rfl, wt_yes ⟨fun _ => ?_, fun z => (by cases z)⟩⟩
    rcases hI with ⟨rfl, rfl, rfl⟩ | ⟨rfl, a0, P0, rfl, rfl⟩ | ⟨rfl, _⟩
    · refine we_make ?_
      walk_at "ec"
      refine w2_ixO (x := .d (.str r0.s)) .hd rfl ?_
      walk_at "ec"
      refine w2_ixL (d := .int (z0 : Int)) rfl ?_
      walk_at "ec"
      intro a0
      exact wb_init G HC C hz0.1 hz0.2 fun P0 => ⟨rfl, .inr (.inl ⟨rfl, a0, P0, rfl, rfl⟩)⟩
    · refine we_make ?_
      walk_at "ec"
      refine w2_ixO (x := .d (.str r2.s)) (.tl (.tl .hd)) rfl ?_
      walk_at "ec"
      refine w2_ixL (d := .int (z1 : Int)) rfl ?_
      walk_at "ec"
      intro a1
      exact wb_init G HC C hz1.1 hz1.2 fun P1 => ⟨rfl, .inr (.inr ⟨rfl, a0, P0, a1, P1, rfl, rfl⟩)⟩
    · have hk : 2 < 2 := hk
      omega
  rintro acc W' hI
  rcases hI with ⟨e, _⟩ | ⟨e, _⟩ | ⟨_, a0, P0, a1, P1, rfl, rfl⟩
  · have e : (2 : Nat) = 0 := e
    omega
  · have e : (2 : Nat) = 1 := e
    omega
  refine .inr fun Dc => ?_
  refine wa_cons (we_lstO ?_)
  refine wa_cons (we_lstO (wa_nil ⟨Nat.zero_le _, fun B0 => ?_⟩))
  refine wa_cons (we_lstO (wa_nil ⟨Nat.zero_le _, fun B1 => ?_⟩))
  refine wa_nil ⟨Nat.le_of_ble_eq_true rfl, fun BB => ?_⟩
  refine wa_nil ⟨_, _, rfl, ?_⟩
  refine ws_seq (ws_asg ?_)
  refine we_op (we_op (we_lstO ?_))
  walk_at "ec"
  refine ⟨Nat.le_of_ble_eq_true rfl, fun V1 => ?_⟩
  walk_at "ec"
  refine w2_repO (n := 7) .hd (by decide) (by decide) fun V2 => ?_
  refine we_lstO ?_
  walk_at "ec"
  refine ⟨Nat.le_of_ble_eq_true rfl, fun V3 => ?_⟩
  refine w2_catO (.tl .hd) .hd (by decide) fun V4 => ?_
  have ew : ((List.replicate 7 [VX.d (.str "ask")]).flatten ++ [VX.d (.str "pin"), .d (.str "pin"), .d (.str "unpin"), .d (.str "drop"), .d (.str "resize"), .d (.str "mark"), .d (.str "go")]) = (words.map fun w => PyData.str w.s).map VX.d := rfl
  rw [ew]
  refine ws_fz (n := 7) rfl ?_
  refine ws_drop1 (ws_drop1 (ws_drop1 ?_))
  have KXg := KX
  have A0 : ∀ (o1 p1 b1 : OC), At4 a0 P0 B0 BB Dc st [.r (.ref B0), .r (.ref B1)] [.r (.ref a0), .r (.ref a1)] (fun o p b d => (BB, .lst [.r (.ref B0), .r (.ref B1)]) :: (B1, b1) :: (B0, b) :: (Dc, .lst [.r (.ref a0), .r (.ref a1)]) :: (P1, p1) :: (a1, o1) :: (P0, p) :: (a0, o) :: (R, .lst [.d (.str r0.s), .d (.str r2.s)]) :: (st, d) :: []) := fun o1 p1 b1 =>
    ⟨fun _ _ _ _ => .tl (.tl (.tl (.tl (.tl (.tl (.tl .hd)))))), fun _ _ _ _ => .tl (.tl (.tl (.tl (.tl (.tl .hd))))), fun _ _ _ _ => .tl (.tl .hd), fun _ _ _ _ => .tl (.tl (.tl (.tl (.tl (.tl (.tl (.tl (.tl .hd)))))))), fun _ _ _ _ => ⟨_, .hd⟩, fun _ _ _ _ => ⟨_, .tl (.tl (.tl .hd))⟩⟩
  have A1 : ∀ (o0 p0 b0 : OC), At4 a1 P1 B1 BB Dc st [.r (.ref B0), .r (.ref B1)] [.r (.ref a0), .r (.ref a1)] (fun o p b d => (BB, .lst [.r (.ref B0), .r (.ref B1)]) :: (B1, b) :: (B0, b0) :: (Dc, .lst [.r (.ref a0), .r (.ref a1)]) :: (P1, p) :: (a1, o) :: (P0, p0) :: (a0, o0) :: (R, .lst [.d (.str r0.s), .d (.str r2.s)]) :: (st, d) :: []) := fun o0 p0 b0 =>
    ⟨fun _ _ _ _ => .tl (.tl (.tl (.tl (.tl .hd)))), fun _ _ _ _ => .tl (.tl (.tl (.tl .hd))), fun _ _ _ _ => .tl .hd, fun _ _ _ _ => .tl (.tl (.tl (.tl (.tl (.tl (.tl (.tl (.tl .hd)))))))), fun _ _ _ _ => ⟨_, .hd⟩, fun _ _ _ _ => ⟨_, .tl (.tl (.tl .hd))⟩⟩
  have s0 := si0 (r := r0) hz0.1 hz0.2
  have s1 := si0 (r := r2) hz1.1 hz1.2
  walk_at "ec"
  refine wb_drawn (.tl (.tl (.tl (.tl (.tl (.tl (.tl (.tl (.tl .hd))))))))) b (by decide) (by decide) fun y i m r y0 y1 b => ?_
  walk_at "ec"
  refine ⟨by omega, by omega, ?_⟩
  obtain ⟨nt, hnt⟩ : ∃ n : Nat, 10 + y = (n : Int) := ⟨(10 + y).toNat, (Int.toNat_of_nonneg (by omega)).symm⟩
  rw [hnt, Int.toNat_natCast]
  have nt50 : nt ≤ 50 := by omega
  refine ⟨fun j τ' W' => ∃ (cs0 cs1 : List (Wo × Int)) (u3 u8 u9 u10 u11 u12 u13 : Option VX) (i m r : Int), cs0.length ≤ j ∧ cs1.length ≤ j ∧ (∀ c ∈ cs0, CallOk c) ∧ (∀ c ∈ cs1, CallOk c) ∧ DrI i m r ∧
    τ' = [some (.d (.list (ns.map .int))), some (.r (.ref st)), some (.r (.ref R)), u3, some (.d (.list ([(z0 : Int), (z1 : Int)].map PyData.int))), some (.r (.ref Dc)), some (.r (.ref BB)), some (.d wordsD), u8, u9, u10, u11, u12, u13] ∧
    W' = ⟨(BB, .lst [.r (.ref B0), .r (.ref B1)]) :: (B1, .lst ((bookF (cv0 r2 z1, []) cs1).map .d)) :: (B0, .lst ((bookF (cv0 r0 z0, []) cs0).map .d)) :: (Dc, .lst [.r (.ref a0), .r (.ref a1)]) :: (P1, .dK (ptsX (runF (cv0 r2 z1, []) cs1).2)) :: (a1, .ins Cc (insF (runF (cv0 r2 z1, []) cs1).1 P1)) :: (P0, .dK (ptsX (runF (cv0 r0 z0, []) cs0).2)) :: (a0, .ins Cc (insF (runF (cv0 r0 z0, []) cs0).1 P0)) :: (R, .lst [.d (.str r0.s), .d (.str r2.s)]) :: (st, drO ns i m r) :: [], fun _ => True⟩,
    ⟨[], [], _, _, _, _, _, _, _, i, m, r, Nat.zero_le _, Nat.zero_le _, fun c hc => (by cases hc), fun c hc => (by cases hc), b, rfl, rfl⟩, fun _ _ _ _ _ => trivial, ?_, ?_⟩
  · rintro j τ' W' hj ⟨cs0, cs1, u3, u8, u9, u10, u11, u12, u13, i, m, r, l0, l1, c0, c1, b, rfl, rfl⟩
    walk_at "ec"
    refine wb_drawn (.tl (.tl (.tl (.tl (.tl (.tl (.tl (.tl (.tl .hd))))))))) b (by decide) (by decide) fun k i m r k0 k1 b => ?_
    have ek : k = 0 ∨ k = 1 := by omega
    rcases ek with rfl | rfl
    · refine turn_ok (k := 0) (A0 _ _ _) (si_run cs0 s0 c0) rfl rfl (by rw [bookF_len]; omega) b KX fun w t i m r u9 u10 u11 t0 t9 b => ⟨cs0 ++ [(w, t)], cs1, _, _, _, _, _, _, _, i, m, r, by rw [List.length_append]; show cs0.length + 1 ≤ _; omega, by omega, fun c hc => ?_, c1, b, rfl, ?_⟩
      · rcases List.mem_append.mp hc with hc | hc
        · exact c0 c hc
        · rw [List.mem_singleton.mp hc]; exact ⟨t0, t9⟩
      · rw [runF_snoc, bookF_snoc]
    · refine turn_ok (k := 1) (A1 _ _ _) (si_run cs1 s1 c1) rfl rfl (by rw [bookF_len]; omega) b KX fun w t i m r u9 u10 u11 t0 t9 b => ⟨cs0, cs1 ++ [(w, t)], _, _, _, _, _, _, _, i, m, r, by omega, by rw [List.length_append]; show cs1.length + 1 ≤ _; omega, c0, fun c hc => ?_, b, rfl, ?_⟩
      · rcases List.mem_append.mp hc with hc | hc
        · exact c1 c hc
        · rw [List.mem_singleton.mp hc]; exact ⟨t0, t9⟩
      · rw [runF_snoc, bookF_snoc]
  · rintro τ' W' ⟨cs0, cs1, u3, u8, u9, u10, u11, u12, u13, i, m, r, l0, l1, c0, c1, b, rfl, rfl⟩
    walk_at "ec"
    refine ⟨by decide, by decide, fun j τ' W' => ∃ (u3 u9 u12 u13 : Option VX), τ' = [some (.d (.list (ns.map .int))), some (.r (.ref st)), some (.r (.ref R)), u3, some (.d (.list ([(z0 : Int), (z1 : Int)].map PyData.int))), some (.r (.ref Dc)), some (.r (.ref BB)), some (.d wordsD), u8, u9, u10, u11, u12, u13] ∧
      W' = ⟨(BB, .lst [.r (.ref B0), .r (.ref B1)]) :: (B1, .lst ((bookF (cv0 r2 z1, []) cs1).map .d)) :: (B0, .lst ((bookF (cv0 r0 z0, []) cs0).map .d)) :: (Dc, .lst [.r (.ref a0), .r (.ref a1)]) :: (P1, .dK (ptsX (runF (cv0 r2 z1, []) cs1).2)) :: (a1, .ins Cc (insF (runF (cv0 r2 z1, []) cs1).1 P1)) :: (P0, .dK (ptsX (runF (cv0 r0 z0, []) cs0).2)) :: (a0, .ins Cc (insF (runF (cv0 r0 z0, []) cs0).1 P0)) :: (R, .lst [.d (.str r0.s), .d (.str r2.s)]) :: (st, drO ns i m r) :: [], fun _ => True⟩,
      ⟨_, _, _, _, rfl, rfl⟩, fun _ _ _ _ _ => trivial, ?_, ?_⟩
    · rintro j τ' W' hj ⟨u3, u9, u12, u13, rfl, rfl⟩
      have ej : j = 0 ∨ j = 1 := by have hj : j < 2 := hj; omega
      rcases ej with rfl | rfl
      · refine wg_name (replay_ok (k := 0) (r := r0) (s := z0) (rs := [.d (.str r0.s), .d (.str r2.s)]) (R := R) HC C (A0 _ _ _) (fun _ _ _ _ => ⟨_, .tl (.tl (.tl (.tl (.tl (.tl (.tl (.tl .hd)))))))⟩) rfl rfl hz0.1 hz0.2 rfl rfl c0 KX fun u9 u12 u13 => ⟨_, _, _, _, rfl, rfl⟩)
      · refine wg_name (replay_ok (k := 1) (r := r2) (s := z1) (rs := [.d (.str r0.s), .d (.str r2.s)]) (R := R) HC C (A1 _ _ _) (fun _ _ _ _ => ⟨_, .tl (.tl (.tl (.tl (.tl (.tl (.tl (.tl .hd)))))))⟩) rfl rfl hz1.1 hz1.2 rfl rfl c1 KX fun u9 u12 u13 => ⟨_, _, _, _, rfl, rfl⟩)
    · rintro τ' W' ⟨u3, u9, u12, u13, rfl, rfl⟩
      walk_at "ec"
      exact q _
theorem len_law (G : Glob) (ea : Str → Addr) {Cc : Addr} (HC : ClsC G.K Cc) (vs : List V) (H : Hp) (Q : VK) (E : XK) (h : sp_law G ea Cc vs H Q E) : vs.length = 1 := len0 (fun xs W Φ a => (law_ok G ea ⟨E, fun _ => 0, fun _ _ _ => False⟩ HC xs W Φ a).1) vs H Q E h
theorem rd_law {N : List Str} (hN : N.length = 14) (G : Glob) (ea : Str → Addr) {Cc : Addr} (HC : ClsC G.K Cc) (vs : List V) (H : Hp) (Q : VK) (E : XK) (h : sp_law G ea Cc vs H Q E) : t_law G ea Cc { nx := fun _ H' => Q .non H', rt := Q } (L2.start N vs) H := rd0 (k := 1) hN (fun X => law_ok G ea X HC) vs H Q E h
end CB.Q

namespace CB.Q
open PySem PySem.Spec PyProof.Rows L2 CB2 CB.N
abbrev s__law_called : Stmt := topS 37
abbrev s__law_stands : Stmt := topS 38
abbrev s_law : Stmt := topS 39
theorem sc__law_called : FnScope ["_law_cache", "_law_call", "_law_word", "_law_thing"] ["_law_cache", "_law_call"] (defScope s__law_called) := ⟨rfl, rfl, rfl, by decide +kernel, rfl, by decide +kernel, by decide +kernel⟩
theorem ok__law_called {P : Program} {w : World} {mg : Str → Option Value} {base : Heap} (G : Glob) (ea : Str → Addr) {Cc : Addr} (HC : ClsC G.K Cc) (T : Bl mg) (m_ask : CalM P w G.K mg base (L2.CX P w) 4 Cc "ask" ["self", "page"] (sp_C_ask G ea Cc)) (m_pin : CalM P w G.K mg base (L2.CX P w) 4 Cc "pin" ["self", "page"] (sp_C_pin G ea Cc)) (m_unpin : CalM P w G.K mg base (L2.CX P w) 4 Cc "unpin" ["self", "page"] (sp_C_unpin G ea Cc)) (m_drop : CalM P w G.K mg base (L2.CX P w) 4 Cc "drop" ["self", "page"] (sp_C_drop G ea Cc)) (m_resize : CalM P w G.K mg base (L2.CX P w) 4 Cc "resize" ["self", "size"] (sp_C_resize G ea Cc)) (m_mark : CalM P w G.K mg base (L2.CX P w) 2 Cc "mark" ["self", "name"] (sp_C_mark G ea Cc)) (m_go : CalM P w G.K mg base (L2.CX P w) 1 Cc "go" ["self", "name"] (sp_C_go G ea Cc)) (g_CacheError : mg "CacheError" = some (.ref (ea "CacheError"))) {f : Addr} {fd : FuncData} (F : Fun G.K "_law_called" "_law_called" s__law_called f fd) (hm : mg "_law_called" = some (.ref f)) : Cal P w G.K mg base CX0 5 "_law_called" ["_law_cache", "_law_call"] (sp__law_called G ea Cc) := by
  refine ⟨f, fd, hm, F.kp, F.binds (ps := ["_law_cache", "_law_call"]) (fun _ _ _ _ _ _ us hl => match us, hl with | [_, _], _ => rfl), ?_⟩
  refine F.ok sc__law_called (fun vs H Q E h => len__law_called G ea HC vs H Q E h) (fun cdv A outer s H vs Q E hr h => ⟨t__law_called G ea Cc, ?_, rd__law_called rfl G ea HC vs H Q E h⟩)
  have hu := hu_of hr
  have nd := sc__law_called.nd
  exact (pss_cons (ps_asg (pv 1) (pg_tup rfl (pgs_cons (pg_name (i := 2) nd rfl (Or.inl rfl)) (pgs_cons (pg_name (i := 3) nd rfl (Or.inl rfl)) pgs_nil))))
    (pss_one (ps_tryN rfl rfl ⟨rfl, by decide, .inl g_CacheError⟩ takes0 (fun W pn xe tk _ => (pss_cons (ps_if (pt_cmpR oIn (pv 2) (pe_tup (pa_cons pe_str (pa_cons pe_str pa_nil))) (by first | exact nomark _ | rfl)) (pss_one (ps_ret (pe_lst (pa_cons (pe_ifExp (pt_cmpR oEq (pv 2) pe_str (nomark _)) (pe_calM m_ask HC.cls hr (by decide) (passes_call tk (fun _ _ _ _ h => h _)) (pv 0) (pa_cons (pv 3) pa_nil)) (pe_calM m_pin HC.cls hr (by decide) (passes_call tk (fun _ _ _ _ h => h _)) (pv 0) (pa_cons (pv 3) pa_nil))) pa_nil)))) pss_nil)
    (pss_cons (ps_if (pt_cmpR oIn (pv 2) (pe_tup (pa_cons pe_str (pa_cons pe_str pa_nil))) (by first | exact nomark _ | rfl)) (pss_one (ps_ret (pe_lst (pa_cons (pe_ifExp (pt_cmpR oEq (pv 2) pe_str (nomark _)) (pe_calM m_unpin HC.cls hr (by decide) (passes_call tk (fun _ _ _ _ h => h _)) (pv 0) (pa_cons (pv 3) pa_nil)) (pe_calM m_drop HC.cls hr (by decide) (passes_call tk (fun _ _ _ _ h => h _)) (pv 0) (pa_cons (pv 3) pa_nil))) pa_nil)))) pss_nil)
    (pss_cons (ps_if (pt_cmpR oEq (pv 2) pe_str (nomark _)) (pss_one (ps_ret (pe_lst (pa_cons (pe_calM m_resize HC.cls hr (by decide) (passes_call tk (fun _ _ _ _ h => h _)) (pv 0) (pa_cons (pe_op oAdd pe_int (pe_op oMod (pv 3) pe_int)) pa_nil)) pa_nil)))) pss_nil)
    (pss_one (ps_ret (pe_lst (pa_cons (pe_ifExp (pt_cmpR oEq (pv 2) pe_str (nomark _)) (pe_calM m_mark HC.cls hr (by decide) (passes_call tk (fun _ _ _ _ h => h _)) (pv 0) (pa_cons (pe_ix ix_str pe_str (pe_op oMod (pv 3) pe_int) (fun _ _ => rfl)) pa_nil)) (pe_calM m_go HC.cls hr (by decide) (passes_call tk (fun _ _ _ _ h => h _)) (pv 0) (pa_cons (pe_ix ix_str pe_str (pe_op oMod (pv 3) pe_int) (fun _ _ => rfl)) pa_nil))) pa_nil)))))))))))

theorem sc__law_stands : FnScope ["_law_cache"] ["_law_cache"] (defScope s__law_stands) := ⟨rfl, rfl, rfl, by decide +kernel, rfl, by decide +kernel, by decide +kernel⟩
theorem ok__law_stands {P : Program} {w : World} {mg : Str → Option Value} {base : Heap} (G : Glob) (ea : Str → Addr) {Cc : Addr} (HC : ClsC G.K Cc) (T : Bl mg) (m_marks : CalM P w G.K mg base CX0 1 Cc "marks" ["self"] (sp_C_marks G Cc)) (m_counts : CalM P w G.K mg base CX0 1 Cc "counts" ["self"] (sp_C_counts G Cc)) (m_pins : CalM P w G.K mg base CX0 1 Cc "pins" ["self"] (sp_C_pins G Cc)) (m_order : CalM P w G.K mg base CX0 1 Cc "order" ["self"] (sp_C_order G Cc)) (m_holds : CalM P w G.K mg base CX0 2 Cc "holds" ["self"] (sp_C_holds G Cc)) {f : Addr} {fd : FuncData} (F : Fun G.K "_law_stands" "_law_stands" s__law_stands f fd) (hm : mg "_law_stands" = some (.ref f)) : Cal P w G.K mg base CX0 3 "_law_stands" ["_law_cache"] (sp__law_stands G ea Cc) := by
  refine ⟨f, fd, hm, F.kp, F.binds (ps := ["_law_cache"]) (fun _ _ _ _ _ _ us hl => match us, hl with | [_], _ => rfl), ?_⟩
  refine F.ok sc__law_stands (fun vs H Q E h => len__law_stands G ea HC vs H Q E h) (fun cdv A outer s H vs Q E hr h => ⟨t__law_stands G ea Cc, ?_, rd__law_stands rfl G ea HC vs H Q E h⟩)
  have hu := hu_of hr
  have nd := sc__law_stands.nd
  exact (pss_one (ps_ret (pe_lst (pa_cons (pe_calM0 m_holds HC.cls hr (by decide) pass0 (pv 0)) (pa_cons (pe_calM0 m_order HC.cls hr (by decide) pass0 (pv 0)) (pa_cons (pe_calM0 m_pins HC.cls hr (by decide) pass0 (pv 0)) (pa_cons (pe_calM0 m_counts HC.cls hr (by decide) pass0 (pv 0)) (pa_cons (pe_calM0 m_marks HC.cls hr (by decide) pass0 (pv 0)) pa_nil))))))))

theorem sc_law : FnScope ["_law_script", "_law_state", "_law_rules", "_law_k", "_law_sizes", "_law_caches", "_law_books", "_law_words", "_law_step", "_law_call", "_law_told", "_law_one", "_law_alone", "_law_due"] ["_law_script"] (defScope s_law) := ⟨rfl, rfl, rfl, by decide +kernel, rfl, by decide +kernel, by decide +kernel⟩
theorem ok_law {P : Program} {w : World} {mg : Str → Option Value} {base : Heap} (G : Glob) (ea : Str → Addr) {Cc : Addr} (HC : ClsC G.K Cc) (T : Bl mg) (c__law_start : Cal P w G.K mg base CX0 1 "_law_start" ["_law_script"] (sp__law_start G)) (c__law_rule : Cal P w G.K mg base CX0 2 "_law_rule" ["_law_state"] (sp__law_rule G)) (c__law_drawn : Cal P w G.K mg base CX0 1 "_law_drawn" ["_law_state", "_law_many"] (sp__law_drawn G)) (c__law_called : Cal P w G.K mg base CX0 5 "_law_called" ["_law_cache", "_law_call"] (sp__law_called G ea Cc)) (c__law_same : Cal P w G.K mg base CX0 5 "_law_same" ["_law_found", "_law_due"] (sp__law_same G 5)) (c__law_stands : Cal P w G.K mg base CX0 3 "_law_stands" ["_law_cache"] (sp__law_stands G ea Cc)) (m_pins : CalM P w G.K mg base CX0 1 Cc "pins" ["self"] (sp_C_pins G Cc)) (m_marks : CalM P w G.K mg base CX0 1 Cc "marks" ["self"] (sp_C_marks G Cc)) (k_Cache : CalK P w G.K mg base (L2.CX P w) 3 Cc "Cache" ["self", "rule", "size"] (sp_C___init__ G ea Cc)) {f : Addr} {fd : FuncData} (F : Fun G.K "law" "law" s_law f fd) (hm : mg "law" = some (.ref f)) : FnOk P w G.K mg base CX0 6 f fd ["_law_script"] (sp_law G ea Cc) := by
  refine F.ok sc_law (fun vs H Q E h => len_law G ea HC vs H Q E h) (fun cdv A outer s H vs Q E hr h => ⟨t_law G ea Cc, ?_, rd_law rfl G ea HC vs H Q E h⟩)
  have hu := hu_of hr
  have nd := sc_law.nd
  exact (pss_cons (ps_set (i := 1) nd rfl (Or.inr rfl) (pe_cal c__law_start hr (by decide) rfl pass0 (pa_cons (pv 0) pa_nil)))
    (pss_cons (ps_set (i := 2) nd rfl (Or.inr rfl) (pe_lst (pa_cons (pe_cal c__law_rule hr (by decide) rfl pass0 (pa_cons (pv 1) pa_nil)) (pa_cons (pe_cal c__law_rule hr (by decide) rfl pass0 (pa_cons (pv 1) pa_nil)) pa_nil))))
    (pss_cons (ps_set (i := 4) nd rfl (Or.inr rfl) (pe_lc (own := [("_law_k", 3)]) (g := (gName 3)) (tt := tYes) rfl nd (pi_range1 rfl T.n_range (pa_cons pe_int pa_nil)) (blkOk_by (N := ["_law_script", "_law_state", "_law_rules", "_law_k", "_law_sizes", "_law_caches", "_law_books", "_law_words", "_law_step", "_law_call", "_law_told", "_law_one", "_law_alone", "_law_due"]) (sc := defScope s_law) (by decide +kernel)) (fun _ _ _ _ _ => (pg_name (i := 3) nd rfl (Or.inl rfl))) (fun _ _ _ _ _ => pts_nil) (fun _ _ _ _ _ => (pe_op oAdd pe_int (pe_cal c__law_drawn hr (by decide) rfl pass0 (pa_cons (pv 1) (pa_cons pe_int pa_nil)))))))
    (pss_cons (ps_asg (pe_ix ix_list (pv 2) (pe_cal c__law_drawn hr (by decide) rfl pass0 (pa_cons (pv 1) (pa_cons pe_int pa_nil))) (fun _ _ => rfl)) (pg_sub (pv 2) pe_int set_list))
    (pss_cons (ps_par (i := 5) (j := 6) (by rfl) nd rfl rfl (by decide) rfl rfl (pa_cons (pe_lc (own := [("_law_k", 3)]) (g := (gName 3)) (tt := tYes) rfl nd (pi_range1 rfl T.n_range (pa_cons pe_int pa_nil)) (blkOk_by (N := ["_law_script", "_law_state", "_law_rules", "_law_k", "_law_sizes", "_law_caches", "_law_books", "_law_words", "_law_step", "_law_call", "_law_told", "_law_one", "_law_alone", "_law_due"]) (sc := defScope s_law) (by decide +kernel)) (fun _ _ _ _ _ => (pg_name (i := 3) nd rfl (Or.inl rfl))) (fun _ _ _ _ _ => pts_nil) (fun _ _ _ _ _ => (pe_calK k_Cache hr (by decide) rfl CB2.passL (pa_cons (pe_ix ix_list (pv 2) (pv 3) (fun _ _ => rfl)) (pa_cons (pe_ix ix_list (pv 4) (pv 3) (fun _ _ => rfl)) pa_nil))))) (pa_cons (pe_lst (pa_cons (pe_lst pa_nil) (pa_cons (pe_lst pa_nil) pa_nil))) pa_nil)) (by rfl))
    (pss_cons (ps_set (i := 7) nd rfl (Or.inl rfl) (pe_op op_cat (pe_op op_rep (pe_lst (pa_cons pe_str pa_nil)) pe_int) (pe_lst (pa_cons pe_str (pa_cons pe_str (pa_cons pe_str (pa_cons pe_str (pa_cons pe_str (pa_cons pe_str (pa_cons pe_str pa_nil))))))))))
    (pss_cons (ps_for PassesOwn.never rfl (pi_range1 rfl T.n_range (pa_cons (pe_op oAdd pe_int (pe_cal c__law_drawn hr (by decide) rfl pass0 (pa_cons (pv 1) (pa_cons pe_int pa_nil)))) pa_nil)) (pg_name (i := 8) nd rfl (Or.inl rfl)) (pss_cons (ps_set (i := 3) nd rfl (Or.inl rfl) (pe_cal c__law_drawn hr (by decide) rfl pass0 (pa_cons (pv 1) (pa_cons pe_int pa_nil))))
    (pss_cons (ps_set (i := 9) nd rfl (Or.inl rfl) (pe_tup (pa_cons (pe_ix ix_list (pv 7) (pe_cal c__law_drawn hr (by decide) rfl pass0 (pa_cons (pv 1) (pa_cons pe_int pa_nil))) (fun _ _ => rfl)) (pa_cons (pe_cal c__law_drawn hr (by decide) rfl pass0 (pa_cons (pv 1) (pa_cons pe_int pa_nil))) pa_nil))))
    (pss_cons (ps_set (i := 10) nd rfl (Or.inl rfl) (pe_cal c__law_called hr (by decide) rfl pass0 (pa_cons (pe_ix ix_list (pv 5) (pv 3) (fun _ _ => rfl)) (pa_cons (pv 9) pa_nil))))
    (pss_cons (ps_expr (pe_bm PySem.F.plainAttrs_list PySem.F.slot_list_append PySem.F.type_list_append mt_append (pe_ix ix_list (pv 6) (pv 3) (fun _ _ => rfl)) (pa_cons (pe_tup (pa_cons (pv 9) (pa_cons (pe_lc (own := [("_law_one", 11)]) (g := (gName 11)) (tt := tYes) rfl nd (pi_list (pv 10)) (blkOk_by (N := ["_law_script", "_law_state", "_law_rules", "_law_k", "_law_sizes", "_law_caches", "_law_books", "_law_words", "_law_step", "_law_call", "_law_told", "_law_one", "_law_alone", "_law_due"]) (sc := defScope s_law) (by decide +kernel)) (fun _ _ _ _ _ => (pg_name (i := 11) nd rfl (Or.inl rfl))) (fun _ _ _ _ _ => pts_nil) (fun _ _ _ _ _ => (pe_ifExp (pt_val (pe_callB call_isi (by rfl) T.n_isinstance (by decide +kernel) (pa_cons (pv 11) (pa_cons (pe_bltn rfl T.n_list rfl rfl) pa_nil)))) (pe_callTy cbList (by rfl) T.n_list (by decide +kernel) (pa_cons (pv 11) pa_nil)) (pv 11)))) pa_nil))) pa_nil)))
    (pss_cons (ps_for PassesOwn.never rfl (pi_list (pv 10)) (pg_name (i := 11) nd rfl (Or.inl rfl)) (pss_one (ps_if (pt_val (pe_callB call_isi (by rfl) T.n_isinstance (by decide +kernel) (pa_cons (pv 11) (pa_cons (pe_bltn rfl T.n_list rfl rfl) pa_nil)))) (pss_one (ps_expr (pe_bm PySem.F.plainAttrs_list PySem.F.slot_list_append PySem.F.type_list_append mt_append (pv 11) (pa_cons pe_int pa_nil)))) pss_nil)))
    (pss_cons (ps_expr (pe_bm PySem.F.plainAttrs_list PySem.F.slot_list_append PySem.F.type_list_append mt_append (pe_calM0 m_pins HC.cls hr (by decide) pass0 (pe_ix ix_list (pv 5) (pv 3) (fun _ _ => rfl))) (pa_cons pe_int pa_nil)))
    (pss_one (ps_expr (pe_bm PySem.F.plainAttrs_list PySem.F.slot_list_append PySem.F.type_list_append mt_append (pe_calM0 m_marks HC.cls hr (by decide) pass0 (pe_ix ix_list (pv 5) (pv 3) (fun _ _ => rfl))) (pa_cons pe_str pa_nil)))))))))))
    (pss_cons (ps_for PassesOwn.never rfl (pi_range1 rfl T.n_range (pa_cons pe_int pa_nil)) (pg_name (i := 3) nd rfl (Or.inl rfl)) (pss_cons (ps_set (i := 12) nd rfl (Or.inl rfl) (pe_calK k_Cache hr (by decide) rfl CB2.passL (pa_cons (pe_ix ix_list (pv 2) (pv 3) (fun _ _ => rfl)) (pa_cons (pe_ix ix_list (pv 4) (pv 3) (fun _ _ => rfl)) pa_nil))))
    (pss_cons (ps_for PassesOwn.never rfl (pi_list (pe_ix ix_list (pv 6) (pv 3) (fun _ _ => rfl))) (pg_tup rfl (pgs_cons (pg_name (i := 9) nd rfl (Or.inl rfl)) (pgs_cons (pg_name (i := 13) nd rfl (Or.inl rfl)) pgs_nil))) (pss_one (ps_if (pt_not (pt_val (pe_cal c__law_same hr (by decide) rfl pass0 (pa_cons (pe_cal c__law_called hr (by decide) rfl pass0 (pa_cons (pv 12) (pa_cons (pv 9) pa_nil))) (pa_cons (pv 13) pa_nil))))) (pss_one (ps_ret pe_bl)) pss_nil)))
    (pss_one (ps_if (pt_not (pt_val (pe_cal c__law_same hr (by decide) rfl pass0 (pa_cons (pe_cal c__law_stands hr (by decide) rfl pass0 (pa_cons (pv 12) pa_nil)) (pa_cons (pe_cal c__law_stands hr (by decide) rfl pass0 (pa_cons (pe_ix ix_list (pv 5) (pv 3) (fun _ _ => rfl)) pa_nil)) pa_nil))))) (pss_one (ps_ret pe_bl)) pss_nil)))))
    (pss_one (ps_ret pe_bl))))))))))

end CB.Q

/-! lambdas kept as values: with or without one default, by captured cells -/
namespace LmX
open PySem PySem.Spec PyProof.Rows L2 LamX NdefX
/-- a lambda's words -/
structure LF where
  qual : Str
  params : Arguments
  body : Expr
  scope : Scope
  cl : List (Str × Addr)
  dv : Value
  c : Addr
abbrev LF.fd (F : LF) (doc pm ctv : Value) : FuncData := PySem.W.kdv_fn "<lambda>" F.qual F.params (.expr F.body) F.scope F.cl F.dv doc pm (.ref F.c) ctv
abbrev LF.nf (F : LF) : NF := ⟨"<lambda>", F.qual, F.params, [], F.scope, F.cl, F.c⟩
def LmO (f : Addr) (F : LF) : HO := .ext fun h => ∃ (od : Option Addr) (sl : Array (Option Value)) (doc pm ctv : Value), h.get? f = some (⟨.type "function", od, .func (F.fd doc pm ctv), sl⟩ : Obj)
theorem lmO_at {P : Program} {w : World} {H : Hp} {h : Heap} {f : Addr} {F : LF} (ok : HOk P w H h) (e : H f = some (LmO f F)) : ∃ (od : Option Addr) (sl : Array (Option Value)) (doc pm ctv : Value), h.get? f = some (⟨.type "function", od, .func (F.fd doc pm ctv), sl⟩ : Obj) := (ok f _ e).1
/-- its defaults -/
def DfA (H : Hp) (dv : Value) (dl : List V) : Prop := (dl = [] ∧ dv = .none) ∨ (dl ≠ [] ∧ ∃ d, dv = .ref d ∧ H d = some (.tup dl))
/-- what is known of a lambda at f: its object, its code, its default -/
structure LmAt (H : Hp) (f : Addr) (F : LF) (dl : List V) : Prop where
  fn : H f = some (LmO f F)
  co : H F.c = some (CodeO F.c F.qual)
  df : DfA H F.dv dl
theorem LmAt.keeps {H H' : Hp} {f : Addr} {F : LF} {dl : List V} (a : LmAt H f F dl) (k : ∀ b o, H b = some o → H' b = some o) : LmAt H' f F dl :=
  ⟨k _ _ a.fn, k _ _ a.co, a.df.imp id fun ⟨n, d, e1, e2⟩ => ⟨n, d, e1, k _ _ e2⟩⟩
theorem codeO_not {c : Addr} {q : Str} (ps : Array Value) : CodeO c q ≠ .tbl ps := codeO_ne ps
theorem lmO_not {f : Addr} {F : LF} (ps : Array Value) : LmO f F ≠ .tbl ps := fun z => by
  unfold LmO at z
  cases z
theorem LmAt.ext {H H' : Hp} {f : Addr} {F : LF} {dl : List V} (a : LmAt H f F dl) (k : ExtN H H') : LmAt H' f F dl :=
  ⟨k _ _ a.fn lmO_not, k _ _ a.co codeO_not, a.df.imp id fun ⟨n, d, e1, e2⟩ => ⟨n, d, e1, k _ _ e2 fun ps z => by cases z⟩⟩
section
variable {X : Cx} {pins : List (Addr × Obj)} {σ : L2.St} {H : Hp} {s : Shared}
/-- a lambda's object, laid on top -/
theorem inv_lm {F : LF} {o : Obj} {t' : Nat} {doc pm ctv : Value} (J : Inv X pins σ H s) (eo : o = { cls := .type "function", data := .func (F.fd doc pm ctv) }) :
    Inv X pins σ (upd H s.heap.objs.size (LmO s.heap.objs.size F)) { s with heap := s.heap.push o, toks := t' } := by
  subst eo
  have e : (s.heap.push ({ cls := .type "function", data := .func (F.fd doc pm ctv) } : Obj)).get? s.heap.objs.size = some ({ cls := .type "function", data := .func (F.fd doc pm ctv) } : Obj) := Heap.get?_push_size _ rfl
  exact J.laid (fun b u e => Heap.get?_push_of_some _ e) (Nat.le_refl _) ⟨⟨none, #[], doc, pm, ctv, e⟩, ⟨_, e⟩, fun g1 g2 ⟨x1, x2, x3, x4, x5, x6⟩ st => ⟨x1, x2, x3, x4, x5, st _ x6⟩⟩
theorem lm_make {T : List (Addr × Str)} {c P : Addr} {params : Arguments} {body : Expr} {scope : Scope} {pos : Pos} {dV : Value} {E Q : Value → Shared → Prop} (J : Inv X pins σ H s) (B : TabB X.base X.mg c P) (ec : X.env.code = .ref c)
    (inT : (P, X.env.qual ++ "<lambda>") ∈ T) (one : ∀ p ∈ T, p.1 = P → p.2 = X.env.qual ++ "<lambda>") (tabs : Tabs T H) (fr : ∀ y ∈ scope.names, y.2 = .free → ∃ a, X.env.cells.lookup y.1 = some a)
    (go : ∀ (f c' : Addr) (H1 : Hp) (s' : Shared), Inv X pins σ H1 s' → ExtN H H1 → Tabs T H1 → H f = none →
      H1 f = some (LmO f ⟨X.env.qual ++ "<lambda>", params, body, scope, cloFrom X.env.cells scope.names [], dV, c'⟩) → H1 c' = some (CodeO c' (X.env.qual ++ "<lambda>")) → Q (.ref f) s') :
    wpAny (model X.prog X.w) X.A (makeTail "<lambda>" (X.env.qual ++ "<lambda>") params (.expr body) scope X.env dV .none none pos pos.line) Q E s := by
  obtain ⟨ps, hP, tr, am⟩ := tabs _ inT
  have gP : s.heap.get? P = some { cls := .none, data := .fields ps } := J.hok P _ hP
  have bP : s.heap.BuiltinsAt X.mg P := B.bm.keeps J.bk
  have clo := closure_ok fr
  cases hc : codeAmong pos ps.toList with
  | some cv =>
    obtain ⟨c', e, hco⟩ := am pos cv hc
    subst e
    refine PySem.W.kdv_makeTailHit clo J.ok.glob (J.mod.glob.keeps J.bk) ec (B.code.keeps J.bk) gP tr hc bP fun ctv doc h' tk kp sz => ?_
    have J1 : Inv X pins σ H { s with heap := h', toks := tk } := J.kept kp
    have nF : H h'.objs.size = none := J1.hok.fresh (Nat.le_refl _)
    have J2 := inv_lm (F := ⟨X.env.qual ++ "<lambda>", params, body, scope, cloFrom X.env.cells scope.names [], dV, c'⟩) (t' := tk) (doc := doc) (pm := (X.mg "__name__").getD .none) (ctv := ctv) J1 rfl
    exact go _ c' _ _ J2 (fun b o e n => (upd_ne (ne_of_none e nF)).trans e) (tabs.ext fun b o e => (upd_ne (ne_of_none e nF)).trans e) nF upd_same ((upd_ne (ne_of_none hco nF)).trans hco)
  | none =>
    refine PySem.W.kdv_makeTail clo J.ok.glob (J.mod.glob.keeps J.bk) ec (B.code.keeps J.bk) gP tr hc B.gP bP fun c' ctv doc h' tk kp ge lt rec_ tb => ?_
    obtain ⟨c2, oc, vs, tk2, e2, g1, g2, g3⟩ := rec_
    cases e2
    have nC : H c' = none := J.hok.fresh ge
    have J1 := inv_table (t' := tk) (more := #[rawInt pos.line, rawInt pos.col, .ref c']) (h' := h') J hP (fun b o hb e => kp b o hb e) tb ge ⟨oc, vs, tk2, g1, g2, g3⟩
    generalize eH : upd (upd H P (.tbl (ps ++ #[rawInt pos.line, rawInt pos.col, .ref c']))) c' (CodeO c' (X.env.qual ++ "<lambda>")) = H1 at J1
    have at_c : H1 c' = some (CodeO c' (X.env.qual ++ "<lambda>")) := by
      rw [← eH]
      exact upd_same
    have at_P : H1 P = some (.tbl (ps ++ #[rawInt pos.line, rawInt pos.col, .ref c'])) := by
      rw [← eH, upd_ne (ne_of_none hP nC), upd_same]
    have at_o : ∀ b, b ≠ P → b ≠ c' → H1 b = H b := fun b n1 n2 => by
      rw [← eH, upd_ne n2, upd_ne n1]
    have hE : ExtN H H1 := fun b o e n => by
      rw [at_o b (fun z => n ps (Option.some.inj (e.symm.trans (by rw [z]; exact hP)))) (ne_of_none e nC)]
      exact e
    have T1 : Tabs T H1 := fun p hp => by
      by_cases hb : p.1 = P
      · rw [one p hp hb, hb]
        have eL : (ps ++ #[rawInt pos.line, rawInt pos.col, .ref c']).toList = ps.toList ++ [rawInt pos.line, rawInt pos.col, .ref c'] := by simp
        refine ⟨_, at_P, by rw [eL]; exact PySem.TriplesOk_snoc _ _ _ _ tr, fun p' cv hcv => ?_⟩
        rw [eL] at hcv
        exact (among_app _ tr hcv).elim (fun z => let ⟨c0, e1, e2⟩ := am p' cv z; ⟨c0, e1, hE _ _ e2 codeO_ne⟩) fun z => ⟨c', z, at_c⟩
      · obtain ⟨qs, a1, a2, a3⟩ := tabs p hp
        have a4 : H1 p.1 = some (.tbl qs) := by
          rw [at_o _ hb (ne_of_none a1 nC)]
          exact a1
        exact ⟨qs, a4, a2, fun p' cv hcv => let ⟨c0, e1, e2⟩ := a3 p' cv hcv; ⟨c0, e1, hE _ _ e2 codeO_ne⟩⟩
    have nF := J1.hok.fresh (Nat.le_refl _)
    have nF0 : H h'.objs.size = none := J.hok.fresh (Nat.le_trans ge (Nat.le_of_lt lt))
    have J2 := inv_lm (F := ⟨X.env.qual ++ "<lambda>", params, body, scope, cloFrom X.env.cells scope.names [], dV, c'⟩) (t' := tk) (doc := doc) (pm := (X.mg "__name__").getD .none) (ctv := ctv) J1 rfl
    exact go _ c' _ _ J2 (fun b o e n => (upd_ne (ne_of_none (hE b o e n) nF)).trans (hE b o e n)) (T1.ext fun b o e => (upd_ne (ne_of_none e nF)).trans e) nF0 upd_same ((upd_ne (ne_of_none at_c nF)).trans at_c)
end
/-! ### the expressions -/
/-- lambda: e -/
def tLm (T : List (Addr × Str)) (mk : Value → Addr → LF) : TE := fun σ H Q => Tabs T H ∧ ∀ (f c' : Addr) (H1 : Hp), ExtN H H1 → Tabs T H1 → H f = none → LmAt H1 f (mk .none c') [] → Q (.ref f) H1
/-- lambda a=0: e -/
def tLmD (T : List (Addr × Str)) (z : Int) (mk : Value → Addr → LF) : TE := fun σ H Q => Tabs T H ∧ ∀ (f c' d : Addr) (H1 : Hp), ExtN H H1 → Tabs T H1 → H f = none → LmAt H1 f (mk (.ref d) c') [V.int z] → Q (.ref f) H1
/-- the words of a lambda that has a name of its own in the proof -/
def LF.of (q : Str) (params : Arguments) (body : Expr) (scope : Scope) (cl : List (Str × Addr)) (dv : Value) (c : Addr) : LF := ⟨q, params, body, scope, cl, dv, c⟩
section
variable {X : Cx}
theorem pe_lm {T : List (Addr × Str)} {c P : Addr} {params : Arguments} {body : Expr} {scope : Scope} {pos : Pos} (B : TabB X.base X.mg c P) (ec : X.env.code = .ref c) (inT : (P, X.env.qual ++ "<lambda>") ∈ T) (one : ∀ p ∈ T, p.1 = P → p.2 = X.env.qual ++ "<lambda>")
    (fr : ∀ y ∈ scope.names, y.2 = .free → X.env.scope.names.lookup y.1 = some .cell ∨ X.env.scope.names.lookup y.1 = some .free) (dfl : defaultsOf params X.env = ([], [])) :
    PE X (.Lambda params body scope pos) (tLm T (LF.of (X.env.qual ++ "<lambda>") params body scope (cloFrom X.env.cells scope.names []))) := by
  refine ⟨fun pins s σ H Q J h => ?_⟩
  obtain ⟨tabs, h⟩ := h
  refine PySem.W.kla_eval dfl ?_
  rw [makeFunction_eq]
  simp only [List.zip_nil_right, List.filterMap_nil, List.isEmpty_nil, if_true, pure_bind]
  exact lm_make J B ec inT one tabs (fun y hy e => (fr y hy e).elim (fun z => J.ok.has _ (.inl z)) fun z => J.ok.has _ (.inr z)) fun f c' H1 s' J1 e1 t1 n1 a1 a2 => ⟨.ref f, H1, J1, rfl, h f c' H1 e1 t1 n1 ⟨a1, a2, .inl ⟨rfl, rfl⟩⟩⟩
theorem pe_lmD {T : List (Addr × Str)} {c P : Addr} {params : Arguments} {body : Expr} {scope : Scope} {pos p1 : Pos} {z : Int} {j : Nat} (B : TabB X.base X.mg c P) (ec : X.env.code = .ref c) (inT : (P, X.env.qual ++ "<lambda>") ∈ T) (one : ∀ p ∈ T, p.1 = P → p.2 = X.env.qual ++ "<lambda>")
    (fr : ∀ y ∈ scope.names, y.2 = .free → X.env.scope.names.lookup y.1 = some .cell ∨ X.env.scope.names.lookup y.1 = some .free) (ed : params.defaults = [.Constant (.int z) j p1]) (ek : params.kw_defaults = []) :
    PE X (.Lambda params body scope pos) (tLmD T z (LF.of (X.env.qual ++ "<lambda>") params body scope (cloFrom X.env.cells scope.names []))) := by
  refine ⟨fun pins s σ H Q J h => ?_⟩
  obtain ⟨tabs, h⟩ := h
  refine PySem.W.kdv_lam (by rw [ed]; rfl) ek ?_
  rw [ed]
  refine PySem.W.kdv_all1 (thn ((pe_int (X := X) (i := z)).run pins s σ H (fun v H' => v = .int z ∧ H' = H) J ⟨rfl, rfl⟩) fun u s1 ⟨v, H1, J1, r1, q1, q2⟩ => ?_)
  subst q1
  rw [q2] at J1
  refine PySem.W.kdv_all0 ?_
  rw [makeFunction_eq]
  simp only [List.zip_nil_right, List.filterMap_nil, List.isEmpty_nil, if_true, pure_bind, List.isEmpty_cons, Bool.false_eq_true, if_false]
  refine wpAny_bind (wpAny_newTextTuple ?_)
  have nd : H s1.heap.objs.size = none := J1.hok.fresh (Nat.le_refl _)
  have J2 : Inv X pins σ (upd H s1.heap.objs.size (.tup [V.int z])) { s1 with heap := s1.heap.push { cls := .type "tuple", data := .seq [u].toArray }, toks := s1.toks } :=
    J1.laid (fun b u e => Heap.get?_push_of_some _ e) (Nat.le_refl _) ⟨by show 1 ≤ sizeLine; decide, [u], .cons r1 .nil, ⟨_, Heap.get?_push_size _ rfl, rfl, _, rfl⟩⟩
  have ex : ∀ b o, H b = some o → upd H s1.heap.objs.size (.tup [V.int z]) b = some o := fun b o e => (upd_ne (ne_of_none e nd)).trans e
  refine lm_make J2 B ec inT one (tabs.ext ex) (fun y hy e => (fr y hy e).elim (fun z => J.ok.has _ (.inl z)) fun z => J.ok.has _ (.inr z)) fun f c' H1 s' J3 e1 t1 n1 a1 a2 => ⟨.ref f, H1, J3, rfl, h f c' s1.heap.objs.size H1 ((ExtN.of ex).trans e1) t1 (upd_none n1) ⟨a1, a2, .inr ⟨by simp, _, rfl, e1 _ _ upd_same (fun ps z => by cases z)⟩⟩⟩
end
/-! ### the calls -/
/-- the promise of the lambda F: sp ws, ws what its cells hold at the call -/
structure LOk (P : Program) (w : World) (K : PySem.W.Frag) (mg : Str → Option Value) (base : Heap) (CX : CXT) (k : Nat) (F : LF) (dl : List V) (fr : List Str) (sp : List (Option V) → Hp → VK → XK → Prop) : Prop where
  run : ∀ (f : Addr) (A : Around) (outer : List Env) (s : Shared) (H : Hp) (ws : List (Option V)) (Q : VK) (E : XK), Room k A → Env0 P w K mg base A outer s H → LmAt H f F dl → CellsAt F.cl fr ws s.heap H → sp ws H Q E →
    codeAny (model P w) A (.call (.ref f) ⟨[], []⟩) (CR CX outer P w H s Q E) s
theorem lok_of {CX : CXT} {P : Program} {w : World} {K : PySem.W.Frag} {mg : Str → Option Value} {base : Heap} {N ps fr : List Str} {F : LF} {dl : List V} {k : Nat} {sp : List (Option V) → Hp → VK → XK → Prop} (S : NScope N ps fr F.scope) (hl : dl.length = ps.length)
    (hb0 : dl = [] → ∀ doc pm ctv : Value, F.dv = .none → bindArgs (F.fd doc pm ctv) ⟨[], []⟩ = pure [])
    (hb1 : dl ≠ [] → ∀ (d : Addr) (u doc pm ctv : Value), F.dv = .ref d → ∃ g, bindArgs (F.fd doc pm ctv) ⟨[], []⟩ = seqItems? (.ref d) >>= g ∧ ∀ us : List Value, us.length = dl.length → g (some us.toArray) = pure (ps.zip us))
    (body : ∀ (f : Addr) (A : Around) (outer : List Env) (s : Shared) (H : Hp) (ws : List (Option V)) (Q : VK) (E : XK), Room k (A.deeper (envF F.nf f s.heap.objs.size)) → ws.length = fr.length → sp ws H Q E →
      ∃ t, PE (ncx CX P w K mg base N F.nf f A outer s H E) F.body t ∧ t (startF N dl ws) H Q) : LOk P w K mg base CX (k + 1) F dl fr sp := by
  refine ⟨fun f A outer s H ws Q E hr e0 at_ C hsp => ?_⟩
  have lim : s.heap.NoLimit := e0.mod.nolimit.keeps fun b o e => (e0.bs b o e).1
  obtain ⟨od, sl, doc, pm, ctv, ho⟩ := lmO_at e0.hok at_.fn
  obtain ⟨us, hus, hbind⟩ : ∃ us, Vals dl us ∧ BindsTo s (F.fd doc pm ctv) ⟨[], []⟩ (ps.zip us) := by
    rcases at_.df with ⟨e1, e2⟩ | ⟨ne, d, e1, e2⟩
    · refine ⟨[], by rw [e1]; exact .nil, ?_⟩
      have e3 : ps.zip ([] : List Value) = [] := List.zip_nil_right
      rw [e3]
      exact .of_eq (hb0 e1 doc pm ctv e2)
    · obtain ⟨_, its, r, o, h1, h2, n, h3⟩ := e0.hok d _ e2
      obtain ⟨g, g1, g2⟩ := hb1 ne d .none doc pm ctv e1
      exact ⟨its, r, BindsTo.of_defaults (T := d) e1 h1 h3 (by rw [show (F.fd doc pm ctv).defaults = F.dv from rfl, e1]; exact g1) (g2 its r.length.symm)⟩
  refine PySem.W.kla_callFunE (fd := F.fd doc pm ctv) (body := F.body) hr.depth ho rfl S.co S.gen rfl (codeO_at e0.hok at_.co) (hbind _ _ _ _ ?_)
  refine wpAny_newFunctionEnv S.nocell (fun ⟨n, _⟩ hy => S.par n (List.of_mem_zip hy).1) (fun h₁ hns hsb => ⟨lim.fresh _ hsb, ?_⟩) S.kind
  show codeAny _ _ (.expr F.body (envF F.nf f s.heap.objs.size)) _ _
  have kp : ∀ b o, s.heap.get? b = some o → h₁.get? b = some o := fun b o e => hsb.extBut b o (Nat.ne_of_lt (Heap.lt_size e)) (Heap.get?_push_of_some _ e)
  obtain ⟨t, ht, hq⟩ := body f A outer s H ws Q E (hr.deeper _) C.len hsp
  have J : Inv (ncx CX P w K mg base N F.nf f A outer s H E) [] (startF N dl ws) H { s with heap := h₁, toks := s.toks + (ps.zip us).length } := inv_startN S hr.hd e0 hl hus C hns kp
  refine PySem.W.kla_codeExpr (wpAny_mono (ht.run [] _ (startF N dl ws) H _ J hq) (fun v s' hs => ?_) fun e s' hs => hs)
  obtain ⟨w', H', J', rv, q⟩ := hs
  exact ⟨w', H', J'.os, J'.bare, J'.base, J'.hok, rv, q⟩
/-- what the cells hold they hold still, behind whatever ran since -/
theorem CellsAt.moved {cl : List (Str × Addr)} {fr : List Str} {ws : List (Option V)} {fs ex : List Addr} {H H' : Hp} {h h' : Heap} (C : CellsAt cl fr ws h H) (u : Un fs ex H H' h h') (out : ∀ y c, cl.lookup y = some c → c ∉ ex) : CellsAt cl fr ws h' H' := by
  have kp : ∀ y c, cl.lookup y = some c → ∀ v, h.IsCell c v → h'.IsCell c v := fun y c e v ⟨o, g1, g2⟩ =>
    let ⟨sl, q⟩ := u.any g1 (C.all y c e).1 (out y c e)
    ⟨_, q, g2⟩
  refine ⟨C.len, fun y c e => ?_, C.inj, fun i y e => ?_⟩
  · obtain ⟨n, v, z⟩ := C.all y c e
    have z' := kp y c e v z
    obtain ⟨o, g1, _⟩ := z
    exact ⟨u.free c o g1 n (out y c e), v, z'⟩
  · obtain ⟨c, hc, hv⟩ := C.has i y e
    exact ⟨c, hc, fun v ev => let ⟨x, r, z⟩ := hv v ev; ⟨x, r, kp y c hc _ z⟩⟩
section
variable {X : Cx}
/-- a(), a the slot i that holds the lambda; the cells are told of the heap at the def's entry; what it raises is told to W -/
theorem pe_lmcall {F : LF} {dl : List V} {fr : List Str} {ws : List (Option V)} {sp : List (Option V) → Hp → VK → XK → Prop} {f : Addr} {j k i : Nat} {a : Str} {W : WX} {p1 p2 : Pos} (L : LOk X.prog X.w X.K X.mg X.base (L2.CX X.prog X.w) k F dl fr sp) (hr : Room j X.A) (hk : k ≤ j) (tk : Takes X W)
    (C : CellsAt F.cl fr ws X.s_0.heap X.H_0) (hex : X.ex = []) (hN : X.N[i]? = some a) (hv : Vis X.env.scope a) (hd : (a == ("__debug__" : Str)) = false := by decide) (hcd : (a == ("__classdict__" : Str)) = false := by decide) :
    PE X (.Call (.Name a p1) [] [] p2) (fun σ H Q => σ[i]? = some (some (.ref f)) ∧ LmAt H f F dl ∧ sp ws H Q fun cls d H' => W cls d σ H') := by
  refine ⟨fun pins s σ H Q I h => ?_⟩
  obtain ⟨hs, at_, q⟩ := h
  refine wpAny_Call_Name_kw (thn ((pe_var (pos := p1) hN hv hd hcd).run pins s σ H (fun v H1 => v = .ref f ∧ H1 = H) I ⟨.ref f, hs, rfl, rfl⟩) fun u s1 ⟨v, H1, I1, r1, q1⟩ => ?_)
  obtain ⟨ev, eH⟩ := q1
  subst ev
  rw [eH] at I1
  obtain rfl : u = Value.ref f := r1
  obtain ⟨od, sl, doc, pm, ctv, ho⟩ := lmO_at I1.hok at_.fn
  refine PySem.W.callWith_F0 ⟨_, od, _, sl, ho⟩ ?_
  refine wpAny_call (codeAny_mono (L.run f X.A X.stack s1 H ws Q _ (hr.mono hk) I1.env0 at_ (CellsAt.moved C I1.base fun y c e => by rw [hex]; simp) q) fun r s' hq => ?_)
  cases r with
  | error e => exact tk e s' (XE.of_call I1 (fun cls d H' x => x) hq)
  | ok fl =>
    cases fl with
    | ret u => exact I1.after hq
    | next => exact False.elim hq
    | brk => exact False.elim hq
    | cont => exact False.elim hq
end
end LmX

/-! a comprehension whose element is told what stood when its block began -/
namespace LmX
open PySem PySem.Spec PyProof.Rows L2 LamX NdefX
/-- the reading: the element's one knows the slots of the def that holds the comprehension -/
def tLcAt (wi : TI) (g : TG) (te : L2.St → TE) (vs : List Nat) : TE := fun σ H Q => tLc wi g tYes (te σ) vs σ H Q
section
variable {X : Cx}
/-- the block's own context -/
abbrev blkAt (X : Cx) (s : Shared) (H : Hp) (sc : Scope) (fp : List Addr) : Cx := X.blk s H sc (compEnvC sc (cellsFrom (s.heap.objs.size + 1) sc.names (cloFrom X.env.cells sc.names [])) s.heap.objs.size X.env) fp
structure ElAt (X : Cx) (elt : Expr) (sc : Scope) (te : L2.St → TE) : Prop where
  run : ∀ (pins : List (Addr × Obj)) (σ : L2.St) (s : Shared) (H : Hp) (fp : List Addr), Inv X pins σ H s → (∀ b ∈ fp, FpOk X pins H b) → PE (blkAt X s H sc fp) elt (te σ)
theorem pe_lcAt {elt tg iter : Expr} {sc : Scope} {own : List (Str × Nat)} {pos : Pos} {wi : TI} {g : TG} {te : L2.St → TE} (calm : X.calm = true) (nd : X.N.Nodup) (hi : PI X tg iter wi) (ok : BlkOk X.N X.env.scope sc own)
    (hg : ∀ (s : Shared) (H : Hp) (fp : List Addr), PG (blkAt X s H sc fp) tg g) (he : ElAt X elt sc te) (hs : ∀ x, foldedSetIterable iter X.env x = pure x := by intro _; rfl) :
    PE X (.ListComp elt [⟨tg, iter, [], 0⟩] sc pos) (tLcAt wi g te (own.map (·.2))) := by
  refine ⟨fun pins s σ H Q J h => ?_⟩
  rw [eval_ListComp]
  have look : ∀ y ∈ sc.names, y.2 = .free → ∃ a, X.env.cells.lookup y.1 = some a := fun y hy e => J.ok.has _ (ok.free y hy e)
  refine wpAny_comprehension_free (use := none) rfl hs (closure_ok look) ok.kind (fun y hy e => (ok.uniq y hy).trans (congrArg some e)) ?_
  refine thn (hi.run pins s σ H _ J h) fun xv sA hA => thn hA fun itv sB hB => ?_
  obtain ⟨it, fp, tn, T, HB, rfl, JB, tu, tB, fB, plan⟩ := hB
  refine wpAny_newObj_type (newEnv_comp ?_) (by show 0 ≤ sizeLine; decide)
  -- the list is there
  have nD : HB sB.heap.objs.size = none := JB.hok.fresh (Nat.le_refl _)
  obtain ⟨W, ⟨m0, w0⟩, turn⟩ := plan _ nD
  have JC : Inv X pins σ (upd HB sB.heap.objs.size (.lst [])) { sB with heap := sB.heap.push { cls := .type "list", data := .seq ([] : List Value).toArray } } :=
    JB.laid (t' := sB.toks) (fun b o e => Heap.get?_push_of_some _ e) (Nat.le_refl _) ⟨Nat.zero_le _, [], 0, .nil, Heap.get?_push_size _ rfl⟩
  have fC : ∀ b ∈ fp, FpOk X pins (upd HB sB.heap.objs.size (.lst [])) b ∧ b < (sB.heap.push { cls := .type "list", data := .seq ([] : List Value).toArray }).objs.size := fun b hb => by
    obtain ⟨o, eo, _⟩ := tu.obj _ _ tB b hb
    have lt := Heap.lt_size eo
    refine ⟨⟨(upd_ne (Nat.ne_of_lt lt)).trans (fB b hb).1, (fB b hb).2⟩, ?_⟩
    rw [Heap.size_push]
    exact Nat.lt_succ_of_lt lt
  have tC : tn 0 (sB.heap.push { cls := .type "list", data := .seq ([] : List Value).toArray }) := tu.keep _ _ _ tB fun b _ o e => Heap.get?_push_of_some _ e
  generalize eC : ({ sB with heap := sB.heap.push { cls := .type "list", data := .seq ([] : List Value).toArray } } : Shared) = sC at JC
  have hC : sB.heap.push { cls := .type "list", data := .seq ([] : List Value).toArray } = sC.heap := by rw [← eC]
  have atC : ({ sB with heap := sB.heap.push { cls := .type "list", data := .seq #[] } } : Shared) = sC := by rw [← eC]
  rw [hC] at fC tC
  generalize sB.heap.objs.size = Dl at *
  generalize upd HB Dl (.lst []) = HC at JC fC w0
  have pe : PE (X.blk sC HC sc (compEnvC sc (cellsFrom (sC.heap.objs.size + 1) sc.names (cloFrom X.env.cells sc.names [])) sC.heap.objs.size X.env) fp) elt (te σ) := he.run pins σ sC HC fp JC fun b hb => (fC b hb).1
  have pg : PG (X.blk sC HC sc (compEnvC sc (cellsFrom (sC.heap.objs.size + 1) sc.names (cloFrom X.env.cells sc.names [])) sC.heap.objs.size X.env) fp) tg g := hg sC HC fp
  have J0 := block_start JC ok nd fC
  -- the block
  generalize eB : compEnvC sc (cellsFrom (sC.heap.objs.size + 1) sc.names (cloFrom X.env.cells sc.names [])) sC.heap.objs.size X.env = be at pe pg J0
  have lB : be.locals = sC.heap.objs.size := by rw [← eB]; rfl
  have tS : tn 0 ({ sC with heap := pushCells (sC.heap.push { cls := .type "dict", data := .dict #[] }) sc.names } : Shared).heap := tu.keep _ _ _ tC fun b _ o e => pushCells_keeps _ _ _ _ (Heap.get?_push_of_some _ e)
  suffices go : codeAny (model X.prog X.w) X.A (.compLoop (.ListComp elt [⟨tg, iter, [], 0⟩] sc pos) 0 (.ref it) (.ref Dl) be) (compPost (model X.prog X.w) X.A X.xe none (EP X pins σ Q) (.ref Dl) sC.heap.objs.size) { sC with heap := pushCells (sC.heap.push { cls := .type "dict", data := .dict #[] }) sc.names } by
    have r := codeAny_compStart_list go (tu.self X.A 0 _ _ _ tS go)
    rw [← eB] at r
    exact r
  generalize ({ sC with heap := pushCells (sC.heap.push { cls := .type "dict", data := .dict #[] }) sc.names } : Shared) = sS at J0 tS ⊢
  have own_fp : ∀ {τ : L2.St} {H' : Hp} {s' : Shared}, Inv (X.blk sC HC sc be fp) [] τ H' s' → (∀ b ∈ fp, H' b = none) → ∀ b ∈ fp, FpOk (X.blk sC HC sc be fp) [] H' b := fun {τ H' s'} K n b hb => by
    have x1 := K.ok.exf b hb
    have x2 := K.ok.exfs b hb
    exact ⟨n b hb, x1.1, x2, .inl hb, x1.2, fun p hp => nomatch (show p ∈ ([] : List (Addr × Obj)) from hp)⟩
  refine compLoop_any (fun n s' => ∃ i H', (Inv (X.blk sC HC sc be fp) [] (wipe σ (own.map (·.2))) H' s' ∧ W i n H') ∧ tn i s'.heap ∧ ∀ b ∈ fp, H' b = none) (fun n s1 hI => ?_) m0 ⟨0, HC, ⟨J0, w0⟩, tS, fun b hb => (fC b hb).1.1⟩
  obtain ⟨i, H1, ⟨J1, w1⟩, t1, n1⟩ := hI
  have f1 := own_fp J1 n1
  rcases turn i n H1 w1 with ⟨stop, fin⟩ | ⟨more, Nx, less, step⟩
  · refine thnF (tu.done (X.blk sC HC sc be fp) rfl rfl rfl calm i [] s1 _ H1 (fun _ _ => False) J1 f1 t1 stop) fun r s2 ⟨er, J2⟩ => ?_
    rw [er]
    have J3 : Inv X pins σ H1 s2 := JC.call' (ch := fp) J2.os J2.base J2.hok J2.bare fun b hb => by
      obtain ⟨_, a2, _, a4, a5, a6⟩ := (fC b hb).1
      exact ⟨a4, a2, a5, a6⟩
    obtain ⟨m, ns, _⟩ := J2.loc
    have ns' : s2.heap.Ns sC.heap.objs.size m := by
      rw [← lB]
      exact ns
    have gone : H1 sC.heap.objs.size = none := by
      rw [← lB]
      exact J2.free
    obtain ⟨y0, y1, y2, y3, y4, y5⟩ := JC.fpOk (Nat.le_refl _) gone
    exact ⟨m, ns', fun h'' sb => ⟨.ref Dl, H1, J3.turned (t' := s2.toks) (fun b o hb e => (sb.2 b hb).trans e) y0 y1 y3 y4 y5, rfl, fin⟩⟩
  · refine thnF (tu.item (X.blk sC HC sc be fp) rfl rfl rfl calm i [] s1 _ H1 (fun _ _ => False) J1 f1 t1 more) fun r s2 ⟨u, er, h2⟩ => ?_
    rw [er]
    refine thnF h2 fun _ s3 ⟨x, H3, J3, r3, y3, t3, n3⟩ => ?_
    have o3 := tu.obj _ _ t3
    refine thnF (pg.run _ s3 _ H3 x u _ (J3.pinned (own_fp J3 n3) o3) r3 (step x H3 y3)) fun _ s4 ⟨τ, H4, J4, e4, q4⟩ => ?_
    refine thnF ((pts_nil (X := X.blk sC HC sc be fp)).run _ s4 τ H4 _ J4 q4) fun b s5 ⟨H5, J5, q5⟩ => ?_
    have turned : ∀ (s7 : Shared) (H7 : Hp), Inv (X.blk sC HC sc be fp) ([] ++ pinsAt fp s3.heap) τ H7 s7 → Nx H7 → ∃ m, m < n ∧ ∃ i H', (Inv (X.blk sC HC sc be fp) [] (wipe σ (own.map (·.2))) H' s7 ∧ W i m H') ∧ tn i s7.heap ∧ ∀ b ∈ fp, H' b = none := fun s7 H7 J7 nx => by
      obtain ⟨m', lt, w7⟩ := less _ nx
      have pin7 : ∀ b ∈ fp, ∀ o, s3.heap.get? b = some o → s7.heap.get? b = some o ∧ H7 b = none := fun b hb o e => by
        have z := J7.pin (b, o) (List.mem_append_right _ (List.mem_append_right _ (mem_pinsAt hb e)))
        exact ⟨z.1, z.2.1⟩
      refine ⟨m', lt, i + 1, _, ⟨(J7.unpinned (pins := [])).weak (by rw [← e4, wipe_length]) fun j v' e => ?_, w7⟩, tu.keep _ _ _ t3 fun b hb o e => (pin7 b hb o e).1, fun b hb => ?_⟩
      · rw [← e4] at e
        exact (wipe_some e).1
      · obtain ⟨o, e, _⟩ := o3 b hb
        exact (pin7 b hb o e).2
    cases b with
    | false => exact turned _ _ J5 q5
    | true =>
      rw [if_pos rfl] at q5 ⊢
      refine thnF (pe.run _ s5 τ H5 _ J5 q5) fun z s6 ⟨v, H6, J6, r6, acc, d6, l6, nx⟩ => ?_
      exact app_ok (X := X.blk sC HC sc be fp) J6 d6 l6 r6 fun s7 J7 => turned _ _ J7 nx
end
end LmX

namespace CB.Q
open PySem PySem.Spec PyProof.Rows L2 LmX NdefX LamX CB2 CB.N
/-! ### what the top has written -/
def eaK (K : PySem.W.Frag) (n : Str) : Addr := match PySem.W.nsIn K mainGlobals n with
  | some (some (.ref a)) => a
  | _ => 0
def vE : List Value := [.type "ValueError", .type "Exception", .type "BaseException", .type "object"]
def refAt (K : PySem.W.Frag) (n : Str) : Bool := match PySem.W.nsIn K mainGlobals n with
  | some (some (.ref _)) => true
  | _ => false
def Rx : List Str := ["BadRule", "BadSize", "BadPage", "NoRoom", "BadName", "NoPoint"]
def oneX (K : PySem.W.Frag) (r : Str) : Bool := refAt K r && (PySem.W.excIn K (eaK K r) vE "ValueError.__new__" && (PySem.W.keepIn K (.ref (eaK K r)) && ((PySem.W.subIn K (.ref (eaK K r)) (.type "BaseException") == some true) && (PySem.W.typeIn K (.ref (eaK K r)) == some (.type "type")))))
def xB (K : PySem.W.Frag) : Bool := Rx.all (oneX K)
def clsFs : List Str := ["rule", "size", "state", "staying", "asked", "missed", "points"]
def clB (K : PySem.W.Frag) (C : Addr) : Bool := PySem.W.plainGet K C Str.empty && (PySem.W.hasDictIn K C && (PySem.W.plainOver K C && ((PySem.W.findIn K (.ref C) "__setattr__" == some (some (.builtin "object.__setattr__"))) && (clsFs.all fun f => PySem.W.findIn K (.ref C) f == some none))))
def bnames : List Str := ["len", "list", "tuple", "sorted", "max", "min", "range", "enumerate", "isinstance", "bool", "int", "ValueError"]
def noneB (K : PySem.W.Frag) : Bool := bnames.all fun x => PySem.W.nsIn K mainGlobals x == some none
theorem refAt_of {K : PySem.W.Frag} {h : Heap} {mg : Str → Option Value} {n : Str} (X : K.In h) (G : h.Ns mainGlobals mg) (e : refAt K n = true) : mg n = some (.ref (eaK K n)) := by
  unfold refAt at e
  unfold eaK
  split at e
  · rename_i a q
    exact PySem.W.mg_of X G q
  · cases e
theorem xf_of {K : PySem.W.Frag} {h : Heap} {mg : Str → Option Value} (X : K.In h) (G : h.Ns mainGlobals mg) (e : xB K = true) : ∀ r ∈ Rx, XF K mg r (eaK K r) := fun r hr => by
  unfold xB at e
  rw [List.all_eq_true] at e
  have z := e r hr
  simp only [oneX, Bool.and_eq_true, beq_iff_eq] at z
  exact ⟨z.2.1, refAt_of X G z.1, z.2.2.1, z.2.2.2.1, z.2.2.2.2⟩
theorem cl_of {K : PySem.W.Frag} {C : Addr} (e : clB K C = true) : CB.N.ClsC K C := by
  simp only [clB, Bool.and_eq_true, beq_iff_eq, List.all_eq_true] at e
  obtain ⟨e1, e2, e3, e4, e5⟩ := e
  exact ⟨⟨e1, e2, e3, e4⟩, e5 _ (by decide), e5 _ (by decide), e5 _ (by decide), e5 _ (by decide), e5 _ (by decide), e5 _ (by decide), e5 _ (by decide)⟩
theorem bl_of {K : PySem.W.Frag} {h : Heap} {mg : Str → Option Value} (X : K.In h) (G : h.Ns mainGlobals mg) (e : noneB K = true) : Bl mg ∧ mg "ValueError" = none := by
  unfold noneB at e
  simp only [List.all_eq_true, beq_iff_eq] at e
  have z : ∀ x ∈ bnames, mg x = none := fun x hx => PySem.W.mg_none_of X G (e x hx)
  exact ⟨⟨z _ (by decide), z _ (by decide), z _ (by decide), z _ (by decide), z _ (by decide), z _ (by decide), z _ (by decide), z _ (by decide), z _ (by decide), z _ (by decide), z _ (by decide)⟩, z _ (by decide)⟩
theorem sqT_K {K : PySem.W.Frag} {a : Addr} {od : Option Addr} {its : List Value} {n : Nat} {sl : Array (Option Value)} {xs : List V} (e : K.lookup a = some ⟨.type "tuple", od, .seq its.toArray n, sl⟩) (hl : its.length ≤ 1000) (r : Vals xs its) (H : Hp) : SqT K H a xs :=
  .inr ⟨_, its.toArray, n, e, rfl, rfl, by rw [List.size_toArray]; exact Nat.le_trans hl (by decide), by simpa using r⟩

def kxB (K : PySem.W.Frag) : Bool := kinds.all fun c => PySem.W.exmOne K (.ref (eaK K c)) (.ref (eaK K "CacheError")) == some true

theorem all_mk {l : PySem.W.OpenLaw} {w : World} {K : PySem.W.Frag} {h : Heap} {mg : Str → Option Value} {fa : Addr} (X : K.In h) (G0 : h.Ns mainGlobals mg) (hfa : mg "law" = some (.ref fa))
    {f_first_mark : Addr} {od_first_mark an_first_mark : Option Addr} {sl_first_mark : Array (Option Value)} {oc_first_mark kV_first_mark dc_first_mark pm_first_mark cd_first_mark ct_first_mark : Value}
    {f_place_of : Addr} {od_place_of an_place_of : Option Addr} {sl_place_of : Array (Option Value)} {oc_place_of kV_place_of dc_place_of pm_place_of cd_place_of ct_place_of : Value}
    {f_rows_asked : Addr} {od_rows_asked an_rows_asked : Option Addr} {sl_rows_asked : Array (Option Value)} {oc_rows_asked kV_rows_asked dc_rows_asked pm_rows_asked cd_rows_asked ct_rows_asked : Value}
    {f_place_to_go : Addr} {od_place_to_go an_place_to_go : Option Addr} {sl_place_to_go : Array (Option Value)} {oc_place_to_go kV_place_to_go dc_place_to_go pm_place_to_go cd_place_to_go ct_place_to_go : Value}
    {f_swept : Addr} {od_swept an_swept : Option Addr} {sl_swept : Array (Option Value)} {oc_swept kV_swept dc_swept pm_swept cd_swept ct_swept : Value}
    {f_searched : Addr} {od_searched an_searched : Option Addr} {sl_searched : Array (Option Value)} {oc_searched kV_searched dc_searched pm_searched cd_searched ct_searched : Value}
    {f_step : Addr} {od_step an_step : Option Addr} {sl_step : Array (Option Value)} {oc_step kV_step dc_step pm_step cd_step ct_step : Value}
    {f_pages_held : Addr} {od_pages_held an_pages_held : Option Addr} {sl_pages_held : Array (Option Value)} {oc_pages_held kV_pages_held dc_pages_held pm_pages_held cd_pages_held ct_pages_held : Value}
    {f_without : Addr} {od_without an_without : Option Addr} {sl_without : Array (Option Value)} {oc_without kV_without dc_without pm_without cd_without ct_without : Value}
    {f_let_go : Addr} {od_let_go an_let_go : Option Addr} {sl_let_go : Array (Option Value)} {oc_let_go kV_let_go dc_let_go pm_let_go cd_let_go ct_let_go : Value}
    {f_is_number : Addr} {od_is_number an_is_number : Option Addr} {sl_is_number : Array (Option Value)} {oc_is_number kV_is_number dc_is_number pm_is_number cd_is_number ct_is_number : Value}
    {f_check_rule : Addr} {od_check_rule an_check_rule : Option Addr} {sl_check_rule : Array (Option Value)} {oc_check_rule kV_check_rule dc_check_rule pm_check_rule cd_check_rule ct_check_rule : Value}
    {f_check_size : Addr} {od_check_size an_check_size : Option Addr} {sl_check_size : Array (Option Value)} {oc_check_size kV_check_size dc_check_size pm_check_size cd_check_size ct_check_size : Value}
    {f_check_page : Addr} {od_check_page an_check_page : Option Addr} {sl_check_page : Array (Option Value)} {oc_check_page kV_check_page dc_check_page pm_check_page cd_check_page ct_check_page : Value}
    {f_check_name : Addr} {od_check_name an_check_name : Option Addr} {sl_check_name : Array (Option Value)} {oc_check_name kV_check_name dc_check_name pm_check_name cd_check_name ct_check_name : Value}
    {f_C__held_place : Addr} {od_C__held_place an_C__held_place : Option Addr} {sl_C__held_place : Array (Option Value)} {oc_C__held_place kV_C__held_place dc_C__held_place pm_C__held_place cd_C__held_place ct_C__held_place : Value}
    {f_C__set_free : Addr} {od_C__set_free an_C__set_free : Option Addr} {sl_C__set_free : Array (Option Value)} {oc_C__set_free kV_C__set_free dc_C__set_free pm_C__set_free cd_C__set_free ct_C__set_free : Value}
    {f_C___init__ : Addr} {od_C___init__ an_C___init__ : Option Addr} {sl_C___init__ : Array (Option Value)} {oc_C___init__ kV_C___init__ dc_C___init__ pm_C___init__ cd_C___init__ ct_C___init__ : Value}
    {f_C_ask : Addr} {od_C_ask an_C_ask : Option Addr} {sl_C_ask : Array (Option Value)} {oc_C_ask kV_C_ask dc_C_ask pm_C_ask cd_C_ask ct_C_ask : Value}
    {f_C_pin : Addr} {od_C_pin an_C_pin : Option Addr} {sl_C_pin : Array (Option Value)} {oc_C_pin kV_C_pin dc_C_pin pm_C_pin cd_C_pin ct_C_pin : Value}
    {f_C_unpin : Addr} {od_C_unpin an_C_unpin : Option Addr} {sl_C_unpin : Array (Option Value)} {oc_C_unpin kV_C_unpin dc_C_unpin pm_C_unpin cd_C_unpin ct_C_unpin : Value}
    {f_C_drop : Addr} {od_C_drop an_C_drop : Option Addr} {sl_C_drop : Array (Option Value)} {oc_C_drop kV_C_drop dc_C_drop pm_C_drop cd_C_drop ct_C_drop : Value}
    {f_C_resize : Addr} {od_C_resize an_C_resize : Option Addr} {sl_C_resize : Array (Option Value)} {oc_C_resize kV_C_resize dc_C_resize pm_C_resize cd_C_resize ct_C_resize : Value}
    {f_C_holds : Addr} {od_C_holds an_C_holds : Option Addr} {sl_C_holds : Array (Option Value)} {oc_C_holds kV_C_holds dc_C_holds pm_C_holds cd_C_holds ct_C_holds : Value}
    {f_C_order : Addr} {od_C_order an_C_order : Option Addr} {sl_C_order : Array (Option Value)} {oc_C_order kV_C_order dc_C_order pm_C_order cd_C_order ct_C_order : Value}
    {f_C_pins : Addr} {od_C_pins an_C_pins : Option Addr} {sl_C_pins : Array (Option Value)} {oc_C_pins kV_C_pins dc_C_pins pm_C_pins cd_C_pins ct_C_pins : Value}
    {f_C_counts : Addr} {od_C_counts an_C_counts : Option Addr} {sl_C_counts : Array (Option Value)} {oc_C_counts kV_C_counts dc_C_counts pm_C_counts cd_C_counts ct_C_counts : Value}
    {f_C_mark : Addr} {od_C_mark an_C_mark : Option Addr} {sl_C_mark : Array (Option Value)} {oc_C_mark kV_C_mark dc_C_mark pm_C_mark cd_C_mark ct_C_mark : Value}
    {f_C_go : Addr} {od_C_go an_C_go : Option Addr} {sl_C_go : Array (Option Value)} {oc_C_go kV_C_go dc_C_go pm_C_go cd_C_go ct_C_go : Value}
    {f_C_marks : Addr} {od_C_marks an_C_marks : Option Addr} {sl_C_marks : Array (Option Value)} {oc_C_marks kV_C_marks dc_C_marks pm_C_marks cd_C_marks ct_C_marks : Value}
    {f__law_start : Addr} {od__law_start an__law_start : Option Addr} {sl__law_start : Array (Option Value)} {oc__law_start kV__law_start dc__law_start pm__law_start cd__law_start ct__law_start : Value}
    {f__law_drawn : Addr} {od__law_drawn an__law_drawn : Option Addr} {sl__law_drawn : Array (Option Value)} {oc__law_drawn kV__law_drawn dc__law_drawn pm__law_drawn cd__law_drawn ct__law_drawn : Value}
    {f__law_rule : Addr} {od__law_rule an__law_rule : Option Addr} {sl__law_rule : Array (Option Value)} {oc__law_rule kV__law_rule dc__law_rule pm__law_rule cd__law_rule ct__law_rule : Value}
    {f__law_same : Addr} {od__law_same an__law_same : Option Addr} {sl__law_same : Array (Option Value)} {oc__law_same kV__law_same dc__law_same pm__law_same cd__law_same ct__law_same : Value}
    {f__law_called : Addr} {od__law_called an__law_called : Option Addr} {sl__law_called : Array (Option Value)} {oc__law_called kV__law_called dc__law_called pm__law_called cd__law_called ct__law_called : Value}
    {f__law_stands : Addr} {od__law_stands an__law_stands : Option Addr} {sl__law_stands : Array (Option Value)} {oc__law_stands kV__law_stands dc__law_stands pm__law_stands cd__law_stands ct__law_stands : Value}
    {f_law : Addr} {od_law an_law : Option Addr} {sl_law : Array (Option Value)} {oc_law kV_law dc_law pm_law cd_law ct_law : Value}
    {aE aR bE aS aSd : Addr} {odE odB odR odS odSd : Option Addr} {nE nB nR nS nSd : Nat} {slE slB slR slS slSd : Array (Option Value)} {tE tR1 tR2 tR3 tR4 tR5 tR6 t_PAGES t_MOST_SIZE t_MOST_LETTERS : Tok}
    {cCE cC : Addr}
    (a_first_mark : PySem.W.nsIn K mainGlobals "first_mark" = some (some (.ref f_first_mark)))
    (l_first_mark : K.lookup f_first_mark = some ⟨oc_first_mark, od_first_mark, .func (PySem.W.fnOf "first_mark" "first_mark" (defArgs CB.N.s_first_mark) (defBody CB.N.s_first_mark) (defScope CB.N.s_first_mark) .none kV_first_mark dc_first_mark pm_first_mark an_first_mark cd_first_mark ct_first_mark), sl_first_mark⟩)
    (c_first_mark : PySem.W.codeIn K cd_first_mark "first_mark" = true)
    (k_first_mark : PySem.W.keepIn K (.ref f_first_mark) = true)
    (a_place_of : PySem.W.nsIn K mainGlobals "place_of" = some (some (.ref f_place_of)))
    (l_place_of : K.lookup f_place_of = some ⟨oc_place_of, od_place_of, .func (PySem.W.fnOf "place_of" "place_of" (defArgs CB.N.s_place_of) (defBody CB.N.s_place_of) (defScope CB.N.s_place_of) .none kV_place_of dc_place_of pm_place_of an_place_of cd_place_of ct_place_of), sl_place_of⟩)
    (c_place_of : PySem.W.codeIn K cd_place_of "place_of" = true)
    (k_place_of : PySem.W.keepIn K (.ref f_place_of) = true)
    (a_rows_asked : PySem.W.nsIn K mainGlobals "rows_asked" = some (some (.ref f_rows_asked)))
    (l_rows_asked : K.lookup f_rows_asked = some ⟨oc_rows_asked, od_rows_asked, .func (PySem.W.fnOf "rows_asked" "rows_asked" (defArgs CB.N.s_rows_asked) (defBody CB.N.s_rows_asked) (defScope CB.N.s_rows_asked) .none kV_rows_asked dc_rows_asked pm_rows_asked an_rows_asked cd_rows_asked ct_rows_asked), sl_rows_asked⟩)
    (c_rows_asked : PySem.W.codeIn K cd_rows_asked "rows_asked" = true)
    (k_rows_asked : PySem.W.keepIn K (.ref f_rows_asked) = true)
    (a_place_to_go : PySem.W.nsIn K mainGlobals "place_to_go" = some (some (.ref f_place_to_go)))
    (l_place_to_go : K.lookup f_place_to_go = some ⟨oc_place_to_go, od_place_to_go, .func (PySem.W.fnOf "place_to_go" "place_to_go" (defArgs CB.N.s_place_to_go) (defBody CB.N.s_place_to_go) (defScope CB.N.s_place_to_go) .none kV_place_to_go dc_place_to_go pm_place_to_go an_place_to_go cd_place_to_go ct_place_to_go), sl_place_to_go⟩)
    (c_place_to_go : PySem.W.codeIn K cd_place_to_go "place_to_go" = true)
    (k_place_to_go : PySem.W.keepIn K (.ref f_place_to_go) = true)
    (a_swept : PySem.W.nsIn K mainGlobals "swept" = some (some (.ref f_swept)))
    (l_swept : K.lookup f_swept = some ⟨oc_swept, od_swept, .func (PySem.W.fnOf "swept" "swept" (defArgs CB.N.s_swept) (defBody CB.N.s_swept) (defScope CB.N.s_swept) .none kV_swept dc_swept pm_swept an_swept cd_swept ct_swept), sl_swept⟩)
    (c_swept : PySem.W.codeIn K cd_swept "swept" = true)
    (k_swept : PySem.W.keepIn K (.ref f_swept) = true)
    (a_searched : PySem.W.nsIn K mainGlobals "searched" = some (some (.ref f_searched)))
    (l_searched : K.lookup f_searched = some ⟨oc_searched, od_searched, .func (PySem.W.fnOf "searched" "searched" (defArgs CB.N.s_searched) (defBody CB.N.s_searched) (defScope CB.N.s_searched) .none kV_searched dc_searched pm_searched an_searched cd_searched ct_searched), sl_searched⟩)
    (c_searched : PySem.W.codeIn K cd_searched "searched" = true)
    (k_searched : PySem.W.keepIn K (.ref f_searched) = true)
    (a_step : PySem.W.nsIn K mainGlobals "step" = some (some (.ref f_step)))
    (l_step : K.lookup f_step = some ⟨oc_step, od_step, .func (PySem.W.fnOf "step" "step" (defArgs CB.N.s_step) (defBody CB.N.s_step) (defScope CB.N.s_step) (.ref aSd) kV_step dc_step pm_step an_step cd_step ct_step), sl_step⟩)
    (c_step : PySem.W.codeIn K cd_step "step" = true)
    (k_step : PySem.W.keepIn K (.ref f_step) = true)
    (a_pages_held : PySem.W.nsIn K mainGlobals "pages_held" = some (some (.ref f_pages_held)))
    (l_pages_held : K.lookup f_pages_held = some ⟨oc_pages_held, od_pages_held, .func (PySem.W.fnOf "pages_held" "pages_held" (defArgs CB.N.s_pages_held) (defBody CB.N.s_pages_held) (defScope CB.N.s_pages_held) .none kV_pages_held dc_pages_held pm_pages_held an_pages_held cd_pages_held ct_pages_held), sl_pages_held⟩)
    (c_pages_held : PySem.W.codeIn K cd_pages_held "pages_held" = true)
    (k_pages_held : PySem.W.keepIn K (.ref f_pages_held) = true)
    (a_without : PySem.W.nsIn K mainGlobals "without" = some (some (.ref f_without)))
    (l_without : K.lookup f_without = some ⟨oc_without, od_without, .func (PySem.W.fnOf "without" "without" (defArgs CB.N.s_without) (defBody CB.N.s_without) (defScope CB.N.s_without) .none kV_without dc_without pm_without an_without cd_without ct_without), sl_without⟩)
    (c_without : PySem.W.codeIn K cd_without "without" = true)
    (k_without : PySem.W.keepIn K (.ref f_without) = true)
    (a_let_go : PySem.W.nsIn K mainGlobals "let_go" = some (some (.ref f_let_go)))
    (l_let_go : K.lookup f_let_go = some ⟨oc_let_go, od_let_go, .func (PySem.W.fnOf "let_go" "let_go" (defArgs CB.N.s_let_go) (defBody CB.N.s_let_go) (defScope CB.N.s_let_go) .none kV_let_go dc_let_go pm_let_go an_let_go cd_let_go ct_let_go), sl_let_go⟩)
    (c_let_go : PySem.W.codeIn K cd_let_go "let_go" = true)
    (k_let_go : PySem.W.keepIn K (.ref f_let_go) = true)
    (a_is_number : PySem.W.nsIn K mainGlobals "is_number" = some (some (.ref f_is_number)))
    (l_is_number : K.lookup f_is_number = some ⟨oc_is_number, od_is_number, .func (PySem.W.fnOf "is_number" "is_number" (defArgs CB.N.s_is_number) (defBody CB.N.s_is_number) (defScope CB.N.s_is_number) .none kV_is_number dc_is_number pm_is_number an_is_number cd_is_number ct_is_number), sl_is_number⟩)
    (c_is_number : PySem.W.codeIn K cd_is_number "is_number" = true)
    (k_is_number : PySem.W.keepIn K (.ref f_is_number) = true)
    (a_check_rule : PySem.W.nsIn K mainGlobals "check_rule" = some (some (.ref f_check_rule)))
    (l_check_rule : K.lookup f_check_rule = some ⟨oc_check_rule, od_check_rule, .func (PySem.W.fnOf "check_rule" "check_rule" (defArgs CB.N.s_check_rule) (defBody CB.N.s_check_rule) (defScope CB.N.s_check_rule) .none kV_check_rule dc_check_rule pm_check_rule an_check_rule cd_check_rule ct_check_rule), sl_check_rule⟩)
    (c_check_rule : PySem.W.codeIn K cd_check_rule "check_rule" = true)
    (k_check_rule : PySem.W.keepIn K (.ref f_check_rule) = true)
    (a_check_size : PySem.W.nsIn K mainGlobals "check_size" = some (some (.ref f_check_size)))
    (l_check_size : K.lookup f_check_size = some ⟨oc_check_size, od_check_size, .func (PySem.W.fnOf "check_size" "check_size" (defArgs CB.N.s_check_size) (defBody CB.N.s_check_size) (defScope CB.N.s_check_size) .none kV_check_size dc_check_size pm_check_size an_check_size cd_check_size ct_check_size), sl_check_size⟩)
    (c_check_size : PySem.W.codeIn K cd_check_size "check_size" = true)
    (k_check_size : PySem.W.keepIn K (.ref f_check_size) = true)
    (a_check_page : PySem.W.nsIn K mainGlobals "check_page" = some (some (.ref f_check_page)))
    (l_check_page : K.lookup f_check_page = some ⟨oc_check_page, od_check_page, .func (PySem.W.fnOf "check_page" "check_page" (defArgs CB.N.s_check_page) (defBody CB.N.s_check_page) (defScope CB.N.s_check_page) .none kV_check_page dc_check_page pm_check_page an_check_page cd_check_page ct_check_page), sl_check_page⟩)
    (c_check_page : PySem.W.codeIn K cd_check_page "check_page" = true)
    (k_check_page : PySem.W.keepIn K (.ref f_check_page) = true)
    (a_check_name : PySem.W.nsIn K mainGlobals "check_name" = some (some (.ref f_check_name)))
    (l_check_name : K.lookup f_check_name = some ⟨oc_check_name, od_check_name, .func (PySem.W.fnOf "check_name" "check_name" (defArgs CB.N.s_check_name) (defBody CB.N.s_check_name) (defScope CB.N.s_check_name) .none kV_check_name dc_check_name pm_check_name an_check_name cd_check_name ct_check_name), sl_check_name⟩)
    (c_check_name : PySem.W.codeIn K cd_check_name "check_name" = true)
    (k_check_name : PySem.W.keepIn K (.ref f_check_name) = true)
    (a_C__held_place : PySem.W.findIn K (.ref cC) "_held_place" = some (some (.ref f_C__held_place)))
    (i_C__held_place : PySem.W.isFn K (.ref f_C__held_place) = true)
    (l_C__held_place : K.lookup f_C__held_place = some ⟨oc_C__held_place, od_C__held_place, .func (PySem.W.fnOf "_held_place" "Cache._held_place" (defArgs CB.N.s_C__held_place) (defBody CB.N.s_C__held_place) (defScope CB.N.s_C__held_place) .none kV_C__held_place dc_C__held_place pm_C__held_place an_C__held_place cd_C__held_place ct_C__held_place), sl_C__held_place⟩)
    (c_C__held_place : PySem.W.codeIn K cd_C__held_place "Cache._held_place" = true)
    (k_C__held_place : PySem.W.keepIn K (.ref f_C__held_place) = true)
    (a_C__set_free : PySem.W.findIn K (.ref cC) "_set_free" = some (some (.ref f_C__set_free)))
    (i_C__set_free : PySem.W.isFn K (.ref f_C__set_free) = true)
    (l_C__set_free : K.lookup f_C__set_free = some ⟨oc_C__set_free, od_C__set_free, .func (PySem.W.fnOf "_set_free" "Cache._set_free" (defArgs CB.N.s_C__set_free) (defBody CB.N.s_C__set_free) (defScope CB.N.s_C__set_free) .none kV_C__set_free dc_C__set_free pm_C__set_free an_C__set_free cd_C__set_free ct_C__set_free), sl_C__set_free⟩)
    (c_C__set_free : PySem.W.codeIn K cd_C__set_free "Cache._set_free" = true)
    (k_C__set_free : PySem.W.keepIn K (.ref f_C__set_free) = true)
    (a_C___init__ : PySem.W.findIn K (.ref cC) "__init__" = some (some (.ref f_C___init__)))
    (i_C___init__ : PySem.W.isFn K (.ref f_C___init__) = true)
    (l_C___init__ : K.lookup f_C___init__ = some ⟨oc_C___init__, od_C___init__, .func (PySem.W.fnOf "__init__" "Cache.__init__" (defArgs CB.N.s_C___init__) (defBody CB.N.s_C___init__) (defScope CB.N.s_C___init__) .none kV_C___init__ dc_C___init__ pm_C___init__ an_C___init__ cd_C___init__ ct_C___init__), sl_C___init__⟩)
    (c_C___init__ : PySem.W.codeIn K cd_C___init__ "Cache.__init__" = true)
    (k_C___init__ : PySem.W.keepIn K (.ref f_C___init__) = true)
    (a_C_ask : PySem.W.findIn K (.ref cC) "ask" = some (some (.ref f_C_ask)))
    (i_C_ask : PySem.W.isFn K (.ref f_C_ask) = true)
    (l_C_ask : K.lookup f_C_ask = some ⟨oc_C_ask, od_C_ask, .func (PySem.W.fnOf "ask" "Cache.ask" (defArgs CB.N.s_C_ask) (defBody CB.N.s_C_ask) (defScope CB.N.s_C_ask) .none kV_C_ask dc_C_ask pm_C_ask an_C_ask cd_C_ask ct_C_ask), sl_C_ask⟩)
    (c_C_ask : PySem.W.codeIn K cd_C_ask "Cache.ask" = true)
    (k_C_ask : PySem.W.keepIn K (.ref f_C_ask) = true)
    (a_C_pin : PySem.W.findIn K (.ref cC) "pin" = some (some (.ref f_C_pin)))
    (i_C_pin : PySem.W.isFn K (.ref f_C_pin) = true)
    (l_C_pin : K.lookup f_C_pin = some ⟨oc_C_pin, od_C_pin, .func (PySem.W.fnOf "pin" "Cache.pin" (defArgs CB.N.s_C_pin) (defBody CB.N.s_C_pin) (defScope CB.N.s_C_pin) .none kV_C_pin dc_C_pin pm_C_pin an_C_pin cd_C_pin ct_C_pin), sl_C_pin⟩)
    (c_C_pin : PySem.W.codeIn K cd_C_pin "Cache.pin" = true)
    (k_C_pin : PySem.W.keepIn K (.ref f_C_pin) = true)
    (a_C_unpin : PySem.W.findIn K (.ref cC) "unpin" = some (some (.ref f_C_unpin)))
    (i_C_unpin : PySem.W.isFn K (.ref f_C_unpin) = true)
    (l_C_unpin : K.lookup f_C_unpin = some ⟨oc_C_unpin, od_C_unpin, .func (PySem.W.fnOf "unpin" "Cache.unpin" (defArgs CB.N.s_C_unpin) (defBody CB.N.s_C_unpin) (defScope CB.N.s_C_unpin) .none kV_C_unpin dc_C_unpin pm_C_unpin an_C_unpin cd_C_unpin ct_C_unpin), sl_C_unpin⟩)
    (c_C_unpin : PySem.W.codeIn K cd_C_unpin "Cache.unpin" = true)
    (k_C_unpin : PySem.W.keepIn K (.ref f_C_unpin) = true)
    (a_C_drop : PySem.W.findIn K (.ref cC) "drop" = some (some (.ref f_C_drop)))
    (i_C_drop : PySem.W.isFn K (.ref f_C_drop) = true)
    (l_C_drop : K.lookup f_C_drop = some ⟨oc_C_drop, od_C_drop, .func (PySem.W.fnOf "drop" "Cache.drop" (defArgs CB.N.s_C_drop) (defBody CB.N.s_C_drop) (defScope CB.N.s_C_drop) .none kV_C_drop dc_C_drop pm_C_drop an_C_drop cd_C_drop ct_C_drop), sl_C_drop⟩)
    (c_C_drop : PySem.W.codeIn K cd_C_drop "Cache.drop" = true)
    (k_C_drop : PySem.W.keepIn K (.ref f_C_drop) = true)
    (a_C_resize : PySem.W.findIn K (.ref cC) "resize" = some (some (.ref f_C_resize)))
    (i_C_resize : PySem.W.isFn K (.ref f_C_resize) = true)
    (l_C_resize : K.lookup f_C_resize = some ⟨oc_C_resize, od_C_resize, .func (PySem.W.fnOf "resize" "Cache.resize" (defArgs CB.N.s_C_resize) (defBody CB.N.s_C_resize) (defScope CB.N.s_C_resize) .none kV_C_resize dc_C_resize pm_C_resize an_C_resize cd_C_resize ct_C_resize), sl_C_resize⟩)
    (c_C_resize : PySem.W.codeIn K cd_C_resize "Cache.resize" = true)
    (k_C_resize : PySem.W.keepIn K (.ref f_C_resize) = true)
    (a_C_holds : PySem.W.findIn K (.ref cC) "holds" = some (some (.ref f_C_holds)))
    (i_C_holds : PySem.W.isFn K (.ref f_C_holds) = true)
    (l_C_holds : K.lookup f_C_holds = some ⟨oc_C_holds, od_C_holds, .func (PySem.W.fnOf "holds" "Cache.holds" (defArgs CB.N.s_C_holds) (defBody CB.N.s_C_holds) (defScope CB.N.s_C_holds) .none kV_C_holds dc_C_holds pm_C_holds an_C_holds cd_C_holds ct_C_holds), sl_C_holds⟩)
    (c_C_holds : PySem.W.codeIn K cd_C_holds "Cache.holds" = true)
    (k_C_holds : PySem.W.keepIn K (.ref f_C_holds) = true)
    (a_C_order : PySem.W.findIn K (.ref cC) "order" = some (some (.ref f_C_order)))
    (i_C_order : PySem.W.isFn K (.ref f_C_order) = true)
    (l_C_order : K.lookup f_C_order = some ⟨oc_C_order, od_C_order, .func (PySem.W.fnOf "order" "Cache.order" (defArgs CB.N.s_C_order) (defBody CB.N.s_C_order) (defScope CB.N.s_C_order) .none kV_C_order dc_C_order pm_C_order an_C_order cd_C_order ct_C_order), sl_C_order⟩)
    (c_C_order : PySem.W.codeIn K cd_C_order "Cache.order" = true)
    (k_C_order : PySem.W.keepIn K (.ref f_C_order) = true)
    (a_C_pins : PySem.W.findIn K (.ref cC) "pins" = some (some (.ref f_C_pins)))
    (i_C_pins : PySem.W.isFn K (.ref f_C_pins) = true)
    (l_C_pins : K.lookup f_C_pins = some ⟨oc_C_pins, od_C_pins, .func (PySem.W.fnOf "pins" "Cache.pins" (defArgs CB.N.s_C_pins) (defBody CB.N.s_C_pins) (defScope CB.N.s_C_pins) .none kV_C_pins dc_C_pins pm_C_pins an_C_pins cd_C_pins ct_C_pins), sl_C_pins⟩)
    (c_C_pins : PySem.W.codeIn K cd_C_pins "Cache.pins" = true)
    (k_C_pins : PySem.W.keepIn K (.ref f_C_pins) = true)
    (a_C_counts : PySem.W.findIn K (.ref cC) "counts" = some (some (.ref f_C_counts)))
    (i_C_counts : PySem.W.isFn K (.ref f_C_counts) = true)
    (l_C_counts : K.lookup f_C_counts = some ⟨oc_C_counts, od_C_counts, .func (PySem.W.fnOf "counts" "Cache.counts" (defArgs CB.N.s_C_counts) (defBody CB.N.s_C_counts) (defScope CB.N.s_C_counts) .none kV_C_counts dc_C_counts pm_C_counts an_C_counts cd_C_counts ct_C_counts), sl_C_counts⟩)
    (c_C_counts : PySem.W.codeIn K cd_C_counts "Cache.counts" = true)
    (k_C_counts : PySem.W.keepIn K (.ref f_C_counts) = true)
    (a_C_mark : PySem.W.findIn K (.ref cC) "mark" = some (some (.ref f_C_mark)))
    (i_C_mark : PySem.W.isFn K (.ref f_C_mark) = true)
    (l_C_mark : K.lookup f_C_mark = some ⟨oc_C_mark, od_C_mark, .func (PySem.W.fnOf "mark" "Cache.mark" (defArgs CB.N.s_C_mark) (defBody CB.N.s_C_mark) (defScope CB.N.s_C_mark) .none kV_C_mark dc_C_mark pm_C_mark an_C_mark cd_C_mark ct_C_mark), sl_C_mark⟩)
    (c_C_mark : PySem.W.codeIn K cd_C_mark "Cache.mark" = true)
    (k_C_mark : PySem.W.keepIn K (.ref f_C_mark) = true)
    (a_C_go : PySem.W.findIn K (.ref cC) "go" = some (some (.ref f_C_go)))
    (i_C_go : PySem.W.isFn K (.ref f_C_go) = true)
    (l_C_go : K.lookup f_C_go = some ⟨oc_C_go, od_C_go, .func (PySem.W.fnOf "go" "Cache.go" (defArgs CB.N.s_C_go) (defBody CB.N.s_C_go) (defScope CB.N.s_C_go) .none kV_C_go dc_C_go pm_C_go an_C_go cd_C_go ct_C_go), sl_C_go⟩)
    (c_C_go : PySem.W.codeIn K cd_C_go "Cache.go" = true)
    (k_C_go : PySem.W.keepIn K (.ref f_C_go) = true)
    (a_C_marks : PySem.W.findIn K (.ref cC) "marks" = some (some (.ref f_C_marks)))
    (i_C_marks : PySem.W.isFn K (.ref f_C_marks) = true)
    (l_C_marks : K.lookup f_C_marks = some ⟨oc_C_marks, od_C_marks, .func (PySem.W.fnOf "marks" "Cache.marks" (defArgs CB.N.s_C_marks) (defBody CB.N.s_C_marks) (defScope CB.N.s_C_marks) .none kV_C_marks dc_C_marks pm_C_marks an_C_marks cd_C_marks ct_C_marks), sl_C_marks⟩)
    (c_C_marks : PySem.W.codeIn K cd_C_marks "Cache.marks" = true)
    (k_C_marks : PySem.W.keepIn K (.ref f_C_marks) = true)
    (a__law_start : PySem.W.nsIn K mainGlobals "_law_start" = some (some (.ref f__law_start)))
    (l__law_start : K.lookup f__law_start = some ⟨oc__law_start, od__law_start, .func (PySem.W.fnOf "_law_start" "_law_start" (defArgs CB2.s__law_start) (defBody CB2.s__law_start) (defScope CB2.s__law_start) .none kV__law_start dc__law_start pm__law_start an__law_start cd__law_start ct__law_start), sl__law_start⟩)
    (c__law_start : PySem.W.codeIn K cd__law_start "_law_start" = true)
    (k__law_start : PySem.W.keepIn K (.ref f__law_start) = true)
    (a__law_drawn : PySem.W.nsIn K mainGlobals "_law_drawn" = some (some (.ref f__law_drawn)))
    (l__law_drawn : K.lookup f__law_drawn = some ⟨oc__law_drawn, od__law_drawn, .func (PySem.W.fnOf "_law_drawn" "_law_drawn" (defArgs CB2.s__law_drawn) (defBody CB2.s__law_drawn) (defScope CB2.s__law_drawn) .none kV__law_drawn dc__law_drawn pm__law_drawn an__law_drawn cd__law_drawn ct__law_drawn), sl__law_drawn⟩)
    (c__law_drawn : PySem.W.codeIn K cd__law_drawn "_law_drawn" = true)
    (k__law_drawn : PySem.W.keepIn K (.ref f__law_drawn) = true)
    (a__law_rule : PySem.W.nsIn K mainGlobals "_law_rule" = some (some (.ref f__law_rule)))
    (l__law_rule : K.lookup f__law_rule = some ⟨oc__law_rule, od__law_rule, .func (PySem.W.fnOf "_law_rule" "_law_rule" (defArgs CB2.s__law_rule) (defBody CB2.s__law_rule) (defScope CB2.s__law_rule) .none kV__law_rule dc__law_rule pm__law_rule an__law_rule cd__law_rule ct__law_rule), sl__law_rule⟩)
    (c__law_rule : PySem.W.codeIn K cd__law_rule "_law_rule" = true)
    (k__law_rule : PySem.W.keepIn K (.ref f__law_rule) = true)
    (a__law_same : PySem.W.nsIn K mainGlobals "_law_same" = some (some (.ref f__law_same)))
    (l__law_same : K.lookup f__law_same = some ⟨oc__law_same, od__law_same, .func (PySem.W.fnOf "_law_same" "_law_same" (defArgs CB.s__law_same) (defBody CB.s__law_same) (defScope CB.s__law_same) .none kV__law_same dc__law_same pm__law_same an__law_same cd__law_same ct__law_same), sl__law_same⟩)
    (c__law_same : PySem.W.codeIn K cd__law_same "_law_same" = true)
    (k__law_same : PySem.W.keepIn K (.ref f__law_same) = true)
    (a__law_called : PySem.W.nsIn K mainGlobals "_law_called" = some (some (.ref f__law_called)))
    (l__law_called : K.lookup f__law_called = some ⟨oc__law_called, od__law_called, .func (PySem.W.fnOf "_law_called" "_law_called" (defArgs CB.Q.s__law_called) (defBody CB.Q.s__law_called) (defScope CB.Q.s__law_called) .none kV__law_called dc__law_called pm__law_called an__law_called cd__law_called ct__law_called), sl__law_called⟩)
    (c__law_called : PySem.W.codeIn K cd__law_called "_law_called" = true)
    (k__law_called : PySem.W.keepIn K (.ref f__law_called) = true)
    (a__law_stands : PySem.W.nsIn K mainGlobals "_law_stands" = some (some (.ref f__law_stands)))
    (l__law_stands : K.lookup f__law_stands = some ⟨oc__law_stands, od__law_stands, .func (PySem.W.fnOf "_law_stands" "_law_stands" (defArgs CB.Q.s__law_stands) (defBody CB.Q.s__law_stands) (defScope CB.Q.s__law_stands) .none kV__law_stands dc__law_stands pm__law_stands an__law_stands cd__law_stands ct__law_stands), sl__law_stands⟩)
    (c__law_stands : PySem.W.codeIn K cd__law_stands "_law_stands" = true)
    (k__law_stands : PySem.W.keepIn K (.ref f__law_stands) = true)
    (a_law : PySem.W.nsIn K mainGlobals "law" = some (some (.ref f_law)))
    (l_law : K.lookup f_law = some ⟨oc_law, od_law, .func (PySem.W.fnOf "law" "law" (defArgs CB.Q.s_law) (defBody CB.Q.s_law) (defScope CB.Q.s_law) .none kV_law dc_law pm_law an_law cd_law ct_law), sl_law⟩)
    (c_law : PySem.W.codeIn K cd_law "law" = true)
    (k_law : PySem.W.keepIn K (.ref f_law) = true)
    (a_PAGES : PySem.W.nsIn K mainGlobals "PAGES" = some (some (.int 10 t_PAGES)))
    (a_MOST_SIZE : PySem.W.nsIn K mainGlobals "MOST_SIZE" = some (some (.int 6 t_MOST_SIZE)))
    (a_MOST_LETTERS : PySem.W.nsIn K mainGlobals "MOST_LETTERS" = some (some (.int 8 t_MOST_LETTERS)))
    (a_EMPTY : PySem.W.nsIn K mainGlobals "EMPTY" = some (some (.ref aE)))
    (l_EMPTY : K.lookup aE = some ⟨.type "tuple", odE, .seq [Value.ref bE, .int 0 tE].toArray nE, slE⟩)
    (l_nil : K.lookup bE = some ⟨.type "tuple", odB, .seq ([] : List Value).toArray nB, slB⟩)
    (l_dflt : K.lookup aSd = some ⟨.type "tuple", odSd, .seq [Value.ref aS].toArray nSd, slSd⟩)
    (l_stay : K.lookup aS = some ⟨.type "tuple", odS, .seq ([] : List Value).toArray nS, slS⟩)
    (a_RULES : PySem.W.nsIn K mainGlobals "RULES" = some (some (.ref aR)))
    (l_RULES : K.lookup aR = some ⟨.type "tuple", odR, .seq [Value.str "came" tR1, .str "used" tR2, .str "last" tR3, .str "high" tR4, .str "often" tR5, .str "clock" tR6].toArray nR, slR⟩)
    (nB_ : noneB K = true)
    (xB_ : xB K = true)
    (kxB_ : kxB K = true)
    (a_Cache : PySem.W.nsIn K mainGlobals "Cache" = some (some (.ref cC)))
    (clB_ : clB K cC = true)
    (mkI_ : PySem.W.makesIn K cC = true)
    (kC_ : PySem.W.keepIn K (.ref cC) = true)
    (a_str : PySem.W.nsIn K mainGlobals "str" = some none)
    (a_CacheError : PySem.W.nsIn K mainGlobals "CacheError" = some (some (.ref cCE))) :
    LawAtS l w K CX0 6 63 "_law_script" mg fa h := by
  have e := hfa.symm.trans (PySem.W.mg_of X G0 a_law)
  cases e
  obtain ⟨T, nV⟩ := bl_of X G0 nB_
  let G : Glob := ⟨K, aE, aR, 0, aS, 0, 0, 0, 0, 0, 0⟩
  have hR : ∀ H, SqT K H aR rulesV := sqT_K l_RULES (Nat.le_of_ble_eq_true rfl) (.cons ⟨_, rfl⟩ (.cons ⟨_, rfl⟩ (.cons ⟨_, rfl⟩ (.cons ⟨_, rfl⟩ (.cons ⟨_, rfl⟩ (.cons ⟨_, rfl⟩ .nil))))))
  have hE : ∃ b, (∀ H, SqT K H aE [.ref b, .int 0]) ∧ ∀ H, SqT K H b [] := ⟨bE, sqT_K l_EMPTY (Nat.le_of_ble_eq_true rfl) (.cons rfl (.cons ⟨_, rfl⟩ .nil)), sqT_K l_nil (Nat.le_of_ble_eq_true rfl) .nil⟩
  have C : CB.N.Con G := ⟨fun M => .tup (hR M) (CB2.dpStrs CB2.rulesS), fun M => .tup (sqT_K (xs := [.ref bE, .int 0]) l_EMPTY (Nat.le_of_ble_eq_true rfl) (.cons rfl (.cons ⟨_, rfl⟩ .nil)) M) (.cons (.tup (sqT_K l_nil (Nat.le_of_ble_eq_true rfl) .nil M) .nil) (.cons (.int 0) .nil)), fun M => .tup (sqT_K l_stay (Nat.le_of_ble_eq_true rfl) .nil M) .nil⟩
  have g_EMPTY := PySem.W.mg_of X G0 a_EMPTY
  have g_RULES := PySem.W.mg_of X G0 a_RULES
  have g_PAGES : ∃ t, mg "PAGES" = some (.int 10 t) := ⟨_, PySem.W.mg_of X G0 a_PAGES⟩
  have g_MOST_SIZE : ∃ t, mg "MOST_SIZE" = some (.int 6 t) := ⟨_, PySem.W.mg_of X G0 a_MOST_SIZE⟩
  have g_MOST_LETTERS : ∃ t, mg "MOST_LETTERS" = some (.int 8 t) := ⟨_, PySem.W.mg_of X G0 a_MOST_LETTERS⟩
  have xf := xf_of X G0 xB_
  have x_BadRule := xf "BadRule" (by decide) 
  have x_BadSize := xf "BadSize" (by decide) 
  have x_BadPage := xf "BadPage" (by decide) 
  have x_NoRoom := xf "NoRoom" (by decide) 
  have x_BadName := xf "BadName" (by decide) 
  have x_NoPoint := xf "NoPoint" (by decide) 
  have eCE : eaK K "CacheError" = cCE := by
    unfold eaK
    rw [a_CacheError]
  have g_CacheError : mg "CacheError" = some (.ref (eaK K "CacheError")) := by rw [eCE]; exact PySem.W.mg_of X G0 a_CacheError
  have KX_ : ∀ c ∈ kinds, PySem.W.exmOne K (.ref (eaK K c)) (.ref (eaK K "CacheError")) = some true := fun c hc => by
    have z := List.all_eq_true.mp kxB_ c hc
    simpa using z
  have HC : CB.N.ClsC K cC := cl_of clB_
  have n_str : mg "str" = none := PySem.W.mg_none_of X G0 a_str
  have F_first_mark := fun_mk (st := CB.N.s_first_mark) l_first_mark c_first_mark k_first_mark
  have F_place_of := fun_mk (st := CB.N.s_place_of) l_place_of c_place_of k_place_of
  have F_rows_asked := fun_mk (st := CB.N.s_rows_asked) l_rows_asked c_rows_asked k_rows_asked
  have F_place_to_go := fun_mk (st := CB.N.s_place_to_go) l_place_to_go c_place_to_go k_place_to_go
  have F_swept := fun_mk (st := CB.N.s_swept) l_swept c_swept k_swept
  have F_searched := fun_mk (st := CB.N.s_searched) l_searched c_searched k_searched
  have F_step : FunD K "step" "step" (defArgs CB.N.s_step) (defBody CB.N.s_step) (defScope CB.N.s_step) [.ref aS] [] f_step _ := ⟨⟨_, _, _, _, _, _, _, _, _, _, rfl, l_step, c_step, .inr ⟨(fun z => nomatch z), _, _, _, _, rfl, l_dflt, rfl, .cons rfl .nil⟩, .inl rfl⟩, k_step⟩
  have F_pages_held := fun_mk (st := CB.N.s_pages_held) l_pages_held c_pages_held k_pages_held
  have F_without := fun_mk (st := CB.N.s_without) l_without c_without k_without
  have F_let_go := fun_mk (st := CB.N.s_let_go) l_let_go c_let_go k_let_go
  have F_is_number := fun_mk (st := CB.N.s_is_number) l_is_number c_is_number k_is_number
  have F_check_rule := fun_mk (st := CB.N.s_check_rule) l_check_rule c_check_rule k_check_rule
  have F_check_size := fun_mk (st := CB.N.s_check_size) l_check_size c_check_size k_check_size
  have F_check_page := fun_mk (st := CB.N.s_check_page) l_check_page c_check_page k_check_page
  have F_check_name := fun_mk (st := CB.N.s_check_name) l_check_name c_check_name k_check_name
  have F_C__held_place := fun_mk (st := CB.N.s_C__held_place) l_C__held_place c_C__held_place k_C__held_place
  have F_C__set_free := fun_mk (st := CB.N.s_C__set_free) l_C__set_free c_C__set_free k_C__set_free
  have F_C___init__ := fun_mk (st := CB.N.s_C___init__) l_C___init__ c_C___init__ k_C___init__
  have F_C_ask := fun_mk (st := CB.N.s_C_ask) l_C_ask c_C_ask k_C_ask
  have F_C_pin := fun_mk (st := CB.N.s_C_pin) l_C_pin c_C_pin k_C_pin
  have F_C_unpin := fun_mk (st := CB.N.s_C_unpin) l_C_unpin c_C_unpin k_C_unpin
  have F_C_drop := fun_mk (st := CB.N.s_C_drop) l_C_drop c_C_drop k_C_drop
  have F_C_resize := fun_mk (st := CB.N.s_C_resize) l_C_resize c_C_resize k_C_resize
  have F_C_holds := fun_mk (st := CB.N.s_C_holds) l_C_holds c_C_holds k_C_holds
  have F_C_order := fun_mk (st := CB.N.s_C_order) l_C_order c_C_order k_C_order
  have F_C_pins := fun_mk (st := CB.N.s_C_pins) l_C_pins c_C_pins k_C_pins
  have F_C_counts := fun_mk (st := CB.N.s_C_counts) l_C_counts c_C_counts k_C_counts
  have F_C_mark := fun_mk (st := CB.N.s_C_mark) l_C_mark c_C_mark k_C_mark
  have F_C_go := fun_mk (st := CB.N.s_C_go) l_C_go c_C_go k_C_go
  have F_C_marks := fun_mk (st := CB.N.s_C_marks) l_C_marks c_C_marks k_C_marks
  have F__law_start := fun_mk (st := CB2.s__law_start) l__law_start c__law_start k__law_start
  have F__law_drawn := fun_mk (st := CB2.s__law_drawn) l__law_drawn c__law_drawn k__law_drawn
  have F__law_rule := fun_mk (st := CB2.s__law_rule) l__law_rule c__law_rule k__law_rule
  have F__law_same := fun_mk (st := CB.s__law_same) l__law_same c__law_same k__law_same
  have F__law_called := fun_mk (st := CB.Q.s__law_called) l__law_called c__law_called k__law_called
  have F__law_stands := fun_mk (st := CB.Q.s__law_stands) l__law_stands c__law_stands k__law_stands
  have F_law := fun_mk (st := CB.Q.s_law) l_law c_law k_law
  refine ⟨PySem.W.fnOf "law" "law" (defArgs s_law) (defBody s_law) (defScope s_law) .none kV_law dc_law pm_law an_law cd_law ct_law, [], sp_law G (eaK K) cC, fun p hp => (by cases hp), fun p hp => (by cases hp), fun p hp => (by cases hp), fun s u => .of_eq rfl, fun H a ns _ _ ht hs => ⟨H, ⟨[], fun _ => True⟩, [.d (.list (ns.map .int))], fun x _ => x = .d (.bool true), ⟨.refl H, .nil, fun _ z => (by cases z), fun _ z => (by cases z), fun _ _ _ _ => trivial, trivial⟩, .cons (Dp.lst hs (DW.ints_dpAll ns)) .nil, ⟨ns, rfl, rfl, C, KX_, fun _ => rfl⟩, fun x v H' M' W' e R t r => by subst e; cases r; rfl⟩, fun base _ _ tb => ?_⟩
  have q_first_mark := CB.N.ok_first_mark (P := l.prog) (w := w) (base := base) G T F_first_mark (PySem.W.mg_of X G0 a_first_mark)
  have q_place_of := CB.N.ok_place_of (P := l.prog) (w := w) (base := base) G T F_place_of (PySem.W.mg_of X G0 a_place_of)
  have q_rows_asked := CB.N.ok_rows_asked (P := l.prog) (w := w) (base := base) G T F_rows_asked (PySem.W.mg_of X G0 a_rows_asked)
  have q_place_to_go := CB.N.ok_place_to_go (P := l.prog) (w := w) (base := base) G T F_place_to_go (PySem.W.mg_of X G0 a_place_to_go)
  have q_swept := CB.N.ok_swept (P := l.prog) (w := w) (base := base) G T F_swept (PySem.W.mg_of X G0 a_swept)
  have q_searched := CB.N.ok_searched (P := l.prog) (w := w) (base := base) G T q_swept q_place_to_go F_searched (PySem.W.mg_of X G0 a_searched)
  have q_stepn := CB.N.ok_step (P := l.prog) (w := w) (base := base) G T q_place_of q_rows_asked q_first_mark q_searched F_step (PySem.W.mg_of X G0 a_step)
  have q_step := q_stepn.1
  have q_step5 := q_stepn.2
  have q_pages_held := CB.N.ok_pages_held (P := l.prog) (w := w) (base := base) G T F_pages_held (PySem.W.mg_of X G0 a_pages_held)
  have q_without := CB.N.ok_without (P := l.prog) (w := w) (base := base) G T F_without (PySem.W.mg_of X G0 a_without)
  have q_let_go := CB.N.ok_let_go (P := l.prog) (w := w) (base := base) G T q_searched q_without F_let_go (PySem.W.mg_of X G0 a_let_go)
  have q_is_number := CB.N.ok_is_number (P := l.prog) (w := w) (base := base) G T F_is_number (PySem.W.mg_of X G0 a_is_number)
  have q_check_rule := CB.N.ok_check_rule (P := l.prog) (w := w) (base := base) G (eaK K) T g_RULES x_BadRule F_check_rule (PySem.W.mg_of X G0 a_check_rule)
  have q_check_size := CB.N.ok_check_size (P := l.prog) (w := w) (base := base) G (eaK K) T q_is_number g_MOST_SIZE x_BadSize F_check_size (PySem.W.mg_of X G0 a_check_size)
  have q_check_page := CB.N.ok_check_page (P := l.prog) (w := w) (base := base) G (eaK K) T q_is_number g_PAGES x_BadPage F_check_page (PySem.W.mg_of X G0 a_check_page)
  have q_check_name := CB.N.ok_check_name (P := l.prog) (w := w) (base := base) G (eaK K) T n_str g_MOST_LETTERS x_BadName F_check_name (PySem.W.mg_of X G0 a_check_name)
  have mk_init : Mk K cC f_C___init__ := ⟨mkI_, a_C___init__, i_C___init__, kC_⟩
  have q_C__held_place := CB.N.ok_C__held_place (P := l.prog) (w := w) (base := base) G (eaK K) HC T q_check_page q_place_of x_BadPage F_C__held_place ⟨a_C__held_place, i_C__held_place, k_C__held_place⟩
  have q_C__set_free := CB.N.ok_C__set_free (P := l.prog) (w := w) (base := base) G HC T F_C__set_free ⟨a_C__set_free, i_C__set_free, k_C__set_free⟩
  have q_C___init__ := CB.N.ok_C___init__ (P := l.prog) (w := w) (base := base) G (eaK K) HC T q_check_rule q_check_size g_EMPTY F_C___init__ (PySem.W.mg_of X G0 a_Cache) mk_init
  have q_C_ask := CB.N.ok_C_ask (P := l.prog) (w := w) (base := base) G (eaK K) HC T q_check_page q_place_of q_step5 x_NoRoom F_C_ask ⟨a_C_ask, i_C_ask, k_C_ask⟩
  have q_C_pin := CB.N.ok_C_pin (P := l.prog) (w := w) (base := base) G (eaK K) HC T q_C__held_place F_C_pin ⟨a_C_pin, i_C_pin, k_C_pin⟩
  have q_C_unpin := CB.N.ok_C_unpin (P := l.prog) (w := w) (base := base) G (eaK K) HC T q_C__held_place q_C__set_free F_C_unpin ⟨a_C_unpin, i_C_unpin, k_C_unpin⟩
  have q_C_drop := CB.N.ok_C_drop (P := l.prog) (w := w) (base := base) G (eaK K) HC T q_without q_C__held_place q_C__set_free F_C_drop ⟨a_C_drop, i_C_drop, k_C_drop⟩
  have q_C_resize := CB.N.ok_C_resize (P := l.prog) (w := w) (base := base) G (eaK K) HC T q_check_size q_let_go x_NoRoom F_C_resize ⟨a_C_resize, i_C_resize, k_C_resize⟩
  have q_C_holds := CB.N.ok_C_holds (P := l.prog) (w := w) (base := base) G HC T q_pages_held F_C_holds ⟨a_C_holds, i_C_holds, k_C_holds⟩
  have q_C_order := CB.N.ok_C_order (P := l.prog) (w := w) (base := base) G HC T F_C_order ⟨a_C_order, i_C_order, k_C_order⟩
  have q_C_pins := CB.N.ok_C_pins (P := l.prog) (w := w) (base := base) G HC T F_C_pins ⟨a_C_pins, i_C_pins, k_C_pins⟩
  have q_C_counts := CB.N.ok_C_counts (P := l.prog) (w := w) (base := base) G HC T F_C_counts ⟨a_C_counts, i_C_counts, k_C_counts⟩
  have q_C_mark := CB.N.ok_C_mark (P := l.prog) (w := w) (base := base) G (eaK K) HC T q_check_name F_C_mark ⟨a_C_mark, i_C_mark, k_C_mark⟩
  have q_C_go := CB.N.ok_C_go (P := l.prog) (w := w) (base := base) G (eaK K) HC T n_str x_NoPoint F_C_go ⟨a_C_go, i_C_go, k_C_go⟩
  have q_C_marks := CB.N.ok_C_marks (P := l.prog) (w := w) (base := base) G HC T F_C_marks ⟨a_C_marks, i_C_marks, k_C_marks⟩
  have q__law_start := CB2.ok__law_start (P := l.prog) (w := w) (base := base) G T F__law_start (PySem.W.mg_of X G0 a__law_start)
  have q__law_drawn := CB2.ok__law_drawn (P := l.prog) (w := w) (base := base) G T F__law_drawn (PySem.W.mg_of X G0 a__law_drawn)
  have q__law_rule := CB2.ok__law_rule (P := l.prog) (w := w) (base := base) G T q__law_drawn F__law_rule (PySem.W.mg_of X G0 a__law_rule)
  have q__law_same := CB.ok__law_same (P := l.prog) (w := w) (base := base) G T F__law_same (PySem.W.mg_of X G0 a__law_same) 5
  have q__law_called := CB.Q.ok__law_called (P := l.prog) (w := w) (base := base) G (eaK K) HC T q_C_ask q_C_pin q_C_unpin q_C_drop q_C_resize q_C_mark q_C_go g_CacheError F__law_called (PySem.W.mg_of X G0 a__law_called)
  have q__law_stands := CB.Q.ok__law_stands (P := l.prog) (w := w) (base := base) G (eaK K) HC T q_C_marks q_C_counts q_C_pins q_C_order q_C_holds F__law_stands (PySem.W.mg_of X G0 a__law_stands)
  have q_law := CB.Q.ok_law (P := l.prog) (w := w) (base := base) G (eaK K) HC T q__law_start q__law_rule q__law_drawn q__law_called q__law_same q__law_stands q_C_pins q_C_marks q_C___init__ F_law (PySem.W.mg_of X G0 a_law)
  exact q_law
end CB.Q

open PySem PySem.W PyProof.Rows in
set_option maxRecDepth 100000 in
set_option maxHeartbeats 0 in
theorem PySem.Challenge.cw_cachebet_k16_caches_apart_holds : PySem.Challenge.rw_cachebet_k16_caches_apart.Holds := by
  w_on; o_law; k_head; (case hw => w_witness2)
  k_fill
  refine LamX.walk_ofTs (l := PySem.Challenge.rw_cachebet_k16_caches_apart) (n := 63) (k := 6) (x := "_law_script") (CX := fun _ => L2.CX0) rfl (by decide) rfl ⟨rfl, by decide, by decide⟩ (fun w h Y => PySem.W.kIn_of Y) ?F (fun _ _ _ _ _ z => z)
  case F =>
    intro w mg fa h Y KX G hmg
    refine' CB.Q.all_mk KX G hmg ?a_first_mark ?l_first_mark ?c_first_mark ?k_first_mark ?a_place_of ?l_place_of ?c_place_of ?k_place_of ?a_rows_asked ?l_rows_asked ?c_rows_asked ?k_rows_asked ?a_place_to_go ?l_place_to_go ?c_place_to_go ?k_place_to_go ?a_swept ?l_swept ?c_swept ?k_swept ?a_searched ?l_searched ?c_searched ?k_searched ?a_step ?l_step ?c_step ?k_step ?a_pages_held ?l_pages_held ?c_pages_held ?k_pages_held ?a_without ?l_without ?c_without ?k_without ?a_let_go ?l_let_go ?c_let_go ?k_let_go ?a_is_number ?l_is_number ?c_is_number ?k_is_number ?a_check_rule ?l_check_rule ?c_check_rule ?k_check_rule ?a_check_size ?l_check_size ?c_check_size ?k_check_size ?a_check_page ?l_check_page ?c_check_page ?k_check_page ?a_check_name ?l_check_name ?c_check_name ?k_check_name ?a_C__held_place ?i_C__held_place ?l_C__held_place ?c_C__held_place ?k_C__held_place ?a_C__set_free ?i_C__set_free ?l_C__set_free ?c_C__set_free ?k_C__set_free ?a_C___init__ ?i_C___init__ ?l_C___init__ ?c_C___init__ ?k_C___init__ ?a_C_ask ?i_C_ask ?l_C_ask ?c_C_ask ?k_C_ask ?a_C_pin ?i_C_pin ?l_C_pin ?c_C_pin ?k_C_pin ?a_C_unpin ?i_C_unpin ?l_C_unpin ?c_C_unpin ?k_C_unpin ?a_C_drop ?i_C_drop ?l_C_drop ?c_C_drop ?k_C_drop ?a_C_resize ?i_C_resize ?l_C_resize ?c_C_resize ?k_C_resize ?a_C_holds ?i_C_holds ?l_C_holds ?c_C_holds ?k_C_holds ?a_C_order ?i_C_order ?l_C_order ?c_C_order ?k_C_order ?a_C_pins ?i_C_pins ?l_C_pins ?c_C_pins ?k_C_pins ?a_C_counts ?i_C_counts ?l_C_counts ?c_C_counts ?k_C_counts ?a_C_mark ?i_C_mark ?l_C_mark ?c_C_mark ?k_C_mark ?a_C_go ?i_C_go ?l_C_go ?c_C_go ?k_C_go ?a_C_marks ?i_C_marks ?l_C_marks ?c_C_marks ?k_C_marks ?a__law_start ?l__law_start ?c__law_start ?k__law_start ?a__law_drawn ?l__law_drawn ?c__law_drawn ?k__law_drawn ?a__law_rule ?l__law_rule ?c__law_rule ?k__law_rule ?a__law_same ?l__law_same ?c__law_same ?k__law_same ?a__law_called ?l__law_called ?c__law_called ?k__law_called ?a__law_stands ?l__law_stands ?c__law_stands ?k__law_stands ?a_law ?l_law ?c_law ?k_law ?a_PAGES ?a_MOST_SIZE ?a_MOST_LETTERS ?a_EMPTY ?l_EMPTY ?l_nil ?l_dflt ?l_stay ?a_RULES ?l_RULES ?nB_ ?xB_ ?kxB_ ?a_Cache ?clB_ ?mkI_ ?kC_ ?a_str ?a_CacheError
    (case a_Cache => k_is)
    (case a_CacheError => k_is)
    (case a_first_mark => k_is)
    (case l_first_mark => k_is)
    (case c_first_mark => k_is)
    (case k_first_mark => k_is)
    (case a_place_of => k_is)
    (case l_place_of => k_is)
    (case c_place_of => k_is)
    (case k_place_of => k_is)
    (case a_rows_asked => k_is)
    (case l_rows_asked => k_is)
    (case c_rows_asked => k_is)
    (case k_rows_asked => k_is)
    (case a_place_to_go => k_is)
    (case l_place_to_go => k_is)
    (case c_place_to_go => k_is)
    (case k_place_to_go => k_is)
    (case a_swept => k_is)
    (case l_swept => k_is)
    (case c_swept => k_is)
    (case k_swept => k_is)
    (case a_searched => k_is)
    (case l_searched => k_is)
    (case c_searched => k_is)
    (case k_searched => k_is)
    (case a_step => k_is)
    (case l_step => k_is)
    (case c_step => k_is)
    (case k_step => k_is)
    (case a_pages_held => k_is)
    (case l_pages_held => k_is)
    (case c_pages_held => k_is)
    (case k_pages_held => k_is)
    (case a_without => k_is)
    (case l_without => k_is)
    (case c_without => k_is)
    (case k_without => k_is)
    (case a_let_go => k_is)
    (case l_let_go => k_is)
    (case c_let_go => k_is)
    (case k_let_go => k_is)
    (case a_is_number => k_is)
    (case l_is_number => k_is)
    (case c_is_number => k_is)
    (case k_is_number => k_is)
    (case a_check_rule => k_is)
    (case l_check_rule => k_is)
    (case c_check_rule => k_is)
    (case k_check_rule => k_is)
    (case a_check_size => k_is)
    (case l_check_size => k_is)
    (case c_check_size => k_is)
    (case k_check_size => k_is)
    (case a_check_page => k_is)
    (case l_check_page => k_is)
    (case c_check_page => k_is)
    (case k_check_page => k_is)
    (case a_check_name => k_is)
    (case l_check_name => k_is)
    (case c_check_name => k_is)
    (case k_check_name => k_is)
    (case a_C__held_place => k_is)
    (case i_C__held_place => k_is)
    (case l_C__held_place => k_is)
    (case c_C__held_place => k_is)
    (case k_C__held_place => k_is)
    (case a_C__set_free => k_is)
    (case i_C__set_free => k_is)
    (case l_C__set_free => k_is)
    (case c_C__set_free => k_is)
    (case k_C__set_free => k_is)
    (case a_C___init__ => k_is)
    (case i_C___init__ => k_is)
    (case l_C___init__ => k_is)
    (case c_C___init__ => k_is)
    (case k_C___init__ => k_is)
    (case a_C_ask => k_is)
    (case i_C_ask => k_is)
    (case l_C_ask => k_is)
    (case c_C_ask => k_is)
    (case k_C_ask => k_is)
    (case a_C_pin => k_is)
    (case i_C_pin => k_is)
    (case l_C_pin => k_is)
    (case c_C_pin => k_is)
    (case k_C_pin => k_is)
    (case a_C_unpin => k_is)
    (case i_C_unpin => k_is)
    (case l_C_unpin => k_is)
    (case c_C_unpin => k_is)
    (case k_C_unpin => k_is)
    (case a_C_drop => k_is)
    (case i_C_drop => k_is)
    (case l_C_drop => k_is)
    (case c_C_drop => k_is)
    (case k_C_drop => k_is)
    (case a_C_resize => k_is)
    (case i_C_resize => k_is)
    (case l_C_resize => k_is)
    (case c_C_resize => k_is)
    (case k_C_resize => k_is)
    (case a_C_holds => k_is)
    (case i_C_holds => k_is)
    (case l_C_holds => k_is)
    (case c_C_holds => k_is)
    (case k_C_holds => k_is)
    (case a_C_order => k_is)
    (case i_C_order => k_is)
    (case l_C_order => k_is)
    (case c_C_order => k_is)
    (case k_C_order => k_is)
    (case a_C_pins => k_is)
    (case i_C_pins => k_is)
    (case l_C_pins => k_is)
    (case c_C_pins => k_is)
    (case k_C_pins => k_is)
    (case a_C_counts => k_is)
    (case i_C_counts => k_is)
    (case l_C_counts => k_is)
    (case c_C_counts => k_is)
    (case k_C_counts => k_is)
    (case a_C_mark => k_is)
    (case i_C_mark => k_is)
    (case l_C_mark => k_is)
    (case c_C_mark => k_is)
    (case k_C_mark => k_is)
    (case a_C_go => k_is)
    (case i_C_go => k_is)
    (case l_C_go => k_is)
    (case c_C_go => k_is)
    (case k_C_go => k_is)
    (case a_C_marks => k_is)
    (case i_C_marks => k_is)
    (case l_C_marks => k_is)
    (case c_C_marks => k_is)
    (case k_C_marks => k_is)
    (case a__law_start => k_is)
    (case l__law_start => k_is)
    (case c__law_start => k_is)
    (case k__law_start => k_is)
    (case a__law_drawn => k_is)
    (case l__law_drawn => k_is)
    (case c__law_drawn => k_is)
    (case k__law_drawn => k_is)
    (case a__law_rule => k_is)
    (case l__law_rule => k_is)
    (case c__law_rule => k_is)
    (case k__law_rule => k_is)
    (case a__law_same => k_is)
    (case l__law_same => k_is)
    (case c__law_same => k_is)
    (case k__law_same => k_is)
    (case a__law_called => k_is)
    (case l__law_called => k_is)
    (case c__law_called => k_is)
    (case k__law_called => k_is)
    (case a__law_stands => k_is)
    (case l__law_stands => k_is)
    (case c__law_stands => k_is)
    (case k__law_stands => k_is)
    (case a_law => k_is)
    (case l_law => k_is)
    (case c_law => k_is)
    (case k_law => k_is)
    (case a_PAGES => k_is)
    (case a_MOST_SIZE => k_is)
    (case a_MOST_LETTERS => k_is)
    (case a_EMPTY => k_is)
    (case l_EMPTY => k_is)
    (case l_nil => k_is)
    (case l_dflt => k_is)
    (case l_stay => k_is)
    (case a_RULES => k_is)
    (case l_RULES => k_is)
    (case nB_ => kernel_rfl)
    (case xB_ => kernel_rfl)
    (case kxB_ => kernel_rfl)
    (case clB_ => kernel_rfl)
    (case mkI_ => k_is)
    (case kC_ => k_is)
    (case a_str => k_is)
