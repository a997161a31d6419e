import PyProof.Rows.All
import Wide.All
import OpenK.AllK
import Wide.FinOn
import KE.KStateDown
import HandS.Base
import HandS.Call
import HandS.List
import HandS.Comp
import HandS.Ends
import HandS.Dict
import HandS.Iter
import HandS.Text
import HandS.StrMore
import HandS.More
import HandS.Words
import HandS.WordsList
import HandS.WordsExc
import HandS.Exc
import HandS.ExcOwn
import HandS.ExcIs
import HandS.TryOnly
import HandS.IsInst
import HandS.Codes
import HandS.Defaults
import HandS.Wide
import HandS.Gcd
import KE.KOpsOwn
import KE.HD0
import KE.HD1
import KE.HD2
import KE.HD3
import HandS.Head0
import HandS.Head1
import HandS.Head2
import HandS.HeadEnd
import HandS.HeadHook1
import HandS.HeadHook2
import HandS.HeadHook3
import HandS.HeadHook4
import Flt.Len
import PyProof.NoPylong
import HandS.ExcInit
import HandS.ExcField
import HandS.FStr
import HandS.Evl
import HandS.WideBits
import HandS.Style
import HandS.Walk
import HandS.OwnEq
import HandS.Finally
import HandS.DictComp
import HandS.MakeKw
import HandS.More
import HandS.Star
import HandS.Conv
import HandS.TupLen
import HandS.Deep
import HandS.Zip
import HandS.SetKeys
import HandS.DictTup
import KE.SortData
import KE.SortKeyHeap
import HandS.SortKw
import HandS.TryMany
import KE.DatumOrd
import HandS.ExcValue
import HandS.Set
import HandS.Strs
import HandS.Sort
import PySem.Challenge.RW_linkwork_k30_modifications
set_option Elab.async false
set_option linter.all false
set_option maxRecDepth 100000
namespace Lk
open PySem PySem.Spec L2
open PyProof.Rows hiding St
/-! ### the head's facts, the interpreter's own statics among what is written -/
def asS (g : Addr → Option Obj) (n : Nat) : List Addr := He.asD g n ++ [cStatics]
abbrev AlS : Type := He.AlD × Bool
def obsS (n : Nat) (fa : List He.Fa) (fn : List He.DefD) (ex : PySem.W.Frag → Bool) (g : Addr → Option Obj) : AlS := (He.obsD fa fn (He.frT g (asS g n)), ex (He.frT g (asS g n)))
structure SaysS (fa : List He.Fa) (fn : List He.DefD) (ex : PySem.W.Frag → Bool) (K : PySem.W.Frag) : Prop where
  d : He.SaysD fa fn K
  more : ex K = true
def hookS (n : Nat) (fa : List He.Fa) (fn : List He.DefD) (ex : PySem.W.Frag → Bool) : PySem.W.Hook where
  α := AlS
  obs := fun s => obsS n fa fn ex s.heap.get?
  val := fun _ => (He.valD fn, true)
  says := fun _ h => ∃ K : PySem.W.Frag, K.In h ∧ SaysS fa fn ex K
  of := fun _ _ e => ⟨_, He.frT_in, ⟨congrArg (fun z : AlS => z.1) e, congrArg (fun z : AlS => z.2) e⟩⟩
  keeps := fun _ _ _ z k => by
    obtain ⟨K, hK, c⟩ := z
    exact ⟨K, PySem.W.Frag.In.keeps hK k, c⟩
theorem obsS_eq {n : Nat} {fa : List He.Fa} {fn : List He.DefD} {ex : PySem.W.Frag → Bool} {g : Addr → Option Obj} {s : Shared} (h : ∀ a, g a = s.heap.get? a) : obsS n fa fn ex g = (hookS n fa fn ex).obs s := by
  have e : g = s.heap.get? := funext h
  rw [e] <;> rfl
/-! ### .. and tables of the top with text keys -/
abbrev TabS : Type := (PySem.W.Frag → Addr) × List Str
abbrev AlU : Type := AlS × List (Option (List (Option (Str × Int))))
def obsU (n : Nat) (fa : List He.Fa) (fn : List He.DefD) (ex : PySem.W.Frag → Bool) (ts : List TabS) (g : Addr → Option Obj) : AlU := (obsS n fa fn ex g, ts.map fun t => He.dicW (He.frT g (asS g n)) (t.1 (He.frT g (asS g n))))
structure SaysU (fa : List He.Fa) (fn : List He.DefD) (ex : PySem.W.Frag → Bool) (ts : List TabS) (w : World) (K : PySem.W.Frag) : Prop where
  d : He.SaysD fa fn K
  more : ex K = true
  tab : (ts.map fun t => He.dicW K (t.1 K)) = ts.map fun t => some (He.keysIn w.params t.2)
def hookU (n : Nat) (fa : List He.Fa) (fn : List He.DefD) (ex : PySem.W.Frag → Bool) (ts : List TabS) : PySem.W.Hook where
  α := AlU
  obs := fun s => obsU n fa fn ex ts s.heap.get?
  val := fun w => ((He.valD fn, true), ts.map fun t => some (He.keysIn w.params t.2))
  says := fun w h => ∃ K : PySem.W.Frag, K.In h ∧ SaysU fa fn ex ts w K
  of := fun w s e => by
    have e' : obsU n fa fn ex ts s.heap.get? = ((He.valD fn, true), ts.map fun t : TabS => some (He.keysIn w.params t.2)) := e
    have e1 : (obsU n fa fn ex ts s.heap.get?).1 = (He.valD fn, true) := by rw [e']
    have e2 : (obsU n fa fn ex ts s.heap.get?).2 = ts.map fun t : TabS => some (He.keysIn w.params t.2) := by rw [e']
    exact ⟨_, He.frT_in, ⟨congrArg (fun z : AlS => z.1) e1, congrArg (fun z : AlS => z.2) e1, e2⟩⟩
  keeps := fun _ _ _ z k => by
    obtain ⟨K, hK, c⟩ := z
    exact ⟨K, PySem.W.Frag.In.keeps hK k, c⟩
theorem obsU_eq {n : Nat} {fa : List He.Fa} {fn : List He.DefD} {ex : PySem.W.Frag → Bool} {ts : List TabS} {g : Addr → Option Obj} {s : Shared} (h : ∀ a, g a = s.heap.get? a) : obsU n fa fn ex ts g = (hookU n fa fn ex ts).obs s := by
  have e : g = s.heap.get? := funext h
  rw [e] <;> rfl
theorem SaysU.kd {fa : List He.Fa} {fn : List He.DefD} {ex : PySem.W.Frag → Bool} {ts : List TabS} {w : World} {K : PySem.W.Frag} (c : SaysU fa fn ex ts w K) (i : Nat) {t : TabS} (h : ts[i]? = some t) : ∃ es n, KDict K w (t.1 K) es n := by
  have e2 : (ts.map fun t => He.dicW K (t.1 K))[i]? = (ts.map fun t => some (He.keysIn w.params t.2))[i]? := by rw [c.tab]
  rw [List.getElem?_map, List.getElem?_map, h] at e2
  exact He.dicW_ok (Option.some.inj e2)
/-- whether a table holds a text -/
def inTab (K : PySem.W.Frag) (a : Addr) (x : Str) (b : Bool) : Bool := match PySem.W.nsIn K a x with
  | some r => r.isSome == b
  | none => false
theorem inTab_ok {K : PySem.W.Frag} {a : Addr} {x : Str} {b : Bool} (h : inTab K a x b = true) : ∃ r, PySem.W.nsIn K a x = some r ∧ r.isSome = b := by
  unfold inTab at h
  split at h
  · rename_i r e
    exact ⟨r, e, by simpa using h⟩
  · cases h
/-! ### steps of a reading, from the left -/
section
variable {σ : St} {H : Hp} {Q : VK} {ta tb te : TE} {i : Nat} {v x y : V} {nx : St → Hp → Prop} {rt : VK} {bk ct : St → Hp → Prop} {t u : TS} {c : TT}
theorem r_seq (h : t ⟨fun σ H => u ⟨nx, rt, bk, ct⟩ σ H, rt, bk, ct⟩ σ H) : tSeq t u ⟨nx, rt, bk, ct⟩ σ H := h
theorem r_set (h : te σ H fun x H1 => nx (σ.set i (some x)) H1) : tAsg te (gName i) ⟨nx, rt, bk, ct⟩ σ H := h
theorem r_ret (h : te σ H rt) : tRet te ⟨nx, rt, bk, ct⟩ σ H := h
theorem r_next (h : nx σ H) : tNext ⟨nx, rt, bk, ct⟩ σ H := h
theorem r_drop (h : te σ H fun _ H1 => nx σ H1) : tDrop te ⟨nx, rt, bk, ct⟩ σ H := h
theorem r_if (h : c σ H fun b H1 => if b = true then t ⟨nx, rt, bk, ct⟩ σ H1 else u ⟨nx, rt, bk, ct⟩ σ H1) : tIfS c t u ⟨nx, rt, bk, ct⟩ σ H := h
theorem r_brk (h : bk σ H) : tBreak ⟨nx, rt, bk, ct⟩ σ H := h
theorem r_cont (h : ct σ H) : tCont ⟨nx, rt, bk, ct⟩ σ H := h
theorem r_var (e : σ[i]? = some (some v)) (h : Q v H) : tVar i σ H Q := ⟨v, e, h⟩
theorem r_c (h : Q v H) : tC v σ H Q := h
theorem r_op {r : R2} (h : ta σ H fun x H1 => tb σ H1 fun y H2 => r x y H2 Q) : tOp r ta tb σ H Q := h
theorem r_un {r : V → Hp → VK → Prop} (h : ta σ H fun x H1 => r x H1 Q) : tUn r ta σ H Q := h
theorem r_I0 {g : Int → Int → V} {i j : Int} (h : Q (g i j) H) : rI0 g (.int i) (.int j) H Q := ⟨i, j, rfl, rfl, h⟩
theorem r_I {C : Int → Int → Prop} {g : Int → Int → V} {i j : Int} (hc : C i j) (h : Q (g i j) H) : rI C g (.int i) (.int j) H Q := ⟨i, j, rfl, rfl, hc, h⟩
theorem r_U {g : Int → V} {i : Int} (h : Q (g i) H) : rU g (.int i) H Q := ⟨i, rfl, h⟩
theorem r_eq (hs : scal x y = true) (h : Q (.bl (decide (x = y))) H) : rEq x y H Q := ⟨hs, h⟩
theorem r_ne (hs : scal x y = true) (h : Q (.bl (!decide (x = y))) H) : rNe x y H Q := ⟨hs, h⟩
theorem r_test {P : Bool → Hp → Prop} (h : te σ H fun x H' => ∃ k, x = .bl k ∧ P k H') : tTest te σ H P := h
theorem r_B {P : Bool → Hp → Prop} (h : te σ H fun x H' => ∃ k, x = .bl k ∧ P k H') : tB te σ H P := h
theorem r_bl {b : Bool} {P : Bool → Prop} (h : P b) : ∃ k, V.bl b = .bl k ∧ P k := ⟨b, rfl, h⟩
theorem r_nilA {P : List V → Hp → Prop} (h : P [] H) : tNil σ H P := h
theorem r_consA {tr : TA} {P : List V → Hp → Prop} (h : te σ H fun x H1 => tr σ H1 fun xs H2 => P (x :: xs) H2) : tCons te tr σ H P := h
theorem r_call {sp : Sp} {dvs : List V} {E : XK} {t : TA} (h : t σ H fun vs H1 => sp (vs ++ dvs) H1 Q E) : tCall sp dvs E t σ H Q := h
theorem r_callS {sp : Sp} {E : St → XK} {t : TA} (h : t σ H fun vs H1 => sp vs H1 Q (E σ)) : tCallS sp E t σ H Q := h
theorem r_CB {r : List V → Hp → VK → Prop} {t : TA} (h : t σ H fun vs H1 => r vs H1 Q) : tCB r t σ H Q := h
theorem r_tup {t : TA} (h : t σ H fun xs H1 => xs.length ≤ sizeLine ∧ ∀ p, H1 p = none → Q (.ref p) (upd H1 p (.tup xs))) : tTup t σ H Q := h
theorem r_lst {t : TA} (h : t σ H fun xs H1 => xs.length ≤ sizeLine ∧ ∀ p, H1 p = none → Q (.ref p) (upd H1 p (.lst xs))) : tLst t σ H Q := h
theorem r_and {u : TT} {P : Bool → Hp → Prop} (h : c σ H fun k H1 => if k = true then u σ H1 P else P false H1) : tAnd c u σ H P := h
theorem r_or {u : TT} {P : Bool → Hp → Prop} (h : c σ H fun k H1 => if k = true then P true H1 else u σ H1 P) : tOr c u σ H P := h
theorem r_not {P : Bool → Hp → Prop} (h : c σ H fun k H1 => P (!k) H1) : tNot c σ H P := h
theorem r_andV (h : ta σ H fun x H1 => ∃ k, x = .bl k ∧ if k = true then tb σ H1 Q else Q (.bl false) H1) : tAndV ta tb σ H Q := h
theorem r_orV (h : ta σ H fun x H1 => ∃ k, x = .bl k ∧ if k = true then Q (.bl true) H1 else tb σ H1 Q) : tOrV ta tb σ H Q := h
theorem r_notV (h : ta σ H fun x H1 => ∃ k, x = .bl k ∧ Q (.bl (!k)) H1) : tNotV ta σ H Q := h
theorem r_ifE (h : c σ H fun k H1 => if k = true then ta σ H1 Q else tb σ H1 Q) : tIf c ta tb σ H Q := h
theorem r_ixL {K : PySem.W.Frag} {p : Addr} {xs : List V} {i : Int} (hs : SqL K H p xs) (ha : atI xs i = some v) (h : Q v H) : rIxL K (.ref p) (.int i) H Q := ⟨p, xs, i, v, rfl, rfl, hs, ha, h⟩
theorem r_ixT {K : PySem.W.Frag} {p : Addr} {xs : List V} {i : Int} (hs : SqT K H p xs) (ha : atI xs i = some v) (h : Q v H) : rIxT K (.ref p) (.int i) H Q := ⟨p, xs, i, v, rfl, rfl, hs, ha, h⟩
theorem r_fld {K : PySem.W.Frag} {f : Str} (h : ta σ H fun x H1 => ∃ a C dx fs v, x = .ref a ∧ H1 a = some (.ins C dx fs) ∧ Cls K C ∧ NoAttr K C f ∧ fs.lookup f = some v ∧ Q v H1) : tFld K ta f σ H Q := h
theorem r_sub {to ti : TE} {ts : TSet} {D : St → Hp → Prop} (h : to σ H fun o H1 => ti σ H1 fun i H2 => ts o i v H2 fun H3 => D σ H3) : gSub to ti ts v σ H D := h
theorem r_asg {g : TG} (h : te σ H fun x H1 => g x σ H1 nx) : tAsg te g ⟨nx, rt, bk, ct⟩ σ H := h
theorem r_setL {D : Hp → Prop} {p : Addr} {xs : List V} {k : Int} {j : Nat} (hp : H p = some (.lst xs)) (hj : ixN xs.length k = some j) (h : D (upd H p (.lst (xs.set j v)))) : rSetL (.ref p) (.int k) v H D := ⟨p, xs, k, j, rfl, rfl, hp, hj, h⟩
theorem r_par {i j : Nat} {ta : TA} (h : ta σ H fun vs H1 => ∃ v w, vs = [v, w] ∧ nx ((σ.set i (some v)).set j (some w)) H1) : tPar i j ta ⟨nx, rt, bk, ct⟩ σ H := h
theorem r_par2 {v w : V} {P : V → V → Prop} (h : P v w) : ∃ a b, [v, w] = [a, b] ∧ P a b := ⟨v, w, rfl, h⟩
theorem ite_d {p A B : Prop} [Decidable p] (h1 : p → A) (h2 : ¬ p → B) : if decide p = true then A else B := by
  by_cases h : p
  · rw [if_pos (decide_eq_true h)]; exact h1 h
  · rw [if_neg (by simp [h])]; exact h2 h
theorem ite_nd {p A B : Prop} [Decidable p] (h1 : ¬ p → A) (h2 : p → B) : if (!decide p) = true then A else B := by
  by_cases h : p
  · rw [if_neg (by simp [h])]; exact h2 h
  · rw [if_pos (by simp [h])]; exact h1 h
theorem ite_b {b : Bool} {A B : Prop} (h1 : b = true → A) (h2 : b = false → B) : if b = true then A else B := by
  cases b with
  | true => exact if_pos rfl ▸ h1 rfl
  | false => exact if_neg Bool.false_ne_true ▸ h2 rfl
theorem vint_inj {i j : Int} (h : V.int i = V.int j) : i = j := V.int.inj h
theorem vint_ne {i j : Int} (h : ¬ V.int i = V.int j) : ¬ i = j := fun e => h (congrArg V.int e)
theorem vstr_inj {i j : Str} (h : V.str i = V.str j) : i = j := V.str.inj h
end
/-- a module's constant -/
theorem pe_globE {X : Cx} {x : Str} {v : V} {pos : Pos} (hg : Gl X x) (h : ∃ u, X.mg x = some u ∧ RelV v u) (hd : (x == ("__debug__" : Str)) = false := by decide) : PE X (.Name x pos) (tC v) := by
  obtain ⟨u, hm, r⟩ := h
  exact pe_glob hg hm r hd
/-- // of any divisor but 0 below 2 ^ 9000 -/
def CDivG (_ j : Int) : Prop := j ≠ 0 ∧ j.natAbs.log2 < 9000
theorem op_fdivG {X : Cx} : OpR X (binaryOp .FloorDiv) (rI CDivG fun i j => .int (i.fdiv j)) := opI fun i j _ _ _ _ _ hc q => floordiv_int hc.1 q (.inl (PyProof.noPylong_of_log2 hc.2))
theorem cdivG {i j : Int} {b : Nat} (h : j ≠ 0) (hb : j.natAbs < 2 ^ b) (h0 : 0 < b) (h9 : b ≤ 9000) : CDivG i j := ⟨h, Nat.lt_of_lt_of_le (PySem.Flt.log2_lt_of h0 hb) h9⟩
theorem r_int1 {H : Hp} {Q : VK} {i : Int} (h : Q (.int i) H) : (∃ j, [V.int i] = [.int j] ∧ Q (.int j) H) ∨ ∃ k, [V.int i] = [.bl k] ∧ Q (.int (if k then 1 else 0)) H := .inl ⟨i, rfl, h⟩
theorem r_intB {H : Hp} {Q : VK} {k : Bool} (h : Q (.int (if k then 1 else 0)) H) : (∃ j, [V.bl k] = [.int j] ∧ Q (.int j) H) ∨ ∃ k', [V.bl k] = [.bl k'] ∧ Q (.int (if k' then 1 else 0)) H := .inr ⟨k, rfl, h⟩
theorem r_abs {H : Hp} {Q : VK} {i : Int} (h : Q (.int (if i < 0 then -i else i)) H) : ∃ j, [V.int i] = [.int j] ∧ Q (.int (if j < 0 then -j else j)) H := ⟨i, rfl, h⟩
/-! ### one step, at the goal's head -/

theorem r_lenL {K : PySem.W.Frag} {H : Hp} {Q : VK} {p : Addr} {ys : List V} (hs : SqL K H p ys) (h : Q (.int ys.length) H) : ∃ q zs, [V.ref p] = [.ref q] ∧ (SqL K H q zs ∨ SqT K H q zs) ∧ Q (.int zs.length) H := ⟨p, ys, rfl, .inl hs, h⟩
theorem r_lenT {K : PySem.W.Frag} {H : Hp} {Q : VK} {p : Addr} {ys : List V} (hs : SqT K H p ys) (h : Q (.int ys.length) H) : ∃ q zs, [V.ref p] = [.ref q] ∧ (SqL K H q zs ∨ SqT K H q zs) ∧ Q (.int zs.length) H := ⟨p, ys, rfl, .inr hs, h⟩
theorem r_listL {K : PySem.W.Frag} {H : Hp} {Q : VK} {p : Addr} {ys : List V} (hs : SqL K H p ys) (h : ∀ l, H l = none → Q (.ref l) (upd H l (.lst ys))) : ∃ q zs, [V.ref p] = [.ref q] ∧ (SqL K H q zs ∨ SqT K H q zs) ∧ ∀ l, H l = none → Q (.ref l) (upd H l (.lst zs)) := ⟨p, ys, rfl, .inl hs, h⟩
theorem r_sfld {K : PySem.W.Frag} {ta tv : TE} {f : Str} {nx : St → Hp → Prop} {rt : VK} {bk ct : St → Hp → Prop} {σ : St} {H : Hp}
    (h : tv σ H fun y H1 => ta σ H1 fun x H2 => ∃ a C dx fs, x = .ref a ∧ H2 a = some (.ins C dx fs) ∧ Cls K C ∧ NoAttr K C f ∧ fs.length < 1000 ∧ nx σ (upd H2 a (.ins C dx (putF f y fs)))) : sFld K ta tv f ⟨nx, rt, bk, ct⟩ σ H := h
/-! ### how large an int is -/
def Bits (b : Nat) (i : Int) : Prop := i.natAbs < 2 ^ b
theorem Bits.mono {a b : Nat} {i : Int} (h : Bits a i) (l : a ≤ b) : Bits b i := Nat.lt_of_lt_of_le h (Nat.pow_le_pow_right (by decide) l)
theorem Bits.mul {a b : Nat} {i j : Int} (h : Bits a i) (g : Bits b j) : Bits (a + b) (i * j) := wide_lt h g
theorem Bits.add {a b c : Nat} {i j : Int} (h : Bits a i) (g : Bits b j) (l1 : a < c) (l2 : b < c) : Bits c (i + j) := by
  have h2 : i.natAbs < 2 ^ (c - 1) := Bits.mono (b := c - 1) h (by omega)
  have g2 : j.natAbs < 2 ^ (c - 1) := Bits.mono (b := c - 1) g (by omega)
  have e : 2 ^ c = 2 ^ (c - 1) + 2 ^ (c - 1) := by
    obtain ⟨k, rfl⟩ : ∃ k, c = k + 1 := ⟨c - 1, by omega⟩
    rw [Nat.add_sub_cancel, Nat.pow_succ]
    omega
  show (i + j).natAbs < 2 ^ c
  rw [e]
  have := Int.natAbs_add_le i j
  omega
theorem Bits.neg {a : Nat} {i : Int} (h : Bits a i) : Bits a (-i) := by
  show (-i).natAbs < _
  rw [Int.natAbs_neg]
  exact h
theorem Bits.sub {a b c : Nat} {i j : Int} (h : Bits a i) (g : Bits b j) (l1 : a < c) (l2 : b < c) : Bits c (i - j) := by
  rw [Int.sub_eq_add_neg]
  exact Bits.add h g.neg l1 l2
theorem Bits.small {i : Int} {b : Nat} (h : i.natAbs < 18446744073709551616) (l : 64 ≤ b) : Bits b i := Bits.mono (a := 64) (show i.natAbs < 2 ^ 64 from h) l
theorem Bits.mulW {a b : Nat} {i j : Int} (h : Bits a i) (g : Bits b j) (l : a + b + 2 ≤ 1000000) : CMulW i j := wide_mul (h.mono (Nat.le_succ a)) (g.mono (Nat.le_succ b)) (Nat.succ_pos _) (Nat.succ_pos _) (by omega)
theorem Bits.divG {b : Nat} {i j : Int} (h : j ≠ 0) (g : Bits b j) (l : b + 1 ≤ 9000) : CDivG i j := cdivG h (g.mono (Nat.le_succ b)) (Nat.succ_pos _) l
theorem Bits.of_le {b : Nat} {i j : Int} (h : i.natAbs ≤ j.natAbs) (g : Bits b j) : Bits b i := Nat.lt_of_le_of_lt h g
theorem ite_nt {A B : Prop} (h : B) : if (!true) = true then A else B := iteF h
theorem ite_nf {A B : Prop} (h : A) : if (!false) = true then A else B := iteT h
/-! ### the law's stream: a list of the script's copy and three ints; told as ONE thing, so that a draw leaves the abstract heap as it is -/
def okS (j k : Int) : Prop := 0 ≤ j ∧ 0 ≤ k ∧ k < 2147483648
def phiS (s l : Addr) : Heap → Prop := fun h => ∃ (i j k : Int) (t u v : Tok) (n : Nat), h.get? s = some { cls := .type "list", data := .seq #[.ref l, .int i t, .int j u, .int k v] n } ∧ okS j k
def Strm (H : Hp) (s : Addr) : Prop := ∃ (l : Addr) (ns : List Int), H s = some (.ext (phiS s l)) ∧ H l = some (.lst (ns.map V.int)) ∧ ns.length ≤ 63
theorem Strm.mono {H H' : Hp} {s : Addr} (h : Strm H s) (e : Same H H') : Strm H' s := by
  obtain ⟨l, ns, h1, h2, h3⟩ := h
  exact ⟨l, ns, e _ _ h1, e _ _ h2, h3⟩
def cellsV (l : Addr) (i j k : Int) : List V := [.ref l, .int i, .int j, .int k]
theorem Vals.cells {l : Addr} {i j k : Int} {us : List Value} (h : Vals (cellsV l i j k) us) : ∃ t u v, us = [.ref l, .int i t, .int j u, .int k v] := by
  unfold cellsV at h
  cases h with
  | cons r0 h => cases h with
    | cons r1 h => cases h with
      | cons r2 h => cases h with
        | cons r3 h =>
          cases h
          obtain ⟨t, rfl⟩ := r1
          obtain ⟨u, rfl⟩ := r2
          obtain ⟨v, rfl⟩ := r3
          cases (show _ = Value.ref l from r0)
          exact ⟨t, u, v, rfl⟩
section
variable {X : Cx} {pins : List (Addr × Obj)} {σ : St} {H : Hp} {s : Shared} {a l : Addr}
/-- the abstract heap is told otherwise at one address, the heap stays -/
theorem Inv.retell {o o' : HO} (I : Inv X pins σ H s) (ha : H a = some o) (m : Mut (some o)) (m' : Mut (some o')) (new : ObjOk X.prog X.w (upd H a o') s.heap a o') : Inv X pins σ (upd H a o') s := by
  have hx : ∀ b u, H b = some u → ¬ Mut (some u) → b ≠ a := fun b u e nm z => by
    rw [z, ha] at e
    cases e
    exact nm m
  have un : Un X.fs [] H (upd H a o') s.heap s.heap := ⟨fun _ _ e _ _ _ => e, fun b ob e _ _ _ => ⟨ob.slots, e⟩, fun b ob e n _ => by
      rw [upd_ne (show b ≠ a from fun z => by rw [z, ha] at n; cases n)]; exact n, fun b ob e _ => ⟨ob, e⟩,
    fun b xs e => by rw [upd_ne (hx b _ e fun z => z)]; exact e, fun b ob u e => by rw [upd_ne (hx b _ e fun z => z)]; exact e, fun b ps e => ⟨#[], by rw [upd_ne (hx b _ e fun z => z), e]; simp⟩⟩
  have mu : Mut (H a) := by rw [ha]; exact m
  have hk : HOk X.prog X.w (upd H a o') s.heap := by
    obtain ⟨u, hu⟩ := objOk_get (I.hok a _ ha)
    exact I.hok.write mu (.inl rfl) (fun _ _ _ e => e) ⟨u, hu⟩ new
  exact I.un (h' := s.heap) (t' := s.toks) un hk
theorem phi_open {h : Heap} (P : Program) (w : World) (H : Hp) (x : ObjOk P w H h a (.ext (phiS a l))) : ∃ i j k : Int, okS j k ∧ ObjOk P w (upd H a (.lst (cellsV l i j k))) h a (.lst (cellsV l i j k)) := by
  obtain ⟨⟨i, j, k, t, u, v, n, e, hj⟩, _⟩ := x
  exact ⟨i, j, k, hj, (by show 4 ≤ sizeLine; decide), _, n, .cons rfl (.cons ⟨t, rfl⟩ (.cons ⟨u, rfl⟩ (.cons ⟨v, rfl⟩ .nil))), e⟩
theorem phi_close {h : Heap} {P : Program} {w : World} {H H' : Hp} {i j k : Int} (x : ObjOk P w H h a (.lst (cellsV l i j k))) (hj : okS j k) : ObjOk P w H' h a (.ext (phiS a l)) := by
  obtain ⟨_, its, n, r, e⟩ := x
  obtain ⟨t, u, v, rfl⟩ := Vals.cells r
  refine ⟨⟨i, j, k, t, u, v, n, e, hj⟩, ⟨_, e⟩, fun h1 h2 ⟨i, j, k, t, u, v, n, e, hj⟩ st => ⟨i, j, k, t, u, v, n, st _ e, hj⟩⟩
/-- within: the stream's four cells are told; behind: one thing again -/
def shutS (a l : Addr) (N : St → Hp → Prop) : St → Hp → Prop := fun σ H => ∃ i j k : Int, H a = some (.lst (cellsV l i j k)) ∧ okS j k ∧ N σ (upd H a (.ext (phiS a l)))
def shutV (a l : Addr) (N : VK) : VK := fun v H => ∃ i j k : Int, H a = some (.lst (cellsV l i j k)) ∧ okS j k ∧ N v (upd H a (.ext (phiS a l)))
def tOpen (a l : Addr) (t : TS) : TS := fun D σ H => H a = some (.ext (phiS a l)) ∧ ∀ i j k : Int, okS j k → t ⟨shutS a l D.nx, shutV a l D.rt, shutS a l D.bk, shutS a l D.ct⟩ σ (upd H a (.lst (cellsV l i j k)))
theorem Inv.shut {i j k : Int} (I : Inv X pins σ H s) (ha : H a = some (.lst (cellsV l i j k))) (hj : okS j k) : Inv X pins σ (upd H a (.ext (phiS a l))) s :=
  Inv.retell I ha trivial trivial (phi_close (I.hok a _ ha) hj)
theorem r_open {t : TS} {nx : St → Hp → Prop} {rt : VK} {bk ct : St → Hp → Prop} (h : H a = some (.ext (phiS a l))) (k : ∀ i j k : Int, okS j k → t ⟨shutS a l nx, shutV a l rt, shutS a l bk, shutS a l ct⟩ σ (upd H a (.lst (cellsV l i j k)))) : tOpen a l t ⟨nx, rt, bk, ct⟩ σ H := ⟨h, k⟩
theorem pss_open {body : List Stmt} {t : TS} (a l : Addr) (h : PSs X body t) : PSs X body (tOpen a l t) := by
  refine ⟨fun pins s σ H D I q => ?_⟩
  obtain ⟨ha, q⟩ := q
  obtain ⟨i, j, k, hj, ok⟩ := phi_open (a := a) (l := l) X.prog X.w H (I.hok a _ ha)
  refine thn (h.run pins s σ _ _ (Inv.retell (o' := .lst (cellsV l i j k)) I ha trivial trivial ok) (q i j k hj)) fun f s1 z => ?_
  cases f with
  | next =>
    obtain ⟨σ', H', I', i, j, k, e, hj, n⟩ := z
    exact ⟨σ', _, Inv.shut I' e hj, n⟩
  | brk =>
    obtain ⟨σ', H', I', i, j, k, e, hj, n⟩ := z
    exact ⟨σ', _, Inv.shut I' e hj, n⟩
  | cont =>
    obtain ⟨σ', H', I', i, j, k, e, hj, n⟩ := z
    exact ⟨σ', _, Inv.shut I' e hj, n⟩
  | ret u =>
    obtain ⟨v, σ', H', I', r, i, j, k, e, hj, n⟩ := z
    exact ⟨v, σ', _, Inv.shut I' e hj, r, n⟩
/-- a list of four is told as a stream where it is handed back -/
def tShut (t : TS) : TS := fun D σ H => t ⟨D.nx, fun v H' => ∃ (a l : Addr) (i j k : Int), v = .ref a ∧ H' a = some (.lst (cellsV l i j k)) ∧ okS j k ∧ D.rt v (upd H' a (.ext (phiS a l))), D.bk, D.ct⟩ σ H
theorem r_shut {t : TS} {nx : St → Hp → Prop} {rt : VK} {bk ct : St → Hp → Prop} (h : t ⟨nx, fun v H' => ∃ (a l : Addr) (i j k : Int), v = .ref a ∧ H' a = some (.lst (cellsV l i j k)) ∧ okS j k ∧ rt v (upd H' a (.ext (phiS a l))), bk, ct⟩ σ H) : tShut t ⟨nx, rt, bk, ct⟩ σ H := h
theorem pss_shut {body : List Stmt} {t : TS} (h : PSs X body t) : PSs X body (tShut t) := by
  refine ⟨fun pins s σ H D I q => ?_⟩
  refine thn (h.run pins s σ _ _ I q) fun f s1 z => ?_
  cases f with
  | ret u =>
    obtain ⟨v, σ', H', I', r, a, l, i, j, k, rfl, e, hj, n⟩ := z
    exact ⟨_, σ', _, Inv.shut I' e hj, r, n⟩
  | next => exact z
  | brk => exact z
  | cont => exact z
end
/-- what the stream leaves behind is the heap ahead -/
theorem upd_back {H : Hp} {a : Addr} {o o' : HO} (h : H a = some o') : upd (upd H a o) a o' = H := by
  funext b
  by_cases e : b = a
  · rw [e, upd_same, h]
  · rw [upd_ne e, upd_ne e]
theorem upd_back2 {H : Hp} {a : Addr} {o o1 o' : HO} (h : H a = some o') : upd (upd (upd H a o) a o1) a o' = H := by
  rw [upd_upd, upd_back h]
theorem upd_back3 {H : Hp} {a : Addr} {o o1 o2 o' : HO} (h : H a = some o') : upd (upd (upd (upd H a o) a o1) a o2) a o' = H := by
  rw [upd_upd, upd_upd, upd_back h]
/-! ### C(..) where what its __init__ raises is wished for at the slots -/
section
variable {X : Cx} {CX : CXT} {k : Nat} {f C : Addr} {fd : FuncData} {ps : List Str} {sp : Sp} {dvs : List V} {ds : List Value} {E : St → XK} {x : Str} {p pos : Pos} {e : Expr} {es : List Expr} {t : TA}
def tMakeS (C : Addr) (sp : Sp) (dvs : List V) (E : St → XK) (t : TA) : TE := fun σ H Q => t σ H fun vs H1 => ∀ x dx, H1 x = none → H1 dx = none → dx ≠ x →
  sp (.ref x :: (vs ++ dvs)) (upd (upd H1 dx (.own x)) x (.ins C dx [])) (fun v H2 => v = .non ∧ Q (.ref x) H2) (E σ)
theorem make_atS {pins : List (Addr × Obj)} {σ : St} {H : Hp} {s : Shared} {Q : VK} {us : List Value} {vs : List V} (mk : Mk X.K C f) (ok : FnOk X.prog X.w X.K X.mg X.base CX k f fd ps sp) (room : Room (k + 1) X.A) (bd : Binds X.K fd ps ds) (dv : Vals dvs ds)
    (pass : PassesAt CX X σ (E σ)) (I : Inv X pins σ H s) (rel : Vals vs us)
    (ask : ∀ x dx, H x = none → H dx = none → dx ≠ x → sp (.ref x :: (vs ++ dvs)) (upd (upd H dx (.own x)) x (.ins C dx [])) (fun v H2 => v = .non ∧ Q (.ref x) H2) (E σ)) :
    wpAny (model X.prog X.w) X.A (call (.ref C) us) (EP X pins σ Q) X.xe s := by
  let n := s.heap.objs.size
  have want := ask (n + 1) n (I.hok.fresh (Nat.le_succ _)) (I.hok.fresh (Nat.le_refl _)) (by show n ≠ n + 1; omega)
  have J := Inv.made (C := C) I
  have relS : Vals (V.ref (n + 1) :: (vs ++ dvs)) (Value.ref (n + 1) :: (us ++ ds)) := .cons rfl (rel.append dv)
  have many : (Value.ref (n + 1) :: us ++ ds).length = ps.length := relS.length.symm.trans (ok.len _ _ _ _ want)
  have go := ok.run _ X.stack _ _ ⟨Value.ref (n + 1) :: us, []⟩ (Value.ref (n + 1) :: (us ++ ds)) _ _ (E σ) (room.make C us []) (J.env0.make C us []) (bd _ (Value.ref (n + 1) :: us) J.kIn many) relS want
  refine wpAny_call (make_map (f := f) I.kIn mk.makes mk.init (beq_iff_eq.mp mk.fn) (codeAny_mono go fun out s' end_ => ?_))
  match out, end_ with
  | .error e, end_ => exact pass pins _ _ e s' J end_
  | .ok (.ret u), end_ =>
    obtain ⟨v, H', I3, rv, ev, q3⟩ := J.after end_
    cases ev
    exact ⟨rv, V.ref (n + 1), H', I3, rfl, q3⟩
  | .ok .next, end_ => exact end_.elim
  | .ok .brk, end_ => exact end_.elim
  | .ok .cont, end_ => exact end_.elim
theorem pe_makeS (mk : Mk X.K C f) (ok : FnOk X.prog X.w X.K X.mg X.base CX k f fd ps sp) (room : Room (k + 1) X.A) (gl : Gl X x) (gm : X.mg x = some (.ref C)) (bd : Binds X.K fd ps ds) (dv : Vals dvs ds) (pass : ∀ σ, PassesAt CX X σ (E σ))
    (args : PA X (e :: es) t) (d1 : (x == ("__debug__" : Str)) = false := by decide) (d2 : starEach (e :: es) X.env = (false, eval e X.env) :: starEach es X.env := by rfl) (d3 : (backTo pos (starEach es X.env)).any (·.1) = false := by rfl) :
    PE X (.Call (.Name x p) (e :: es) [] pos) (tMakeS C sp dvs E t) :=
  ⟨fun pins s σ H Q I h => wpAny_Call_Name_kw (ld_glob I gl gm (PySem.W.callWith_K (h₀ := X.base) I.ok.mod.kin mk.kp (thn (args.run pos pins s σ H _ I h) fun us s1 ⟨vs, H1, I1, r, q⟩ => ⟨I1.kIn, make_atS mk ok room bd dv (pass σ) I1 r q⟩) d2 d3) d1)⟩
theorem passX {E : XK} (tk : Takes X (fun cls d _ H => E cls d H)) : Passes (L2.CX X.prog X.w) X E := fun pins σ H s e s' I c => passes_call tk (fun _ _ _ _ z => z) pins σ H s e s' I c
end
section
variable {σ : St} {H : Hp} {Q : VK} {C : Addr} {sp : Sp} {dvs : List V} {t : TA}
theorem r_make {E : XK} (h : t σ H fun vs H1 => ∀ x dx, H1 x = none → H1 dx = none → dx ≠ x → sp (.ref x :: (vs ++ dvs)) (upd (upd H1 dx (.own x)) x (.ins C dx [])) (fun v H2 => v = .non ∧ Q (.ref x) H2) E) : tMake C sp dvs E t σ H Q := h
theorem r_makeS {E : St → XK} (h : t σ H fun vs H1 => ∀ x dx, H1 x = none → H1 dx = none → dx ≠ x → sp (.ref x :: (vs ++ dvs)) (upd (upd H1 dx (.own x)) x (.ins C dx [])) (fun v H2 => v = .non ∧ Q (.ref x) H2) (E σ)) : tMakeS C sp dvs E t σ H Q := h
end
/-! ### loops -/
def forR (J : It) (g : TG) (tb : TS) (D : Ends) (σ : St) (H : Hp) : Prop := ∃ W : Nat → Nat → St → Hp → Prop, (∃ m, W 0 m σ H) ∧ ∀ i m σ H, W i m σ H →
  (J.stop i H ∧ D.nx σ H) ∨ (J.go i H ∧ ∃ N : St → Hp → Prop, (∀ σ' H', N σ' H' → ∃ m', m' < m ∧ W (i + 1) m' σ' H') ∧ ∀ x H', J.yld i H x H' → g x σ H' fun σ2 H2 => tb { D with nx := N, ct := N, bk := D.nx } σ2 H2)
section
variable {σ : St} {H : Hp} {wi : TI} {g : TG} {tb : TS} {nx : St → Hp → Prop} {rt : VK} {bk ct : St → Hp → Prop} {ta : TA} {tl : TE} {K : PySem.W.Frag} {a : Addr} {xs : List V} {k : Nat} {c : TT}
theorem r_for (h : wi σ H fun J H1 => forR J g tb ⟨nx, rt, bk, ct⟩ σ H1) : tFor wi g tb ⟨nx, rt, bk, ct⟩ σ H := h
theorem r_iRng1 {R : It → Hp → Prop} (h : ta σ H fun vs H1 => ∃ j : Int, vs = [.int j] ∧ -(2 ^ 62) ≤ j ∧ j < 2 ^ 62 ∧ R (Itr 0 j.toNat) H1) : iRng1 ta σ H R := h
theorem r_iList {R : It → Hp → Prop} (h : tl σ H fun x H1 => ∃ a, x = .ref a ∧ (∃ xs, SqL K H1 a xs) ∧ R (Itl K a) H1) : iList K tl σ H R := h
theorem r_rng1 {i : Int} {P : It → Prop} (h1 : -(2 ^ 62) ≤ i) (h2 : i < 2 ^ 62) (h : P (Itr 0 i.toNat)) : ∃ j : Int, [V.int i] = [.int j] ∧ -(2 ^ 62) ≤ j ∧ j < 2 ^ 62 ∧ P (Itr 0 j.toNat) := ⟨i, rfl, h1, h2, h⟩
theorem r_lstI {P : It → Prop} (hs : SqL K H a xs) (h : P (Itl K a)) : ∃ b, V.ref a = .ref b ∧ (∃ xs, SqL K H b xs) ∧ P (Itl K b) := ⟨a, rfl, ⟨xs, hs⟩, h⟩
theorem for_rng {lo : Int} {n : Nat} (Pv : Nat → St → Hp → Prop) (h0 : Pv 0 σ H) (hs : ∀ i σ H, i < n → Pv i σ H → tb ⟨Pv (i + 1), rt, nx, Pv (i + 1)⟩ (σ.set k (some (.int (lo + (i : Int))))) H) (hd : ∀ σ H, Pv n σ H → nx σ H) :
    forR (Itr lo n) (gName k) tb ⟨nx, rt, bk, ct⟩ σ H := for_range (D := ⟨nx, rt, bk, ct⟩) Pv h0 hs hd
theorem for_lst (Pv : Nat → St → Hp → Prop) (h0 : Pv 0 σ H) (hl : ∀ i σ H, i ≤ xs.length → Pv i σ H → SqL K H a xs) (hs : ∀ i x σ H, xs[i]? = some x → Pv i σ H → tb ⟨Pv (i + 1), rt, nx, Pv (i + 1)⟩ (σ.set k (some x)) H) (hd : ∀ σ H, Pv xs.length σ H → nx σ H) :
    forR (Itl K a) (gName k) tb ⟨nx, rt, bk, ct⟩ σ H := for_list (D := ⟨nx, rt, bk, ct⟩) Pv h0 hl hs hd
/-- a while by a word with a measure; behind the test: ⟨_, fun _ _ n => n, ..⟩ -/
theorem r_while (W : Nat → St → Hp → Prop) (m0 : Nat) (h0 : W m0 σ H) (hs : ∀ m σ H, W m σ H → c σ H fun b H1 => if b = true then ∃ N : St → Hp → Prop, (∀ σ' H', N σ' H' → ∃ m', m' < m ∧ W m' σ' H') ∧ tb ⟨N, rt, nx, N⟩ σ H1 else nx σ H1) :
    tWhile c tb ⟨nx, rt, bk, ct⟩ σ H := ⟨W, ⟨m0, h0⟩, hs⟩
theorem r_cut {t u : TS} (Mid : St → Hp → Prop) (h1 : t ⟨Mid, rt, bk, ct⟩ σ H) (h2 : ∀ σ H, Mid σ H → u ⟨nx, rt, bk, ct⟩ σ H) : C8.tCut t u ⟨nx, rt, bk, ct⟩ σ H := ⟨Mid, h1, h2⟩
end
theorem same_new {H : Hp} {p : Addr} {o : HO} (h : H p = none) : Same H (upd H p o) := fun b u e => by rw [upd_ne (ne_of_none e h)]; exact e
theorem same_mk {H : Hp} {x dx : Addr} {o u : HO} (h1 : H x = none) (h2 : H dx = none) : Same H (upd (upd H dx o) x u) := fun b v e => by
  rw [upd_ne (ne_of_none e h1), upd_ne (ne_of_none e h2)]
  exact e
/-! ### facts of the top that the head tells as Bools -/
def excCB (K : PySem.W.Frag) (D : Addr) : Bool := [He.eqO (PySem.W.findIn K (.ref D) "__getattribute__") (some (some (.builtin "BaseException.__getattribute__"))), He.eqO (PySem.W.findIn K (.ref D) "__getattr__") (some none), decide (PySem.W.subIn K (.ref D) (.type "BaseException") = some true),
  PySem.W.hasDictIn K D, He.eqO (PySem.W.findIn K (.ref D) "__class__") (some (some (.builtin "object.__class__"))), He.eqO (PySem.W.specialIn K (.builtin "object.__class__") "__get__") (some (some (.builtin "getset_descriptor.__get__"))),
  decide (PySem.W.takesIn K (.builtin "object.__class__") = some true), decide (PySem.W.mroIn K D (.type "object") = some true)].all id
theorem all8 {b1 b2 b3 b4 b5 b6 b7 b8 : Bool} (h : [b1, b2, b3, b4, b5, b6, b7, b8].all id = true) : b1 = true ∧ b2 = true ∧ b3 = true ∧ b4 = true ∧ b5 = true ∧ b6 = true ∧ b7 = true ∧ b8 = true := by
  simpa using h
theorem excCB_ok {K : PySem.W.Frag} {D : Addr} (h : excCB K D = true) : ExcC K D := by
  obtain ⟨h1, h2, h3, h4, h5, h6, h7, h8⟩ := all8 h
  exact ⟨He.eqO_ok h1, He.eqO_ok h2, of_decide_eq_true h3, h4, He.eqO_ok h5, He.eqO_ok h6, of_decide_eq_true h7, of_decide_eq_true h8⟩
def isiCB (K : PySem.W.Frag) (D : Addr) : Bool := [He.eqO (PySem.W.findIn K (.ref D) "__class__") (some (some (.builtin "object.__class__"))), He.eqO (PySem.W.specialIn K (.builtin "object.__class__") "__get__") (some (some (.builtin "getset_descriptor.__get__"))),
  decide (PySem.W.takesIn K (.builtin "object.__class__") = some true), decide (PySem.W.mroIn K D (.type "object") = some true), true, true, true, true].all id
theorem isi_ins {K : PySem.W.Frag} {H : Hp} {a D dx : Addr} {fs : List (Str × V)} (h : isiCB K D = true) (c : Cls K D) (e : H a = some (.ins D dx fs)) : TyX K H (.ref a) (.ref D) := by
  obtain ⟨h1, h2, h3, h4, _⟩ := all8 h
  exact .base (.ins e c (He.eqO_ok h1) (He.eqO_ok h2) (of_decide_eq_true h3) (of_decide_eq_true h4))
theorem pss_given {X : Cx} {body : List Stmt} {t : TS} {P : Prop} (h : P → PSs X body t) : PSs X body (fun D σ H => P ∧ t D σ H) := ⟨fun pins s σ H D I q => (h q.1).run pins s σ H D I q.2⟩
theorem r_isi {K : PySem.W.Frag} {H : Hp} {Q : VK} {x c : V} {t u : Value} {b : Bool} (hx : TyX K H x t) (hc : ClsV c u) (e : PySem.W.kitOne K t u = some b) (h : Q (.bl b) H) : rIsi K [x, c] H Q := ⟨x, c, t, u, b, rfl, hc, hx, e, h⟩
/-! ### operators that a class of the program's own defines -/
section
variable {X : Cx} {CX : CXT} {n : Nat} {C g : Addr} {fd : FuncData} {ps : List Str} {sp : Sp} {E : XK}
def rBin (C : Addr) (sp : Sp) (E : XK) : R2 := fun x y H Q => ∃ a b dx dy fs gs, x = .ref a ∧ y = .ref b ∧ H a = some (.ins C dx fs) ∧ H b = some (.ins C dy gs) ∧ sp [.ref a, .ref b] H Q E
theorem back_of {R : Value → Shared → Prop} {z : V} {v : Value} {s' : Shared} (r : RelV z v) (h : R v s') : PySem.W.CmpBack R v s' := by
  cases z with
  | non => cases (show v = Value.none from r); exact h
  | bl b => cases (show v = Value.bool b from r); exact h
  | int i => obtain ⟨t, rfl⟩ := (show ∃ t, v = Value.int i t from r); exact h
  | str i => obtain ⟨t, rfl⟩ := (show ∃ t, v = Value.str i t from r); exact h
  | byt i => obtain ⟨t, rfl⟩ := (show ∃ t, v = Value.bytes i t from r); exact h
  | flt i => obtain ⟨t, rfl⟩ := (show ∃ t, v = Value.float i t from r); exact h
  | ref i => cases (show v = Value.ref i from r); exact h
  | ty i => cases (show v = Value.type i from r); exact h
theorem ins_inst {pins : List (Addr × Obj)} {σ : St} {H : Hp} {s : Shared} {a dx : Addr} {fs : List (Str × V)} (I : Inv X pins σ H s) (h : H a = some (.ins C dx fs)) : ∃ od, PySem.W.InstAt s.heap a (PySem.W.instObj C dx) C (some od) := by
  obtain ⟨mA, J, _⟩ := ins_get I.hok h
  obtain ⟨od, J, _⟩ := J.look
  exact ⟨od, J⟩
theorem op_bin {op : Operator} (first : PySem.W.selfFirst X.K C = true) (m : Meth X.K C (PySem.dunder op.info.2) g) (F : FnOk X.prog X.w X.K X.mg X.base CX n g fd ps sp) (bd : Binds X.K fd ps []) (room : Room n X.A) (pass : Passes CX X E) : OpR X (binaryOp op) (rBin C sp E) := by
  intro pins s σ H x y v u Q I rx ry h
  obtain ⟨a, b, dx, dy, fs, gs, rfl, rfl, ha, hb, q⟩ := h
  cases (show v = Value.ref a from rx)
  cases (show u = Value.ref b from ry)
  obtain ⟨od, J⟩ := ins_inst I ha
  obtain ⟨od', J'⟩ := ins_inst I hb
  obtain ⟨mF, hF⟩ := I.fr
  refine PySem.W.binop_K hF I.ok.mod.kin J J'.type first m.at_ m.fn ?_
  refine wpAny_mono (run_fn (vs := [.ref a, .ref b]) (us := [.ref a, .ref b]) F room bd .nil pass I (.cons rfl (.cons rfl .nil)) (by rw [List.append_nil]; exact q)) (fun w s' z => ?_) fun _ _ e => e
  obtain ⟨z', H', I', rz, qz⟩ := z
  exact back_of rz ⟨z', H', I', rz, qz⟩
def rUnO (C : Addr) (sp : Sp) (E : XK) : V → Hp → VK → Prop := fun x H Q => ∃ a dx fs, x = .ref a ∧ H a = some (.ins C dx fs) ∧ sp [.ref a] H Q E
theorem un_negO (m : Meth X.K C "__neg__" g) (F : FnOk X.prog X.w X.K X.mg X.base CX n g fd ps sp) (bd : Binds X.K fd ps []) (room : Room n X.A) (pass : Passes CX X E) : UnR X (unaryOp .USub) (rUnO C sp E) := by
  intro pins s σ H x v Q I rx h
  obtain ⟨a, dx, fs, rfl, ha, q⟩ := h
  cases (show v = Value.ref a from rx)
  obtain ⟨od, J⟩ := ins_inst I ha
  obtain ⟨mF, hF⟩ := I.fr
  exact PySem.W.ksp_neg hF I.ok.mod.kin J m.at_ m.fn (run_fn (vs := [.ref a]) (us := [.ref a]) F room bd .nil pass I (.cons rfl .nil) (by rw [List.append_nil]; exact q))
/-- == by an own __eq__, both answers -/
theorem op_eqO (m : Meth X.K C "__eq__" g) (F : FnOk X.prog X.w X.K X.mg X.base CX n g fd ps sp) (bd : Binds X.K fd ps []) (room : Room n X.A) (pass : Passes CX X E) : OpR X (compareOp .Eq) (rBin C sp E) := by
  intro pins s σ H x y v u Q I rx ry h
  obtain ⟨a, b, dx, dy, fs, gs, rfl, rfl, ha, hb, q⟩ := h
  cases (show v = Value.ref a from rx)
  cases (show u = Value.ref b from ry)
  obtain ⟨od, J⟩ := ins_inst I ha
  obtain ⟨od', J'⟩ := ins_inst I hb
  obtain ⟨mF, hF⟩ := I.fr
  show wpAny (model X.prog X.w) X.A (richCompare .Eq (.ref a) (.ref b)) (EP X pins σ Q) X.xe s
  refine PySem.W.cmp_K (op := .Eq) (tb := .ref C) room.units0 hF I.ok.mod.kin J J'.type (by simp [PySem.W.notFirst]) m.at_ m.fn ?_
  refine wpAny_mono (run_fn (vs := [.ref a, .ref b]) (us := [.ref a, .ref b]) F room bd .nil pass I (.cons rfl (.cons rfl .nil)) (by rw [List.append_nil]; exact q)) (fun w s' z => ?_) fun _ _ e => e
  obtain ⟨z', H', I', rz, qz⟩ := z
  exact back_of rz ⟨z', H', I', rz, qz⟩
end
/-! ### the rules with the written part by its letter -/
section
variable {X : Cx} {K : PySem.W.Frag} {e o : Expr} {f : Str} {pos pos' : Pos} {ta tv : TE} {value : Expr} {tg : Expr} {tl : TE}
theorem ix_listK (h : X.K = K) : IxR X (rIxL K) := by subst h; exact ix_list
theorem ix_tupK (h : X.K = K) : IxR X (rIxT K) := by subst h; exact ix_tup
theorem call_isiK' (h : X.K = K) : CallR X (.builtin "isinstance") (rIsi K) := by subst h; exact call_isi
theorem call_lenK (h : X.K = K) : CallR X (.builtin "len") (fun xs H Q => ∃ p ys, xs = [.ref p] ∧ (SqL K H p ys ∨ SqT K H p ys) ∧ Q (.int ys.length) H) := by subst h; exact call_len_seq
theorem call_listK (h : X.K = K) : CallR X (.type "list") (fun xs H Q => ∃ p ys, xs = [.ref p] ∧ (SqL K H p ys ∨ SqT K H p ys) ∧ ∀ l, H l = none → Q (.ref l) (upd H l (.lst ys))) := by subst h; exact call_list_of
theorem pe_fldK (h : X.K = K) (he : PE X e ta) (hb : attributeBase e f X.env (eval e X.env) = eval e X.env) : PE X (.Attribute e f pos) (tFld K ta f) := by subst h; exact pe_fld he hb
theorem ps_fldK (h : X.K = K) (ha : PE X o ta) (hv : PE X value tv) (hs : swapsWith value (some (.Attribute o f pos')) pos.line X.env = pure false) : PS X (.Assign [.Attribute o f pos'] value pos) (sFld K ta tv f) := by subst h; exact ps_fld ha hv hs
theorem pi_listK (h : X.K = K) (hl : PE X e tl) : PI X tg e (iList K tl) := by subst h; exact pi_list hl
theorem pi_tupK (h : X.K = K) (hl : PE X e tl) : PI X tg e (iTup K tl) := by subst h; exact pi_tup hl
theorem op_eqDK (h : X.K = K) (hu : X.A.units + 64 < cLine) : OpR X (compareOp .Eq) (rEqD K) := by subst h; exact op_eqD hu
theorem op_neDK (h : X.K = K) (hu : X.A.units + 64 < cLine) : OpR X (compareOp .NotEq) (rNeD K) := by subst h; exact op_neD hu
theorem op_inK (h : X.K = K) : OpR X (compareOp .In) (rIn K false) := by subst h; exact op_in_seq
theorem op_notInK (h : X.K = K) : OpR X (compareOp .NotIn) (rIn K true) := by subst h; exact op_notIn_seq
end
/-! ### a tuple of texts that the module holds -/
def strOf : Value → Option Str
  | .str x _ => some x
  | _ => none
def tupStrs (K : PySem.W.Frag) (a : Addr) (xs : List Str) : Bool := match K.lookup a with
  | some ⟨.type "tuple", _, .seq its _, _⟩ => decide (its.toList.map strOf = xs.map some)
  | _ => false
theorem vals_strs : ∀ (us : List Value) (xs : List Str), us.map strOf = xs.map some → Vals (xs.map V.str) us
  | [], [], _ => .nil
  | [], _ :: _, h => by cases h
  | _ :: _, [], h => by cases h
  | u :: us, x :: xs, h => by
    have h1 := (List.cons.inj h).1
    have h2 := (List.cons.inj h).2
    refine .cons ?_ (vals_strs us xs h2)
    cases u with
    | str y t => exact ⟨t, by rw [Option.some.inj h1]⟩
    | _ => cases h1
theorem tupStrs_ok {K : PySem.W.Frag} {H : Hp} {a : Addr} {xs : List Str} (h : tupStrs K a xs = true) (hl : xs.length ≤ 1000) : SqT K H a (xs.map V.str) := by
  unfold tupStrs at h
  split at h
  · rename_i od its n sl hk
    have e := of_decide_eq_true h
    have l := congrArg List.length e
    rw [List.length_map, List.length_map, Array.length_toList] at l
    exact .inr ⟨_, its, n, hk, rfl, rfl, by rw [l, sizeLine_eq]; omega, vals_strs _ _ e⟩
  · cases h
/-! ### != of a class with an own __eq__ and no __ne__ -/
section
open PySem.W in
theorem special_ne {M : Model} {A : Around} {E : Value → Shared → Prop} {s : Shared} {K : PySem.W.Frag} {a b C : Addr} {ox : Obj} {od : Option Obj} {Q : Option Value → Shared → Prop} (KX : K.In s.heap) (J : PySem.W.InstAt s.heap a ox C od)
    (ne : PySem.W.findIn K (.ref C) "__ne__" = some (some (.builtin "object.__ne__")))
    (h : wpAny M A (call (.builtin "object.__ne__") [.ref a, .ref b]) (fun v => Q (some v)) E s) : wpAny M A (callSpecialIfBound? (.ref a) "__ne__" [.ref b]) Q E s := by
  simp only [callSpecialIfBound?, bindSpecialIfBound?]
  refine wpAny_holding (wpAny_bind (wpAny_bind (wpAny_bind (J.type.here ((PySem.W.looks_findIn KX ne).here ?_)))))
  simp only [PySem.F.cmp_object.ne.bind]
  refine wpAny_bind (wpAny_askSetting (wpAny_ite ?_))
  have fin : wpAny M A (call (.builtin "object.__ne__") ([.ref a] ++ [.ref b]) >>= fun v => pure (some v)) Q E s := wpAny_bind (wpAny_mono h (fun v s' z => wpAny_pure z) fun _ _ z => z)
  split
  · exact wpAny_bind (wpAny_pure (wpAny_pure fin))
  · exact wpAny_tryCatch (wpAny_bind (wpAny_pure (wpAny_pure fin)))
variable {X : Cx} {CX : CXT} {n : Nat} {C g : Addr} {fd : FuncData} {ps : List Str} {sp : Sp} {E : XK}
/-- a callee of a builtin -/
theorem run_in1 {pins : List (Addr × Obj)} {σ : St} {H : Hp} {s : Shared} {Q : VK} {us : List Value} {vs : List V} (F : FnOk X.prog X.w X.K X.mg X.base CX n g fd ps sp) (room : Room (n + 1) X.A) (bd : Binds X.K fd ps []) (pass : Passes CX X E)
    (I : Inv X pins σ H s) (r : Vals vs us) (h : sp vs H Q E) : wpAny (model X.prog X.w) X.A.in1 (call (.ref g) us) (EP X pins σ Q) X.xe s := by
  have hl : (us ++ []).length = ps.length := by rw [List.append_nil, ← r.length]; exact F.len _ _ _ _ h
  have b := bd s us I.kIn hl
  rw [List.append_nil] at b
  refine wpAny_call (codeAny_mono (F.run X.A.in1 X.stack s H ⟨us, []⟩ us vs Q E room.in1 I.env0.in1 b r h) fun r s' z => ?_)
  match r, z with
  | .error e, z => exact pass pins σ H s e s' I z
  | .ok (.ret u), z => exact I.after z
  | .ok .next, z => exact z.elim
  | .ok .brk, z => exact z.elim
  | .ok .cont, z => exact z.elim
def rNeO (C : Addr) (sp : Sp) (E : XK) : R2 := fun x y H Q => ∃ a b dx dy fs gs, x = .ref a ∧ y = .ref b ∧ H a = some (.ins C dx fs) ∧ H b = some (.ins C dy gs) ∧ sp [.ref a, .ref b] H (fun v H' => ∃ t, v = .bl t ∧ Q (.bl (!t)) H') E
theorem op_neO (ne : PySem.W.findIn X.K (.ref C) "__ne__" = some (some (.builtin "object.__ne__"))) (ob : PySem.W.subIn X.K (.ref C) (.type "object") = some true) (m : Meth X.K C "__eq__" g) (F : FnOk X.prog X.w X.K X.mg X.base CX n g fd ps sp) (bd : Binds X.K fd ps [])
    (room : Room (n + 1) X.A) (pass : Passes CX X E) : OpR X (compareOp .NotEq) (rNeO C sp E) := by
  intro pins s σ H x y v u Q I rx ry h
  obtain ⟨a, b, dx, dy, fs, gs, rfl, rfl, ha, hb, q⟩ := h
  cases (show v = Value.ref a from rx)
  cases (show u = Value.ref b from ry)
  obtain ⟨od, J⟩ := ins_inst I ha
  obtain ⟨od', J'⟩ := ins_inst I hb
  have KX := I.kIn
  have run : wpAny (model X.prog X.w) X.A.in1 (call (.ref g) [.ref a, .ref b]) (fun r s' => ∃ t, r = .bool t ∧ EP X pins σ Q (.bool (!t)) s') X.xe s := by
    refine wpAny_mono (run_in1 (vs := [.ref a, .ref b]) F room bd pass I (.cons rfl (.cons rfl .nil)) q) (fun r s' z => ?_) fun _ _ e => e
    obtain ⟨z', H', I', rz, t, rfl, qz⟩ := z
    exact ⟨t, rz, .bl (!t), H', I', rfl, qz⟩
  have body : wpAny (model X.prog X.w) X.A (call (.builtin "object.__ne__") [.ref a, .ref b]) (fun r s' => ∃ t, r = .bool t ∧ EP X pins σ Q (.bool t) s') X.xe s := by
    refine wpAny_call (codeAny_call_builtin PySem.F.cmp_object.ne.plain PySem.F.cmpEntry_ne (PySem.W.check_slot (i := "object.__ne__") (owner := "object") (n := "__ne__") PySem.F.cmpKind_ne PySem.F.cmpSplit_ne (J.type.andThen (PySem.W.looks_subIn KX ob)) (PySem.F.cmpArgs_ne _ _) ?_))
    unfold Builtin.«object.__ne__»
    repeat (first
      | with_reducible refine wpAny_cRoomFor room.in1.units0 ?_
      | (refine wpAny_bind (m := callSpecialIfBound? (.ref a) (Str.ofString "__eq__") [.ref b])
          (PySem.W.ifBound_K KX J m.at_ m.fn (wpAny_mono run (fun r s' z => ?_) fun _ _ e => e))
         obtain ⟨t, rfl, z⟩ := z)
      | (refine wpAny_bind (m := truthy (.bool _)) (wpAny_truthy_bool ?_))
      | exact wpAny_pure ⟨_, rfl, z⟩
      | exact ⟨_, rfl, z⟩
      | wp_step)
  have one : wpAny (model X.prog X.w) X.A (tryCompare (.ref a) "__ne__" (.ref b)) (fun r s' => ∃ v, r = some v ∧ EP X pins σ Q v s') X.xe s := by
    unfold tryCompare
    refine wpAny_bind (special_ne KX J ne (wpAny_mono body (fun r s' z => ?_) fun _ _ e => e))
    obtain ⟨t, rfl, z⟩ := z
    exact wpAny_pure ⟨_, rfl, z⟩
  show wpAny (model X.prog X.w) X.A (richCompare .NotEq (.ref a) (.ref b)) (EP X pins σ Q) X.xe s
  unfold richCompare
  simp only [oneThing_ref]
  refine wpAny_holding (wpAny_bind (wpAny_cRoomFor room.units0 ?_))
  rw [cmpInfo_NotEq]
  dsimp only
  refine wpAny_bind (J.type.here (wpAny_bind (J'.type.here ?_)))
  rw [show (Value.ref C != Value.ref C) = false from by simp]
  simp only [Bool.false_eq_true, if_false]
  refine wpAny_bind (wpAny_pure ?_)
  simp only [Bool.false_eq_true, if_false]
  refine wpAny_bind (wpAny_mono one (fun r s' z => ?_) fun _ _ e => e)
  obtain ⟨v, rfl, hq⟩ := z
  exact wpAny_pure hq
end
/-! ### an own exception whose __init__ calls its base's with a text, and keeps one field -/
def lwB (K : PySem.W.Frag) (L : Addr) : Bool := He.eqO (PySem.W.specialIn K (.ref L) "__getattribute__") (some (some (.builtin "type.__getattribute__"))) && (PySem.W.readsIn K L (.type "type") &&
  (match PySem.W.findCls K (.ref L) (.type "type") "__init__" with | some (.val v) => decide (v = .builtin "ValueError.__init__") | _ => false))
theorem lwB_ok {K : PySem.W.Frag} {L : Addr} (h : lwB K L = true) : PySem.W.specialIn K (.ref L) "__getattribute__" = some (some (.builtin "type.__getattribute__")) ∧ PySem.W.readsIn K L (.type "type") = true ∧
    PySem.W.findCls K (.ref L) (.type "type") "__init__" = some (.val (.builtin "ValueError.__init__")) := by
  unfold lwB at h
  obtain ⟨h1, h⟩ := Bool.and_eq_true_iff.mp h
  obtain ⟨h2, h3⟩ := Bool.and_eq_true_iff.mp h
  refine ⟨He.eqO_ok h1, h2, ?_⟩
  split at h3
  · rename_i v e
    rw [e, of_decide_eq_true h3]
  · cases h3
def oexB (K : PySem.W.Frag) (C fI : Addr) : Bool := [(match K.lookup C with
    | some ⟨.type "type", _, .cls cd, sl⟩ => (match cd.mro, sl.toList with
      | .ref D :: bm, [_, _, _, _, some (.builtin n), _] => [decide (D = C), decide (n = "ValueError.__new__"), !cd.hasDel, cd.hasDict, PySem.HandSPX.refsVE bm].all id
      | _, _ => false)
    | _ => false),
  He.eqO (PySem.W.findIn K (.ref C) "__setattr__") (some (some (.builtin "object.__setattr__"))), decide (PySem.W.subIn K (.ref C) (.type "BaseException") = some true), decide (PySem.W.typeIn K (.ref C) = some (.type "type")), PySem.W.keepIn K (.ref C),
  He.eqO (PySem.W.findIn K (.ref C) "__init__") (some (some (.ref fI))), decide (PySem.W.typeIn K (.ref fI) = some (.type "function")), true].all id
theorem oexB_ok {K : PySem.W.Frag} {C fI : Addr} (h : oexB K C fI = true) : OexC K C ∧ PySem.W.findIn K (.ref C) "__init__" = some (some (.ref fI)) ∧ PySem.W.typeIn K (.ref fI) = some (.type "function") := by
  obtain ⟨h1, h2, h3, h4, h5, h6, h7, _⟩ := all8 h
  refine ⟨⟨?_, He.eqO_ok h2, of_decide_eq_true h3, of_decide_eq_true h4, h5⟩, He.eqO_ok h6, of_decide_eq_true h7⟩
  split at h1
  · rename_i dd cd sl ho
    split at h1
    · rename_i D bm k0 k1 k2 k3 n k5 hm hs
      simp only [List.all_cons, List.all_nil, id_eq, Bool.and_true, Bool.and_eq_true, decide_eq_true_eq, Bool.not_eq_true'] at h1
      obtain ⟨rfl, rfl, hdel, hdct, hv⟩ := h1
      obtain ⟨nm, bs, mro, ns, qn, hd, sn, sub, ab, col, del⟩ := cd
      dsimp only at hm hdel hdct
      subst hm hdel hdct
      have hsl : sl = #[k0, k1, k2, k3, some (.builtin "ValueError.__new__"), k5] := by
        obtain ⟨l⟩ := sl
        simp only at hs
        rw [hs]
      subst hsl
      exact ⟨nm, qn, ns, bs, bm, sn, sub, ab, col, dd, k0, k1, k2, k3, k5, ho, hv⟩
    · cases h1
  · cases h1
section
variable {X : Cx} {e : Expr} {es : List Expr} {ta : TA} {x : Str} {L : Addr} {p1 p2 pos : Pos}
theorem pe_lwinit {pl : Sem Bool} (hB : lwB X.K L = true) (hg : Gl X x) (hm : X.mg x = some (.ref L)) (ha : PA X (e :: es) ta) (hdb : (x == ("__debug__" : Str)) = false := by decide)
    (hc : eval (.Call (.Attribute (.Name x p1) "__init__" p2) (e :: es) [] pos) X.env = (do
      let ov ← eval (.Name x p1) X.env
      standAt p2.atName
      let (f, first) ← holding [ov] (getMethod ov "__init__" pl)
      callWith pos f first (backTo pos (starEach (e :: es) X.env)) (backToKw pos (keywordEach [] X.env))) := by rfl)
    (he : starEach (e :: es) X.env = (false, eval e X.env) :: starEach es X.env := by rfl) (hpl : (backTo pos (starEach es X.env)).any (·.1) = false := by rfl) :
    PE X (.Call (.Attribute (.Name x p1) "__init__" p2) (e :: es) [] pos) (tVeI X.K ta) := by
  refine ⟨fun pins s σ H Q I h => ?_⟩
  obtain ⟨b1, b2, b3⟩ := lwB_ok hB
  refine PySem.W.methodCall_KW (ld_glob I hg hm ?_ hdb) hc
  obtain ⟨m, fr⟩ := I.fr
  refine PySem.W.method_of_cls fr I.ok.mod.kin b1 (PySem.W.cls_value (I.ok.mod.kin.keeps fr.keep) b2 b3 (by decide +kernel) ?_)
  show wpAny _ _ (callWith pos (Value.builtin "ValueError.__init__") [] (backTo pos (starEach (e :: es) X.env)) []) _ _ _
  refine PyProof.Rows.callWith_method1 (thn (ha.run pos pins _ σ H _ (I.tok _) h) fun us s1 hu => ?_) he hpl
  obtain ⟨vs, H1, I1, r1, a, C, ws, ev, hl, T, ea, q⟩ := hu
  subst ev
  cases r1 with
  | @cons _ u0 _ ur ra rw' =>
    obtain rfl : u0 = Value.ref a := ra
    exact oinit_ok T I1 ea (by rw [← Paired.length rw', sizeLine_eq]; omega) fun s' J => ⟨.non, H1, J, rfl, q⟩
end
/-- C(i) leaves behind: the class, and its dict with the one field -/
theorem upd_raise {H : Hp} {a d dx : Addr} {o1 o2 o3 o4 : HO} (ha : H a = none) (hd : H d = none) (ne : dx ≠ a) (e : d = dx) : upd (del (upd (upd (upd H a o1) dx o2) a o3) a) d o4 = upd H d o4 := by
  subst e
  funext b
  by_cases h1 : b = d
  · rw [h1, upd_same, upd_same]
  · rw [upd_ne h1, upd_ne h1]
    by_cases h2 : b = a
    · rw [h2, del_same, ha]
    · rw [del_ne h2, upd_ne h2, upd_ne h1, upd_ne h2]
def spExc (K : PySem.W.Frag) (C : Addr) (f : Str) (ok : V → Prop) : Sp := fun vs H Q _ => ∃ (a : Addr) (v : V), vs = [.ref a, v] ∧ H a = some (exo a C none) ∧ ok v ∧ ∀ dx, H dx = none → dx ≠ a → Q .non (upd (upd H dx (exd dx [(f, v)])) a (exo a C (some dx)))
theorem exd_inj {d e : Addr} {fs gs : List (Str × V)} (h : exd d fs = exd d gs) : True := trivial
/-- raise C(v), C's __init__ keeping spExc -/
theorem r_raiseE {K : PySem.W.Frag} {C : Addr} {f : Str} {ok : V → Prop} {t : TA} {σ : St} {H : Hp} {Q : XK}
    (h : t σ H fun vs H1 => ∃ v, vs = [v] ∧ ok v ∧ ∀ d, H1 d = none → Q (.ref C) (some d) (upd H1 d (.xd [(f, v)]))) (mono : ∀ P P' : List V → Hp → Prop, (∀ vs H1, P vs H1 → P' vs H1) → t σ H P → t σ H P') : tMkO C (spExc K C f ok) [] t σ H Q := by
  refine mono _ _ (fun vs H1 q => ?_) h
  obtain ⟨v, rfl, hv, k⟩ := q
  refine ⟨by show 1 ≤ 1000; decide, fun a ha => ⟨a, v, rfl, upd_same, hv, fun dx hdx ne => ⟨rfl, dx, [(f, v)], upd_same, by rw [upd_ne ne, upd_same], ?_, ?_⟩⟩⟩
  · rw [upd_ne ne] at hdx
    exact hdx
  · have hd : H1 dx = none := by
      rw [upd_ne ne] at hdx
      exact hdx
    rw [upd_raise ha hd ne rfl]
    exact k dx hd
theorem op_mul_str {X : Cx} : OpR X (binaryOp .Mult) (fun x y H Q => ∃ z n, x = .str z ∧ y = .int n ∧ MulOk z n ∧ Q (.str (Txt.mul z n)) H) := by
  intro pins s σ H x y v u Q I rx ry h
  obtain ⟨z, n, rfl, rfl, hz, q⟩ := h
  obtain ⟨t, rfl⟩ := rx
  obtain ⟨t', rfl⟩ := ry
  exact PySem.SB.mul hz fun t' tk => ⟨.str (Txt.mul z n), H, I.tok _, ⟨_, rfl⟩, q⟩
section
variable {σ : St} {H : Hp} {g : TG} {tb : TS} {nx : St → Hp → Prop} {rt : VK} {bk ct : St → Hp → Prop} {tl : TE} {K : PySem.W.Frag} {a : Addr} {xs : List V} {k : Nat}
theorem r_iTup {R : It → Hp → Prop} (h : tl σ H fun x H1 => ∃ a, x = .ref a ∧ (∃ xs, SqT K H1 a xs) ∧ R (Itt K a) H1) : iTup K tl σ H R := h
theorem r_tupI {P : It → Prop} (hs : SqT K H a xs) (h : P (Itt K a)) : ∃ b, V.ref a = .ref b ∧ (∃ xs, SqT K H b xs) ∧ P (Itt K b) := ⟨a, rfl, ⟨xs, hs⟩, h⟩
theorem for_tpl (Pv : Nat → St → Hp → Prop) (h0 : Pv 0 σ H) (hl : ∀ i σ H, i ≤ xs.length → Pv i σ H → SqT K H a xs) (hs : ∀ i x σ H, xs[i]? = some x → Pv i σ H → tb ⟨Pv (i + 1), rt, nx, Pv (i + 1)⟩ (σ.set k (some x)) H) (hd : ∀ σ H, Pv xs.length σ H → nx σ H) :
    forR (Itt K a) (gName k) tb ⟨nx, rt, bk, ct⟩ σ H := for_tup (D := ⟨nx, rt, bk, ct⟩) Pv h0 hl hs hd
theorem r_tXf {x : V} {cls : Value} {d : Option Addr} {C : Addr} {f : Str} {te : TE} {Q : VK} (h : te σ H fun x H1 => x = .ref a ∧ cls = .ref C ∧ ∃ (dd : Addr) (fs : List (Str × V)) (v : V), d = some dd ∧ H1 dd = some (.xd fs) ∧ fs.lookup f = some v ∧ Q v H1) : tXf a cls d C f te σ H Q := h
end
/-! ### isinstance of a caught error that has a dict of its own -/
namespace Xd
open PySem.W PySem.Calls
section
variable {prog : Program} {w : World} {A : Around} {E : Value → Shared → Prop} {s : Shared} {K : Frag} {x D : Addr} {ox : Obj}
theorem find_cls {od : Option Obj} (C : ExcC K D) : findObj K D od "__class__" = some (.bind (.builtin "getset_descriptor.__get__") (.builtin "object.__class__")) := by
  obtain ⟨cd, hc, _⟩ := any_some C.hd
  unfold findObj
  rw [hc, Option.bind_some, C.ha, Option.bind_some]
  simp [C.hn, C.ht]
theorem cls_of {Q : Option Value → Shared → Prop} {od : Option Obj} (C : ExcC K D) (X : K.In s.heap) (I : PySem.W.InstAt s.heap x ox D od) (h : Q (some (.ref D)) { s with toks := s.toks + 1 }) : wpAny (model prog w) A (getAttr? (.ref x) "__class__") Q E s := by
  have hf := find_cls (od := od) C
  obtain ⟨hp, g, d, t, os⟩ := s
  have T0 := I.type (M := model prog w)
  have T1 := looks_findIn (M := model prog w) X C.hg
  have T2 := looks_findIn (M := model prog w) X C.hk
  have T3 := looks_find (M := model prog w) X I hf
  have sub : Looks (model prog w) hp (isInstance (.ref x) (.type "BaseException")) true := T0.andThen (looks_subIn X C.hs)
  have n2 : (Value.builtin "BaseException.__getattribute__" == Value.builtin "object.__getattribute__") = false := by decide +kernel
  unfold getAttr? getAttrBy? getAttrBy
  refine wpAny_bind (wpAny_mkText (wpAny_bind (wpAny_attempt (wpAny_holding (wpAny_bind (T0.at (wpAny_bind (T1.at ?_))))))))
  show wpAny _ _ (if (onTheHeap (Value.ref D) && Value.builtin "BaseException.__getattribute__" == Value.builtin "object.__getattribute__") = true then _ else _) _ _ _
  rw [n2, Bool.and_false, if_neg Bool.false_ne_true]
  (unfold getAttrByItsOwn hookBefore; refine wpAny_bind ?_; rw [if_pos (show onTheHeap (Value.ref D) = true from rfl)])
  refine T2.at (wpAny_bind (wpAny_attempt (wpAny_holding ?_)))
  (unfold callGetattribute; rw [show (false && onTheHeap (Value.builtin "BaseException.__getattribute__")) = false from rfl, if_neg Bool.false_ne_true])
  (unfold boundAndCalled; rw [PySem.F.excAttr_ValueError.ga.bind (.ref x)])
  refine wpAny_bind (wpAny_pure ?_)
  show wpAny _ _ (call (.builtin "BaseException.__getattribute__") [.ref x, .str "__class__" t]) _ _ _
  refine wpAny_call (codeAny_call_builtin PySem.F.excAttr_ValueError.ga.plain PySem.F.entry_bexc_ga (@check_slot (model prog w) _ _ ⟨hp, g, d, t + 1, os⟩ "BaseException.__getattribute__" "BaseException" "__getattribute__" (.ref x) [.str "__class__" t] [] _ (by decide +kernel) (by decide +kernel) sub (PySem.F.args_bexc_ga (.ref x) (.str "__class__" t)) ?_))
  (unfold Builtin.«object.__getattribute__»; refine wpAny_bind (wpAny_of_eq (a := ((Value.ref x : Value), [Value.str "__class__" t])) (by first | rfl | (simp only [slotArgs]; rfl)) ?_))
  refine wpAny_bind (wpAny_pure (wpAny_bind (T0.at (wpAny_bind (T3.at ?_)))))
  show wpAny _ _ (holding [Value.builtin "object.__class__"] (call (.builtin "getset_descriptor.__get__") [.builtin "object.__class__", .ref x, .ref D]) >>= ret) _ _ _
  refine wpAny_bind (wpAny_holding (wpAny_call (class_get (s := ⟨hp, g, d, t + 1, os⟩) (ox := ox) (od := od) X I C.hm (wpAny_pure ?_))))
  (show wpAny _ _ (handedOut (.ref D)) _ _ _; rw [handedOut_of (v := .ref D) rfl])
  first
    | exact wpAny_pure (wpAny_pure h)
    | exact wpAny_pure (wpAny_bind (wpAny_pure (wpAny_pure h)))
theorem not_cls {h : Heap} {o : Obj} {D' : Addr} (hd : hasDictIn K D = true) (X : K.In h) (e : h.get? D' = some o) (hs : ∀ cd, o.data ≠ .cls cd) : D ≠ D' := fun z => by
  obtain ⟨cdD, hcD, _⟩ := any_some hd
  unfold clsIn at hcD
  split at hcD
  · rename_i c' d' cd' sl' ho
    rw [← z, X _ _ ho] at e
    cases e
    exact hs cd' rfl
  · cases hcD
theorem kit (C : ExcC K D) : KitX K (.ref x) (.ref D) (fun h => ∃ od, PySem.W.InstAt h x ox D od) where
  ty := fun M h X I => by
    obtain ⟨od, I⟩ := I
    exact I.type
  it := fun M h X _ => (handS_kitx_exc (x := x) (ox := ox) C.hg C.hk C.hs C.hd C.ha C.hn C.ht C.hm).it M h X |> fun f => by
    obtain ⟨cdD, hcD, _⟩ := any_some C.hd
    unfold clsIn at hcD
    split at hcD
    · rename_i c' d' cd' sl' ho
      intro A' Q' E' s' k q
      (unfold isType loadHead; exact wpAny_bind (wpAny_loadPart (k _ _ (X _ _ ho)) (wpAny_pure q)))
    · cases hcD
  ne := fun h tp dd its n sl X htp => Bool.eq_false_iff.mpr fun q => not_cls C.hd X htp (fun cd z => by cases z) (Value.ref.inj (beq_iff_eq.mp q))
  ca := fun X I k => by
    obtain ⟨od, I⟩ := I
    exact cls_of C X I k
end
end Xd
def rIsD (K : PySem.W.Frag) (D a : Addr) (d : Option Addr) : List V → Hp → VK → Prop := fun xs H Q => ∃ (c : V) (cv : Value) (b : Bool) (dd : Addr) (fs : List (Str × V)), xs = [.ref a, c] ∧ (∀ u, RelV c u → u = cv) ∧ PySem.W.kitOne K (.ref D) cv = some b ∧ d = some dd ∧ H dd = some (.xd fs) ∧ Q (.bl b) H
theorem call_isD {X : Cx} {a D : Addr} {d : Option Addr} {oe : Obj} {pn : List (Addr × Obj)} {cls : Value} (ec : cls = .ref D) (C : ExcC X.K D) (hz : Zc cls d oe) (hf : ∃ vs, oe.data = .fields vs) : CallR (X.suite a ((a, oe) :: pn)) (.builtin "isinstance") (rIsD X.K D a d) := by
  intro pins s σ H xs us Q I r h
  subst ec
  obtain ⟨c, cv, b, dd, fs, rfl, hcv, e, rfl, hdd, q⟩ := h
  cases r with
  | cons rx rr =>
    cases rr with
    | cons rt rr =>
      cases rr
      cases rx
      obtain rfl := hcv _ rt
      obtain ⟨hget, _⟩ := I.pin (a, oe) (List.mem_append.mpr (.inl List.mem_cons_self))
      obtain ⟨vs, hv⟩ := hf
      obtain ⟨od, hod⟩ := objOk_get (I.hok dd _ hdd)
      have J : PySem.W.InstAt s.heap a oe D (some od) := by
        obtain ⟨oc, ob, oda, osl⟩ := oe
        obtain ⟨h1, h2⟩ := hz
        (dsimp only at h1 h2 hv; subst h1 h2 hv)
        exact ⟨hget, rfl, rfl, hod⟩
      exact PySem.W.kia_one (Xd.kit C) I.kIn ⟨_, J⟩ e (fun z => nomatch z) fun tk => ⟨.bl b, H, I.kept (t' := tk) fun _ _ z => z, rfl, q⟩
/-! ### what reads as data; sorted of such -/
mutual
inductive DatV (K : PySem.W.Frag) (H : Hp) : V → PyData → Prop
  | non : DatV K H .non .none
  | bl (b : Bool) : DatV K H (.bl b) (.bool b)
  | int (i : Int) : DatV K H (.int i) (.int i)
  | str (x : Str) : DatV K H (.str x) (.str x)
  | tup {a : Addr} {xs : List V} {ds : List PyData} : SqT K H a xs → DatsV K H xs ds → DatV K H (.ref a) (.tuple ds)
inductive DatsV (K : PySem.W.Frag) (H : Hp) : List V → List PyData → Prop
  | nil : DatsV K H [] []
  | cons {x : V} {d : PyData} {xs : List V} {ds : List PyData} : DatV K H x d → DatsV K H xs ds → DatsV K H (x :: xs) (d :: ds)
end
section
variable {X : Cx} {pins : List (Addr × Obj)} {σ : St} {H : Hp} {s : Shared}
mutual
theorem DatV.reads (I : Inv X pins σ H s) : ∀ (x : V) (d : PyData) (u : Value), DatV X.K H x d → RelV x u → ∃ as, Reads s.heap u d as
  | _, _, u, h, r => by
    cases h with
    | non => cases r; exact ⟨_, .none⟩
    | bl b => cases r; exact ⟨_, .bool b⟩
    | int i => obtain ⟨t, rfl⟩ := r; exact ⟨_, .int i t⟩
    | str z => obtain ⟨t, rfl⟩ := r; exact ⟨_, .str z t⟩
    | tup hs hd =>
      cases r
      obtain ⟨its, rv, l1, _⟩ := I.tuple hs
      obtain ⟨o, h1, h2, n, h3⟩ := l1
      obtain ⟨as, ra⟩ := DatsV.reads I _ _ _ hd rv
      exact ⟨_, .tuple h1 h2 h3 (by simpa using ra)⟩
theorem DatsV.reads (I : Inv X pins σ H s) : ∀ (xs : List V) (ds : List PyData) (us : List Value), DatsV X.K H xs ds → Vals xs us → ∃ as, ReadsAll s.heap us ds as
  | _, _, us, h, r => by
    cases h with
    | nil => cases r; exact ⟨_, .nil⟩
    | cons h1 h2 =>
      cases r with
      | cons r1 r2 =>
        obtain ⟨as, q1⟩ := DatV.reads I _ _ _ h1 r1
        obtain ⟨bs, q2⟩ := DatsV.reads I _ _ _ h2 r2
        exact ⟨_, .cons q1 q2⟩
end
end
abbrev VD : Type := V × PyData
def sortD (bs : List VD) : List VD := bs.mergeSort (PySem.W.dataLe false (fun b : VD => b.2))
theorem sortD_perm (bs : List VD) : (sortD bs).Perm bs := List.mergeSort_perm _ _
def rSortedD (K : PySem.W.Frag) : List V → Hp → VK → Prop := fun vs H Q => ∃ (a : Addr) (bs : List VD), vs = [.ref a] ∧ SqL K H a (bs.map (·.1)) ∧ (∀ b ∈ bs, DatV K H b.1 b.2 ∧ b.2.depth ≤ 8) ∧ PySem.W.AllAlike (bs.map (·.2)) ∧ PySem.W.Sortable (bs.map (·.2)) ∧
  ∀ p, H p = none → Q (.ref p) (upd H p (.lst ((sortD bs).map (·.1))))
theorem each_vals : ∀ {bs : List VD} {us : List Value}, Vals (bs.map (·.1)) us → PySem.W.EachIs (fun u (b : VD) => RelV b.1 u) us bs
  | [], _, h => by cases h; exact .nil
  | _ :: _, _, h => by
    cases h with
    | cons r rs => exact .cons r (each_vals rs)
theorem vals_each : ∀ {bs : List VD} {us : List Value}, PySem.W.EachIs (fun u (b : VD) => RelV b.1 u) us bs → Vals (bs.map (·.1)) us
  | [], _, h => by cases h; exact .nil
  | _ :: _, _, h => by
    cases h with
    | cons r rs => exact .cons r (vals_each rs)
theorem each_and {R S : Value → VD → Prop} : ∀ {bs : List VD} {us : List Value}, PySem.W.EachIs R us bs → (∀ b ∈ bs, ∀ u, R u b → S u b) → PySem.W.EachIs S us bs
  | [], _, h, _ => by cases h; exact .nil
  | b :: _, _, h, f => by
    cases h with
    | cons r rs => exact .cons (f b List.mem_cons_self _ r) (each_and rs fun b hb => f b (List.mem_cons_of_mem _ hb))
theorem cr_sortedD {X : Cx} (hu : X.A.units + 64 < cLine) : CallR X (.builtin "sorted") (rSortedD X.K) := by
  intro pins s σ H vs us Q I r h
  obtain ⟨a, bs, rfl, hs, hd, hal, hk, q⟩ := h
  obtain ⟨its, rv, hl, hz⟩ := I.list hs
  rw [Vals.ref1 r]
  have e := each_vals rv
  have hL : bs.length ≤ sizeLine := by rw [List.length_map] at hz; exact hz
  refine PySem.W.sorted_data (enc := fun b : VD => b.2) hl.isList e (each_and e fun b hb u ru => DatV.reads I _ _ _ (hd b hb).1 ru) hal hk hL (fun b hb => by have := (hd b hb).2; omega) fun out hlen ho => ?_
  obtain ⟨ep, he'⟩ := PyProof.Rows.sortedAll_at s.heap its out.toArray
  have lo : ((sortD bs).map (·.1)).length ≤ sizeLine := by
    rw [List.length_map, (sortD_perm bs).length_eq]
    exact hL
  exact ⟨.ref _, upd H (s.heap.objs.size + 1) (.lst ((sortD bs).map (·.1))), I.laid (t' := s.toks) (fun _ _ => PyProof.Rows.sortedAll_old) (Nat.le_succ _) ⟨lo, out, ep, vals_each ho, he'⟩, rfl, q _ (I.hok.fresh (Nat.le_succ _))⟩
/-! ### != of equal lists and tuples, == and != of equal dicts, where own ==s are asked on the way -/
namespace NeG
open PySem.SeqAt AutoSeq1 MeetsSeq MeetsSeq2 MeetsSeq3 SeqRoads2 GQ
section
variable {prog : Program} {w : World} {A : Around} {R : Result → Shared → Prop}
theorem nloop (p q : Addr) (N : Nat) (J : Nat → Shared → Prop) (each : ListI prog w A (fun e s' => R (.error e) s') p q N J) (done : ∀ s, J N s → R (.ok (.ret (.bool false))) s) (m : Nat) :
    ∀ j : Nat, N - j = m → j ≤ N → ∀ s, J j s → wpAny (model prog w) A.in1 (Builtin.«list.__eq__.loop» ⟨[.ref p, .ref q, rawInt j, rawInt 3], []⟩) (FinOf prog w A R) (fun e s' => R (.error e) s') s := by
  induction m with
  | zero =>
    intro j hm hj s h
    obtain ⟨xs, ys, n1, n2, gp, gq, zx, zy, _⟩ := each _ _ h
    obtain rfl : j = N := by omega
    have fin := done s h
    obtain ⟨hp, g, d, tk, os⟩ := s
    (wp_walk using wpAny_loadPart' gp, wpAny_loadPart' gq)
    rw [show xs[((j : Nat) : Int).toNat]? = none from by simp; omega, show ys[((j : Nat) : Int).toNat]? = none from by simp; omega]
    (wp_walk using wpAny_loadPart' gp, wpAny_loadPart' gq)
    show R (.ok (.ret (.bool (xs.size != ys.size)))) _
    rw [zx, zy]
    simpa using fin
  | succ m ih =>
    intro j hm hj s h
    obtain ⟨xs, ys, n1, n2, gp, gq, zx, zy, t⟩ := each _ _ h
    have l1 : j < xs.size := by omega
    have l2 : j < ys.size := by omega
    have t := t l1 l2
    obtain ⟨hp, g, d, tk, os⟩ := s
    (wp_walk using wpAny_loadPart' gp, wpAny_loadPart' gq)
    have up : ((j : Int) + 1) = ((j + 1 : Nat) : Int) := by omega
    rw [show xs[((j : Nat) : Int).toNat]? = some xs[j] from by simp [l1], show ys[((j : Nat) : Int).toNat]? = some ys[j] from by simp [l2]]
    refine wpAny_bind (wpAny_mono t (fun r s2 k2 => ?_) fun _ _ z => z)
    obtain ⟨rfl, k2⟩ := k2
    have more := ih (j + 1) (by omega) (by omega) s2 k2
    obtain ⟨hp2, g2, d2, tk2, os2⟩ := s2
    wp_walk
    rw [up]
    exact ⟨plainId_quiet plain_eq_loop _, codeAny_builtin entry_eq_loop (by rw [Around.under_plainId plain_eq_loop _]; exact more)⟩
theorem nlist (p q : Addr) (N : Nat) (J : Nat → Shared → Prop) (each : ListI prog w A (fun e s' => R (.error e) s') p q N J) (done : ∀ s, J N s → R (.ok (.ret (.bool false))) s) {s : Shared} (h : J 0 s) :
    wpAny (model prog w) A.in1 (Builtin.«list.__ne__» ⟨[.ref p, .ref q], []⟩) (FinOf prog w A R) (fun e s' => R (.error e) s') s := by
  obtain ⟨xs, ys, n1, n2, gp, gq, zx, zy, _⟩ := each _ _ h
  have more := nloop (A := A) (R := R) p q N J each done _ 0 rfl (Nat.zero_le _) s h
  obtain ⟨hp, g, d, tk, os⟩ := s
  have sub := AutoSeq1.sub_list_list
  have same : ¬ (xs.size != ys.size) = true := by simp [zx, zy]
  (wp_walk using wpAny_loadPart' gp, wpAny_loadPart' gq)
  exact ⟨plainId_quiet plain_eq_loop _, codeAny_builtin entry_eq_loop (by rw [Around.under_plainId plain_eq_loop _]; exact more)⟩
theorem ntup (p q : Addr) (xs ys : Array Value) (n1 n2 : Nat) (d1 d2 : Option Addr) (sl1 sl2 : Array (Option Value)) (hz : xs.size = ys.size) (J : Nat → Shared → Prop)
    (each : ∀ j (h1 : j < xs.size) (h2 : j < ys.size) s, J j s → wpAny (model prog w) A.in1 (eqBool xs[j] ys[j]) (fun r s' => r = true ∧ J (j + 1) s') (fun e s' => R (.error e) s') s)
    (done : ∀ s, J xs.size s → R (.ok (.ret (.bool false))) s) {s : Shared} (gp : s.heap.get? p = some { cls := .type "tuple", dict := d1, data := .seq xs n1, slots := sl1 }) (gq : s.heap.get? q = some { cls := .type "tuple", dict := d2, data := .seq ys n2, slots := sl2 }) (h : J 0 s) :
    wpAny (model prog w) A.in1 (Builtin.«tuple.__ne__» ⟨[.ref p, .ref q], []⟩) (FinOf prog w A R) (fun e s' => R (.error e) s') s := by
  have sub := AutoSeq1.sub_tuple_tuple
  have zl : (xs.toList.zip ys.toList).length = xs.size := by simp [hz]
  have start := h
  obtain ⟨hp, g, d, tk, os⟩ := s
  (wp_walk using wpAny_loadPart' gp, wpAny_loadPart' gq, wpAny_forIn_list _ (fun rest b s' => b.1 = none ∧ ∃ j, rest = (xs.toList.zip ys.toList).drop j ∧ j ≤ xs.size ∧ J j s') _)
  case turn =>
    rintro ⟨y, x⟩ rest b s' ⟨hb, j, ez, hj, k⟩
    have lj : j < (xs.toList.zip ys.toList).length := Nat.lt_of_not_le fun z => by rw [List.drop_of_length_le z] at ez; cases ez
    have l1 : j < xs.size := zl ▸ lj
    have l2 : j < ys.size := hz ▸ l1
    rw [List.drop_eq_getElem_cons lj] at ez
    injection ez with e1 e2
    obtain rfl : y = xs[j] := by simpa using congrArg Prod.fst e1
    obtain rfl : x = ys[j] := by simpa using congrArg Prod.snd e1
    refine wpAny_bind (wpAny_mono (each j l1 l2 s' k) (fun r s2 k2 => ?_) fun _ _ z => z)
    obtain ⟨rfl, k2⟩ := k2
    wp_walk
    exact ⟨rfl, j + 1, e2, l1, k2⟩
  case fin =>
    rintro ⟨b1, b2⟩ s' ⟨hb, j, ez, hj, k⟩
    (simp only at hb; subst hb)
    have ge : xs.size ≤ j := Nat.le_of_not_lt fun z => by rw [List.drop_eq_getElem_cons (zl.symm ▸ z)] at ez; cases ez
    have fin := done s' ((show j = xs.size from by omega) ▸ k)
    wp_walk
    simpa [Builtin.Tuple.tupleCompareSizes, hz] using fin
  case h => exact ⟨rfl, 0, rfl, Nat.zero_le _, start⟩
end
section
variable {prog : Program} {w : World} {A : Around} {E : Value → Shared → Prop} {s : Shared}
theorem rc_nlist {p q : Addr} {N : Nat} {Q : Value → Shared → Prop} (hu : A.units < cLine) (J : Nat → Shared → Prop) (each : ListI prog w A E p q N J) (done : ∀ s, J N s → Q (.bool false) s) (h : J 0 s) :
    wpAny (model prog w) A (richCompare .NotEq (.ref p) (.ref q)) Q E s := by
  obtain ⟨xs, ys, n1, n2, gp, gq, _, _, _⟩ := each _ _ h
  refine wpAny_richCompare_same_room (op := .NotEq) ⟨_, gp, rfl⟩ ⟨_, gq, rfl⟩ PySem.F.slot_list_ne (call_here PySem.F.slot_list_ne ⟨_, gp, rfl⟩ PySem.F.entry_list_ne (PySem.F.args_list_ne_2 _ _) ?_) hu
  exact nlist (R := wants (fun v s' => v ≠ .notImplemented ∧ Q v s') E) p q N J each (fun s' z => ⟨(fun x => nomatch x), done s' z⟩) h
theorem rc_ntup {p q : Addr} {xs ys : Array Value} {Q : Value → Shared → Prop} (hz : xs.size = ys.size) (hu : A.units < cLine) (J : Nat → Shared → Prop) (gp : s.heap.IsTuple p xs) (gq : s.heap.IsTuple q ys)
    (each : ∀ j (h1 : j < xs.size) (h2 : j < ys.size) s, J j s → wpAny (model prog w) A.in1 (eqBool xs[j] ys[j]) (fun r s' => r = true ∧ J (j + 1) s') E s) (done : ∀ s, J xs.size s → Q (.bool false) s) (h : J 0 s) :
    wpAny (model prog w) A (richCompare .NotEq (.ref p) (.ref q)) Q E s := by
  obtain ⟨⟨c1, d1, t1, sl1⟩, ho, hc, n1, hd⟩ := id gp
  obtain ⟨⟨c2, d2, t2, sl2⟩, ho2, hc2, n2, hd2⟩ := id gq
  (simp only at hc hd hc2 hd2; subst hc hd hc2 hd2)
  refine wpAny_richCompare_same_room (op := .NotEq) ⟨_, ho, rfl⟩ ⟨_, ho2, rfl⟩ PySem.F.slot_tuple_ne (call_here PySem.F.slot_tuple_ne ⟨_, ho, rfl⟩ PySem.F.entry_tuple_ne (PySem.F.args_tuple_ne_2 _ _) ?_) hu
  exact ntup (R := wants (fun v s' => v ≠ .notImplemented ∧ Q v s') E) p q xs ys n1 n2 d1 d2 sl1 sl2 hz J each (fun s' z => ⟨(fun x => nomatch x), done s' z⟩) ho ho2 h
end
end NeG
/-- != gives False for what D says, and only makes objects -/
def RnG (X : Cx) (n : Nat) (D : Eqv) : Prop :=
  ∀ (A : Around) (pins : List (Addr × Obj)) (s : Shared) (σ : St) (H : Hp) (x y : V) (u v : Value), Sub X n A → Inv X pins σ H s → RelV x u → RelV y v → D x y H →
    wpAny (model X.prog X.w) A (richCompare .NotEq u v) (fun r s' => r = .bool false ∧ ∃ H', Inv X pins σ H' s' ∧ Ext H H') X.xe s
section
variable {X : Cx} {n : Nat} {D : Eqv}
theorem rnG_list (hD : Mon D) (h : EqG X n D) : RnG X (n + 1) (DList D) := by
  intro A pins s σ H x y u v sb I rx ry d
  obtain ⟨a, b, xs, ys, rfl, rfl, ha, hb, p⟩ := d
  (cases rx; cases ry)
  refine NeG.rc_nlist (N := xs.length) sb.room.units0 (fun _ s' => LoopI X pins σ H s') (fun i s' q => ?_) (fun s' q => ⟨rfl, q⟩) ⟨H, I, Ext.rfl'⟩
  obtain ⟨H1, I1, e1⟩ := id q
  obtain ⟨_, us, k, r, e⟩ := I1.hok a _ (e1 _ _ ha)
  obtain ⟨_, vs, k2, r2, e2⟩ := I1.hok b _ (e1 _ _ hb)
  exact ⟨us.toArray, vs.toArray, k, k2, e, e2, by rw [List.size_toArray, ← r.length], by rw [List.size_toArray, ← r2.length, ← p.1], fun h1 h2 => turnG hD h sb p r r2 i h1 h2 s' q⟩
theorem rnG_tup (hD : Mon D) (h : EqG X n D) : RnG X (n + 1) (DTup X.K D) := by
  intro A pins s σ H x y u v sb I rx ry d
  obtain ⟨a, b, xs, ys, rfl, rfl, ha, hb, p⟩ := d
  (cases rx; cases ry)
  obtain ⟨us, r, e, _⟩ := I.tuple ha
  obtain ⟨vs, r2, e2, _⟩ := I.tuple hb
  have hz : us.toArray.size = vs.toArray.size := by rw [List.size_toArray, List.size_toArray, ← r.length, ← r2.length]; exact p.1
  exact NeG.rc_ntup hz sb.room.units0 (fun _ s' => LoopI X pins σ H s') e e2 (fun i h1 h2 s' q => turnG hD h sb p r r2 i h1 h2 s' q) (fun s' q => ⟨rfl, q⟩) ⟨H, I, Ext.rfl'⟩
def rNeG (D : Eqv) : R2 := fun x y H Q => D x y H ∧ ∀ H', Ext H H' → Q (.bl false) H'
theorem op_neG (h : RnG X n D) (hr : Room n X.A) : OpR X (compareOp .NotEq) (rNeG D) := by
  intro pins s σ H x y v u Q I rx ry hq
  obtain ⟨d, q⟩ := hq
  show wpAny (model X.prog X.w) X.A (richCompare .NotEq v u) (EP X pins σ Q) X.xe s
  refine wpAny_mono (h X.A pins s σ H x y v u ⟨hr, rfl⟩ I rx ry d) (fun r s' z => ?_) fun _ _ z => z
  obtain ⟨rfl, H', I', e⟩ := z
  exact ⟨.bl false, H', I', rfl, q H' e⟩
end
/-! ### == and != of two dicts of the same keys, whose values are equal one by one, own ==s asked on the way -/
namespace DeG
open PySem.W PySem.Calls
section
variable {prog : Program} {w : World} {K : Type} [DecidableEq K] {knd : KeyKind prog w K} {A : Around} {E : Value → Shared → Prop} {s : Shared}
theorem pairs {nm : String} {a b : Addr} {oa ob : Obj} {es et : Array DictEntry} {p1 p2 : Nat} {ka kb : List (K × Value)} {Q : Bool → Shared → Prop} (na : (a == sysModules) = false) (nb : (b == sysModules) = false)
    (da : oa.data = .dict es p1) (db : ob.data = .dict et p2) (ua : KeysOf knd es) (ub : KeysOf knd et) (va : Pairs knd es.toList ka) (vb : Pairs knd et.toList kb) (hl : ka.length = kb.length) (J : Nat → Shared → Prop)
    (at_ : ∀ i s, J i s → s.heap.get? a = some oa ∧ s.heap.get? b = some ob)
    (each : ∀ i k v s, ka[i]? = some (k, v) → J i s → ∃ y, valueAt kb k = some y ∧ wpAny (model prog w) A (eqBool v y) (fun r s' => r = true ∧ J (i + 1) s') E s)
    (start : J 0 s) (done : ∀ s, J ka.length s → Q true s) : wpAny (model prog w) A (Builtin.Dict.samePairs nm a b) Q E s := by
  have za : ka.length = es.size := (va.length.symm.trans Array.length_toList)
  have zb : kb.length = et.size := (vb.length.symm.trans Array.length_toList)
  have look : ∀ k, findBy knd.is et k = valueAt kb k := fun k => by
    rw [← vb.find k]
    (clear zb vb ub db; obtain ⟨l⟩ := et; simp [findBy])
  have sz : es.size = et.size := by omega
  obtain ⟨g1, g2⟩ := at_ _ _ start
  unfold Builtin.Dict.samePairs Builtin.Dict.showsAll
  rw [if_neg (by rw [na]; exact Bool.false_ne_true), if_neg (by rw [nb]; exact Bool.false_ne_true)]
  refine wpAny_bind (wpAny_pure (wpAny_bind (wpAny_pure (wpAny_bind (wpAny_dictEntries g1 da ?_)))))
  dsimp only
  refine wpAny_bind (wpAny_dictEntries g2 db ?_)
  rw [if_neg (by rw [sz]; simp)]
  refine wpAny_bind (wpAny_dictEpoch g1 da (wpAny_bind ?_))
  rw [Std.Legacy.Range.forIn_eq_forIn_range']
  simp only [Std.Legacy.Range.size, Nat.sub_zero, Nat.add_sub_cancel, Nat.div_one]
  refine wpAny_forIn_list _ (fun rest q s' => q = (none, ()) ∧ ∃ i, rest = List.range' i (es.size - i) ∧ i ≤ es.size ∧ J i s') _ ?_ ?_ _ _ ⟨rfl, 0, by simp, Nat.zero_le _, start⟩
  · rintro x rest q s' ⟨rfl, i, hr, hi, hj⟩
    have lt : i < es.size := Nat.lt_of_not_le fun z => by rw [Nat.sub_eq_zero_of_le z] at hr; simp at hr
    obtain ⟨rfl, hrest⟩ : x = i ∧ rest = List.range' (i + 1) (es.size - (i + 1)) := by
      rw [show es.size - i = (es.size - (i + 1)) + 1 by omega, List.range'_succ] at hr
      exact ⟨(List.cons.inj hr).1, (List.cons.inj hr).2⟩
    obtain ⟨g1, g2⟩ := at_ _ _ hj
    refine wpAny_bind (wpAny_dictEntries g1 da ?_)
    rw [Array.getElem?_eq_getElem lt]
    have lt' : x < ka.length := by rw [za]; exact lt
    obtain ⟨k, v, kv⟩ : ∃ k v, ka[x] = (k, v) := ⟨_, _, rfl⟩
    have kv' : ka[x]? = some (k, v) := by rw [List.getElem?_eq_getElem lt', kv]
    obtain ⟨isk, isv⟩ := va.get? (i := x) (e := es[x]) (k := k) (v := v) (by rw [Array.getElem?_toList]; exact Array.getElem?_eq_getElem lt) kv'
    obtain ⟨k', isk', hh⟩ := ua es[x] (Array.getElem_mem lt)
    rw [knd.inj _ _ _ isk' isk] at hh
    obtain ⟨y, hy, run⟩ := each x k v s' kv' hj
    show wpAny _ _ (holding [es[x].key, es[x].val] _ >>= _) _ _ _
    rw [hh]
    refine wpAny_bind (wpAny_holding (wpAny_bind (wpAny_dictFind_of isk g2 db ub ?_)))
    cases fj : et.findIdx? fun e => knd.is k e.key with
    | none =>
      rw [← look k, findBy_of_findIdx?, fj] at hy
      exact nomatch hy
    | some j =>
      obtain ⟨lj, _, _⟩ := Array.findIdx?_eq_some_iff_getElem.mp fj
      have ev : et[j].val = y := by
        rw [← look k, findBy_of_findIdx?, fj] at hy
        simpa [Array.getElem?_eq_getElem lj] using hy
      refine wpAny_bind (wpAny_dictEntries g2 db ?_)
      rw [Array.getElem?_eq_getElem lj]
      rw [← ev, ← isv] at run
      refine wpAny_holding (wpAny_mono run (fun r s2 z => ?_) fun _ _ z => z)
      obtain ⟨rfl, hj2⟩ := z
      obtain ⟨g1, g2⟩ := at_ _ _ hj2
      show wpAny _ _ (if (!true) = true then _ else _) _ _ _
      rw [if_neg (by decide)]
      refine wpAny_bind (wpAny_dictEpoch g1 da ?_)
      rw [if_neg (by simp)]
      exact wpAny_pure ⟨rfl, x + 1, hrest, lt, hj2⟩
  · rintro q s' ⟨rfl, i, hr, hi, hj⟩
    have e : i = es.size := Nat.le_antisymm hi (Nat.le_of_not_lt fun z => by
      rw [show es.size - i = (es.size - (i + 1)) + 1 by omega, List.range'_succ] at hr
      exact nomatch hr)
    exact wpAny_pure (done s' (by rw [za, ← e]; exact hj))
theorem eqd {a b : Addr} {Q : Value → Shared → Prop} (ta : s.TypeIs (.ref a) "dict") (tb : s.TypeIs (.ref b) "dict") (hu : A.units < cLine)
    (h : ∀ nm, wpAny (model prog w) A.in1 (Builtin.Dict.samePairs nm a b) (fun r s' => Q (.bool r) s') E s) : wpAny (model prog w) A (richCompare .Eq (.ref a) (.ref b)) Q E s := by
  refine wpAny_richCompare_same_room (op := .Eq) ta tb PySem.F.slot_dict_eq (wpAny_call_entry PySem.F.slot_dict_eq ta PySem.F.entry_dict_eq ?_ (PySem.F.args_dict_eq_2 _ _)) hu
  (show wpAny _ _ (Builtin.Dict.dictSlotArgs "__eq__" ⟨[.ref a, .ref b], []⟩ >>= _) _ _ s; refine wpAny_bind ?_; unfold Builtin.Dict.dictSlotArgs)
  refine wpAny_bind (wpAny_notOrdered_dict ta ?_)
  (show wpAny _ _ (pure (Value.ref a, Value.ref b)) _ _ s; refine wpAny_pure (wpAny_bind (wpAny_isInstance (T := "dict") tb PySem.F.sub_dict_dict ?_)))
  (simp only [Bool.not_true, Bool.false_eq_true, if_false]; refine wpAny_bind (wpAny_pure (wpAny_bind (wpAny_pure (wpAny_bind (wpAny_mono (h _) (fun r s' q => ?_) fun _ _ z => z))))))
  refine wpAny_pure ⟨_, rfl, (fun x => nomatch x), ?_⟩
  simpa using q
theorem ned {a b : Addr} {Q : Value → Shared → Prop} (ta : s.TypeIs (.ref a) "dict") (tb : s.TypeIs (.ref b) "dict") (hu : A.units < cLine)
    (h : ∀ nm, wpAny (model prog w) A.in1 (Builtin.Dict.samePairs nm a b) (fun r s' => Q (.bool (!r)) s') E s) : wpAny (model prog w) A (richCompare .NotEq (.ref a) (.ref b)) Q E s := by
  refine wpAny_richCompare_same_room (op := .NotEq) ta tb PySem.F.slot_dict_ne (wpAny_call_entry PySem.F.slot_dict_ne ta PySem.F.entry_dict_ne ?_ (PySem.F.args_dict_ne_2 _ _)) hu
  (show wpAny _ _ (Builtin.Dict.dictSlotArgs "__ne__" ⟨[.ref a, .ref b], []⟩ >>= _) _ _ s; refine wpAny_bind ?_; unfold Builtin.Dict.dictSlotArgs)
  refine wpAny_bind (wpAny_notOrdered_dict ta ?_)
  (show wpAny _ _ (pure (Value.ref a, Value.ref b)) _ _ s; refine wpAny_pure (wpAny_bind (wpAny_isInstance (T := "dict") tb PySem.F.sub_dict_dict ?_)))
  (simp only [Bool.not_true, Bool.false_eq_true, if_false]; refine wpAny_bind (wpAny_pure (wpAny_bind (wpAny_pure (wpAny_bind (wpAny_mono (h _) (fun r s' q => ?_) fun _ _ z => z))))))
  refine wpAny_pure ⟨_, rfl, (fun x => nomatch x), ?_⟩
  cases r <;> exact q
end
end DeG
theorem kv_get {ka : List (Key × V)} {va : List (Key × Value)} (r : KV ka va) : ∀ {i : Nat} {p : Key × V} {q : Key × Value}, ka[i]? = some p → va[i]? = some q → p.1 = q.1 ∧ RelV p.2 q.2 := by
  unfold KV at r
  induction r with
  | nil => intro i p q h; simp at h
  | cons h t ih =>
    intro i p q h1 h2
    cases i with
    | zero => simp at h1 h2; subst h1 h2; exact h
    | succ i => simp at h1 h2; exact ih h1 h2
/-- the abstract heap without two of its things -/
def hide2 (H : Hp) (a b : Addr) : Hp := fun c => if c = a ∨ c = b then none else H c
theorem ext_hide {H H' : Hp} {a b : Addr} (h : ∀ c, c ≠ a → c ≠ b → H' c = H c) : Ext (hide2 H a b) H' := fun c o e => by
  unfold hide2 at e
  split at e
  · cases e
  · rename_i q
    rw [h c (fun z => q (.inl z)) (fun z => q (.inr z))]
    exact e
def DDict (D : Eqv) : Eqv := fun x y H => ∃ (a b : Addr) (ka kb : List (Key × V)), x = .ref a ∧ y = .ref b ∧ a ≠ b ∧ H a = some (.dK ka) ∧ H b = some (.dK kb) ∧ ka.length = kb.length ∧ ∀ (i : Nat) (k : Key) (v : V), ka[i]? = some (k, v) → ∃ u, valV kb k = some u ∧ D v u (hide2 H a b)
section
variable {X : Cx} {n : Nat} {D : Eqv}
theorem dict_run (hD : Mon D) (h : EqG X n D) {A : Around} {pins : List (Addr × Obj)} {s : Shared} {σ : St} {H : Hp} {a b : Addr} {ka kb : List (Key × V)} (sb : Sub X (n + 1) A) (I : Inv X pins σ H s) (ne : a ≠ b) (ha : H a = some (.dK ka)) (hb : H b = some (.dK kb)) (hl : ka.length = kb.length)
    (hv : ∀ (i : Nat) (k : Key) (v : V), ka[i]? = some (k, v) → ∃ u, valV kb k = some u ∧ D v u (hide2 H a b)) (nm : String) :
    s.TypeIs (.ref a) "dict" ∧ s.TypeIs (.ref b) "dict" ∧ wpAny (model X.prog X.w) A.in1 (Builtin.Dict.samePairs nm a b) (fun r s' => r = true ∧ ∃ H', Inv X pins σ H' s' ∧ Ext H H') X.xe s := by
  obtain ⟨od, I1⟩ := I.lock ha trivial
  obtain ⟨ob, I2⟩ := I1.lock (show upd H a (.frz od (.dK ka)) b = some (.dK kb) by rw [upd_ne (Ne.symm ne)]; exact hb) trivial
  have ea : upd (upd H a (.frz od (.dK ka))) b (.frz ob (.dK kb)) a = some (.frz od (.dK ka)) := by rw [upd_ne ne, upd_same]
  have eb : upd (upd H a (.frz od (.dK ka))) b (.frz ob (.dK kb)) b = some (.frz ob (.dK kb)) := upd_same
  generalize hH : upd (upd H a (.frz od (.dK ka))) b (.frz ob (.dK kb)) = H0 at I2 ea eb
  obtain ⟨ga, xa⟩ := (show ObjOk X.prog X.w H0 s.heap a (.frz od (.dK ka)) from I2.hok a _ ea)
  obtain ⟨gb, xb⟩ := (show ObjOk X.prog X.w H0 s.heap b (.frz ob (.dK kb)) from I2.hok b _ eb)
  obtain ⟨_, na, va, ra, dA⟩ := (show ObjOk X.prog X.w H0 s.heap a (.dK ka) from xa)
  obtain ⟨_, nb, vb, rb, dB⟩ := (show ObjOk X.prog X.w H0 s.heap b (.dK kb) from xb)
  refine ⟨dA.typeIs, dB.typeIs, ?_⟩
  obtain ⟨o1, es, p1, g1, _, d1, u1, w1, _⟩ := dA
  obtain ⟨o2, et, p2, g2, _, d2, u2, w2, _⟩ := dB
  rw [ga] at g1
  rw [gb] at g2
  (cases g1; cases g2)
  have up : Ext (hide2 H a b) H0 := ext_hide fun c h1 h2 => by rw [← hH, upd_ne h2, upd_ne h1]
  refine DeG.pairs na nb d1 d2 u1 u2 w1 w2 (by rw [← ra.length, ← rb.length]; exact hl) (fun _ s' => LoopI X pins σ H0 s') (fun i s' ⟨H', I', e'⟩ => ?_) (fun i k v s' hi ⟨H', I', e'⟩ => ?_) ⟨H0, I2, Ext.rfl'⟩ (fun s' ⟨H', I', e'⟩ => ⟨rfl, ?_⟩)
  · exact ⟨(show ObjOk X.prog X.w H' s'.heap a (.frz od (.dK ka)) from I'.hok a _ (e' _ _ ea)).1, (show ObjOk X.prog X.w H' s'.heap b (.frz ob (.dK kb)) from I'.hok b _ (e' _ _ eb)).1⟩
  · have li : i < ka.length := by rw [ra.length]; exact (List.getElem?_eq_some_iff.mp hi).1
    obtain ⟨⟨k0, x⟩, hx⟩ : ∃ p, ka[i]? = some p := ⟨_, List.getElem?_eq_getElem li⟩
    obtain ⟨k1, r1⟩ := kv_get ra hx hi
    obtain rfl : k0 = k := k1
    obtain ⟨u, hu, hd⟩ := hv i k0 x hx
    have rr : RelO (some u) (valueAt vb k0) := by rw [← hu]; exact rb.val k0
    obtain ⟨y, hy, ry⟩ := rr.some_of
    refine ⟨y, hy, wpAny_mono (h A.in1 pins s' σ H' x u v y sb.in1 I' r1 ry (hD _ _ _ _ e' (hD _ _ _ _ up hd))) (fun r s2 z => ?_) fun _ _ z => z⟩
    obtain ⟨rfl, H2, I3, e2⟩ := z
    exact ⟨rfl, H2, I3, e'.trans e2⟩
  · have f1 : H' b = some (.frz ob (.dK kb)) := e' _ _ eb
    have f2 : upd H' b (.dK kb) a = some (.frz od (.dK ka)) := by rw [upd_ne ne]; exact e' _ _ ea
    refine ⟨_, (I'.unlock f1 (I.nofrz hb trivial)).unlock f2 (I.nofrz ha trivial), fun c o e => ?_⟩
    by_cases c1 : c = a
    · rw [c1, upd_same, ← ha, ← c1]; exact e
    · rw [upd_ne c1]
      by_cases c2 : c = b
      · rw [c2, upd_same, ← hb, ← c2]; exact e
      · rw [upd_ne c2]
        exact e' _ _ (by rw [← hH, upd_ne c2, upd_ne c1]; exact e)
theorem rcG_dict (hD : Mon D) (h : EqG X n D) : RcG X (n + 1) (DDict D) := by
  intro A pins s σ H x y u v sb I rx ry d
  obtain ⟨a, b, ka, kb, rfl, rfl, ne, ha, hb, hl, hv⟩ := d
  (cases rx; cases ry)
  obtain ⟨ta, tb, _⟩ := dict_run hD h sb I ne ha hb hl hv ""
  refine DeG.eqd ta tb sb.room.units0 fun nm => wpAny_mono (dict_run hD h sb I ne ha hb hl hv nm).2.2 (fun r s' z => ?_) fun _ _ z => z
  obtain ⟨rfl, q⟩ := z
  exact ⟨rfl, q⟩
theorem rnG_dict (hD : Mon D) (h : EqG X n D) : RnG X (n + 1) (DDict D) := by
  intro A pins s σ H x y u v sb I rx ry d
  obtain ⟨a, b, ka, kb, rfl, rfl, ne, ha, hb, hl, hv⟩ := d
  (cases rx; cases ry)
  obtain ⟨ta, tb, _⟩ := dict_run hD h sb I ne ha hb hl hv ""
  refine DeG.ned ta tb sb.room.units0 fun nm => wpAny_mono (dict_run hD h sb I ne ha hb hl hv nm).2.2 (fun r s' z => ?_) fun _ _ z => z
  obtain ⟨rfl, q⟩ := z
  exact ⟨rfl, q⟩
theorem mon_dict (hD : Mon D) : Mon (DDict D) := fun x y H H' e d => by
  obtain ⟨a, b, ka, kb, hx, hy, ne, ha, hb, hl, hv⟩ := d
  refine ⟨a, b, ka, kb, hx, hy, ne, e _ _ ha, e _ _ hb, hl, fun i k v hi => ?_⟩
  obtain ⟨u, hu, hd⟩ := hv i k v hi
  refine ⟨u, hu, hD _ _ _ _ (fun c o q => ?_) hd⟩
  unfold hide2 at q ⊢
  split at q
  · cases q
  · rename_i z
    rw [if_neg z]
    exact e _ _ q
theorem eqG_dict (hD : Mon D) (h : EqG X n D) : EqG X (n + 1) (DDict D) := (rcG_dict hD h).eqG fun _ _ _ d => let ⟨a, b, _, _, hx, hy, _⟩ := d; ⟨a, b, hx, hy⟩
end
/-! ### what stays: all but lists and dicts -/
def Soft : HO → Bool
  | .lst _ => true
  | .dK _ => true
  | .dT _ => true
  | _ => false
def Keep (H H' : Hp) : Prop := ∀ b o, H b = some o → Soft o = false → H' b = some o
theorem Keep.refl (H : Hp) : Keep H H := fun _ _ h _ => h
theorem Keep.trans {H H1 H2 : Hp} (a : Keep H H1) (b : Keep H1 H2) : Keep H H2 := fun c o h s => b c o (a c o h s) s
theorem Same.keep {H H' : Hp} (e : Same H H') : Keep H H' := fun b o h _ => e b o h
theorem keep_upd {H : Hp} {a : Addr} {o o' : HO} (h : H a = some o) (s : Soft o = true) : Keep H (upd H a o') := fun b u e su => by
  by_cases z : b = a
  · rw [z, h] at e
    cases e
    rw [s] at su
    cases su
  · rw [upd_ne z]
    exact e
theorem keep_hide {H : Hp} {a b : Addr} {o o' : HO} (h : H a = some o) (s : Soft o = true) (h' : H b = some o') (s' : Soft o' = true) : Keep H (hide2 H a b) := fun c u e su => by
  unfold hide2
  by_cases z : c = a ∨ c = b
  · rcases z with z | z
    · rw [z, h] at e
      cases e
      rw [s] at su
      cases su
    · rw [z, h'] at e
      cases e
      rw [s'] at su
      cases su
  · rw [if_neg z]
    exact e
theorem SqT.keep {K : PySem.W.Frag} {H H' : Hp} {a : Addr} {xs : List V} (h : SqT K H a xs) (e : Keep H H') : SqT K H' a xs :=
  h.elim (fun h => .inl (h.elim (fun h => .inl (e _ _ h rfl)) fun ⟨o, h⟩ => .inr ⟨o, e _ _ h rfl⟩)) fun h => .inr h
theorem SqT.same {K : PySem.W.Frag} {H H' : Hp} {a : Addr} {xs : List V} (h : SqT K H a xs) (e : Same H H') : SqT K H' a xs := SqT.keep h (Same.keep e)
theorem SqL.same {K : PySem.W.Frag} {H H' : Hp} {a : Addr} {xs : List V} (h : SqL K H a xs) (e : Same H H') : SqL K H' a xs :=
  h.elim (fun h => .inl (h.elim (fun h => .inl (e _ _ h)) fun ⟨o, h⟩ => .inr ⟨o, e _ _ h⟩)) fun h => .inr h
theorem same_upd {H H' : Hp} {a : Addr} {o : HO} (e : Same H H') (h : H a = none) : Same H (upd H' a o) := fun b u q => by
  rw [upd_ne (ne_of_none q h)]
  exact e b u q
theorem Paired.at_ {α β : Type} {F : α → β → Prop} : ∀ {xs : List α} {ys : List β} {i : Nat} {x : α} {y : β}, Paired F xs ys → xs[i]? = some x → ys[i]? = some y → F x y
  | _, _, _, _, _, .nil, h, _ => by simp at h
  | _, _, 0, _, _, .cons r _, h, h' => by simp at h h'; rw [← h, ← h']; exact r
  | _, _, i + 1, _, _, .cons _ t, h, h' => Paired.at_ (i := i) t (by simpa using h) (by simpa using h')
theorem Paired.some {α β : Type} {F : α → β → Prop} : ∀ {xs : List α} {ys : List β} {i : Nat} {x : α}, Paired F xs ys → xs[i]? = some x → ∃ y, ys[i]? = some y ∧ F x y
  | _, _, _, _, .nil, h => by simp at h
  | _, _, 0, _, .cons r _, h => by simp at h; exact ⟨_, rfl, h ▸ r⟩
  | _, _, i + 1, _, .cons _ t, h => by
    obtain ⟨y, h1, h2⟩ := Paired.some (i := i) t (by simpa using h)
    exact ⟨y, by simpa using h1, h2⟩
theorem Paired.take {α β : Type} {F : α → β → Prop} : ∀ {xs : List α} {ys : List β} (n : Nat), Paired F xs ys → Paired F (xs.take n) (ys.take n)
  | _, _, 0, _ => .nil
  | _, _, _ + 1, .nil => .nil
  | _, _, n + 1, .cons r t => .cons r (Paired.take n t)
theorem Paired.drop {α β : Type} {F : α → β → Prop} : ∀ {xs : List α} {ys : List β} (n : Nat), Paired F xs ys → Paired F (xs.drop n) (ys.drop n)
  | _, _, 0, r => r
  | _, _, _ + 1, .nil => .nil
  | _, _, n + 1, .cons _ t => Paired.drop n t
theorem Paired.app {α β : Type} {F : α → β → Prop} : ∀ {xs xs' : List α} {ys ys' : List β}, Paired F xs ys → Paired F xs' ys' → Paired F (xs ++ xs') (ys ++ ys')
  | _, _, _, _, .nil, s => s
  | _, _, _, _, .cons r t, s => .cons r (Paired.app t s)
theorem Paired.set {α β : Type} {F : α → β → Prop} {x : α} {y : β} (r : F x y) : ∀ {xs : List α} {ys : List β} (i : Nat), Paired F xs ys → Paired F (xs.set i x) (ys.set i y)
  | _, _, _, .nil => .nil
  | _, _, 0, .cons _ t => .cons r t
  | _, _, i + 1, .cons q t => .cons q (Paired.set r i t)
theorem Paired.imp {α β : Type} {F G : α → β → Prop} (h : ∀ a b, F a b → G a b) : ∀ {xs : List α} {ys : List β}, Paired F xs ys → Paired G xs ys
  | _, _, .nil => .nil
  | _, _, .cons r t => .cons (h _ _ r) (Paired.imp h t)
/-! ### a for over a list, any target; comprehensions over a list -/
section
variable {σ : St} {H H1 : Hp} {g : TG} {tb : TS} {nx : St → Hp → Prop} {rt : VK} {bk ct : St → Hp → Prop} {K : PySem.W.Frag} {a : Addr} {xs : List V} {wi : TI} {tt : TT} {te : TE} {vs : List Nat} {Q : VK}
theorem for_lstG (Pv : Nat → St → Hp → Prop) (h0 : Pv 0 σ H) (hl : ∀ i σ H, i ≤ xs.length → Pv i σ H → SqL K H a xs) (hs : ∀ i x σ H, xs[i]? = some x → Pv i σ H → g x σ H fun σ2 H2 => tb ⟨Pv (i + 1), rt, nx, Pv (i + 1)⟩ σ2 H2) (hd : ∀ σ H, Pv xs.length σ H → nx σ H) :
    forR (Itl K a) g tb ⟨nx, rt, bk, ct⟩ σ H := by
  refine ⟨fun i m σ H => m = xs.length - i ∧ i ≤ xs.length ∧ Pv i σ H, ⟨xs.length, by simp, Nat.zero_le _, h0⟩, ?_⟩
  rintro i m σ H ⟨rfl, hi, p⟩
  have q := hl i σ H hi p
  by_cases lt : i < xs.length
  · refine .inr ⟨⟨xs, xs[i], q, by simp [lt]⟩, Pv (i + 1), fun σ' H' p' => ⟨xs.length - (i + 1), by omega, rfl, lt, p'⟩, fun x H' y => ?_⟩
    obtain ⟨rfl, y⟩ := y
    exact hs i x σ H' (y xs q) p
  · obtain rfl : i = xs.length := by omega
    exact .inl ⟨⟨xs, q, Nat.le_refl _⟩, hd σ H p⟩
def lcR (J : It) (g : TG) (tt : TT) (te : TE) (vs : List Nat) (σ : St) (H1 : Hp) (Q : VK) : Prop := ∀ D, H1 D = none → ∃ W : Nat → Nat → Hp → Prop, (∃ m, W 0 m (upd H1 D (.lst []))) ∧ ∀ i m H, W i m H → (J.stop i H ∧ Q (.ref D) H) ∨
  (J.go i H ∧ ∃ N : Hp → Prop, (∀ H', N H' → ∃ m', m' < m ∧ W (i + 1) m' H') ∧ ∀ x H', J.yld i H x H' → g x (wipe σ vs) H' fun σ2 H2 => wipe σ2 vs = wipe σ vs ∧ tt σ2 H2 fun b H3 =>
    if b = true then te σ2 H3 fun y H4 => ∃ acc, H4 D = some (.lst acc) ∧ acc.length < sizeLine ∧ N (upd H4 D (.lst (acc ++ [y]))) else N H3)
theorem r_lc (h : wi σ H fun J H1 => lcR J g tt te vs σ H1 Q) : tLc wi g tt te vs σ H Q := h
/-- behind a turn of a comprehension -/
def LcN (H1 : Hp) (D : Addr) (Pv : Nat → List V → Hp → Prop) (i : Nat) (H : Hp) : Prop := Same H1 H ∧ ∃ acc, acc.length ≤ i ∧ H D = some (.lst acc) ∧ Pv i acc H
theorem lc_add {Pv : Nat → List V → Hp → Prop} {D : Addr} {i : Nat} {acc : List V} {y : V} {H4 : Hp} (hD : H1 D = none) (hS : Same H1 H) (s : Same H H4) (ha : H D = some (.lst acc)) (hl : acc.length ≤ i) (hi : i < 100000) (p : Pv (i + 1) (acc ++ [y]) (upd H4 D (.lst (acc ++ [y])))) :
    ∃ acc, H4 D = some (.lst acc) ∧ acc.length < sizeLine ∧ LcN H1 D Pv (i + 1) (upd H4 D (.lst (acc ++ [y]))) :=
  ⟨acc, s _ _ ha, by rw [sizeLine_eq]; omega, same_upd (hS.trans s) hD, _, by rw [List.length_append, List.length_singleton]; omega, upd_same, p⟩
theorem lc_skip {Pv : Nat → List V → Hp → Prop} {D : Addr} {i : Nat} {acc : List V} {H4 : Hp} (hS : Same H1 H) (s : Same H H4) (ha : H D = some (.lst acc)) (hl : acc.length ≤ i) (p : Pv (i + 1) acc H4) : LcN H1 D Pv (i + 1) H4 :=
  ⟨hS.trans s, acc, Nat.le_succ_of_le hl, s _ _ ha, p⟩
/-- [te for g in xs if tt]: what holds of the part taken -/
theorem lc_lst (hl : SqL K H1 a xs) (hz : xs.length ≤ 100000) (Pv : Nat → List V → Hp → Prop) (h0 : ∀ D, H1 D = none → Pv 0 [] (upd H1 D (.lst [])))
    (hs : ∀ D i x acc H, H1 D = none → xs[i]? = some x → i < 100000 → Same H1 H → H D = some (.lst acc) → acc.length ≤ i → Pv i acc H → g x (wipe σ vs) H fun σ2 H2 => wipe σ2 vs = wipe σ vs ∧ tt σ2 H2 fun b H3 =>
      if b = true then te σ2 H3 fun y H4 => ∃ acc, H4 D = some (.lst acc) ∧ acc.length < sizeLine ∧ LcN H1 D Pv (i + 1) (upd H4 D (.lst (acc ++ [y]))) else LcN H1 D Pv (i + 1) H3)
    (hd : ∀ D acc H, H1 D = none → Same H1 H → H D = some (.lst acc) → Pv xs.length acc H → Q (.ref D) H) : lcR (Itl K a) g tt te vs σ H1 Q := by
  intro D hD
  refine ⟨fun i m H => m = xs.length - i ∧ i ≤ xs.length ∧ LcN H1 D Pv i H, ⟨xs.length, by simp, Nat.zero_le _, same_new hD, [], Nat.le_refl _, upd_same, h0 D hD⟩, ?_⟩
  rintro i m H ⟨rfl, hi, hS, acc, ha, hD2, p⟩
  have q := SqL.same hl hS
  by_cases lt : i < xs.length
  · refine .inr ⟨⟨xs, xs[i], q, by simp [lt]⟩, LcN H1 D Pv (i + 1), fun H' p' => ⟨xs.length - (i + 1), by omega, rfl, lt, p'⟩, fun x H' y => ?_⟩
    obtain ⟨rfl, y⟩ := y
    exact hs D i x acc H' hD (y xs q) (by omega) hS hD2 ha p
  · obtain rfl : i = xs.length := by omega
    exact .inl ⟨⟨xs, q, Nat.le_refl _⟩, hd D acc H hD hS hD2 p⟩
end
/-! ### more steps of a reading -/
section
variable {σ : St} {H : Hp} {K : PySem.W.Frag} {a : Addr} {xs : List V} {g : TG} {gs : TGs} {N : St → Hp → Prop} {Q : VK} {v : V} {n i : Nat} {te : TE} {ts : List TE} {acc : Str} {J : Str → Hp → Prop}
theorem r_gname (h : N (σ.set i (some v)) H) : gName i v σ H N := h
theorem r_gnil (h : N σ H) : gNil [] σ H N := ⟨rfl, h⟩
theorem r_gcons {vs : List V} (h : g v σ H fun σ' H' => gs vs σ' H' N) : gCons g gs (v :: vs) σ H N := ⟨v, vs, rfl, h⟩
theorem r_gtup (hs : SqT K H a xs) (hn : xs.length = n) (h : gs xs σ H N) : gTup K n gs (.ref a) σ H N := ⟨a, xs, rfl, hs, hn, h⟩
theorem r_jnil (h : J acc H) : tJs [] acc σ H J := h
theorem r_jcons (h : te σ H fun x H1 => ∃ y : Str, x = .str y ∧ (acc ++ y).length ≤ sizeLine ∧ tJs ts (acc ++ y) σ H1 J) : tJs (te :: ts) acc σ H J := h
theorem r_jstr {y : Str} (hz : (acc ++ y).length ≤ sizeLine) (h : tJs ts (acc ++ y) σ H J) : tJs (tC (.str y) :: ts) acc σ H J := ⟨y, rfl, hz, h⟩
theorem r_jvar {y : Str} (e : σ[i]? = some (some (.str y))) (hy : y.length ≤ sizeLine) (hz : (acc ++ y).length ≤ sizeLine) (h : tJs ts (acc ++ y) σ H J) : tJs (tFmt (tVar i) :: ts) acc σ H J := ⟨_, e, .inl ⟨y, rfl, hy, y, rfl, hz, h⟩⟩
theorem r_fmt (h : te σ H fun x H1 => (∃ y : Str, x = .str y ∧ y.length ≤ sizeLine ∧ Q (.str y) H1) ∨ ∃ i : Int, x = .int i ∧ i.natAbs.log2 < 1920 ∧ Q (.str (toString i)) H1) : tFmt te σ H Q := h
theorem r_fmtS {y : Str} {R : V → Prop} (hy : y.length ≤ sizeLine) (h : R (.str y)) : (∃ z : Str, V.str y = .str z ∧ z.length ≤ sizeLine ∧ R (.str z)) ∨ ∃ i : Int, V.str y = .int i ∧ i.natAbs.log2 < 1920 ∧ R (.str (toString i)) := .inl ⟨y, rfl, hy, h⟩
theorem r_dnew (h : ∀ p, H p = none → Q (.ref p) (upd H p (.dK []))) : tDNewK σ H Q := h
theorem r_dput {td ty tv : TE} {nx : St → Hp → Prop} {rt : VK} {bk ct : St → Hp → Prop} (h : tv σ H fun v H1 => td σ H1 fun x H2 => ty σ H2 fun y H3 => ∃ a H4, x = .ref a ∧ DPut H3 a y v H4 ∧ nx σ H4) : sDPut td ty tv ⟨nx, rt, bk, ct⟩ σ H := h
theorem sapp_len (x y : Str) : (x ++ y).length = x.length + y.length := by simp [Str.length, Str.cps_append]
theorem sapp_nil (x : Str) : Str.empty ++ x = x := by
  show Str.mk (Str.empty.cps ++ x.cps) = x
  simp [Str.empty]
end
/-! ### sorted(xs, key=f) by an own def -/
def rSortK (K : PySem.W.Frag) (f : Addr) (sp : Sp) : List V → List V → Hp → VK → Prop := fun vs zs H Q => ∃ (a : Addr) (bs : List VD), vs = [.ref a] ∧ zs = [.ref f] ∧ SqL K H a (bs.map (·.1)) ∧ (∀ b ∈ bs, b.2.depth ≤ 8) ∧ PySem.W.AllAlike (bs.map (·.2)) ∧ PySem.W.Sortable (bs.map (·.2)) ∧
  ∃ J : Nat → List V → Hp → Prop, J 0 [] H ∧ (∀ i b ys H', bs[i]? = some b → J i ys H' → sp [b.1] H' (fun y H'' => J (i + 1) (ys ++ [y]) H'') fun _ _ _ => False) ∧
    ∀ ys H', J bs.length ys H' → DatsV K H' ys (bs.map (·.2)) ∧ ∀ p, H' p = none → Q (.ref p) (upd H' p (.lst ((sortD bs).map (·.1))))
section
open PySem.W PyProof.Rows
variable {X : Cx} {k : Nat} {f g : Addr} {fd : FuncData} {ps : List Str} {sp : Sp}
theorem run_in2 {pins : List (Addr × Obj)} {σ : L2.St} {H : Hp} {s : Shared} {Q : VK} {us : List Value} {vs : List V} {E : XK} (F : FnOk X.prog X.w X.K X.mg X.base CX0 k g fd ps sp) (room : Room (k + 2) X.A) (bd : Binds X.K fd ps [])
    (I : Inv X pins σ H s) (r : Vals vs us) (h : sp vs H Q E) : wpAny (model X.prog X.w) X.A.in1.in1 (call (.ref g) us) (EP X pins σ Q) (fun _ _ => False) s := by
  have hl : (us ++ []).length = ps.length := by rw [List.append_nil, ← r.length]; exact F.len _ _ _ _ h
  have b := bd s us I.kIn hl
  rw [List.append_nil] at b
  refine wpAny_call (codeAny_mono (F.run X.A.in1.in1 X.stack s H ⟨us, []⟩ us vs Q E (Room.in1 (Room.in1 room)) I.env0.in1.in1 b r h) fun r s' z => ?_)
  match r, z with
  | .error e, z => exact z.elim
  | .ok (.ret u), z => exact I.after z
  | .ok .next, z => exact z.elim
  | .ok .brk, z => exact z.elim
  | .ok .cont, z => exact z.elim
/-- a pinned record of our own is written -/
theorem inv_pinned {pins : List (Addr × Obj)} {σ : L2.St} {H : Hp} {s : Shared} {h' : Heap} {kS D : Addr} {o o' o2 : Obj} (I : Inv X (pins ++ [(kS, o), (D, o2)]) σ H s) (sb : Heap.SameBut kS s.heap h') (e : h'.get? kS = some o') (nc : ∀ v, o'.data ≠ .cell v)
    (hL : X.s_0.heap.objs.size ≤ kS) (hc : ∀ x c, X.env.cells.lookup x = some c → c ≠ kS) (hp : ∀ p ∈ X.pn ++ pins, p.1 ≠ kS) (hD : D ≠ kS) : Inv X (pins ++ [(kS, o'), (D, o2)]) σ H { s with heap := h' } := by
  have m1 : (kS, o) ∈ X.pn ++ (pins ++ [(kS, o), (D, o2)]) := List.mem_append_right _ (List.mem_append_right _ List.mem_cons_self)
  have m2 : (D, o2) ∈ X.pn ++ (pins ++ [(kS, o), (D, o2)]) := List.mem_append_right _ (List.mem_append_right _ (List.mem_cons_of_mem _ List.mem_cons_self))
  have q := I.pin _ m1
  have J : Inv X (pins ++ [(D, o2)]) σ H s := I.pins_of fun p hp => by
    rcases List.mem_append.mp hp with z | z
    · exact I.pin p (List.mem_append_right _ (List.mem_append_left _ z))
    · rw [List.mem_singleton] at z
      subst z
      exact I.pin _ m2
  have J2 := J.turned (it := kS) (h' := h') (t' := s.toks) (fun b ob hb e => (sb.2 b hb).trans e) q.2.1 q.2.2.1 (.inr hL) hc (fun p h => by
    rcases List.mem_append.mp h with z | z
    · exact hp p (List.mem_append_left _ z)
    · rcases List.mem_append.mp z with z | z
      · exact hp p (List.mem_append_right _ z)
      · rw [List.mem_singleton] at z
        subst z
        exact hD)
  refine J2.pins_of fun p hp => ?_
  rcases List.mem_append.mp hp with z | z
  · exact J2.pin p (List.mem_append_right _ (List.mem_append_left _ z))
  · rcases List.mem_cons.mp z with rfl | z
    · exact ⟨e, q.2.1, q.2.2.1, q.2.2.2.1, nc⟩
    · rw [List.mem_singleton] at z
      subst z
      exact J2.pin _ (List.mem_append_right _ (List.mem_append_right _ (List.mem_singleton.mpr rfl)))
theorem datsV_each {pins : List (Addr × Obj)} {σ : L2.St} {H : Hp} {s : Shared} (I : Inv X pins σ H s) : ∀ {ys : List V} {ds : List PyData} {us : List Value}, DatsV X.K H ys ds → Vals ys us → EachIs (fun u d => ∃ as, Reads s.heap u d as) us ds
  | [], _, _, h, r => by
    cases h
    cases r
    exact .nil
  | _ :: _, _, _, h, r => by
    cases h with
    | cons h1 h2 =>
      cases r with
      | cons r1 r2 => exact .cons (DatV.reads I _ _ _ h1 r1) (datsV_each I h2 r2)
theorem seq_nc {c : String} {xs : Array Value} {n : Nat} : ∀ v, (seqObj c xs n).data ≠ .cell v := fun v z => nomatch z
theorem cr_sortK (F : FnOk X.prog X.w X.K X.mg X.base CX0 k g fd ps sp) (room : Room (k + 2) X.A) (bd : Binds X.K fd ps []) : CallRK X (.builtin "sorted") [Str.ofString "key"] (rSortK X.K g sp) := by
  intro pins s σ H vs zs us ws Q I r rz h
  obtain ⟨a, bs, rfl, rfl, hs, hd, hal, hk, J, j0, js, jd⟩ := h
  obtain ⟨its, rv, hl, hz⟩ := I.list hs
  rw [Vals.ref1 r]
  obtain ⟨w1, rfl, e1⟩ := vals1 rz
  obtain rfl : w1 = Value.ref g := e1
  have hlen : its.length = bs.length := by rw [← rv.length, List.length_map]
  have hZ : its.length ≤ sizeLine := by rw [← rv.length]; exact hz
  refine sorted_of_sort hl.isList hZ (ksk_s1 _ _) (fun _ => ksk_l1 _ _) fun E' => ?_
  show wpAny _ _ (Builtin.«list.sort» ⟨[.ref (s.heap.objs.size + 1)], [(Str.ofString "key", .ref g)]⟩) _ _ _
  rw [ksk_t1]
  have ho := copyHeap_at s.heap its
  generalize hD : s.heap.objs.size + 1 = D at *
  have ltD : s.heap.objs.size < D := by omega
  generalize hh1 : copyHeap s.heap its = h1 at *
  have old1 : ∀ b o, s.heap.get? b = some o → h1.get? b = some o := fun b o e => by rw [← hh1]; exact copyHeap_old e
  have haD : D < h1.objs.size := Heap.lt_size ho
  obtain ⟨e1, ho1⟩ : ∃ e1, (h1.update D (Obj.mapSeq fun _ => (#[] : Array Value))).get? D = some (seqObj "list" #[] e1) := ⟨_, get?_update_seq ho fun _ => #[]⟩
  have hkS : ((h1.update D (Obj.mapSeq fun _ => (#[] : Array Value))).push (seqObj "tuple" its.toArray 0)).objs.size = h1.objs.size + 1 := by rw [size_push', Heap.size_update]
  unfold ksk_tree
  refine wpAny_bind (listItems_at ho rfl ?_)
  refine wpAny_bind (listUpdate_at ho rfl ?_ (by rw [List.size_toArray]; exact hZ) (Nat.zero_le _))
  refine wpAny_bind (seqEpoch_at ho1 rfl ?_)
  refine wpAny_bind (wpAny_newTuple ?_ (by show its.length ≤ _; exact hZ))
  refine wpAny_bind (wpAny_newList ?_ (Nat.zero_le _))
  refine wpAny_holding ?_
  have ltS : s.heap.objs.size < h1.objs.size + 1 := by omega
  have old3 : ∀ b o, s.heap.get? b = some o → (sortingHeap h1 D its).get? b = some o := fun b o e => sortingHeap_old (Nat.ne_of_lt (Nat.lt_trans (Heap.lt_size e) ltD)) (old1 b o e)
  have I3 : Inv X pins σ H { s with heap := sortingHeap h1 D its } := I.kept (t' := s.toks) old3
  have nk3 : (sortingHeap h1 D its).get? (h1.objs.size + 1) = some (seqObj "list" #[] 0) := by
    rw [← hkS]
    exact Heap.get?_push_size _ rfl
  have na3 : (sortingHeap h1 D its).get? D = some (seqObj "list" #[] e1) := Heap.get?_push_of_some _ (Heap.get?_push_of_some _ ho1)
  have new : ∀ b, s.heap.objs.size ≤ b → H b = none ∧ b ≠ X.env.locals ∧ b ∉ X.fs ∧ X.s_0.heap.objs.size ≤ b ∧ (∀ x c, X.env.cells.lookup x = some c → c ≠ b) ∧ ∀ p ∈ X.pn ++ pins, p.1 ≠ b := fun b hb =>
    ⟨I.hok.fresh hb, Nat.ne_of_gt (Nat.lt_of_lt_of_le I.lt hb), I.nofs hb, Nat.le_trans I.sz hb, fun x c e z => by
      obtain ⟨v, q⟩ := I.cell x c e
      exact absurd (Nat.lt_of_lt_of_le q.lt (by rw [z]; exact hb)) (Nat.lt_irrefl _), fun p hp z => absurd (Nat.lt_of_lt_of_le (Heap.lt_size (I.pin p hp).1) (by rw [z]; exact hb)) (Nat.lt_irrefl _)⟩
  obtain ⟨nD1, nD2, nD3, nD4, nD5, nD6⟩ := new D (Nat.le_of_lt ltD)
  obtain ⟨nS1, nS2, nS3, nS4, nS5, nS6⟩ := new (h1.objs.size + 1) (Nat.le_of_lt ltS)
  have hDS : D ≠ h1.objs.size + 1 := Nat.ne_of_lt (Nat.lt_succ_of_lt haD)
  have I4 : Inv X (pins ++ [(h1.objs.size + 1, seqObj "list" #[] 0), (D, seqObj "list" #[] e1)]) σ H { s with heap := sortingHeap h1 D its } := I3.pins_of fun p hp => by
    rcases List.mem_append.mp hp with z | z
    · exact I3.pin p (List.mem_append_right _ z)
    · rcases List.mem_cons.mp z with rfl | z
      · exact ⟨nk3, nS1, nS2, nS3, seq_nc⟩
      · rw [List.mem_singleton] at z
        subst z
        exact ⟨na3, nD1, nD2, nD3, seq_nc⟩
  rw [hkS]
  show wpAny _ _ (ksk_rest D (.ref g) false its.toArray e1 (.ref (h1.objs.size + 1))) _ _ { s with heap := sortingHeap h1 D its }
  generalize h1.objs.size + 1 = kS at *
  unfold ksk_rest
  refine wpAny_bind (wpAny_rule ?_)
  first
    | rw [List.forIn_toArray]
    | (rw [← Array.forIn_toList]; simp only [List.toList_toArray])
    | rw [← Array.forIn_toList]
  refine wpAny_bind (ksk_fold (fun i s' => ∃ kA e ys H', Inv X (pins ++ [(kS, seqObj "list" kA e), (D, seqObj "list" #[] e1)]) σ H' s' ∧ J i ys H' ∧ Vals ys kA.toList ∧ kA.size = i) its 0 _ ⟨#[], 0, [], H, I4, j0, .nil, rfl⟩ ?step ?done)
  case step =>
    rintro j x s' hx ⟨kA, e, ys, H', I', ji, rk, hsz⟩
    simp only [Nat.zero_add] at ji hsz ⊢
    have hj : j < bs.length := by rw [← hlen]; exact (List.getElem?_eq_some_iff.mp hx).1
    have hb : bs[j]? = some bs[j] := List.getElem?_eq_getElem hj
    have rx : RelV bs[j].1 x := by
      obtain ⟨u, e2, ru⟩ := rv.get (i := j) (x := bs[j].1) (by rw [List.getElem?_map, hb]; rfl)
      rw [hx] at e2
      cases e2
      exact ru
    refine wpAny_bind (wpAny_attempt (wpAny_mono (run_in2 (vs := [bs[j].1]) (us := [x]) F room bd I' (.cons rx .nil) (js j bs[j] ys H' hb ji)) (fun v s'' he => ?_) fun _ _ hF => hF.elim))
    obtain ⟨y, H'', I'', ry, jy⟩ := he
    try dsimp only
    have m1 : (kS, seqObj "list" kA e) ∈ X.pn ++ (pins ++ [(kS, seqObj "list" kA e), (D, seqObj "list" #[] e1)]) := List.mem_append_right _ (List.mem_append_right _ List.mem_cons_self)
    have nk2 := (I''.pin _ m1).1
    have s1 := Heap.SameBut.update s''.heap kS (Obj.mapSeq (·.push v))
    obtain ⟨c2, hc2⟩ : ∃ c2, (s''.heap.update kS (Obj.mapSeq (·.push v))).get? kS = some (seqObj "list" (kA.push v) c2) := ⟨_, get?_update_seq nk2 (·.push v)⟩
    have hz2 : kA.size ≤ sizeLine := by rw [hsz]; exact Nat.le_trans (Nat.le_of_lt (by rw [hlen]; exact hj)) hZ
    refine wpAny_bind (listUpdate_at nk2 rfl ?_ hz2 (Nat.le_trans (Nat.le_of_eq (Array.size_push ..)) (Nat.succ_le_succ hz2)))
    refine wpAny_pure ⟨rfl, kA.push v, c2, ys ++ [y], H'', inv_pinned I'' s1 hc2 seq_nc nS4 nS5 nS6 hDS, jy, ?_, by rw [Array.size_push, hsz]⟩
    rw [show (kA.push v).toList = kA.toList ++ [v] from by simp]
    exact rk.append (.cons ry .nil)
  case done =>
    rintro s' ⟨kA, e, ys, H', I', ji, rk, hsz⟩
    rw [Nat.zero_add, hlen] at ji hsz
    obtain ⟨jdat, jq⟩ := jd ys H' ji
    have m1 : (kS, seqObj "list" kA e) ∈ X.pn ++ (pins ++ [(kS, seqObj "list" kA e), (D, seqObj "list" #[] e1)]) := List.mem_append_right _ (List.mem_append_right _ List.mem_cons_self)
    have m2 : (D, seqObj "list" #[] e1) ∈ X.pn ++ (pins ++ [(kS, seqObj "list" kA e), (D, seqObj "list" #[] e1)]) := List.mem_append_right _ (List.mem_append_right _ (List.mem_cons_of_mem _ List.mem_cons_self))
    obtain ⟨nk, hkn, _⟩ := I'.pin _ m1
    obtain ⟨na, hDn, _⟩ := I'.pin _ m2
    have er := datsV_each I' jdat rk
    try dsimp only
    refine wpAny_bind (listItems_at nk rfl ?_)
    have hu : ∀ d, d ∈ bs.map (·.2) → X.A.in1.in1.units + d.depth < cLine := fun d hd2 => by
      obtain ⟨b, hb, rfl⟩ := List.mem_map.mp hd2
      have := hd b hb
      have := room.un
      show X.A.units + 1 + 1 + b.2.depth < _
      omega
    refine keyH_end (κ := dataKind s'.heap (bs.map (·.2))) (h₁ := hideAll s'.heap [kS]) (fun b o _ q => of_hideAll _ q) (hideAll_none _ List.mem_cons_self) nk na hDS.symm (SortsAt.data (s := s') er hal hk hu) (by rw [hsz, hlen]) hZ fun h' tk c k3 n3 => ⟨rfl, ?_⟩
    have ko : KeyedOut false (bs.map (·.2)) its (sortVals (dataKind s'.heap (bs.map (·.2))) false kA.toList its) := ⟨s'.heap, kA.toList, hal, rfl, er⟩
    have eo := keyedOut_each (R := fun u (b : VD) => RelV b.1 u) (fun b : VD => b.2) ko (each_vals rv)
    have kept : ∀ b o, b ≠ kS → b ≠ D → s'.heap.get? b = some o → h'.get? b = some o := fun b o h1 h2 q => k3 b o h2 (hideAll_get _ q (by simp [h1]))
    have lo : ((sortD bs).map (·.1)).length ≤ sizeLine := by
      rw [List.length_map, (sortD_perm bs).length_eq, ← hlen]
      exact hZ
    have trk : ∀ b u, H' b = some u → b ≠ kS ∧ b ≠ D := fun b u q => ⟨fun z => (by rw [z, hkn] at q; cases q), fun z => (by rw [z, hDn] at q; cases q)⟩
    have hP : ∀ p ∈ X.pn ++ pins, p.1 ≠ kS ∧ p.1 ≠ D := fun p hp => ⟨nS6 p hp, nD6 p hp⟩
    have I5 : Inv X pins σ H' s' := I'.pins_of fun p hp => I'.pin p (List.mem_append_right _ (List.mem_append_left _ hp))
    have gl : ∃ o, s'.heap.get? X.env.locals = some o := by
      obtain ⟨m, ⟨o, _, _, e, _⟩, _⟩ := I5.loc
      exact ⟨o, e⟩
    have fin := I5.step (g' := s'.gens) (d' := s'.drawn) (t' := tk) (h' := h') (H' := upd H' D (.lst ((sortD bs).map (·.1)))) (ch := [kS, D]) (fun b hb => by
        rcases List.mem_cons.mp hb with rfl | hb
        · exact ⟨.inr nS4, nS2, nS5, nS6⟩
        · rw [List.mem_singleton] at hb
          subst hb
          exact ⟨.inr nD4, nD2, nD5, nD6⟩)
      (fun b o _ _ hc q _ => kept b o (fun z => hc (by simp [z])) (fun z => hc (by simp [z])) q)
      (fun b o _ _ hc q _ => ⟨o.slots, kept b o (fun z => hc (by simp [z])) (fun z => hc (by simp [z])) q⟩)
      (fun b o hc q n => by rw [upd_ne (fun z => hc (by simp [z]))]; exact n)
      (fun b o hc q => ⟨o, kept b o (fun z => hc (by simp [z])) (fun z => hc (by simp [z])) q⟩)
      (fun b xs q => by rw [upd_ne (trk b _ q).2]; exact q) (fun b o u q => by rw [upd_ne (trk b _ q).2]; exact q) (fun b ps q => ⟨#[], by rw [upd_ne (trk b _ q).2, q]; simp⟩)
      (fun mm hm => by
        obtain ⟨o, es, ep, q, rest⟩ := hm
        exact ⟨o, es, ep, kept _ _ nS2.symm nD2.symm q, rest⟩)
      (fun b u q => by
        by_cases hb : b = D
        · rw [hb, upd_same] at q
          cases q
          rw [hb]
          exact ⟨lo, _, c, vals_each eo, n3⟩
        · rw [upd_ne hb] at q
          have st := I5.hok b u q
          refine st.stay (fun b2 v hb2 q2 => ?_) (fun b2 q2 => by rw [upd_ne (trk b2 _ q2).2]; exact q2) (fun b2 xs q2 => by rw [upd_ne (trk b2 _ q2).2]; exact q2)
          rcases hb2 with rfl | hb2
          · exact kept _ _ (trk _ _ q).1 (trk _ _ q).2 q2
          · exact kept _ _ (trk _ _ hb2).1 (trk _ _ hb2).2 q2) I5.bare
    exact ⟨.ref D, _, fin, rfl, jq D hDn⟩
end
theorem Room.units2 {k : Nat} {A : Around} (r : Room k A) : A.units + 65 < cLine := by have := r.un; omega
theorem op_inDK {X : Cx} {K : PySem.W.Frag} (h : X.K = K) (hu : X.A.units + 65 < cLine) : OpR X (compareOp .In) (rInD K) := by subst h; exact op_inD hu
theorem op_notInDK {X : Cx} {K : PySem.W.Frag} (h : X.K = K) (hu : X.A.units + 65 < cLine) : OpR X (compareOp .NotIn) (rNotInD K) := by subst h; exact op_notInD hu
/-! ### one step, at the goal's head -/
local macro_rules | `(tactic| walk_at "go1") => `(tactic| first
  | (with_reducible apply r_seq) | (with_reducible apply r_set) | (with_reducible apply r_if) | (with_reducible apply r_ret) | (with_reducible apply r_next)
  | (with_reducible apply r_op) | (with_reducible apply r_c) | ((with_reducible apply r_var); exact rfl) | (with_reducible apply r_consA) | (with_reducible apply r_nilA)
  | (with_reducible apply r_call) | (with_reducible apply r_callS) | (with_reducible apply r_CB) | (with_reducible apply r_I0) | (with_reducible apply r_test) | (with_reducible apply r_bl)
  | (with_reducible apply r_B) | (with_reducible apply r_un) | (with_reducible apply r_U) | ((with_reducible apply r_eq); exact rfl) | ((with_reducible apply r_ne); exact rfl)
  | (with_reducible apply r_and) | (with_reducible apply r_or) | (with_reducible apply r_not) | (with_reducible apply r_andV) | (with_reducible apply r_orV) | (with_reducible apply r_notV) | (with_reducible apply r_ifE)
  | (with_reducible apply r_asg) | (with_reducible apply r_sub) | (with_reducible apply r_par) | (with_reducible apply r_drop) | (with_reducible apply r_brk) | (with_reducible apply r_cont)
  | (with_reducible apply r_fld) | (with_reducible apply r_tup) | (with_reducible apply r_lst))
local macro_rules | `(tactic| walk_at "go") => `(tactic| repeat walk_at "go1")
local macro_rules | `(tactic| walk_at "go1") => `(tactic| first | (with_reducible apply r_make) | (with_reducible apply r_makeS))
local macro_rules | `(tactic| walk_at "go1") => `(tactic| first | (with_reducible apply r_for) | (with_reducible apply r_iRng1) | (with_reducible apply r_iList))
local macro_rules | `(tactic| walk_at "go1") => `(tactic| first | ((with_reducible apply r_ixL); exact SqL.of upd_same; exact rfl) | ((with_reducible apply r_ixT); exact SqT.of upd_same; exact rfl))
local macro_rules | `(tactic| walk_at "go2") => `(tactic| first | (refine Or.inl ⟨_, rfl, ?_⟩) | (refine ⟨_, rfl, ?_⟩) | (refine ⟨_, _, rfl, ?_⟩) | (refine ⟨_, _, rfl, rfl, ?_⟩))
local macro_rules | `(tactic| walk_at "go") => `(tactic| repeat first | walk_at "go1" | walk_at "go2")
local macro_rules | `(tactic| walk_at "go1") => `(tactic| ((with_reducible apply r_setL); exact upd_same; exact rfl))
local macro_rules | `(tactic| walk_at "go2") => `(tactic| (refine And.intro (by first | omega | (dsimp only; omega) | decide) ?_))
local macro_rules | `(tactic| walk_at "go1") => `(tactic| (with_reducible apply r_sfld))
local macro_rules | `(tactic| walk_at "go2") => `(tactic| (refine And.intro (show CPow _ _ from ⟨by decide, by decide, by decide⟩) ?_))
local macro_rules | `(tactic| walk_at "go2") => `(tactic| (refine And.intro (by assumption) ?_))
local macro_rules | `(tactic| walk_at "go1") => `(tactic| first | (with_reducible apply ite_nt) | (with_reducible apply ite_nf) | (with_reducible apply iteT) | (with_reducible apply iteF))
local macro_rules | `(tactic| walk_at "go1") => `(tactic| first | (with_reducible apply r_gname) | (with_reducible apply r_gcons) | (with_reducible apply r_gnil) | (with_reducible apply r_dput) | (with_reducible apply r_dnew) | (with_reducible apply r_lc) | (with_reducible apply r_fmt) | (with_reducible apply r_jnil) | (with_reducible apply r_jcons))
local macro_rules | `(tactic| walk_at "js") => `(tactic| repeat first | walk_at "go1" | (refine And.intro (by ((try dsimp only); (try simp only [sapp_nil, sapp_len]); omega)) ?_) | (refine ⟨_, rfl, (by ((try dsimp only); (try simp only [sapp_nil, sapp_len]); omega)), ?_⟩) | walk_at "go2")
/-! ### the text by places -/
def top (i : Nat) : Stmt := PySem.Challenge.pw_linkwork_k30_modifications.main.body.getD i (.Pass ⟨0, 0, 0, 0⟩)
abbrev s_put_over : Stmt := top 5
abbrev s_Ratio___init__ : Stmt := inClass (top 7) 0
abbrev s_Ratio___eq__ : Stmt := inClass (top 7) 1
abbrev s_Ratio___add__ : Stmt := inClass (top 7) 2
abbrev s_Ratio___sub__ : Stmt := inClass (top 7) 3
abbrev s_Ratio___mul__ : Stmt := inClass (top 7) 4
abbrev s_Ratio___neg__ : Stmt := inClass (top 7) 5
abbrev s__law_stream : Stmt := top 9
abbrev s__law_draw : Stmt := top 10
abbrev s__law_put : Stmt := top 11
abbrev s__law_num : Stmt := top 12
abbrev s__law_modifications : Stmt := top 13
abbrev s__law_copy : Stmt := top 14
abbrev s_law : Stmt := top 15
/-! ### the head's facts -/
def d_put_over : He.DefD := ⟨(("put_over" : Str), none), ("put_over" : Str), ("put_over" : Str), defArgs s_put_over, defBody s_put_over, defScope s_put_over, [], []⟩
def d_Ratio___init__ : He.DefD := ⟨(("Ratio" : Str), some ("__init__" : Str)), ("__init__" : Str), ("Ratio.__init__" : Str), defArgs s_Ratio___init__, defBody s_Ratio___init__, defScope s_Ratio___init__, [(.int (1))], []⟩
def d_Ratio___eq__ : He.DefD := ⟨(("Ratio" : Str), some ("__eq__" : Str)), ("__eq__" : Str), ("Ratio.__eq__" : Str), defArgs s_Ratio___eq__, defBody s_Ratio___eq__, defScope s_Ratio___eq__, [], []⟩
def d_Ratio___add__ : He.DefD := ⟨(("Ratio" : Str), some ("__add__" : Str)), ("__add__" : Str), ("Ratio.__add__" : Str), defArgs s_Ratio___add__, defBody s_Ratio___add__, defScope s_Ratio___add__, [], []⟩
def d_Ratio___sub__ : He.DefD := ⟨(("Ratio" : Str), some ("__sub__" : Str)), ("__sub__" : Str), ("Ratio.__sub__" : Str), defArgs s_Ratio___sub__, defBody s_Ratio___sub__, defScope s_Ratio___sub__, [], []⟩
def d_Ratio___mul__ : He.DefD := ⟨(("Ratio" : Str), some ("__mul__" : Str)), ("__mul__" : Str), ("Ratio.__mul__" : Str), defArgs s_Ratio___mul__, defBody s_Ratio___mul__, defScope s_Ratio___mul__, [], []⟩
def d_Ratio___neg__ : He.DefD := ⟨(("Ratio" : Str), some ("__neg__" : Str)), ("__neg__" : Str), ("Ratio.__neg__" : Str), defArgs s_Ratio___neg__, defBody s_Ratio___neg__, defScope s_Ratio___neg__, [], []⟩
def d__law_stream : He.DefD := ⟨(("_law_stream" : Str), none), ("_law_stream" : Str), ("_law_stream" : Str), defArgs s__law_stream, defBody s__law_stream, defScope s__law_stream, [], []⟩
def d__law_draw : He.DefD := ⟨(("_law_draw" : Str), none), ("_law_draw" : Str), ("_law_draw" : Str), defArgs s__law_draw, defBody s__law_draw, defScope s__law_draw, [], []⟩
def d__law_put : He.DefD := ⟨(("_law_put" : Str), none), ("_law_put" : Str), ("_law_put" : Str), defArgs s__law_put, defBody s__law_put, defScope s__law_put, [], []⟩
def d__law_num : He.DefD := ⟨(("_law_num" : Str), none), ("_law_num" : Str), ("_law_num" : Str), defArgs s__law_num, defBody s__law_num, defScope s__law_num, [], []⟩
def d__law_modifications : He.DefD := ⟨(("_law_modifications" : Str), none), ("_law_modifications" : Str), ("_law_modifications" : Str), defArgs s__law_modifications, defBody s__law_modifications, defScope s__law_modifications, [], []⟩
def d__law_copy : He.DefD := ⟨(("_law_copy" : Str), none), ("_law_copy" : Str), ("_law_copy" : Str), defArgs s__law_copy, defBody s__law_copy, defScope s__law_copy, [], []⟩
def d_law : He.DefD := ⟨(("law" : Str), none), ("law" : Str), ("law" : Str), defArgs s_law, defBody s_law, defScope s_law, [], []⟩
def fnL : List He.DefD := [d_put_over, d_Ratio___init__, d_Ratio___eq__, d_Ratio___add__, d_Ratio___sub__, d_Ratio___mul__, d_Ratio___neg__, d__law_stream, d__law_draw, d__law_put, d__law_num, d__law_modifications, d__law_copy, d_law]
def faL : List He.Fa := [.glo ("put_over" : Str), .glo ("_law_stream" : Str), .glo ("_law_draw" : Str), .glo ("_law_put" : Str), .glo ("_law_num" : Str), .glo ("_law_modifications" : Str), .glo ("_law_copy" : Str), .glo ("law" : Str), .glo ("LinkworkError" : Str), .glo ("ByZero" : Str), .glo ("Ratio" : Str), .free ("abs" : Str), .free ("int" : Str), .free ("isinstance" : Str), .free ("len" : Str), .free ("list" : Str), .free ("range" : Str), .free ("set" : Str), .free ("sorted" : Str), .exc ("LinkworkError" : Str), .exc ("ByZero" : Str), .cls ("Ratio" : Str), .noat ("Ratio" : Str) ("top" : Str), .noat ("Ratio" : Str) ("bottom" : Str), .mkr ("Ratio" : Str), .meth ("Ratio" : Str) ("__eq__" : Str), .meth ("Ratio" : Str) ("__add__" : Str), .meth ("Ratio" : Str) ("__sub__" : Str), .meth ("Ratio" : Str) ("__mul__" : Str), .meth ("Ratio" : Str) ("__neg__" : Str), .exm ("ByZero" : Str) ("ByZero" : Str) true]
def ex_imp_gcd (K : PySem.W.Frag) : Bool := He.eqO (PySem.W.nsIn K mainGlobals ("gcd" : Str)) (some (some (.builtin "math.gcd")))
def ex_excC_LinkworkError (K : PySem.W.Frag) : Bool := excCB K (He.ga K ("LinkworkError" : Str))
def ex_excC_ByZero (K : PySem.W.Frag) : Bool := excCB K (He.ga K ("ByZero" : Str))
def ex_isi_Ratio (K : PySem.W.Frag) : Bool := isiCB K (He.ga K ("Ratio" : Str))
def ex_first_Ratio (K : PySem.W.Frag) : Bool := PySem.W.selfFirst K (He.ga K ("Ratio" : Str))
def ex_kit_ByZero_LinkworkError (K : PySem.W.Frag) : Bool := decide (PySem.W.kitOne K (.ref (He.ga K ("ByZero" : Str))) (.ref (He.ga K ("LinkworkError" : Str))) = some true)
def ex_kit_Ratio_Ratio (K : PySem.W.Frag) : Bool := decide (PySem.W.kitOne K (.ref (He.ga K ("Ratio" : Str))) (.ref (He.ga K ("Ratio" : Str))) = some true)
def ex_kit_t_list_t_list (K : PySem.W.Frag) : Bool := decide (PySem.W.kitOne K (.type "list") (.type "list") = some true)
def ex_kit_t_tuple_t_list (K : PySem.W.Frag) : Bool := decide (PySem.W.kitOne K (.type "tuple") (.type "list") = some false)
def exL : List (PySem.W.Frag → Bool) := [ex_imp_gcd, ex_excC_LinkworkError, ex_excC_ByZero, ex_isi_Ratio, ex_first_Ratio, ex_kit_ByZero_LinkworkError, ex_kit_Ratio_Ratio, ex_kit_t_list_t_list, ex_kit_t_tuple_t_list]
def exB (K : PySem.W.Frag) : Bool := exL.all fun f => f K
abbrev R : PySem.W.OpenRow := PySem.W.OpenLaw.row PySem.Challenge.rw_linkwork_k30_modifications
abbrev hk : PySem.W.Hook := hookS 5 faL fnL exB
def ob (s : PySem.W.SharedT) : AlS := obsS 5 faL fnL exB (HeadRun.getT s)
theorem ob_eq (s : PySem.W.SharedT) : ob s = hk.obs s.abs := obsS_eq (HeadRun.getT_eq s)
def looseL : List PySem.Str := [("__name__" : Str), ("LinkworkError" : Str), ("ByZero" : Str), ("put_over" : Str), ("Ratio" : Str), ("_law_stream" : Str), ("_law_draw" : Str), ("_law_put" : Str), ("_law_num" : Str), ("_law_modifications" : Str), ("_law_copy" : Str)]
abbrev qv : Program := PySem.W.view R.prog [0, 15]
theorem run (w : World) : HeadRun.RunEqI R qv hk ob 30000 looseL w := by
  unfold HeadRun.RunEqI
  kernel_rfl
/-! ### the facts by names -/
def Top (w : World) (K : PySem.W.Frag) (mg : Str → Option Value) : Prop := ∃ h : Heap, K.In h ∧ h.Ns mainGlobals mg ∧ SaysS faL fnL exB K
noncomputable def fdOf (K : PySem.W.Frag) (d : He.DefD) : FuncData := @Classical.epsilon FuncData ⟨PySem.W.fnOf d.name d.qual d.params d.body d.scope .none .none .none .none none .none .none⟩ fun fd => FunD K d.name d.qual d.params d.body d.scope (d.dvs K) (d.kws K) (He.fAd K d.at_) fd
section
variable {w : World} {K : PySem.W.Frag} {mg : Str → Option Value}
theorem Top.fun_ (T : Top w K mg) (i : Nat) {d : He.DefD} (h : fnL[i]? = some d) : FunD K d.name d.qual d.params d.body d.scope (d.dvs K) (d.kws K) (He.fAd K d.at_) (fdOf K d) := by
  obtain ⟨_, _, _, c⟩ := T
  exact Classical.epsilon_spec (c.d.def_ i h)
theorem Top.fact (T : Top w K mg) (i : Nat) {f : He.Fa} (h : faL[i]? = some f) : f.ok K = true := by
  obtain ⟨_, _, _, c⟩ := T
  exact c.d.fact i h
theorem Top.ex (T : Top w K mg) (i : Nat) {f : PySem.W.Frag → Bool} (h : exL[i]? = some f) : f K = true := by
  obtain ⟨_, _, _, c⟩ := T
  exact List.all_eq_true.mp (show (exL.all fun f => f K) = true from c.more) f (List.mem_of_getElem? h)
theorem Top.g_put_over (T : Top w K mg) : mg ("put_over" : Str) = some (.ref (He.ga K ("put_over" : Str))) := by obtain ⟨h, X, G, c⟩ := T; exact He.glo_ok X G (c.d.fact 0 rfl)
theorem Top.g__law_stream (T : Top w K mg) : mg ("_law_stream" : Str) = some (.ref (He.ga K ("_law_stream" : Str))) := by obtain ⟨h, X, G, c⟩ := T; exact He.glo_ok X G (c.d.fact 1 rfl)
theorem Top.g__law_draw (T : Top w K mg) : mg ("_law_draw" : Str) = some (.ref (He.ga K ("_law_draw" : Str))) := by obtain ⟨h, X, G, c⟩ := T; exact He.glo_ok X G (c.d.fact 2 rfl)
theorem Top.g__law_put (T : Top w K mg) : mg ("_law_put" : Str) = some (.ref (He.ga K ("_law_put" : Str))) := by obtain ⟨h, X, G, c⟩ := T; exact He.glo_ok X G (c.d.fact 3 rfl)
theorem Top.g__law_num (T : Top w K mg) : mg ("_law_num" : Str) = some (.ref (He.ga K ("_law_num" : Str))) := by obtain ⟨h, X, G, c⟩ := T; exact He.glo_ok X G (c.d.fact 4 rfl)
theorem Top.g__law_modifications (T : Top w K mg) : mg ("_law_modifications" : Str) = some (.ref (He.ga K ("_law_modifications" : Str))) := by obtain ⟨h, X, G, c⟩ := T; exact He.glo_ok X G (c.d.fact 5 rfl)
theorem Top.g__law_copy (T : Top w K mg) : mg ("_law_copy" : Str) = some (.ref (He.ga K ("_law_copy" : Str))) := by obtain ⟨h, X, G, c⟩ := T; exact He.glo_ok X G (c.d.fact 6 rfl)
theorem Top.g_law (T : Top w K mg) : mg ("law" : Str) = some (.ref (He.ga K ("law" : Str))) := by obtain ⟨h, X, G, c⟩ := T; exact He.glo_ok X G (c.d.fact 7 rfl)
theorem Top.g_LinkworkError (T : Top w K mg) : mg ("LinkworkError" : Str) = some (.ref (He.ga K ("LinkworkError" : Str))) := by obtain ⟨h, X, G, c⟩ := T; exact He.glo_ok X G (c.d.fact 8 rfl)
theorem Top.g_ByZero (T : Top w K mg) : mg ("ByZero" : Str) = some (.ref (He.ga K ("ByZero" : Str))) := by obtain ⟨h, X, G, c⟩ := T; exact He.glo_ok X G (c.d.fact 9 rfl)
theorem Top.g_Ratio (T : Top w K mg) : mg ("Ratio" : Str) = some (.ref (He.ga K ("Ratio" : Str))) := by obtain ⟨h, X, G, c⟩ := T; exact He.glo_ok X G (c.d.fact 10 rfl)
theorem Top.n_abs (T : Top w K mg) : mg ("abs" : Str) = none := by obtain ⟨h, X, G, c⟩ := T; exact He.free_ok X G (c.d.fact 11 rfl)
theorem Top.n_int (T : Top w K mg) : mg ("int" : Str) = none := by obtain ⟨h, X, G, c⟩ := T; exact He.free_ok X G (c.d.fact 12 rfl)
theorem Top.n_isinstance (T : Top w K mg) : mg ("isinstance" : Str) = none := by obtain ⟨h, X, G, c⟩ := T; exact He.free_ok X G (c.d.fact 13 rfl)
theorem Top.n_len (T : Top w K mg) : mg ("len" : Str) = none := by obtain ⟨h, X, G, c⟩ := T; exact He.free_ok X G (c.d.fact 14 rfl)
theorem Top.n_list (T : Top w K mg) : mg ("list" : Str) = none := by obtain ⟨h, X, G, c⟩ := T; exact He.free_ok X G (c.d.fact 15 rfl)
theorem Top.n_range (T : Top w K mg) : mg ("range" : Str) = none := by obtain ⟨h, X, G, c⟩ := T; exact He.free_ok X G (c.d.fact 16 rfl)
theorem Top.n_set (T : Top w K mg) : mg ("set" : Str) = none := by obtain ⟨h, X, G, c⟩ := T; exact He.free_ok X G (c.d.fact 17 rfl)
theorem Top.n_sorted (T : Top w K mg) : mg ("sorted" : Str) = none := by obtain ⟨h, X, G, c⟩ := T; exact He.free_ok X G (c.d.fact 18 rfl)
theorem Top.exc_LinkworkError (T : Top w K mg) : PySem.W.excIn K (He.ga K ("LinkworkError" : Str)) He.veBase "ValueError.__new__" = true ∧ PySem.W.keepIn K (.ref (He.ga K ("LinkworkError" : Str))) = true ∧ PySem.W.subIn K (.ref (He.ga K ("LinkworkError" : Str))) (.type "BaseException") = some true ∧ PySem.W.typeIn K (.ref (He.ga K ("LinkworkError" : Str))) = some (.type "type") := He.exc_ok (T.fact 19 rfl)
theorem Top.exc_ByZero (T : Top w K mg) : PySem.W.excIn K (He.ga K ("ByZero" : Str)) He.veBase "ValueError.__new__" = true ∧ PySem.W.keepIn K (.ref (He.ga K ("ByZero" : Str))) = true ∧ PySem.W.subIn K (.ref (He.ga K ("ByZero" : Str))) (.type "BaseException") = some true ∧ PySem.W.typeIn K (.ref (He.ga K ("ByZero" : Str))) = some (.type "type") := He.exc_ok (T.fact 20 rfl)
theorem Top.cls_Ratio (T : Top w K mg) : Cls K (He.ga K ("Ratio" : Str)) := He.cls_ok (T.fact 21 rfl)
theorem Top.na_Ratio_top (T : Top w K mg) : NoAttr K (He.ga K ("Ratio" : Str)) ("top" : Str) := He.noat_ok (T.fact 22 rfl)
theorem Top.na_Ratio_bottom (T : Top w K mg) : NoAttr K (He.ga K ("Ratio" : Str)) ("bottom" : Str) := He.noat_ok (T.fact 23 rfl)
theorem Top.mk_Ratio (T : Top w K mg) : Mk K (He.ga K ("Ratio" : Str)) (He.ma K (He.ga K ("Ratio" : Str)) "__init__") := He.mkr_ok (T.fact 24 rfl)
theorem Top.m_Ratio___eq__ (T : Top w K mg) : Meth K (He.ga K ("Ratio" : Str)) ("__eq__" : Str) (He.ma K (He.ga K ("Ratio" : Str)) ("__eq__" : Str)) := He.meth_ok (T.fact 25 rfl)
theorem Top.m_Ratio___add__ (T : Top w K mg) : Meth K (He.ga K ("Ratio" : Str)) ("__add__" : Str) (He.ma K (He.ga K ("Ratio" : Str)) ("__add__" : Str)) := He.meth_ok (T.fact 26 rfl)
theorem Top.m_Ratio___sub__ (T : Top w K mg) : Meth K (He.ga K ("Ratio" : Str)) ("__sub__" : Str) (He.ma K (He.ga K ("Ratio" : Str)) ("__sub__" : Str)) := He.meth_ok (T.fact 27 rfl)
theorem Top.m_Ratio___mul__ (T : Top w K mg) : Meth K (He.ga K ("Ratio" : Str)) ("__mul__" : Str) (He.ma K (He.ga K ("Ratio" : Str)) ("__mul__" : Str)) := He.meth_ok (T.fact 28 rfl)
theorem Top.m_Ratio___neg__ (T : Top w K mg) : Meth K (He.ga K ("Ratio" : Str)) ("__neg__" : Str) (He.ma K (He.ga K ("Ratio" : Str)) ("__neg__" : Str)) := He.meth_ok (T.fact 29 rfl)
theorem Top.exm_ByZero_ByZero (T : Top w K mg) : PySem.W.exmOne K (.ref (He.ga K ("ByZero" : Str))) (.ref (He.ga K ("ByZero" : Str))) = some true := He.exm_ok (T.fact 30 rfl)
theorem Top.x_imp_gcd (T : Top w K mg) : ex_imp_gcd K = true := T.ex 0 rfl
theorem Top.x_excC_LinkworkError (T : Top w K mg) : ex_excC_LinkworkError K = true := T.ex 1 rfl
theorem Top.x_excC_ByZero (T : Top w K mg) : ex_excC_ByZero K = true := T.ex 2 rfl
theorem Top.x_isi_Ratio (T : Top w K mg) : ex_isi_Ratio K = true := T.ex 3 rfl
theorem Top.x_first_Ratio (T : Top w K mg) : ex_first_Ratio K = true := T.ex 4 rfl
theorem Top.x_kit_ByZero_LinkworkError (T : Top w K mg) : ex_kit_ByZero_LinkworkError K = true := T.ex 5 rfl
theorem Top.x_kit_Ratio_Ratio (T : Top w K mg) : ex_kit_Ratio_Ratio K = true := T.ex 6 rfl
theorem Top.x_kit_t_list_t_list (T : Top w K mg) : ex_kit_t_list_t_list K = true := T.ex 7 rfl
theorem Top.x_kit_t_tuple_t_list (T : Top w K mg) : ex_kit_t_tuple_t_list K = true := T.ex 8 rfl
theorem Top.gcdM (T : Top w K mg) : mg ("gcd" : Str) = some (.builtin "math.gcd") := by have e := T.x_imp_gcd; obtain ⟨h, X, G, c⟩ := T; exact PySem.W.mg_of X G (He.eqO_ok e)
theorem Top.f_put_over (T : Top w K mg) : FunD K ("put_over" : Str) ("put_over" : Str) (defArgs s_put_over) (defBody s_put_over) (defScope s_put_over) (d_put_over.dvs K) (d_put_over.kws K) (He.ga K ("put_over" : Str)) (fdOf K d_put_over) := T.fun_ 0 rfl
theorem Top.b_put_over (T : Top w K mg) : Binds K (fdOf K d_put_over) ["outer", "inner"] [] := (show FunD K ("put_over" : Str) ("put_over" : Str) (defArgs s_put_over) (defBody s_put_over) (defScope s_put_over) [] (d_put_over.kws K) (He.ga K ("put_over" : Str)) (fdOf K d_put_over) from T.f_put_over).bindsN fun _ _ _ _ _ _ us hl => match us, hl with | [_, _], _ => rfl
theorem sc_put_over : FnScope ["outer", "inner", "trees", "lists", "name", "change", "found"] ["outer", "inner"] (defScope s_put_over) := ⟨rfl, rfl, rfl, by decide +kernel, rfl, by decide +kernel, by decide +kernel⟩
theorem Top.f_Ratio___init__ (T : Top w K mg) : FunD K ("__init__" : Str) ("Ratio.__init__" : Str) (defArgs s_Ratio___init__) (defBody s_Ratio___init__) (defScope s_Ratio___init__) (d_Ratio___init__.dvs K) (d_Ratio___init__.kws K) (He.ma K (He.ga K ("Ratio" : Str)) ("__init__" : Str)) (fdOf K d_Ratio___init__) := T.fun_ 1 rfl
theorem Top.b0_Ratio___init__ (T : Top w K mg) : ∃ ds, Vals ((d_Ratio___init__.dvs K).drop 0) ds ∧ Binds K (fdOf K d_Ratio___init__) ["self", "numerator", "denominator"] ds := T.f_Ratio___init__.binds1 2 0 (by intro z; cases z) rfl fun _ _ _ _ _ _ _ us its h1 h2 => match us, its, h1, h2 with | [_, _], [_], _, _ => ⟨_, rfl, rfl⟩
theorem Top.b1_Ratio___init__ (T : Top w K mg) : ∃ ds, Vals ((d_Ratio___init__.dvs K).drop 1) ds ∧ Binds K (fdOf K d_Ratio___init__) ["self", "numerator", "denominator"] ds := T.f_Ratio___init__.binds1 3 1 (by intro z; cases z) rfl fun _ _ _ _ _ _ _ us its h1 h2 => match us, its, h1, h2 with | [_, _, _], [_], _, _ => ⟨_, rfl, rfl⟩
theorem sc_Ratio___init__ : FnScope ["self", "numerator", "denominator", "divisor"] ["self", "numerator", "denominator"] (defScope s_Ratio___init__) := ⟨rfl, rfl, rfl, by decide +kernel, rfl, by decide +kernel, by decide +kernel⟩
theorem Top.f_Ratio___eq__ (T : Top w K mg) : FunD K ("__eq__" : Str) ("Ratio.__eq__" : Str) (defArgs s_Ratio___eq__) (defBody s_Ratio___eq__) (defScope s_Ratio___eq__) (d_Ratio___eq__.dvs K) (d_Ratio___eq__.kws K) (He.ma K (He.ga K ("Ratio" : Str)) ("__eq__" : Str)) (fdOf K d_Ratio___eq__) := T.fun_ 2 rfl
theorem Top.b_Ratio___eq__ (T : Top w K mg) : Binds K (fdOf K d_Ratio___eq__) ["self", "other"] [] := (show FunD K ("__eq__" : Str) ("Ratio.__eq__" : Str) (defArgs s_Ratio___eq__) (defBody s_Ratio___eq__) (defScope s_Ratio___eq__) [] (d_Ratio___eq__.kws K) (He.ma K (He.ga K ("Ratio" : Str)) ("__eq__" : Str)) (fdOf K d_Ratio___eq__) from T.f_Ratio___eq__).bindsN fun _ _ _ _ _ _ us hl => match us, hl with | [_, _], _ => rfl
theorem sc_Ratio___eq__ : FnScope ["self", "other"] ["self", "other"] (defScope s_Ratio___eq__) := ⟨rfl, rfl, rfl, by decide +kernel, rfl, by decide +kernel, by decide +kernel⟩
theorem Top.f_Ratio___add__ (T : Top w K mg) : FunD K ("__add__" : Str) ("Ratio.__add__" : Str) (defArgs s_Ratio___add__) (defBody s_Ratio___add__) (defScope s_Ratio___add__) (d_Ratio___add__.dvs K) (d_Ratio___add__.kws K) (He.ma K (He.ga K ("Ratio" : Str)) ("__add__" : Str)) (fdOf K d_Ratio___add__) := T.fun_ 3 rfl
theorem Top.b_Ratio___add__ (T : Top w K mg) : Binds K (fdOf K d_Ratio___add__) ["self", "other"] [] := (show FunD K ("__add__" : Str) ("Ratio.__add__" : Str) (defArgs s_Ratio___add__) (defBody s_Ratio___add__) (defScope s_Ratio___add__) [] (d_Ratio___add__.kws K) (He.ma K (He.ga K ("Ratio" : Str)) ("__add__" : Str)) (fdOf K d_Ratio___add__) from T.f_Ratio___add__).bindsN fun _ _ _ _ _ _ us hl => match us, hl with | [_, _], _ => rfl
theorem sc_Ratio___add__ : FnScope ["self", "other"] ["self", "other"] (defScope s_Ratio___add__) := ⟨rfl, rfl, rfl, by decide +kernel, rfl, by decide +kernel, by decide +kernel⟩
theorem Top.f_Ratio___sub__ (T : Top w K mg) : FunD K ("__sub__" : Str) ("Ratio.__sub__" : Str) (defArgs s_Ratio___sub__) (defBody s_Ratio___sub__) (defScope s_Ratio___sub__) (d_Ratio___sub__.dvs K) (d_Ratio___sub__.kws K) (He.ma K (He.ga K ("Ratio" : Str)) ("__sub__" : Str)) (fdOf K d_Ratio___sub__) := T.fun_ 4 rfl
theorem Top.b_Ratio___sub__ (T : Top w K mg) : Binds K (fdOf K d_Ratio___sub__) ["self", "other"] [] := (show FunD K ("__sub__" : Str) ("Ratio.__sub__" : Str) (defArgs s_Ratio___sub__) (defBody s_Ratio___sub__) (defScope s_Ratio___sub__) [] (d_Ratio___sub__.kws K) (He.ma K (He.ga K ("Ratio" : Str)) ("__sub__" : Str)) (fdOf K d_Ratio___sub__) from T.f_Ratio___sub__).bindsN fun _ _ _ _ _ _ us hl => match us, hl with | [_, _], _ => rfl
theorem sc_Ratio___sub__ : FnScope ["self", "other"] ["self", "other"] (defScope s_Ratio___sub__) := ⟨rfl, rfl, rfl, by decide +kernel, rfl, by decide +kernel, by decide +kernel⟩
theorem Top.f_Ratio___mul__ (T : Top w K mg) : FunD K ("__mul__" : Str) ("Ratio.__mul__" : Str) (defArgs s_Ratio___mul__) (defBody s_Ratio___mul__) (defScope s_Ratio___mul__) (d_Ratio___mul__.dvs K) (d_Ratio___mul__.kws K) (He.ma K (He.ga K ("Ratio" : Str)) ("__mul__" : Str)) (fdOf K d_Ratio___mul__) := T.fun_ 5 rfl
theorem Top.b_Ratio___mul__ (T : Top w K mg) : Binds K (fdOf K d_Ratio___mul__) ["self", "other"] [] := (show FunD K ("__mul__" : Str) ("Ratio.__mul__" : Str) (defArgs s_Ratio___mul__) (defBody s_Ratio___mul__) (defScope s_Ratio___mul__) [] (d_Ratio___mul__.kws K) (He.ma K (He.ga K ("Ratio" : Str)) ("__mul__" : Str)) (fdOf K d_Ratio___mul__) from T.f_Ratio___mul__).bindsN fun _ _ _ _ _ _ us hl => match us, hl with | [_, _], _ => rfl
theorem sc_Ratio___mul__ : FnScope ["self", "other"] ["self", "other"] (defScope s_Ratio___mul__) := ⟨rfl, rfl, rfl, by decide +kernel, rfl, by decide +kernel, by decide +kernel⟩
theorem Top.f_Ratio___neg__ (T : Top w K mg) : FunD K ("__neg__" : Str) ("Ratio.__neg__" : Str) (defArgs s_Ratio___neg__) (defBody s_Ratio___neg__) (defScope s_Ratio___neg__) (d_Ratio___neg__.dvs K) (d_Ratio___neg__.kws K) (He.ma K (He.ga K ("Ratio" : Str)) ("__neg__" : Str)) (fdOf K d_Ratio___neg__) := T.fun_ 6 rfl
theorem Top.b_Ratio___neg__ (T : Top w K mg) : Binds K (fdOf K d_Ratio___neg__) ["self"] [] := (show FunD K ("__neg__" : Str) ("Ratio.__neg__" : Str) (defArgs s_Ratio___neg__) (defBody s_Ratio___neg__) (defScope s_Ratio___neg__) [] (d_Ratio___neg__.kws K) (He.ma K (He.ga K ("Ratio" : Str)) ("__neg__" : Str)) (fdOf K d_Ratio___neg__) from T.f_Ratio___neg__).bindsN fun _ _ _ _ _ _ us hl => match us, hl with | [_], _ => rfl
theorem sc_Ratio___neg__ : FnScope ["self"] ["self"] (defScope s_Ratio___neg__) := ⟨rfl, rfl, rfl, by decide +kernel, rfl, by decide +kernel, by decide +kernel⟩
theorem Top.f__law_stream (T : Top w K mg) : FunD K ("_law_stream" : Str) ("_law_stream" : Str) (defArgs s__law_stream) (defBody s__law_stream) (defScope s__law_stream) (d__law_stream.dvs K) (d__law_stream.kws K) (He.ga K ("_law_stream" : Str)) (fdOf K d__law_stream) := T.fun_ 7 rfl
theorem Top.b__law_stream (T : Top w K mg) : Binds K (fdOf K d__law_stream) ["script"] [] := (show FunD K ("_law_stream" : Str) ("_law_stream" : Str) (defArgs s__law_stream) (defBody s__law_stream) (defScope s__law_stream) [] (d__law_stream.kws K) (He.ga K ("_law_stream" : Str)) (fdOf K d__law_stream) from T.f__law_stream).bindsN fun _ _ _ _ _ _ us hl => match us, hl with | [_], _ => rfl
theorem sc__law_stream : FnScope ["script", "mixed", "cell"] ["script"] (defScope s__law_stream) := ⟨rfl, rfl, rfl, by decide +kernel, rfl, by decide +kernel, by decide +kernel⟩
theorem Top.f__law_draw (T : Top w K mg) : FunD K ("_law_draw" : Str) ("_law_draw" : Str) (defArgs s__law_draw) (defBody s__law_draw) (defScope s__law_draw) (d__law_draw.dvs K) (d__law_draw.kws K) (He.ga K ("_law_draw" : Str)) (fdOf K d__law_draw) := T.fun_ 8 rfl
theorem Top.b__law_draw (T : Top w K mg) : Binds K (fdOf K d__law_draw) ["stream", "many"] [] := (show FunD K ("_law_draw" : Str) ("_law_draw" : Str) (defArgs s__law_draw) (defBody s__law_draw) (defScope s__law_draw) [] (d__law_draw.kws K) (He.ga K ("_law_draw" : Str)) (fdOf K d__law_draw) from T.f__law_draw).bindsN fun _ _ _ _ _ _ us hl => match us, hl with | [_, _], _ => rfl
theorem sc__law_draw : FnScope ["stream", "many", "value"] ["stream", "many"] (defScope s__law_draw) := ⟨rfl, rfl, rfl, by decide +kernel, rfl, by decide +kernel, by decide +kernel⟩
theorem Top.f__law_put (T : Top w K mg) : FunD K ("_law_put" : Str) ("_law_put" : Str) (defArgs s__law_put) (defBody s__law_put) (defScope s__law_put) (d__law_put.dvs K) (d__law_put.kws K) (He.ga K ("_law_put" : Str)) (fdOf K d__law_put) := T.fun_ 9 rfl
theorem Top.b__law_put (T : Top w K mg) : Binds K (fdOf K d__law_put) ["outer", "inner"] [] := (show FunD K ("_law_put" : Str) ("_law_put" : Str) (defArgs s__law_put) (defBody s__law_put) (defScope s__law_put) [] (d__law_put.kws K) (He.ga K ("_law_put" : Str)) (fdOf K d__law_put) from T.f__law_put).bindsN fun _ _ _ _ _ _ us hl => match us, hl with | [_, _], _ => rfl
theorem sc__law_put : FnScope ["outer", "inner", "found", "rows", "name", "change", "key"] ["outer", "inner"] (defScope s__law_put) := ⟨rfl, rfl, rfl, by decide +kernel, rfl, by decide +kernel, by decide +kernel⟩
theorem Top.f__law_num (T : Top w K mg) : FunD K ("_law_num" : Str) ("_law_num" : Str) (defArgs s__law_num) (defBody s__law_num) (defScope s__law_num) (d__law_num.dvs K) (d__law_num.kws K) (He.ga K ("_law_num" : Str)) (fdOf K d__law_num) := T.fun_ 10 rfl
theorem Top.b__law_num (T : Top w K mg) : Binds K (fdOf K d__law_num) ["stream"] [] := (show FunD K ("_law_num" : Str) ("_law_num" : Str) (defArgs s__law_num) (defBody s__law_num) (defScope s__law_num) [] (d__law_num.kws K) (He.ga K ("_law_num" : Str)) (fdOf K d__law_num) from T.f__law_num).bindsN fun _ _ _ _ _ _ us hl => match us, hl with | [_], _ => rfl
theorem sc__law_num : FnScope ["stream"] ["stream"] (defScope s__law_num) := ⟨rfl, rfl, rfl, by decide +kernel, rfl, by decide +kernel, by decide +kernel⟩
theorem Top.f__law_modifications (T : Top w K mg) : FunD K ("_law_modifications" : Str) ("_law_modifications" : Str) (defArgs s__law_modifications) (defBody s__law_modifications) (defScope s__law_modifications) (d__law_modifications.dvs K) (d__law_modifications.kws K) (He.ga K ("_law_modifications" : Str)) (fdOf K d__law_modifications) := T.fun_ 11 rfl
theorem Top.b__law_modifications (T : Top w K mg) : Binds K (fdOf K d__law_modifications) ["stream", "names", "deep"] [] := (show FunD K ("_law_modifications" : Str) ("_law_modifications" : Str) (defArgs s__law_modifications) (defBody s__law_modifications) (defScope s__law_modifications) [] (d__law_modifications.kws K) (He.ga K ("_law_modifications" : Str)) (fdOf K d__law_modifications) from T.f__law_modifications).bindsN fun _ _ _ _ _ _ us hl => match us, hl with | [_, _, _], _ => rfl
theorem sc__law_modifications : FnScope ["stream", "names", "deep", "rows", "keys", "k", "name", "change", "key"] ["stream", "names", "deep"] (defScope s__law_modifications) := ⟨rfl, rfl, rfl, by decide +kernel, rfl, by decide +kernel, by decide +kernel⟩
theorem Top.f__law_copy (T : Top w K mg) : FunD K ("_law_copy" : Str) ("_law_copy" : Str) (defArgs s__law_copy) (defBody s__law_copy) (defScope s__law_copy) (d__law_copy.dvs K) (d__law_copy.kws K) (He.ga K ("_law_copy" : Str)) (fdOf K d__law_copy) := T.fun_ 12 rfl
theorem Top.b__law_copy (T : Top w K mg) : Binds K (fdOf K d__law_copy) ["rows"] [] := (show FunD K ("_law_copy" : Str) ("_law_copy" : Str) (defArgs s__law_copy) (defBody s__law_copy) (defScope s__law_copy) [] (d__law_copy.kws K) (He.ga K ("_law_copy" : Str)) (fdOf K d__law_copy) from T.f__law_copy).bindsN fun _ _ _ _ _ _ us hl => match us, hl with | [_], _ => rfl
theorem sc__law_copy : FnScope ["rows", "found", "name", "change"] ["rows"] (defScope s__law_copy) := ⟨rfl, rfl, rfl, by decide +kernel, rfl, by decide +kernel, by decide +kernel⟩
theorem Top.f_law (T : Top w K mg) : FunD K ("law" : Str) ("law" : Str) (defArgs s_law) (defBody s_law) (defScope s_law) (d_law.dvs K) (d_law.kws K) (He.ga K ("law" : Str)) (fdOf K d_law) := T.fun_ 13 rfl
theorem Top.b_law (T : Top w K mg) : Binds K (fdOf K d_law) ["script"] [] := (show FunD K ("law" : Str) ("law" : Str) (defArgs s_law) (defBody s_law) (defScope s_law) [] (d_law.kws K) (He.ga K ("law" : Str)) (fdOf K d_law) from T.f_law).bindsN fun _ _ _ _ _ _ us hl => match us, hl with | [_], _ => rfl
theorem sc_law : FnScope ["script", "stream", "names", "rows", "k", "given", "row", "due", "actual", "one", "two", "pair"] ["script"] (defScope s_law) := ⟨rfl, rfl, rfl, by decide +kernel, rfl, by decide +kernel, by decide +kernel⟩
end
/-! ### heap-free readings: data, how values read as data in a frozen part of the heap -/
inductive Dt where
  | non | bl (b : Bool) | int (i : Int) | str (x : Str) | ty (n : String) | adr (a : Addr) | strm
  | rat (n d : Int)
  | tup (ds : List Dt) | lst (t : Bool) (ds : List Dt)
  | dic (t : Bool) (ks : List Key) (ds : List Dt) | dit (t : Bool) (ks : List (List Key)) (ds : List Dt)
  | ins (C : Addr) (fs : List Str) (ds : List Dt)
deriving Inhabited
def ratF (n d : Int) : List (Str × V) := [("top", .int n), ("bottom", .int d)]
mutual
def Rz (K : PySem.W.Frag) (B F : Hp) : Dt → V → Prop
  | .non, v => v = .non
  | .bl b, v => v = .bl b
  | .int i, v => v = .int i
  | .str x, v => v = .str x
  | .ty n, v => v = .ty n
  | .adr a, v => v = .ref a
  | .strm, v => ∃ a, v = .ref a ∧ Strm F a
  | .rat n d, v => ∃ a dx, v = .ref a ∧ F a = some (.ins (He.ga K "Ratio") dx (ratF n d))
  | .tup ds, v => ∃ a xs, v = .ref a ∧ F a = some (.tup xs) ∧ Rzl K B F ds xs
  | .lst t ds, v => ∃ a xs, v = .ref a ∧ F a = some (.lst xs) ∧ (t = true → B a = none) ∧ Rzl K B F ds xs
  | .dic t ks ds, v => ∃ a kvs, v = .ref a ∧ F a = some (.dK kvs) ∧ (t = true → B a = none) ∧ kvs.map Prod.fst = ks ∧ Rzl K B F ds (kvs.map Prod.snd)
  | .dit t ks ds, v => ∃ a kvs, v = .ref a ∧ F a = some (.dT kvs) ∧ (t = true → B a = none) ∧ kvs.map Prod.fst = ks ∧ Rzl K B F ds (kvs.map Prod.snd)
  | .ins C fs ds, v => ∃ a dx kvs, v = .ref a ∧ F a = some (.ins C dx kvs) ∧ kvs.map Prod.fst = fs ∧ Rzl K B F ds (kvs.map Prod.snd)
def Rzl (K : PySem.W.Frag) (B F : Hp) : List Dt → List V → Prop
  | [], xs => xs = []
  | d :: ds, xs => ∃ x r, xs = x :: r ∧ Rz K B F d x ∧ Rzl K B F ds r
end
mutual
/-- seen by a callee: nothing is new -/
def Dt.old : Dt → Dt
  | .tup ds => .tup (Dt.olds ds)
  | .lst _ ds => .lst false (Dt.olds ds)
  | .dic _ ks ds => .dic false ks (Dt.olds ds)
  | .dit _ ks ds => .dit false ks (Dt.olds ds)
  | .ins C fs ds => .ins C fs (Dt.olds ds)
  | .non => .non | .bl b => .bl b | .int i => .int i | .str x => .str x | .ty n => .ty n | .adr a => .adr a | .strm => .strm | .rat n d => .rat n d
def Dt.olds : List Dt → List Dt
  | [] => []
  | d :: ds => d.old :: Dt.olds ds
end
theorem olds_map : ∀ ds : List Dt, Dt.olds ds = ds.map Dt.old
  | [] => rfl
  | d :: ds => by rw [Dt.olds, olds_map ds]; rfl
theorem rz_str {F F' : Hp} {a : Addr} (e : Same F F') (h : Strm F a) : Strm F' a := h.mono e
mutual
theorem rz_mono {K : PySem.W.Frag} {B F F' : Hp} (e : Same F F') : ∀ (d : Dt) (v : V), Rz K B F d v → Rz K B F' d v
  | .non, _, h | .bl _, _, h | .int _, _, h | .str _, _, h | .ty _, _, h | .adr _, _, h => by simpa only [Rz] using h
  | .strm, _, h => by
    simp only [Rz] at h ⊢
    obtain ⟨a, r, h⟩ := h
    exact ⟨a, r, h.mono e⟩
  | .rat _ _, _, h => by
    simp only [Rz] at h ⊢
    obtain ⟨a, dx, r, h⟩ := h
    exact ⟨a, dx, r, e _ _ h⟩
  | .tup ds, _, h => by
    simp only [Rz] at h ⊢
    obtain ⟨a, xs, r, h1, h2⟩ := h
    exact ⟨a, xs, r, e _ _ h1, rzl_mono e ds xs h2⟩
  | .lst _ ds, _, h => by
    simp only [Rz] at h ⊢
    obtain ⟨a, xs, r, h1, h3, h2⟩ := h
    exact ⟨a, xs, r, e _ _ h1, h3, rzl_mono e ds xs h2⟩
  | .dic _ _ ds, _, h => by
    simp only [Rz] at h ⊢
    obtain ⟨a, xs, r, h1, h3, h4, h2⟩ := h
    exact ⟨a, xs, r, e _ _ h1, h3, h4, rzl_mono e ds _ h2⟩
  | .dit _ _ ds, _, h => by
    simp only [Rz] at h ⊢
    obtain ⟨a, xs, r, h1, h3, h4, h2⟩ := h
    exact ⟨a, xs, r, e _ _ h1, h3, h4, rzl_mono e ds _ h2⟩
  | .ins _ _ ds, _, h => by
    simp only [Rz] at h ⊢
    obtain ⟨a, dx, xs, r, h1, h4, h2⟩ := h
    exact ⟨a, dx, xs, r, e _ _ h1, h4, rzl_mono e ds _ h2⟩
theorem rzl_mono {K : PySem.W.Frag} {B F F' : Hp} (e : Same F F') : ∀ (ds : List Dt) (vs : List V), Rzl K B F ds vs → Rzl K B F' ds vs
  | [], _, h => by simpa only [Rzl] using h
  | d :: ds, _, h => by
    simp only [Rzl] at h ⊢
    obtain ⟨x, r, e0, h1, h2⟩ := h
    exact ⟨x, r, e0, rz_mono e d x h1, rzl_mono e ds r h2⟩
end
mutual
theorem rz_old {K : PySem.W.Frag} {B B' F : Hp} : ∀ (d : Dt) (v : V), Rz K B F d v → Rz K B' F d.old v
  | .non, _, h | .bl _, _, h | .int _, _, h | .str _, _, h | .ty _, _, h | .adr _, _, h | .strm, _, h | .rat _ _, _, h => by simpa only [Rz, Dt.old] using h
  | .tup ds, _, h => by
    simp only [Rz, Dt.old] at h ⊢
    obtain ⟨a, xs, r, h1, h2⟩ := h
    exact ⟨a, xs, r, h1, rzl_old ds xs h2⟩
  | .lst _ ds, _, h => by
    simp only [Rz, Dt.old] at h ⊢
    obtain ⟨a, xs, r, h1, _, h2⟩ := h
    exact ⟨a, xs, r, h1, (fun z => nomatch z), rzl_old ds xs h2⟩
  | .dic _ _ ds, _, h => by
    simp only [Rz, Dt.old] at h ⊢
    obtain ⟨a, xs, r, h1, _, h4, h2⟩ := h
    exact ⟨a, xs, r, h1, (fun z => nomatch z), h4, rzl_old ds _ h2⟩
  | .dit _ _ ds, _, h => by
    simp only [Rz, Dt.old] at h ⊢
    obtain ⟨a, xs, r, h1, _, h4, h2⟩ := h
    exact ⟨a, xs, r, h1, (fun z => nomatch z), h4, rzl_old ds _ h2⟩
  | .ins _ _ ds, _, h => by
    simp only [Rz, Dt.old] at h ⊢
    obtain ⟨a, dx, xs, r, h1, h4, h2⟩ := h
    exact ⟨a, dx, xs, r, h1, h4, rzl_old ds _ h2⟩
theorem rzl_old {K : PySem.W.Frag} {B B' F : Hp} : ∀ (ds : List Dt) (vs : List V), Rzl K B F ds vs → Rzl K B' F (Dt.olds ds) vs
  | [], _, h => by simpa only [Rzl, Dt.olds] using h
  | d :: ds, _, h => by
    simp only [Rzl, Dt.olds] at h ⊢
    obtain ⟨x, r, e0, h1, h2⟩ := h
    exact ⟨x, r, e0, rz_old d x h1, rzl_old ds r h2⟩
end
mutual
theorem rz_base {K : PySem.W.Frag} {B B' F : Hp} (hb : ∀ a, B' a = none → B a = none) : ∀ (d : Dt) (v : V), Rz K B' F d v → Rz K B F d v
  | .non, _, h | .bl _, _, h | .int _, _, h | .str _, _, h | .ty _, _, h | .adr _, _, h | .strm, _, h | .rat _ _, _, h => by simpa only [Rz] using h
  | .tup ds, _, h => by
    simp only [Rz] at h ⊢
    obtain ⟨a, xs, r, h1, h2⟩ := h
    exact ⟨a, xs, r, h1, rzl_base hb ds xs h2⟩
  | .lst _ ds, _, h => by
    simp only [Rz] at h ⊢
    obtain ⟨a, xs, r, h1, t, h2⟩ := h
    exact ⟨a, xs, r, h1, fun z => hb _ (t z), rzl_base hb ds xs h2⟩
  | .dic _ _ ds, _, h => by
    simp only [Rz] at h ⊢
    obtain ⟨a, xs, r, h1, t, h4, h2⟩ := h
    exact ⟨a, xs, r, h1, fun z => hb _ (t z), h4, rzl_base hb ds _ h2⟩
  | .dit _ _ ds, _, h => by
    simp only [Rz] at h ⊢
    obtain ⟨a, xs, r, h1, t, h4, h2⟩ := h
    exact ⟨a, xs, r, h1, fun z => hb _ (t z), h4, rzl_base hb ds _ h2⟩
  | .ins _ _ ds, _, h => by
    simp only [Rz] at h ⊢
    obtain ⟨a, dx, xs, r, h1, h4, h2⟩ := h
    exact ⟨a, dx, xs, r, h1, h4, rzl_base hb ds _ h2⟩
theorem rzl_base {K : PySem.W.Frag} {B B' F : Hp} (hb : ∀ a, B' a = none → B a = none) : ∀ (ds : List Dt) (vs : List V), Rzl K B' F ds vs → Rzl K B F ds vs
  | [], _, h => by simpa only [Rzl] using h
  | d :: ds, _, h => by
    simp only [Rzl] at h ⊢
    obtain ⟨x, r, e0, h1, h2⟩ := h
    exact ⟨x, r, e0, rz_base hb d x h1, rzl_base hb ds r h2⟩
end
/-! ### lists of readings -/
section
variable {K : PySem.W.Frag} {B F : Hp}
theorem Rzl.nil : Rzl K B F [] [] := by simp only [Rzl]
theorem Rzl.cons {d : Dt} {ds : List Dt} {v : V} {vs : List V} (h : Rz K B F d v) (t : Rzl K B F ds vs) : Rzl K B F (d :: ds) (v :: vs) := by
  simp only [Rzl]
  exact ⟨v, vs, rfl, h, t⟩
theorem Rzl.inv {d : Dt} {ds : List Dt} {vs : List V} (h : Rzl K B F (d :: ds) vs) : ∃ v r, vs = v :: r ∧ Rz K B F d v ∧ Rzl K B F ds r := by
  simpa only [Rzl] using h
theorem Rzl.inv0 {vs : List V} (h : Rzl K B F [] vs) : vs = [] := by simpa only [Rzl] using h
theorem Rzl.len : ∀ {ds : List Dt} {vs : List V}, Rzl K B F ds vs → vs.length = ds.length
  | [], _, h => by rw [h.inv0]; rfl
  | d :: ds, _, h => by
    obtain ⟨v, r, rfl, _, t⟩ := h.inv
    rw [List.length_cons, List.length_cons, Rzl.len t]
theorem Rzl.app : ∀ {ds es : List Dt} {vs us : List V}, Rzl K B F ds vs → Rzl K B F es us → Rzl K B F (ds ++ es) (vs ++ us)
  | [], _, _, _, h, g => by rw [h.inv0]; exact g
  | d :: ds, _, _, _, h, g => by
    obtain ⟨v, r, rfl, h1, t⟩ := h.inv
    exact .cons h1 (Rzl.app t g)
theorem Rzl.at_ : ∀ {ds : List Dt} {vs : List V} {i : Nat} {d : Dt}, Rzl K B F ds vs → ds[i]? = some d → ∃ v, vs[i]? = some v ∧ Rz K B F d v
  | [], _, _, _, _, e => by simp at e
  | d :: ds, _, 0, _, h, e => by
    obtain ⟨v, r, rfl, h1, t⟩ := h.inv
    simp at e
    exact ⟨v, rfl, e ▸ h1⟩
  | d :: ds, _, i + 1, _, h, e => by
    obtain ⟨v, r, rfl, h1, t⟩ := h.inv
    obtain ⟨u, h2, h3⟩ := Rzl.at_ (i := i) t (by simpa using e)
    exact ⟨u, by simpa using h2, h3⟩
theorem Rzl.back : ∀ {ds : List Dt} {vs : List V} {i : Nat} {v : V}, Rzl K B F ds vs → vs[i]? = some v → ∃ d, ds[i]? = some d ∧ Rz K B F d v := fun {ds vs i v} h e => by
  have l := h.len
  have hi : i < vs.length := (List.getElem?_eq_some_iff.mp e).1
  obtain ⟨u, h1, h2⟩ := h.at_ (i := i) (d := ds[i]'(by omega)) (List.getElem?_eq_getElem (by omega))
  rw [e] at h1
  cases h1
  exact ⟨_, List.getElem?_eq_getElem (by omega), h2⟩
theorem Rzl.take : ∀ {ds : List Dt} {vs : List V} (n : Nat), Rzl K B F ds vs → Rzl K B F (ds.take n) (vs.take n)
  | _, _, 0, _ => by simp only [List.take_zero]; exact .nil
  | [], _, n + 1, h => by rw [h.inv0]; simp only [List.take_nil]; exact .nil
  | d :: ds, _, n + 1, h => by
    obtain ⟨v, r, rfl, h1, t⟩ := h.inv
    exact .cons h1 (Rzl.take n t)
theorem Rzl.drop : ∀ {ds : List Dt} {vs : List V} (n : Nat), Rzl K B F ds vs → Rzl K B F (ds.drop n) (vs.drop n)
  | _, _, 0, h => h
  | [], _, n + 1, h => by rw [h.inv0]; simp only [List.drop_nil]; exact .nil
  | d :: ds, _, n + 1, h => by
    obtain ⟨v, r, rfl, h1, t⟩ := h.inv
    exact Rzl.drop n t
theorem Rzl.set {e : Dt} {u : V} (he : Rz K B F e u) : ∀ {ds : List Dt} {vs : List V} (n : Nat), Rzl K B F ds vs → Rzl K B F (ds.set n e) (vs.set n u)
  | [], _, n, h => by rw [h.inv0]; exact .nil
  | d :: ds, _, 0, h => by
    obtain ⟨v, r, rfl, h1, t⟩ := h.inv
    exact .cons he t
  | d :: ds, _, n + 1, h => by
    obtain ⟨v, r, rfl, h1, t⟩ := h.inv
    exact .cons h1 (Rzl.set he n t)
theorem Rzl.rev : ∀ {ds : List Dt} {vs : List V}, Rzl K B F ds vs → Rzl K B F ds.reverse vs.reverse
  | [], _, h => by rw [h.inv0]; exact .nil
  | d :: ds, _, h => by
    obtain ⟨v, r, rfl, h1, t⟩ := h.inv
    rw [List.reverse_cons, List.reverse_cons]
    exact (Rzl.rev t).app (.cons h1 .nil)
end
/-! ### tables -/
section
variable {κ : Type} [DecidableEq κ] {α : Type}
def look : List κ → List α → κ → Option α
  | k :: ks, d :: ds, x => if k = x then some d else look ks ds x
  | _, _, _ => none
def putDs (ks : List κ) (ds : List α) (k : κ) (d : α) : List α := if k ∈ ks then List.zipWith (fun k' d' => if k' = k then d else d') ks ds else ds ++ [d]
def putKs (ks : List κ) (k : κ) : List κ := if k ∈ ks then ks else ks ++ [k]
theorem look_none {ks : List κ} {ds : List α} {k : κ} (hl : ds.length = ks.length) : look ks ds k = none ↔ k ∉ ks := by
  induction ks generalizing ds with
  | nil => simp [look]
  | cons a ks ih =>
    cases ds with
    | nil => cases hl
    | cons d ds =>
      by_cases e : a = k
      · simp [look, e]
      · simp only [look, if_neg e, List.mem_cons, not_or, ih (by simpa using hl)]
        exact ⟨fun h => ⟨fun z => e z.symm, h⟩, fun h => h.2⟩
end
section
variable {κ : Type} [DecidableEq κ] {K : PySem.W.Frag} {B F : Hp}
theorem tab_look {k : κ} : ∀ {kvs : List (κ × V)} {ds : List Dt}, Rzl K B F ds (kvs.map Prod.snd) → match look (kvs.map Prod.fst) ds k with | some d => ∃ v, valV kvs k = some v ∧ Rz K B F d v | none => valV kvs k = none
  | [], ds, h => by
    cases ds with
    | nil => rfl
    | cons d ds => obtain ⟨_, _, e, _⟩ := h.inv; cases e
  | p :: r, ds, h => by
    cases ds with
    | nil => cases h.inv0
    | cons d ds =>
      obtain ⟨v, r', e, h1, t⟩ := h.inv
      rw [List.map_cons] at e
      obtain ⟨rfl, rfl⟩ := List.cons.inj e
      rw [List.map_cons, look]
      by_cases c : p.1 = k
      · rw [if_pos c]
        exact ⟨_, valV_pos c, h1⟩
      · rw [if_neg c, valV_neg c]
        exact tab_look t
theorem any_mem (kvs : List (κ × V)) (k : κ) : ((kvs.any fun kv => decide (kv.1 = k)) = true) ↔ k ∈ kvs.map Prod.fst := by
  simp only [List.any_eq_true, decide_eq_true_eq, List.mem_map]
theorem tab_putK {kvs : List (κ × V)} {k : κ} {v : V} : (putK kvs k v).map Prod.fst = putKs (kvs.map Prod.fst) k := by
  unfold putK putKs
  by_cases c : k ∈ kvs.map Prod.fst
  · rw [if_pos ((any_mem _ _).mpr c), if_pos c, List.map_map]
    refine List.map_congr_left fun p _ => ?_
    show (if p.1 = k then (p.1, v) else p).1 = p.1
    split <;> rfl
  · rw [if_neg (fun z => c ((any_mem _ _).mp z)), if_neg c, List.map_append]
    rfl
theorem tab_repl {k : κ} {v : V} {d : Dt} (hv : Rz K B F d v) : ∀ {kvs : List (κ × V)} {ds : List Dt}, Rzl K B F ds (kvs.map Prod.snd) →
    Rzl K B F (List.zipWith (fun k' d' => if k' = k then d else d') (kvs.map Prod.fst) ds) ((kvs.map (fun kv => if kv.1 = k then (kv.1, v) else kv)).map Prod.snd)
  | [], ds, h => by
    cases ds with
    | nil => exact .nil
    | cons d ds => obtain ⟨_, _, e, _⟩ := h.inv; cases e
  | p :: r, ds, h => by
    cases ds with
    | nil => cases h.inv0
    | cons d' ds =>
      obtain ⟨u, r', e, h1, t⟩ := h.inv
      rw [List.map_cons] at e
      obtain ⟨rfl, rfl⟩ := List.cons.inj e
      rw [List.map_cons, List.map_cons, List.map_cons, List.zipWith_cons_cons]
      refine .cons ?_ (tab_repl hv t)
      by_cases c : p.1 = k
      · rw [if_pos c, if_pos c]; exact hv
      · rw [if_neg c, if_neg c]; exact h1
theorem tab_putD {kvs : List (κ × V)} {ds : List Dt} {k : κ} {v : V} {d : Dt} (h : Rzl K B F ds (kvs.map Prod.snd)) (hv : Rz K B F d v) : Rzl K B F (putDs (kvs.map Prod.fst) ds k d) ((putK kvs k v).map Prod.snd) := by
  unfold putK putDs
  by_cases c : k ∈ kvs.map Prod.fst
  · rw [if_pos ((any_mem _ _).mpr c), if_pos c]
    exact tab_repl hv h
  · rw [if_neg (fun z => c ((any_mem _ _).mp z)), if_neg c, List.map_append]
    exact h.app (.cons hv .nil)
end
/-! ### the frozen part, locks aside -/
def isDk : HO → Bool
  | .dK _ => true
  | .dT _ => true
  | _ => false
def Le (F H : Hp) : Prop := ∀ a o, F a = some o → H a = some o ∨ (isDk o = true ∧ ∃ ob, H a = some (.frz ob o))
theorem Le.refl (H : Hp) : Le H H := fun _ _ h => .inl h
theorem Le.same {F H H' : Hp} (l : Le F H) (s : Same H H') : Le F H' := fun a o e => (l a o e).elim (fun h => .inl (s _ _ h)) fun ⟨d, ob, h⟩ => .inr ⟨d, ob, s _ _ h⟩
theorem Le.of {F F' H : Hp} (s : Same F F') (l : Le F' H) : Le F H := fun a o e => l a o (s _ _ e)
theorem Le.exact {F H : Hp} (l : Le F H) {a : Addr} {o : HO} (e : F a = some o) (h : isDk o = false) : H a = some o := (l a o e).elim id fun ⟨d, _⟩ => by rw [h] at d; cases d
theorem Le.rd {F H : Hp} (l : Le F H) {a : Addr} {o : HO} (e : F a = some o) : L2.Rd H a o := (l a o e).elim .inl fun ⟨_, ob, h⟩ => .inr ⟨ob, h⟩
theorem Le.free {F H : Hp} (l : Le F H) {a : Addr} (e : H a = none) : F a = none := by
  cases z : F a with
  | none => rfl
  | some o => rcases l a o z with h | ⟨_, _, h⟩ <;> (rw [e] at h; cases h)
theorem Le.new {F H : Hp} (l : Le F H) {p : Addr} {o : HO} (e : H p = none) : Le (upd F p o) (upd H p o) := fun a u q => by
  by_cases c : a = p
  · rw [c, upd_same] at q
    rw [c, upd_same]
    exact .inl q
  · rw [upd_ne c] at q ⊢
    exact l a u q
/-- frozen: what is owned already stands in the heap -/
theorem Le.frz {F H : Hp} (l : Le F H) {p : Addr} {o : HO} (e : H p = some o) : Le (upd F p o) H := fun a u q => by
  by_cases c : a = p
  · rw [c, upd_same] at q
    rw [c, ← q]
    exact .inl e
  · rw [upd_ne c] at q
    exact l a u q
/-- written: an address outside of the frozen part -/
theorem Le.put {F H : Hp} (l : Le F H) {p : Addr} {o : HO} (e : F p = none) : Le F (upd H p o) := fun a u q => by
  rw [upd_ne (fun c => by rw [c, e] at q; cases q)]
  exact l a u q
/-- .. where each lock is one that is known -/
def Lk (J F H : Hp) : Prop := ∀ a o, F a = some o → H a = some o ∨ (isDk o = true ∧ ∃ ob, H a = some (.frz ob o) ∧ J a = some (.frz ob o))
theorem Lk.le {J F H : Hp} (l : Lk J F H) : Le F H := fun a o e => (l a o e).elim .inl fun ⟨d, ob, h, _⟩ => .inr ⟨d, ob, h⟩
theorem Le.lk {F H : Hp} (l : Le F H) : Lk H F H := fun a o e => (l a o e).elim .inl fun ⟨d, ob, h⟩ => .inr ⟨d, ob, h, h⟩
theorem Lk.same {J F H H' : Hp} (l : Lk J F H) (s : Same H H') : Lk J F H' := fun a o e => (l a o e).elim (fun h => .inl (s _ _ h)) fun ⟨d, ob, h, j⟩ => .inr ⟨d, ob, s _ _ h, j⟩
theorem Lk.new {J F H : Hp} (l : Lk J F H) {p : Addr} {o : HO} (e : H p = none) : Lk J (upd F p o) (upd H p o) := fun a u q => by
  by_cases c : a = p
  · rw [c, upd_same] at q
    rw [c, upd_same]
    exact .inl q
  · rw [upd_ne c] at q ⊢
    exact l a u q
theorem Lk.frz {J F H : Hp} (l : Lk J F H) {p : Addr} {o : HO} (e : H p = some o) : Lk J (upd F p o) H := fun a u q => by
  by_cases c : a = p
  · rw [c, upd_same] at q
    rw [c, ← q]
    exact .inl e
  · rw [upd_ne c] at q
    exact l a u q
theorem Lk.put {J F H : Hp} (l : Lk J F H) {p : Addr} {o : HO} (e : F p = none) : Lk J F (upd H p o) := fun a u q => by
  rw [upd_ne (fun c => by rw [c, e] at q; cases q)]
  exact l a u q
theorem same_new' {F : Hp} {p : Addr} {o : HO} (e : F p = none) : Same F (upd F p o) := same_new e
def isFz : HO → Bool
  | .frz _ _ => true
  | _ => false
def isTp : HO → Bool
  | .tup _ => true
  | _ => false
/-- what F' has more than F is new over H, or a tuple -/
def Nw (F H F' : Hp) : Prop := ∀ a o, F' a = some o → F a ≠ none ∨ H a = none ∨ isTp o = true
theorem Nw.refl (F H : Hp) : Nw F H F := fun _ _ e => .inl (by rw [e]; exact fun z => nomatch z)
theorem Nw.trans {F F' F'' H H' : Hp} (a : Nw F H F') (b : Nw F' H' F'') (s : ∀ a, H' a = none → H a = none) (m : Same F' F'') : Nw F H F'' := fun x o e => by
  rcases b x o e with h | h | h
  · cases z : F' x with
    | none => exact absurd z h
    | some u =>
      have := m _ _ z
      rw [e] at this
      cases this
      exact a x o z
  · exact .inr (.inl (s _ h))
  · exact .inr (.inr h)
structure Cz where
  K : PySem.W.Frag
  Er : XK
  Eh : Addr → List (Str × V) → Prop
/-- an error's object behind a call -/
def ErrR (B : Hp) (fs : List (Str × V)) (dd : Option Addr) (H : Hp) : Prop := Le B H ∧ match fs with
  | [] => dd = none
  | _ => ∃ x, dd = some x ∧ B x = none ∧ H x = some (.xd fs)
/-- what stays through a body: the heap at its entry, the frozen part there, what is held, what is hidden -/
structure Fm where
  B : Hp
  F0 : Hp
  J : Hp
  hd : Addr → Prop
structure Sc (z : Cz) (m : Fm) (F H : Hp) : Prop where
  lk : Lk m.J F H
  base : Same m.J H
  fr : Nw m.F0 m.B F
  dom : ∀ a, H a = none → m.B a = none
  bj : Le m.B m.J
  er : ∀ C fs dd H', z.Eh C fs → ErrR m.B fs dd H' → z.Er (.ref C) dd H'
  hid : ∀ a, m.hd a → F a = none ∧ ∃ o, m.J a = some o ∧ isTp o = false
  fj : ∀ a ob u, H a = some (.frz ob u) → m.J a = some (.frz ob u)
theorem Sc.le {z : Cz} {m : Fm} {F H : Hp} (S : Sc z m F H) : Le F H := S.lk.le
inductive Sl where
  | un | v (d : Dt) | o (d : Dt) | l (a : Addr) (d : Dt)
/-- the content of an object reads as d -/
inductive HoR (K : PySem.W.Frag) (B F : Hp) : HO → Dt → Prop
  | lst {xs : List V} {ds : List Dt} : Rzl K B F ds xs → HoR K B F (.lst xs) (.lst true ds)
  | dK {kvs : List (Key × V)} {ds : List Dt} : Rzl K B F ds (kvs.map Prod.snd) → HoR K B F (.dK kvs) (.dic true (kvs.map Prod.fst) ds)
  | dT {kvs : List (List Key × V)} {ds : List Dt} : Rzl K B F ds (kvs.map Prod.snd) → HoR K B F (.dT kvs) (.dit true (kvs.map Prod.fst) ds)
def OwnAt (K : PySem.W.Frag) (m : Fm) (F H : Hp) (l : Addr) (d : Dt) : Prop := F l = none ∧ m.B l = none ∧ m.J l = none ∧ ∃ ho, H l = some ho ∧ HoR K m.B F ho d
/-- held: as it stands now -/
def PinAt (K : PySem.W.Frag) (m : Fm) (F : Hp) (l : Addr) (d : Dt) : Prop := m.hd l ∧ m.B l = none ∧ ∃ ho, (m.J l = some ho ∨ isDk ho = true ∧ ∃ ob, m.J l = some (.frz ob ho)) ∧ HoR K m.B F ho d
def SlOk (K : PySem.W.Frag) (m : Fm) (F H : Hp) (ov : Option V) : Sl → Prop
  | .un => True
  | .v d => ∃ v, ov = some v ∧ Rz K m.B F d v
  | .o d => ∃ l, ov = some (.ref l) ∧ OwnAt K m F H l d
  | .l a d => ov = some (.ref a) ∧ PinAt K m F a d
structure Sm (z : Cz) (m : Fm) (F H : Hp) (σ : L2.St) (ρ : List Sl) : Prop extends Sc z m F H where
  len : σ.length = ρ.length
  slot : ∀ (i : Nat) (s : Sl) (ov : Option V), ρ[i]? = some s → σ[i]? = some ov → SlOk z.K m F H ov s
  sep : ∀ (i j : Nat) (d e : Dt) (l : Addr), ρ[i]? = some (.o d) → ρ[j]? = some (.o e) → σ[i]? = some (some (.ref l)) → σ[j]? = some (some (.ref l)) → i = j
  psep : ∀ (i j : Nat) (a : Addr) (d e : Dt), ρ[i]? = some (.l a d) → ρ[j]? = some (.l a e) → i = j
theorem HoR.mono {K : PySem.W.Frag} {B F F' : Hp} {ho : HO} {d : Dt} (h : HoR K B F ho d) (e : Same F F') : HoR K B F' ho d := by
  cases h with
  | lst h => exact .lst (rzl_mono e _ _ h)
  | dK h => exact .dK (rzl_mono e _ _ h)
  | dT h => exact .dT (rzl_mono e _ _ h)
theorem HoR.notFz {K : PySem.W.Frag} {B F : Hp} {ho : HO} {d : Dt} (h : HoR K B F ho d) : isFz ho = false := by
  cases h <;> rfl
theorem HoR.notTp {K : PySem.W.Frag} {B F : Hp} {ho : HO} {d : Dt} (h : HoR K B F ho d) : isTp ho = false := by
  cases h <;> rfl
theorem HoR.rz {K : PySem.W.Frag} {B F : Hp} {l : Addr} {ho : HO} {d : Dt} (h : HoR K B F ho d) (hb : B l = none) (hf : F l = none) : Rz K B (upd F l ho) d (.ref l) := by
  cases h with
  | lst h => simp only [Rz]; exact ⟨l, _, rfl, upd_same, fun _ => hb, rzl_mono (same_new hf) _ _ h⟩
  | dK h => simp only [Rz]; exact ⟨l, _, rfl, upd_same, fun _ => hb, rfl, rzl_mono (same_new hf) _ _ h⟩
  | dT h => simp only [Rz]; exact ⟨l, _, rfl, upd_same, fun _ => hb, rfl, rzl_mono (same_new hf) _ _ h⟩
section
variable {z : Cz} {m : Fm} {F F' H H' : Hp} {σ : L2.St} {ρ : List Sl}
theorem OwnAt.ext {K : PySem.W.Frag} {l : Addr} {d : Dt} (h : OwnAt K m F H l d) (f : Same F F') (s : Same H H') (le : Le F' H') (nw : Nw F H F') : OwnAt K m F' H' l d := by
  obtain ⟨h1, h2, h3, ho, h4, h5⟩ := h
  refine ⟨?_, h2, h3, ho, s _ _ h4, h5.mono f⟩
  cases e : F' l with
  | none => rfl
  | some u =>
    rcases nw l u e with q | q | q
    · exact absurd h1 q
    · rw [h4] at q; cases q
    · have := le.exact e (by cases u <;> first | rfl | cases q)
      rw [s _ _ h4] at this
      cases this
      rw [h5.notTp] at q
      cases q
theorem PinAt.ext {K : PySem.W.Frag} {l : Addr} {d : Dt} (h : PinAt K m F l d) (f : Same F F') : PinAt K m F' l d := by
  obtain ⟨h1, h2, ho, h4, h5⟩ := h
  exact ⟨h1, h2, ho, h4, h5.mono f⟩
theorem SlOk.ext {K : PySem.W.Frag} {ov : Option V} {s : Sl} (h : SlOk K m F H ov s) (f : Same F F') (e : Same H H') (le : Le F' H') (nw : Nw F H F') : SlOk K m F' H' ov s := by
  cases s with
  | un => trivial
  | v d => obtain ⟨v, q, h⟩ := h; exact ⟨v, q, rz_mono f _ _ h⟩
  | o d => obtain ⟨l, q, h⟩ := h; exact ⟨l, q, h.ext f e le nw⟩
  | l a d => exact ⟨h.1, h.2.ext f⟩
theorem Sc.ext (S : Sc z m F H) (f : Same F F') (e : Same H H') (lk : Lk m.J F' H') (nw : Nw F H F') (fz : ∀ a ob u, H' a = some (.frz ob u) → H a = some (.frz ob u)) : Sc z m F' H' :=
  ⟨lk, S.base.trans e, S.fr.trans nw S.dom f, fun a q => S.dom a (e.free q), S.bj, S.er, fun a ha => by
    obtain ⟨h1, o, h2, h3⟩ := S.hid a ha
    refine ⟨?_, o, h2, h3⟩
    cases q : F' a with
    | none => rfl
    | some u =>
      have hH := S.base _ _ h2
      rcases nw a u q with c | c | c
      · exact absurd h1 c
      · rw [hH] at c; cases c
      · have := lk.le.exact q (by cases u <;> first | rfl | cases c)
        rw [e _ _ hH] at this
        cases this
        rw [h3] at c
        exact absurd c Bool.false_ne_true, fun a ob u q => S.fj a ob u (fz a ob u q)⟩
theorem Sm.ext (S : Sm z m F H σ ρ) (f : Same F F') (e : Same H H') (lk : Lk m.J F' H') (nw : Nw F H F') (fz : ∀ a ob u, H' a = some (.frz ob u) → H a = some (.frz ob u)) : Sm z m F' H' σ ρ :=
  { S.toSc.ext f e lk nw fz with len := S.len, slot := fun i s ov a b => (S.slot i s ov a b).ext f e lk.le nw, sep := S.sep, psep := S.psep }
theorem nw_new {p : Addr} {o : HO} (e : H p = none) : Nw F H (upd F p o) := fun a u q => by
  by_cases c : a = p
  · exact .inr (.inl (c ▸ e))
  · rw [upd_ne c] at q
    exact .inl (by rw [q]; exact fun z => nomatch z)
/-- a new object, frozen at once -/
theorem fz_new {H : Hp} {p : Addr} {o : HO} (no : isFz o = false) : ∀ a ob u, upd H p o a = some (.frz ob u) → H a = some (.frz ob u) := fun a ob u q => by
  by_cases c : a = p
  · rw [c, upd_same] at q
    cases q
    cases no
  · rw [upd_ne c] at q
    exact q
theorem Sm.new (S : Sm z m F H σ ρ) {p : Addr} {o : HO} (e : H p = none) (no : isFz o = false := by rfl) : Same F (upd F p o) ∧ Sm z m (upd F p o) (upd H p o) σ ρ :=
  ⟨same_new (S.le.free e), S.ext (same_new (S.le.free e)) (same_new e) (S.lk.new e) (nw_new e) (fz_new no)⟩
/-- a new object, owned -/
theorem Sm.newO (S : Sm z m F H σ ρ) {p : Addr} {o : HO} (e : H p = none) (no : isFz o = false := by rfl) : Sm z m F (upd H p o) σ ρ :=
  S.ext (Same.refl F) (same_new e) (S.lk.same (same_new e)) (Nw.refl F H) (fz_new no)
theorem Sm.j_none (S : Sm z m F H σ ρ) {p : Addr} (e : H p = none) : m.J p = none := S.base.free e
/-- a tuple that stands is frozen -/
theorem Sm.tup (S : Sm z m F H σ ρ) {p : Addr} {xs : List V} (e : H p = some (.tup xs)) : ∃ F', Same F F' ∧ F' p = some (.tup xs) ∧ Sm z m F' H σ ρ := by
  by_cases c : F p = none
  · refine ⟨upd F p (.tup xs), same_new c, upd_same, S.ext (same_new c) (Same.refl H) (S.lk.frz e) (fun a u q => ?_) fun _ _ _ q => q⟩
    by_cases d : a = p
    · rw [d, upd_same] at q
      cases q
      exact .inr (.inr rfl)
    · rw [upd_ne d] at q
      exact .inl (by rw [q]; exact fun z => nomatch z)
  · obtain ⟨u, hu⟩ := Option.ne_none_iff_exists'.mp c
    refine ⟨F, Same.refl F, ?_, S⟩
    rcases S.le _ _ hu with h | ⟨_, ob, h⟩
    · rw [e] at h; cases h; exact hu
    · rw [e] at h; cases h
theorem Sm.get (S : Sm z m F H σ ρ) {i : Nat} {s : Sl} (h : ρ[i]? = some s) : ∃ ov, σ[i]? = some ov ∧ SlOk z.K m F H ov s := by
  have hi : i < σ.length := by rw [S.len]; exact (List.getElem?_eq_some_iff.mp h).1
  exact ⟨σ[i], List.getElem?_eq_getElem hi, S.slot i s _ h (List.getElem?_eq_getElem hi)⟩
theorem Sm.getv (S : Sm z m F H σ ρ) {i : Nat} {d : Dt} (h : ρ[i]? = some (.v d)) : ∃ v, σ[i]? = some (some v) ∧ Rz z.K m.B F d v := by
  obtain ⟨ov, e, v, rfl, r⟩ := S.get h
  exact ⟨v, e, r⟩
theorem Sm.geto (S : Sm z m F H σ ρ) {i : Nat} {d : Dt} (h : ρ[i]? = some (.o d)) : ∃ l, σ[i]? = some (some (.ref l)) ∧ OwnAt z.K m F H l d := by
  obtain ⟨ov, e, l, rfl, r⟩ := S.get h
  exact ⟨l, e, r⟩
theorem Sm.set (S : Sm z m F H σ ρ) {i : Nat} {s : Sl} {ov : Option V} (hs : SlOk z.K m F H ov s) (hp : ∀ d e l j, s = .o d → ov = some (.ref l) → ρ[j]? = some (.o e) → σ[j]? = some (some (.ref l)) → j = i) (hl : ∀ a d, s ≠ .l a d) : Sm z m F H (σ.set i ov) (ρ.set i s) := by
  refine { S.toSc with len := by rw [List.length_set, List.length_set]; exact S.len, slot := fun j s' ov' a b => ?_, sep := fun j k d e l a b c c' => ?_, psep := fun j k q d e a b => ?_ }
  · by_cases c : i = j
    · subst c
      have hi : i < ρ.length := by rw [← List.length_set (i := i) (a := s)]; exact (List.getElem?_eq_some_iff.mp a).1
      rw [List.getElem?_set_self hi] at a
      rw [List.getElem?_set_self (by rw [S.len]; exact hi)] at b
      cases a
      cases b
      exact hs
    · rw [List.getElem?_set_ne c] at a b
      exact S.slot j s' ov' a b
  · have key : ∀ {x : Nat} {u : Dt}, (ρ.set i s)[x]? = some (.o u) → (σ.set i ov)[x]? = some (some (.ref l)) → x ≠ i → ρ[x]? = some (.o u) ∧ σ[x]? = some (some (.ref l)) := fun {x u} p q n => by
      rw [List.getElem?_set_ne (Ne.symm n)] at p q
      exact ⟨p, q⟩
    have key2 : ∀ {x : Nat} {u : Dt}, (ρ.set i s)[x]? = some (.o u) → (σ.set i ov)[x]? = some (some (.ref l)) → x = i → s = .o u ∧ ov = some (.ref l) := fun {x u} p q n => by
      subst n
      have hi : x < ρ.length := by rw [← List.length_set (i := x) (a := s)]; exact (List.getElem?_eq_some_iff.mp p).1
      rw [List.getElem?_set_self hi] at p
      rw [List.getElem?_set_self (by rw [S.len]; exact hi)] at q
      exact ⟨Option.some.inj p, Option.some.inj q⟩
    by_cases hj : j = i
    · by_cases hk : k = i
      · exact hj.trans hk.symm
      · obtain ⟨p1, p2⟩ := key2 a c hj
        obtain ⟨q1, q2⟩ := key b c' hk
        exact absurd (hp _ _ _ _ p1 p2 q1 q2) hk
    · by_cases hk : k = i
      · obtain ⟨p1, p2⟩ := key2 b c' hk
        obtain ⟨q1, q2⟩ := key a c hj
        exact absurd (hp _ _ _ _ p1 p2 q1 q2) hj
      · obtain ⟨q1, q2⟩ := key a c hj
        obtain ⟨q3, q4⟩ := key b c' hk
        exact S.sep j k d e l q1 q3 q2 q4
  · have key : ∀ {x : Nat} {u : Dt}, (ρ.set i s)[x]? = some (.l q u) → ρ[x]? = some (.l q u) := fun {x u} p => by
      by_cases c : i = x
      · subst c
        have hi : i < ρ.length := by rw [← List.length_set (i := i) (a := s)]; exact (List.getElem?_eq_some_iff.mp p).1
        rw [List.getElem?_set_self hi] at p
        exact absurd (Option.some.inj p) (hl _ _)
      · rw [List.getElem?_set_ne c] at p
        exact p
    exact S.psep j k q d e (key a) (key b)
theorem Sm.setv (S : Sm z m F H σ ρ) {i : Nat} {d : Dt} {v : V} (h : Rz z.K m.B F d v) : Sm z m F H (σ.set i (some v)) (ρ.set i (.v d)) := S.set ⟨v, rfl, h⟩ (fun _ _ _ _ e => nomatch e) fun _ _ e => nomatch e
theorem Sm.setu (S : Sm z m F H σ ρ) {i : Nat} {ov : Option V} : Sm z m F H (σ.set i ov) (ρ.set i .un) := S.set trivial (fun _ _ _ _ e => nomatch e) fun _ _ e => nomatch e
theorem set_back {α : Type} {l : List α} {i : Nat} {x : α} (h : l[i]? = some x) : l.set i x = l := by
  obtain ⟨hi, e⟩ := List.getElem?_eq_some_iff.mp h
  rw [← e]
  exact List.set_getElem_self hi
/-- an owned thing is frozen -/
theorem Sm.frz (S : Sm z m F H σ ρ) {i : Nat} {d : Dt} (h : ρ[i]? = some (.o d)) : ∃ F' l, Same F F' ∧ σ[i]? = some (some (.ref l)) ∧ Rz z.K m.B F' d (.ref l) ∧ Sm z m F' H σ (ρ.set i (.v d)) := by
  obtain ⟨l, e, h1, h2, h3, ho, h4, h5⟩ := S.geto h
  have sf := same_new (o := ho) h1
  have rz := h5.rz h2 h1
  refine ⟨upd F l ho, l, sf, e, rz, ?_⟩
  have C : Sc z m (upd F l ho) H := ⟨S.lk.frz h4, S.base, fun a u q => by
    by_cases c : a = l
    · exact .inr (.inl (c ▸ h2))
    · rw [upd_ne c] at q; exact S.fr a u q, S.dom, S.bj, S.er, fun a ha => by
    obtain ⟨q1, q2⟩ := S.hid a ha
    refine ⟨?_, q2⟩
    obtain ⟨o, q3, _⟩ := q2
    rw [upd_ne (fun c => by rw [c, h3] at q3; cases q3)]
    exact q1, S.fj⟩
  refine { C with len := by rw [List.length_set]; exact S.len, slot := fun j s ov a b => ?_, sep := fun j k d1 d2 l' a b c c' => ?_, psep := fun j k q d1 d2 a b => ?_ }
  · by_cases c : i = j
    · subst c
      have hi : i < ρ.length := (List.getElem?_eq_some_iff.mp h).1
      rw [List.getElem?_set_self hi] at a
      cases a
      rw [e] at b
      cases b
      exact ⟨_, rfl, rz⟩
    · rw [List.getElem?_set_ne c] at a
      have q := S.slot j s ov a b
      cases s with
      | un => trivial
      | v d => obtain ⟨v, e', q⟩ := q; exact ⟨v, e', rz_mono sf _ _ q⟩
      | o d' =>
        obtain ⟨l', e', q1, q2, q3, ho', q4, q5⟩ := q
        subst e'
        refine ⟨l', rfl, ?_, q2, q3, ho', q4, q5.mono sf⟩
        rw [upd_ne (fun z => c (S.sep i j _ _ l h a e (by rw [b, z])))]
        exact q1
      | l a' d' => exact ⟨q.1, q.2.ext sf⟩
  · have key : ∀ {x : Nat} {u : Dt}, (ρ.set i (.v d))[x]? = some (.o u) → ρ[x]? = some (.o u) := fun {x u} p => by
      by_cases c : i = x
      · subst c
        have hi : i < ρ.length := (List.getElem?_eq_some_iff.mp h).1
        rw [List.getElem?_set_self hi] at p
        cases p
      · rw [List.getElem?_set_ne c] at p
        exact p
    exact S.sep j k d1 d2 l' (key a) (key b) c c'
  · have key : ∀ {x : Nat} {u : Dt}, (ρ.set i (.v d))[x]? = some (.l q u) → ρ[x]? = some (.l q u) := fun {x u} p => by
      by_cases c : i = x
      · subst c
        rw [List.getElem?_set_self (List.getElem?_eq_some_iff.mp h).1] at p
        cases p
      · rw [List.getElem?_set_ne c] at p
        exact p
    exact S.psep j k q d1 d2 (key a) (key b)
/-- an owned thing is written -/
theorem Sm.put (S : Sm z m F H σ ρ) {i : Nat} {d d' : Dt} {l : Addr} {ho : HO} (h : ρ[i]? = some (.o d)) (e : σ[i]? = some (some (.ref l))) (hr : HoR z.K m.B F ho d') : Sm z m F (upd H l ho) σ (ρ.set i (.o d')) := by
  obtain ⟨l', e', h1, h2, h3, ho', h4, h5⟩ := S.geto h
  rw [e] at e'
  cases e'
  have C : Sc z m F (upd H l ho) := ⟨S.lk.put h1, fun a u q => by rw [upd_ne (fun c => by rw [c, h3] at q; cases q)]; exact S.base a u q, S.fr, fun a q => by
    by_cases c : a = l
    · rw [c, upd_same] at q; cases q
    · rw [upd_ne c] at q; exact S.dom a q, S.bj, S.er, S.hid, fun a ob u q => S.fj a ob u (fz_new hr.notFz a ob u q)⟩
  have hi : i < ρ.length := (List.getElem?_eq_some_iff.mp h).1
  refine { C with len := by rw [List.length_set]; exact S.len, slot := fun j s ov a b => ?_, sep := fun j k d1 d2 l' a b c c' => ?_, psep := fun j k q d1 d2 a b => ?_ }
  · by_cases c : i = j
    · subst c
      rw [List.getElem?_set_self hi] at a
      cases a
      rw [e] at b
      cases b
      exact ⟨l, rfl, h1, h2, h3, ho, upd_same, hr⟩
    · rw [List.getElem?_set_ne c] at a
      have q := S.slot j s ov a b
      cases s with
      | un => trivial
      | v d => exact q
      | o d2 =>
        obtain ⟨l', e', q1, q2, q3, ho2, q4, q5⟩ := q
        subst e'
        refine ⟨l', rfl, q1, q2, q3, ho2, ?_, q5⟩
        rw [upd_ne (fun z => c (S.sep i j _ _ l h a e (by rw [b, z])))]
        exact q4
      | l a2 d2 => exact q
  · have key : ∀ {x : Nat} {u : Dt}, (ρ.set i (.o d'))[x]? = some (.o u) → ∃ u', ρ[x]? = some (.o u') := fun {x u} p => by
      by_cases c : i = x
      · subst c
        exact ⟨_, h⟩
      · rw [List.getElem?_set_ne c] at p
        exact ⟨_, p⟩
    obtain ⟨u1, a'⟩ := key a
    obtain ⟨u2, b'⟩ := key b
    exact S.sep j k u1 u2 l' a' b' c c'
  · have key : ∀ {x : Nat} {u : Dt}, (ρ.set i (.o d'))[x]? = some (.l q u) → ρ[x]? = some (.l q u) := fun {x u} p => by
      by_cases c : i = x
      · subst c
        rw [List.getElem?_set_self hi] at p
        cases p
      · rw [List.getElem?_set_ne c] at p
        exact p
    exact S.psep j k q d1 d2 (key a) (key b)
end
/-! ### the judgements -/
/-- a result: frozen, or a fresh thing of one's own -/
def RzF (z : Cz) (m : Fm) (F H : Hp) (σ : L2.St) (ρ : List Sl) (fr : Bool) (d : Dt) (v : V) : Prop :=
  if fr = true then ∃ l, v = .ref l ∧ OwnAt z.K m F H l d ∧ ∀ (j : Nat) (e : Dt), ρ[j]? = some (.o e) → σ[j]? ≠ some (some (.ref l)) else Rz z.K m.B F d v
def ZE (z : Cz) (t : TE) (ρ : List Sl) (N : Dt → Bool → List Sl → Prop) : Prop := ∀ m F H σ Q, Sm z m F H σ ρ →
  (∀ d fr ρ' F' H' v, N d fr ρ' → Same F F' → Sm z m F' H' σ ρ' → RzF z m F' H' σ ρ' fr d v → Q v H') → t σ H Q
def ZT (z : Cz) (t : TT) (ρ : List Sl) (N : Bool → List Sl → Prop) : Prop := ∀ m F H σ Q, Sm z m F H σ ρ →
  (∀ b ρ' F' H', N b ρ' → Same F F' → Sm z m F' H' σ ρ' → Q b H') → t σ H Q
def ZA (z : Cz) (t : TA) (ρ : List Sl) (N : List Dt → List Sl → Prop) : Prop := ∀ m F H σ Q, Sm z m F H σ ρ →
  (∀ ds ρ' F' H' vs, N ds ρ' → Same F F' → Sm z m F' H' σ ρ' → Rzl z.K m.B F' ds vs → Q vs H') → t σ H Q
structure Zn where
  nx : List Sl → Prop
  rt : Dt → Bool → Prop
  bk : List Sl → Prop := fun _ => False
  ct : List Sl → Prop := fun _ => False
/-- what is returned -/
def RtR (z : Cz) (m : Fm) (F H : Hp) (fr : Bool) (d : Dt) (v : V) : Prop := Sc z m F H ∧ if fr = true then ∃ l, v = .ref l ∧ OwnAt z.K m F H l d else Rz z.K m.B F d v
def ZS (z : Cz) (t : TS) (ρ : List Sl) (N : Zn) : Prop := ∀ m F H σ D, Sm z m F H σ ρ →
  (∀ ρ' F' H' σ', N.nx ρ' → Same F F' → Sm z m F' H' σ' ρ' → D.nx σ' H') → (∀ d fr F' H' v, N.rt d fr → Same F F' → RtR z m F' H' fr d v → D.rt v H') →
  (∀ ρ' F' H' σ', N.bk ρ' → Same F F' → Sm z m F' H' σ' ρ' → D.bk σ' H') → (∀ ρ' F' H' σ', N.ct ρ' → Same F F' → Sm z m F' H' σ' ρ' → D.ct σ' H') → t D σ H
/-- what is walked: ds, one by one -/
def ItZ (z : Cz) (m : Fm) (F : Hp) (Jt : It) (ds : List Dt) : Prop := ∃ (n : Nat) (G : Hp → Prop) (Y : Nat → Hp → V → Hp → Prop), Walk Jt n G Y ∧ n = ds.length ∧
  (∀ F' H', Same F F' → Le F' H' → Same m.J H' → G H') ∧
  ∀ m2 i d F' H' H'' x σ ρ, m2.B = m.B → ds[i]? = some d → Same F F' → Sm z m2 F' H' σ ρ → Y i H' x H'' → ∃ F'', Same F' F'' ∧ Sm z m2 F'' H'' σ ρ ∧ Rz z.K m.B F'' d x
/-- a target -/
def ZG (z : Cz) (g : TG) (d : Dt) (fr : Bool) (ρ : List Sl) (N : List Sl → Prop) : Prop := ∀ m F H σ v Q, Sm z m F H σ ρ → RzF z m F H σ ρ fr d v →
  (∀ ρ' F' H' σ', N ρ' → Same F F' → Sm z m F' H' σ' ρ' → Q σ' H') → g v σ H Q
def ZGs (z : Cz) (g : TGs) (ds : List Dt) (ρ : List Sl) (N : List Sl → Prop) : Prop := ∀ m F H σ vs Q, Sm z m F H σ ρ → Rzl z.K m.B F ds vs →
  (∀ ρ' F' H' σ', N ρ' → Same F F' → Sm z m F' H' σ' ρ' → Q σ' H') → g vs σ H Q
/-- a fresh thing frozen -/
theorem rzF_frz {z : Cz} {m : Fm} {F H : Hp} {σ : L2.St} {ρ : List Sl} {fr : Bool} {d : Dt} {v : V} (S : Sm z m F H σ ρ) (h : RzF z m F H σ ρ fr d v) : ∃ F', Same F F' ∧ Sm z m F' H σ ρ ∧ Rz z.K m.B F' d v := by
  cases fr with
  | false => exact ⟨F, Same.refl F, S, h⟩
  | true =>
    obtain ⟨l, rfl, ⟨h1, h2, h3, ho, h4, h5⟩, hs⟩ := h
    have sf := same_new (o := ho) h1
    have C : Sc z m (upd F l ho) H := ⟨S.lk.frz h4, S.base, fun a u q => by
      by_cases c : a = l
      · exact .inr (.inl (c ▸ h2))
      · rw [upd_ne c] at q; exact S.fr a u q, S.dom, S.bj, S.er, fun a ha => by
    obtain ⟨q1, q2⟩ := S.hid a ha
    refine ⟨?_, q2⟩
    obtain ⟨o, q3, _⟩ := q2
    rw [upd_ne (fun c => by rw [c, h3] at q3; cases q3)]
    exact q1, S.fj⟩
    refine ⟨upd F l ho, sf, { C with len := S.len, slot := fun j s ov a b => ?_, sep := S.sep, psep := S.psep }, h5.rz h2 h1⟩
    have q := S.slot j s ov a b
    cases s with
    | un => trivial
    | v d => obtain ⟨v, e', q⟩ := q; exact ⟨v, e', rz_mono sf _ _ q⟩
    | o d' =>
      obtain ⟨l', e', q1, q2, q3, ho', q4, q5⟩ := q
      subst e'
      refine ⟨l', rfl, ?_, q2, q3, ho', q4, q5.mono sf⟩
      rw [upd_ne (fun z => hs j _ a (by rw [b, z]))]
      exact q1
    | l a' d' => exact ⟨q.1, q.2.ext sf⟩
theorem rzF_f {z : Cz} {m : Fm} {F H : Hp} {σ : L2.St} {ρ : List Sl} {d : Dt} {v : V} (h : Rz z.K m.B F d v) : RzF z m F H σ ρ false d v := h
/-- a new thing of one's own -/
theorem rzF_new {z : Cz} {m : Fm} {F H : Hp} {σ : L2.St} {ρ : List Sl} {d : Dt} {p : Addr} {o : HO} (S : Sm z m F H σ ρ) (e : H p = none) (h : HoR z.K m.B F o d) : RzF z m F (upd H p o) σ ρ true d (.ref p) := by
  refine ⟨p, rfl, ⟨S.le.free e, S.dom p e, S.j_none e, o, upd_same, h⟩, fun j e' a b => ?_⟩
  obtain ⟨l, hl, _, _, _, ho, h4, _⟩ := S.geto a
  rw [b] at hl
  cases hl
  rw [e] at h4
  cases h4
/-! ### expressions -/
section
variable {z : Cz} {ρ : List Sl} {N : Dt → Bool → List Sl → Prop} {ta tb te : TE} {i : Nat} {d : Dt}
theorem ze_var (h : ρ[i]? = some (.v d)) (n : N d false ρ) : ZE z (tVar i) ρ N := fun m F H σ Q S k => by
  obtain ⟨v, e, r⟩ := S.getv h
  exact ⟨v, e, k _ _ _ _ _ _ n (Same.refl F) S (rzF_f r)⟩
/-- an owned thing used as a value: frozen from here on -/
theorem ze_varo (h : ρ[i]? = some (.o d)) (n : N d false (ρ.set i (.v d))) : ZE z (tVar i) ρ N := fun m F H σ Q S k => by
  obtain ⟨F', l, sf, e, r, S'⟩ := S.frz h
  exact ⟨.ref l, e, k _ _ _ _ _ _ n sf S' r⟩
theorem ze_k {v : V} (h : ∀ B F, Rz z.K B F d v) (n : N d false ρ) : ZE z (tC v) ρ N := fun m F H σ Q S k => k _ _ _ _ _ _ n (Same.refl F) S (rzF_f (h _ _))
theorem ze_int {i : Int} (n : N (.int i) false ρ) : ZE z (tC (.int i)) ρ N := ze_k (fun _ _ => by simp only [Rz]) n
theorem ze_str {x : Str} (n : N (.str x) false ρ) : ZE z (tC (.str x)) ρ N := ze_k (fun _ _ => by simp only [Rz]) n
theorem ze_bl {b : Bool} (n : N (.bl b) false ρ) : ZE z (tC (.bl b)) ρ N := ze_k (fun _ _ => by simp only [Rz]) n
theorem ze_non (n : N .non false ρ) : ZE z (tC .non) ρ N := ze_k (fun _ _ => by simp only [Rz]) n
theorem ze_adr {a : Addr} (n : N (.adr a) false ρ) : ZE z (tC (.ref a)) ρ N := ze_k (fun _ _ => by simp only [Rz]) n
theorem ze_ty {x : String} (n : N (.ty x) false ρ) : ZE z (tC (.ty x)) ρ N := ze_k (fun _ _ => by simp only [Rz]) n
/-- two operands, both frozen -/
theorem ze_op2 {r : R2} (h : ZE z ta ρ fun x _ ρ1 => ZE z tb ρ1 fun y _ ρ2 => ∀ m F H σ Q vx vy, Sm z m F H σ ρ2 → Rz z.K m.B F x vx → Rz z.K m.B F y vy →
    (∀ d fr ρ' F' H' v, N d fr ρ' → Same F F' → Sm z m F' H' σ ρ' → RzF z m F' H' σ ρ' fr d v → Q v H') → r vx vy H Q) : ZE z (tOp r ta tb) ρ N := fun m F H σ Q S k => by
  refine h m F H σ _ S fun x fx ρ1 F1 H1 vx n1 s1 S1 r1 => ?_
  obtain ⟨F2, s2, S2, rx⟩ := rzF_frz S1 r1
  refine n1 m F2 H1 σ _ S2 fun y fy ρ2 F3 H2 vy n2 s3 S3 r3 => ?_
  obtain ⟨F4, s4, S4, ry⟩ := rzF_frz S3 r3
  exact n2 m F4 H2 σ Q vx vy S4 (rz_mono (s3.trans s4) _ _ rx) ry fun d fr ρ' F' H' v n sf => k d fr ρ' F' H' v n (((s1.trans s2).trans (s3.trans s4)).trans sf)
theorem ze_un1 {r : V → Hp → VK → Prop} (h : ZE z ta ρ fun x _ ρ1 => ∀ m F H σ Q vx, Sm z m F H σ ρ1 → Rz z.K m.B F x vx →
    (∀ d fr ρ' F' H' v, N d fr ρ' → Same F F' → Sm z m F' H' σ ρ' → RzF z m F' H' σ ρ' fr d v → Q v H') → r vx H Q) : ZE z (tUn r ta) ρ N := fun m F H σ Q S k => by
  refine h m F H σ _ S fun x fx ρ1 F1 H1 vx n1 s1 S1 r1 => ?_
  obtain ⟨F2, s2, S2, rx⟩ := rzF_frz S1 r1
  exact n1 m F2 H1 σ Q vx S2 rx fun d fr ρ' F' H' v n sf => k d fr ρ' F' H' v n ((s1.trans s2).trans sf)
theorem rz_i {K : PySem.W.Frag} {B F : Hp} {i : Int} {v : V} (h : Rz K B F (.int i) v) : v = .int i := by simpa only [Rz] using h
theorem rz_s {K : PySem.W.Frag} {B F : Hp} {i : Str} {v : V} (h : Rz K B F (.str i) v) : v = .str i := by simpa only [Rz] using h
theorem rz_b {K : PySem.W.Frag} {B F : Hp} {i : Bool} {v : V} (h : Rz K B F (.bl i) v) : v = .bl i := by simpa only [Rz] using h
theorem rz_n {K : PySem.W.Frag} {B F : Hp} {v : V} (h : Rz K B F .non v) : v = .non := by simpa only [Rz] using h
theorem rz_a {K : PySem.W.Frag} {B F : Hp} {v : V} {a : Addr} (h : Rz K B F (.adr a) v) : v = .ref a := by simpa only [Rz] using h
theorem rzi {K : PySem.W.Frag} {B F : Hp} {i : Int} : Rz K B F (.int i) (.int i) := by simp only [Rz]
theorem rzs {K : PySem.W.Frag} {B F : Hp} {i : Str} : Rz K B F (.str i) (.str i) := by simp only [Rz]
theorem rzb {K : PySem.W.Frag} {B F : Hp} {i : Bool} : Rz K B F (.bl i) (.bl i) := by simp only [Rz]
theorem rzn {K : PySem.W.Frag} {B F : Hp} : Rz K B F .non .non := by simp only [Rz]
theorem ze_I0 {g : Int → Int → Int} (h : ZE z ta ρ fun x _ ρ1 => ZE z tb ρ1 fun y _ ρ2 => ∃ i j, x = .int i ∧ y = .int j ∧ N (.int (g i j)) false ρ2) : ZE z (tOp (rI0 fun i j => .int (g i j)) ta tb) ρ N :=
  ze_op2 fun m F H σ Q S k => h m F H σ Q S fun x fx ρ1 F1 H1 vx n1 s1 S1 r1 => k x fx ρ1 F1 H1 vx (fun m F H σ Q S k => n1 m F H σ Q S fun y fy ρ2 F2 H2 vy n2 s2 S2 r2 => k y fy ρ2 F2 H2 vy (by
    obtain ⟨i, j, rfl, rfl, n⟩ := n2
    intro m F H σ Q vx vy S r1 r2 k
    exact ⟨i, j, rz_i r1, rz_i r2, k _ _ _ _ _ _ n (Same.refl F) S (rzF_f rzi)⟩) s2 S2 r2) s1 S1 r1
/-- the premise of two operands from what is wanted of their data -/
theorem ze_op2w {r : R2} {W : Dt → Dt → (Dt → Bool → List Sl → Prop) → List Sl → Prop}
    (w : ∀ x y ρ2 N, W x y N ρ2 → ∀ m F H σ Q vx vy, Sm z m F H σ ρ2 → Rz z.K m.B F x vx → Rz z.K m.B F y vy → (∀ d fr ρ' F' H' v, N d fr ρ' → Same F F' → Sm z m F' H' σ ρ' → RzF z m F' H' σ ρ' fr d v → Q v H') → r vx vy H Q)
    (h : ZE z ta ρ fun x _ ρ1 => ZE z tb ρ1 fun y _ ρ2 => W x y N ρ2) : ZE z (tOp r ta tb) ρ N :=
  ze_op2 fun m F H σ Q S k => h m F H σ Q S fun x fx ρ1 F1 H1 vx n1 s1 S1 r1 => k x fx ρ1 F1 H1 vx (fun m F H σ Q S k => n1 m F H σ Q S fun y fy ρ2 F2 H2 vy n2 s2 S2 r2 => k y fy ρ2 F2 H2 vy (w x y ρ2 N n2) s2 S2 r2) s1 S1 r1
theorem ze_IB {g : Int → Int → Bool} (h : ZE z ta ρ fun x _ ρ1 => ZE z tb ρ1 fun y _ ρ2 => ∃ i j, x = .int i ∧ y = .int j ∧ N (.bl (g i j)) false ρ2) : ZE z (tOp (rI0 fun i j => .bl (g i j)) ta tb) ρ N :=
  ze_op2w (W := fun x y N ρ2 => ∃ i j, x = .int i ∧ y = .int j ∧ N (.bl (g i j)) false ρ2) (fun x y ρ2 N n2 m F H σ Q vx vy S r1 r2 k => by
    obtain ⟨i, j, rfl, rfl, n⟩ := n2
    exact ⟨i, j, rz_i r1, rz_i r2, k _ _ _ _ _ _ n (Same.refl F) S (rzF_f rzb)⟩) h
theorem ze_I {C : Int → Int → Prop} {g : Int → Int → Int} (h : ZE z ta ρ fun x _ ρ1 => ZE z tb ρ1 fun y _ ρ2 => ∃ i j, x = .int i ∧ y = .int j ∧ C i j ∧ N (.int (g i j)) false ρ2) : ZE z (tOp (rI C fun i j => .int (g i j)) ta tb) ρ N :=
  ze_op2w (W := fun x y N ρ2 => ∃ i j, x = .int i ∧ y = .int j ∧ C i j ∧ N (.int (g i j)) false ρ2) (fun x y ρ2 N n2 m F H σ Q vx vy S r1 r2 k => by
    obtain ⟨i, j, rfl, rfl, c, n⟩ := n2
    exact ⟨i, j, rz_i r1, rz_i r2, c, k _ _ _ _ _ _ n (Same.refl F) S (rzF_f rzi)⟩) h
theorem ze_neg {g : Int → Int} (h : ZE z ta ρ fun x _ ρ1 => ∃ i, x = .int i ∧ N (.int (g i)) false ρ1) : ZE z (tUn (rU fun i => .int (g i)) ta) ρ N :=
  ze_un1 fun m F H σ Q S k => h m F H σ Q S fun x fx ρ1 F1 H1 vx n1 s1 S1 r1 => k x fx ρ1 F1 H1 vx (by
    obtain ⟨i, rfl, n⟩ := n1
    intro m F H σ Q vx S r1 k
    exact ⟨i, rz_i r1, k _ _ _ _ _ _ n (Same.refl F) S (rzF_f rzi)⟩) s1 S1 r1
/-- scalars compared -/
inductive Seq2 : Dt → Dt → Bool → Prop
  | ii (i j : Int) : Seq2 (.int i) (.int j) (decide (i = j))
  | ss (i j : Str) : Seq2 (.str i) (.str j) (decide (i = j))
  | bb (i j : Bool) : Seq2 (.bl i) (.bl j) (decide (i = j))
  | nn : Seq2 .non .non true
  | ni (i : Int) : Seq2 .non (.int i) false
  | isn (i : Int) : Seq2 (.int i) .non false
  | ns (i : Str) : Seq2 .non (.str i) false
  | sn (i : Str) : Seq2 (.str i) .non false
theorem seq2_of {K : PySem.W.Frag} {B F : Hp} {x y : Dt} {b : Bool} {vx vy : V} (h : Seq2 x y b) (r1 : Rz K B F x vx) (r2 : Rz K B F y vy) : scal vx vy = true ∧ decide (vx = vy) = b := by
  cases h <;> (simp only [Rz] at r1 r2; subst r1 r2) <;> refine ⟨rfl, ?_⟩ <;> simp
theorem ze_eq (h : ZE z ta ρ fun x _ ρ1 => ZE z tb ρ1 fun y _ ρ2 => ∃ b, Seq2 x y b ∧ N (.bl b) false ρ2) : ZE z (tOp rEq ta tb) ρ N :=
  ze_op2w (W := fun x y N ρ2 => ∃ b, Seq2 x y b ∧ N (.bl b) false ρ2) (fun x y ρ2 N n2 m F H σ Q vx vy S r1 r2 k => by
    obtain ⟨b, s, n⟩ := n2
    obtain ⟨h1, h2⟩ := seq2_of s r1 r2
    refine ⟨h1, ?_⟩
    rw [h2]
    exact k _ _ _ _ _ _ n (Same.refl F) S (rzF_f rzb)) h
theorem ze_ne (h : ZE z ta ρ fun x _ ρ1 => ZE z tb ρ1 fun y _ ρ2 => ∃ b, Seq2 x y b ∧ N (.bl (!b)) false ρ2) : ZE z (tOp rNe ta tb) ρ N :=
  ze_op2w (W := fun x y N ρ2 => ∃ b, Seq2 x y b ∧ N (.bl (!b)) false ρ2) (fun x y ρ2 N n2 m F H σ Q vx vy S r1 r2 k => by
    obtain ⟨b, s, n⟩ := n2
    obtain ⟨h1, h2⟩ := seq2_of s r1 r2
    refine ⟨h1, ?_⟩
    rw [h2]
    exact k _ _ _ _ _ _ n (Same.refl F) S (rzF_f rzb)) h
/-! tests -/
variable {M : Bool → List Sl → Prop} {tt tu : TT}
theorem zt_val (h : ZE z te ρ fun x _ ρ1 => ∃ b, x = .bl b ∧ M b ρ1) : ZT z (tTest te) ρ M := fun m F H σ Q S k => by
  refine h m F H σ _ S fun x fx ρ1 F1 H1 vx n1 s1 S1 r1 => ?_
  obtain ⟨F2, s2, S2, rx⟩ := rzF_frz S1 r1
  obtain ⟨b, rfl, n⟩ := n1
  exact ⟨b, rz_b rx, k _ _ _ _ n (s1.trans s2) S2⟩
theorem zt_B (h : ZE z te ρ fun x _ ρ1 => ∃ b, x = .bl b ∧ M b ρ1) : ZT z (tB te) ρ M := zt_val h
theorem zt_and (h : ZT z tt ρ fun b ρ1 => if b = true then ZT z tu ρ1 M else M false ρ1) : ZT z (tAnd tt tu) ρ M := fun m F H σ Q S k => by
  refine h m F H σ _ S fun b ρ1 F1 H1 n1 s1 S1 => ?_
  cases b with
  | true => exact n1 m F1 H1 σ Q S1 fun b ρ' F' H' n s => k b ρ' F' H' n (s1.trans s)
  | false => exact k _ _ _ _ n1 s1 S1
theorem zt_or (h : ZT z tt ρ fun b ρ1 => if b = true then M true ρ1 else ZT z tu ρ1 M) : ZT z (tOr tt tu) ρ M := fun m F H σ Q S k => by
  refine h m F H σ _ S fun b ρ1 F1 H1 n1 s1 S1 => ?_
  cases b with
  | false => exact n1 m F1 H1 σ Q S1 fun b ρ' F' H' n s => k b ρ' F' H' n (s1.trans s)
  | true => exact k _ _ _ _ n1 s1 S1
theorem zt_not (h : ZT z tt ρ fun b ρ1 => M (!b) ρ1) : ZT z (tNot tt) ρ M := fun m F H σ Q S k => h m F H σ _ S fun b ρ1 F1 H1 n1 s1 S1 => k _ _ _ _ n1 s1 S1
theorem zt_yes (h : M true ρ) : ZT z tYes ρ M := fun m F H σ Q S k => k _ _ _ _ h (Same.refl F) S
theorem ze_andV (h : ZE z ta ρ fun x _ ρ1 => ∃ b, x = .bl b ∧ if b = true then ZE z tb ρ1 N else N (.bl false) false ρ1) : ZE z (tAndV ta tb) ρ N := fun m F H σ Q S k => by
  refine h m F H σ _ S fun x fx ρ1 F1 H1 vx n1 s1 S1 r1 => ?_
  obtain ⟨F2, s2, S2, rx⟩ := rzF_frz S1 r1
  obtain ⟨b, rfl, n⟩ := n1
  refine ⟨b, rz_b rx, ?_⟩
  cases b with
  | true => exact n m F2 H1 σ Q S2 fun d fr ρ' F' H' v n s => k d fr ρ' F' H' v n ((s1.trans s2).trans s)
  | false => exact k _ _ _ _ _ _ n (s1.trans s2) S2 (rzF_f rzb)
theorem ze_orV (h : ZE z ta ρ fun x _ ρ1 => ∃ b, x = .bl b ∧ if b = true then N (.bl true) false ρ1 else ZE z tb ρ1 N) : ZE z (tOrV ta tb) ρ N := fun m F H σ Q S k => by
  refine h m F H σ _ S fun x fx ρ1 F1 H1 vx n1 s1 S1 r1 => ?_
  obtain ⟨F2, s2, S2, rx⟩ := rzF_frz S1 r1
  obtain ⟨b, rfl, n⟩ := n1
  refine ⟨b, rz_b rx, ?_⟩
  cases b with
  | false => exact n m F2 H1 σ Q S2 fun d fr ρ' F' H' v n s => k d fr ρ' F' H' v n ((s1.trans s2).trans s)
  | true => exact k _ _ _ _ _ _ n (s1.trans s2) S2 (rzF_f rzb)
theorem ze_notV (h : ZE z ta ρ fun x _ ρ1 => ∃ b, x = .bl b ∧ N (.bl (!b)) false ρ1) : ZE z (tNotV ta) ρ N := fun m F H σ Q S k => by
  refine h m F H σ _ S fun x fx ρ1 F1 H1 vx n1 s1 S1 r1 => ?_
  obtain ⟨F2, s2, S2, rx⟩ := rzF_frz S1 r1
  obtain ⟨b, rfl, n⟩ := n1
  exact ⟨b, rz_b rx, k _ _ _ _ _ _ n (s1.trans s2) S2 (rzF_f rzb)⟩
theorem ze_ifE (h : ZT z tt ρ fun b ρ1 => if b = true then ZE z ta ρ1 N else ZE z tb ρ1 N) : ZE z (tIf tt ta tb) ρ N := fun m F H σ Q S k => by
  refine h m F H σ _ S fun b ρ1 F1 H1 n1 s1 S1 => ?_
  cases b with
  | true => exact n1 m F1 H1 σ Q S1 fun d fr ρ' F' H' v n s => k d fr ρ' F' H' v n (s1.trans s)
  | false => exact n1 m F1 H1 σ Q S1 fun d fr ρ' F' H' v n s => k d fr ρ' F' H' v n (s1.trans s)
theorem ze_chain {r r' : R2} {tc : TE} {g g' : Int → Int → Bool} (h : ZE z ta ρ fun x _ ρ1 => ZE z tb ρ1 fun y _ ρ2 => ∃ i j, x = .int i ∧ y = .int j ∧ if g i j = true then ZE z tc ρ2 fun w _ ρ3 => ∃ k, w = .int k ∧ N (.bl (g' j k)) false ρ3 else N (.bl false) false ρ2) :
    ZE z (tChain (rI0 fun i j => .bl (g i j)) (rI0 fun i j => .bl (g' i j)) ta tb tc) ρ N := fun m F H σ Q S k => by
  refine h m F H σ _ S fun x fx ρ1 F1 H1 vx n1 s1 S1 r1 => ?_
  obtain ⟨F2, s2, S2, rx⟩ := rzF_frz S1 r1
  refine n1 m F2 H1 σ _ S2 fun y fy ρ2 F3 H2 vy n2 s3 S3 r3 => ?_
  obtain ⟨F4, s4, S4, ry⟩ := rzF_frz S3 r3
  obtain ⟨i, j, rfl, rfl, n⟩ := n2
  refine ⟨i, j, rz_i (rz_mono (s3.trans s4) _ _ rx), rz_i ry, g i j, rfl, ?_⟩
  by_cases c : g i j = true
  · rw [if_pos c] at n ⊢
    refine n m F4 H2 σ _ S4 fun w fw ρ3 F5 H3 vw n3 s5 S5 r5 => ?_
    obtain ⟨F6, s6, S6, rw_⟩ := rzF_frz S5 r5
    obtain ⟨l, rfl, n⟩ := n3
    exact ⟨j, l, rz_i ry, rz_i rw_, k _ _ _ _ _ _ n ((((s1.trans s2).trans (s3.trans s4)).trans s5).trans s6) S6 (rzF_f rzb)⟩
  · rw [if_neg c] at n ⊢
    exact k _ _ _ _ _ _ n ((s1.trans s2).trans (s3.trans s4)) S4 (rzF_f rzb)
/-! argument lists, displays -/
variable {L : List Dt → List Sl → Prop} {ts : TA}
theorem za_nil (h : L [] ρ) : ZA z tNil ρ L := fun m F H σ Q S k => k _ _ _ _ _ h (Same.refl F) S .nil
theorem za_cons (h : ZE z te ρ fun x _ ρ1 => ZA z ts ρ1 fun xs ρ2 => L (x :: xs) ρ2) : ZA z (tCons te ts) ρ L := fun m F H σ Q S k => by
  refine h m F H σ _ S fun x fx ρ1 F1 H1 vx n1 s1 S1 r1 => ?_
  obtain ⟨F2, s2, S2, rx⟩ := rzF_frz S1 r1
  exact n1 m F2 H1 σ _ S2 fun ds ρ' F' H' vs n s S' r => k _ _ _ _ _ n ((s1.trans s2).trans s) S' (.cons (rz_mono s _ _ rx) r)
theorem ze_tup (h : ZA z ts ρ fun ds ρ1 => ds.length ≤ 1000 ∧ N (.tup ds) false ρ1) : ZE z (tTup ts) ρ N := fun m F H σ Q S k => by
  refine h m F H σ _ S fun ds ρ1 F1 H1 vs n1 s1 S1 r1 => ⟨by rw [r1.len, sizeLine_eq]; omega, fun p hp => ?_⟩
  obtain ⟨s2, S2⟩ := S1.new (o := .tup vs) hp
  exact k _ _ _ _ _ _ n1.2 (s1.trans s2) S2 (show Rz z.K m.B _ (.tup ds) _ by simp only [Rz]; exact ⟨p, vs, rfl, upd_same, rzl_mono s2 _ _ r1⟩)
theorem ze_lst (h : ZA z ts ρ fun ds ρ1 => ds.length ≤ 1000 ∧ N (.lst true ds) true ρ1) : ZE z (tLst ts) ρ N := fun m F H σ Q S k => by
  refine h m F H σ _ S fun ds ρ1 F1 H1 vs n1 s1 S1 r1 => ⟨by rw [r1.len, sizeLine_eq]; omega, fun p hp => ?_⟩
  exact k _ _ _ _ _ _ n1.2 s1 (S1.newO hp) (rzF_new S1 hp (.lst r1))
theorem ze_dnewK (h : N (.dic true [] []) true ρ) : ZE z tDNewK ρ N := fun m F H σ Q S k p hp => k _ _ _ _ _ _ h (Same.refl F) (S.newO hp) (rzF_new S hp (HoR.dK (kvs := []) .nil))
theorem ze_dnewT (h : N (.dit true [] []) true ρ) : ZE z tDNewT ρ N := fun m F H σ Q S k p hp => k _ _ _ _ _ _ h (Same.refl F) (S.newO hp) (rzF_new S hp (HoR.dT (kvs := []) .nil))
/-! attributes -/
inductive FldD (K : PySem.W.Frag) : Dt → Str → Addr → Dt → Prop
  | ins {C : Addr} {fs : List Str} {ds : List Dt} {f : Str} {d : Dt} : look fs ds f = some d → FldD K (.ins C fs ds) f C d
  | top (n d : Int) : FldD K (.rat n d) "top" (He.ga K "Ratio") (.int n)
  | bot (n d : Int) : FldD K (.rat n d) "bottom" (He.ga K "Ratio") (.int d)
theorem ratF_top (n d : Int) : (ratF n d).lookup ("top" : Str) = some (.int n) := rfl
theorem ratF_bot (n d : Int) : (ratF n d).lookup ("bottom" : Str) = some (.int d) := by
  show (match (("bottom" : Str) == "top") with | true => some (V.int n) | false => List.lookup ("bottom" : Str) [("bottom", V.int d)]) = some (.int d)
  rw [show ((("bottom" : Str) == "top") = false) from by decide +kernel]
  rfl
theorem look_fld {K : PySem.W.Frag} {B F : Hp} {f : Str} {d : Dt} : ∀ {kvs : List (Str × V)} {ds : List Dt}, Rzl K B F ds (kvs.map Prod.snd) → look (kvs.map Prod.fst) ds f = some d → ∃ v, kvs.lookup f = some v ∧ Rz K B F d v
  | [], ds, h, e => by simp [look] at e
  | p :: r, ds, h, e => by
    cases ds with
    | nil => cases h.inv0
    | cons d' ds =>
      obtain ⟨u, r', e', h1, t⟩ := h.inv
      rw [List.map_cons] at e'
      obtain ⟨rfl, rfl⟩ := List.cons.inj e'
      rw [List.map_cons, look] at e
      obtain ⟨pk, pv⟩ := p
      by_cases c : pk = f
      · rw [if_pos c] at e
        cases e
        subst c
        exact ⟨pv, by simp [List.lookup_cons], h1⟩
      · rw [if_neg c] at e
        obtain ⟨v, h2, h3⟩ := look_fld t e
        exact ⟨v, by rw [List.lookup_cons, show (f == pk) = false from beq_eq_false_iff_ne.mpr (Ne.symm c)]; exact h2, h3⟩
theorem ze_fld {f : Str} (h : ZE z ta ρ fun x _ ρ1 => ∃ C d, FldD z.K x f C d ∧ Cls z.K C ∧ NoAttr z.K C f ∧ N d false ρ1) : ZE z (tFld z.K ta f) ρ N := fun m F H σ Q S k => by
  refine h m F H σ _ S fun x fx ρ1 F1 H1 vx n1 s1 S1 r1 => ?_
  obtain ⟨F2, s2, S2, rx⟩ := rzF_frz S1 r1
  obtain ⟨C, d, hf, hc, hn, n⟩ := n1
  cases hf with
  | ins hl =>
    simp only [Rz] at rx
    obtain ⟨a, dx, kvs, rfl, e, rfl, r⟩ := rx
    obtain ⟨v, h1, h2⟩ := look_fld r hl
    exact ⟨a, _, dx, kvs, v, rfl, S2.le.exact e rfl, hc, hn, h1, k _ _ _ _ _ _ n (s1.trans s2) S2 (rzF_f h2)⟩
  | top n' d' =>
    simp only [Rz] at rx
    obtain ⟨a, dx, rfl, e⟩ := rx
    exact ⟨a, _, dx, _, _, rfl, S2.le.exact e rfl, hc, hn, ratF_top _ _, k _ _ _ _ _ _ n (s1.trans s2) S2 (rzF_f rzi)⟩
  | bot n' d' =>
    simp only [Rz] at rx
    obtain ⟨a, dx, rfl, e⟩ := rx
    exact ⟨a, _, dx, _, _, rfl, S2.le.exact e rfl, hc, hn, ratF_bot _ _, k _ _ _ _ _ _ n (s1.trans s2) S2 (rzF_f rzi)⟩
/-! a variable looked into: as it stands, frozen or not -/
def Pk (s : Sl) (d : Dt) : Prop := s = .v d ∨ s = .o d ∨ ∃ a, s = .l a d
theorem Sm.peekL {m : Fm} {F H : Hp} {σ : L2.St} (S : Sm z m F H σ ρ) {t : Bool} {ds : List Dt} {s : Sl} (h : ρ[i]? = some s) (p : Pk s (.lst t ds)) : ∃ a xs, σ[i]? = some (some (.ref a)) ∧ H a = some (.lst xs) ∧ Rzl z.K m.B F ds xs := by
  obtain ⟨ov, e, ok⟩ := S.get h
  rcases p with rfl | rfl | ⟨a, rfl⟩
  · obtain ⟨v, rfl, r⟩ := ok
    simp only [Rz] at r
    obtain ⟨a, xs, rfl, h1, _, h2⟩ := r
    exact ⟨a, xs, e, S.le.exact h1 rfl, h2⟩
  · obtain ⟨l, rfl, _, _, _, ho, h1, h2⟩ := ok
    cases h2 with
    | lst r => exact ⟨l, _, e, h1, r⟩
  · obtain ⟨rfl, _, _, ho, h1, h2⟩ := ok
    cases h2 with
    | lst r =>
      rcases h1 with h1 | ⟨c, _⟩
      · exact ⟨a, _, e, S.base _ _ h1, r⟩
      · cases c
end
/-! ### calls -/
/-- a def's promise, heap-free: what w says of the arguments' data, the answer, the error -/
abbrev Wz := List Dt → (Dt → Bool → Prop) → (Addr → List (Str × V) → Prop) → Prop
def Got (K : PySem.W.Frag) (F H F' H' : Hp) (fr : Bool) (d : Dt) (v : V) : Prop := Same F F' ∧ Same H H' ∧ Lk H F' H' ∧ Nw F H F' ∧ (∀ a ob u, H' a = some (.frz ob u) → H a = some (.frz ob u)) ∧
  if fr = true then ∃ l, v = .ref l ∧ F' l = none ∧ H l = none ∧ ∃ ho, H' l = some ho ∧ HoR K H F' ho d else Rz K H F' d v
def spZ (K : PySem.W.Frag) (w : Wz) : Sp := fun vs H Q E => ∃ (F : Hp) (ds : List Dt) (Nv : Dt → Bool → Prop) (Ne : Addr → List (Str × V) → Prop), Le F H ∧ Rzl K H F ds vs ∧ w ds Nv Ne ∧
  (∀ d fr F' H' v, Nv d fr → Got K F H F' H' fr d v → Q v H') ∧ ∀ C fs dd H', Ne C fs → ErrR H fs dd H' → E (.ref C) dd H'
theorem HoR.base {K : PySem.W.Frag} {B B' F : Hp} {ho : HO} {d : Dt} (h : HoR K B' F ho d) (hb : ∀ a, B' a = none → B a = none) : HoR K B F ho d := by
  cases h with
  | lst h => exact .lst (rzl_base hb _ _ h)
  | dK h => exact .dK (rzl_base hb _ _ h)
  | dT h => exact .dT (rzl_base hb _ _ h)
section
variable {z : Cz} {m : Fm} {F F' H H' : Hp} {σ : L2.St} {ρ : List Sl} {fr : Bool} {d : Dt} {v : V}
theorem Sm.got (S : Sm z m F H σ ρ) (g : Got z.K F H F' H' fr d v) : Sm z m F' H' σ ρ ∧ RzF z m F' H' σ ρ fr d v := by
  obtain ⟨f, h, lk, nw, fz, r⟩ := g
  have lk' : Lk m.J F' H' := fun a o e => by
    rcases lk a o e with q | ⟨q, ob, q1, q2⟩
    · exact .inl q
    · rcases nw a o e with c | c | c
      · obtain ⟨u, hu⟩ := Option.ne_none_iff_exists'.mp c
        have := f _ _ hu
        rw [e] at this
        cases this
        rcases S.lk a o hu with p | ⟨_, ob', p1, p2⟩
        · rw [q2] at p
          cases p
        · rw [q2] at p1
          cases p1
          exact .inr ⟨q, ob, q1, p2⟩
      · rw [q2] at c; cases c
      · cases o <;> first | (exact absurd c Bool.false_ne_true) | (exact absurd q Bool.false_ne_true)
  have S' := S.ext f h lk' nw fz
  refine ⟨S', ?_⟩
  unfold RzF
  cases fr with
  | false =>
    rw [if_neg (fun x => nomatch x)] at r ⊢
    exact rz_base S.dom _ _ r
  | true =>
    rw [if_pos rfl] at r ⊢
    obtain ⟨l, rfl, h1, h2, ho, h3, h4⟩ := r
    refine ⟨l, rfl, ⟨h1, S.dom _ h2, S.j_none h2, ho, h3, h4.base S.dom⟩, fun j e a b => ?_⟩
    obtain ⟨l', e', _, _, _, ho', h5, _⟩ := S.geto a
    rw [b] at e'
    cases e'
    rw [h2] at h5
    cases h5
end
section
variable {z : Cz} {ρ : List Sl} {N : Dt → Bool → List Sl → Prop} {t : TA} {w : Wz} {E : XK}
theorem ze_call (h : ZA z t ρ fun ds ρ1 => w (Dt.olds ds) (fun d fr => N d fr ρ1) fun _ _ => False) : ZE z (tCall (spZ z.K w) [] E t) ρ N := fun m F H σ Q S k => by
  refine h m F H σ _ S fun ds ρ1 F1 H1 vs n1 s1 S1 r1 => ?_
  rw [List.append_nil]
  refine ⟨F1, Dt.olds ds, _, _, S1.le, rzl_old _ _ r1, n1, fun d fr F' H' v nd g => ?_, fun C fs dd H' f => f.elim⟩
  obtain ⟨S2, r2⟩ := S1.got g
  exact k _ _ _ _ _ _ nd (s1.trans g.1) S2 r2
/-- .. that may raise -/
theorem ze_callR (h : ZA z t ρ fun ds ρ1 => w (Dt.olds ds) (fun d fr => N d fr ρ1) z.Eh) : ZE z (tCall (spZ z.K w) [] z.Er t) ρ N := fun m F H σ Q S k => by
  refine h m F H σ _ S fun ds ρ1 F1 H1 vs n1 s1 S1 r1 => ?_
  rw [List.append_nil]
  refine ⟨F1, Dt.olds ds, _, _, S1.le, rzl_old _ _ r1, n1, fun d fr F' H' v nd g => ?_, fun C fs dd H' e er => ?_⟩
  · obtain ⟨S2, r2⟩ := S1.got g
    exact k _ _ _ _ _ _ nd (s1.trans g.1) S2 r2
  · refine S1.er C fs dd H' e ⟨?_, ?_⟩
    · intro a o q
      rcases S1.bj a o q with c | ⟨c, ob, c'⟩
      · rcases er.1 a o (S1.base _ _ c) with q | q
        · exact .inl q
        · exact .inr q
      · refine .inr ⟨c, ob, ?_⟩
        rcases er.1 a _ (S1.base _ _ c') with q | ⟨q, _⟩
        · exact q
        · cases q
    · have q := er.2
      cases fs with
      | nil => exact q
      | cons p r =>
        obtain ⟨x, h1, h2, h3⟩ := q
        exact ⟨x, h1, S1.dom _ h2, h3⟩
end
/-! ### a def by its body -/
def slots (N : List Str) (ds : List Dt) : List Sl := ds.map Sl.v ++ List.replicate (N.length - ds.length) .un
def fmE (F H : Hp) : Fm := ⟨H, F, H, fun _ => False⟩
theorem slots_ok {K : PySem.W.Frag} {F H : Hp} {ds : List Dt} {vs : List V} {n : Nat} (r : Rzl K H F ds vs) {i : Nat} {s : Sl} {ov : Option V}
    (a : (ds.map Sl.v ++ List.replicate n Sl.un)[i]? = some s) (b : (vs.map some ++ List.replicate n none)[i]? = some ov) : (s = .un) ∨ ∃ d v, s = .v d ∧ ov = some v ∧ Rz K H F d v := by
  have l := r.len
  by_cases c : i < ds.length
  · rw [List.getElem?_append_left (by rw [List.length_map]; exact c), List.getElem?_map] at a
    rw [List.getElem?_append_left (by rw [List.length_map]; omega), List.getElem?_map] at b
    cases e : ds[i]? with
    | none => rw [e] at a; cases a
    | some d =>
      rw [e] at a
      cases a
      obtain ⟨v, e2, r2⟩ := r.at_ e
      rw [e2] at b
      cases b
      exact .inr ⟨d, v, rfl, rfl, r2⟩
  · rw [List.getElem?_append_right (by rw [List.length_map]; omega), List.getElem?_replicate] at a
    split at a
    · cases a; exact .inl rfl
    · cases a
theorem Sm.start {K : PySem.W.Frag} {E : XK} {Ne : Addr → List (Str × V) → Prop} {F H : Hp} {ds : List Dt} {vs : List V} {N : List Str} (le : Le F H) (r : Rzl K H F ds vs) (er : ∀ C fs dd H', Ne C fs → ErrR H fs dd H' → E (.ref C) dd H') :
    Sm ⟨K, E, Ne⟩ (fmE F H) F H (L2.start N vs) (slots N ds) := by
  have l := r.len
  have key : ∀ {i : Nat} {s : Sl} {ov : Option V}, (slots N ds)[i]? = some s → (L2.start N vs)[i]? = some ov → (s = .un) ∨ ∃ d v, s = .v d ∧ ov = some v ∧ Rz K H F d v := fun {i s ov} a b => slots_ok r a (by rw [← l]; exact b)
  refine { lk := le.lk, base := Same.refl H, fr := Nw.refl F H, dom := fun _ h => h, bj := Le.refl H, er := er, hid := fun _ h => h.elim, fj := fun _ _ _ q => q, len := ?_, slot := fun i s ov a b => ?_, sep := fun i j d e q a b c c' => ?_, psep := fun i j q d e a b => ?_ }
  · unfold L2.start slots
    rw [List.length_append, List.length_append, List.length_map, List.length_map, List.length_replicate, List.length_replicate, l]
  · rcases key a b with rfl | ⟨d, v, rfl, rfl, r⟩
    · trivial
    · exact ⟨v, rfl, r⟩
  · rcases key a c with h | ⟨d, v, h, _⟩ <;> cases h
  · have hi : i < (slots N ds).length := (List.getElem?_eq_some_iff.mp a).1
    have hl : (L2.start N vs).length = (slots N ds).length := by
      unfold L2.start slots
      rw [List.length_append, List.length_append, List.length_map, List.length_map, List.length_replicate, List.length_replicate, l]
    rcases key a (List.getElem?_eq_getElem (by rw [hl]; exact hi)) with h | ⟨d, v, h, _⟩ <;> cases h
theorem z_fn {X : Cx} {body : List Stmt} {t : TS} {K : PySem.W.Frag} {w : Wz} {N : List Str} {vs : List V} {H : Hp} {Q : VK} {E : XK} (h : spZ K w vs H Q E) (P : PSs X body t)
    (go : ∀ ds Nv Ne, w ds Nv Ne → ZS ⟨K, E, Ne⟩ t (slots N ds) ⟨fun _ => Nv .non false, Nv, fun _ => False, fun _ => False⟩) : ∃ t, PSs X body t ∧ t { nx := fun _ H' => Q .non H', rt := Q } (L2.start N vs) H := by
  obtain ⟨F, ds, Nv, Ne, le, r, hw, hq, he⟩ := h
  refine ⟨t, P, go ds Nv Ne hw (fmE F H) F H _ _ (Sm.start le r he) (fun ρ' F' H' σ' n s S => hq _ _ F' H' _ n ⟨s, S.base, S.lk, S.fr, S.fj, show Rz K H F' .non .non from rzn⟩) (fun d fr F' H' v n s R => ?_) (fun _ _ _ _ n => n.elim) (fun _ _ _ _ n => n.elim)⟩
  obtain ⟨S, r⟩ := R
  refine hq d fr F' H' v n ⟨s, S.base, S.lk, S.fr, S.fj, ?_⟩
  cases fr with
  | false => exact r
  | true =>
    rw [if_pos rfl] at r ⊢
    obtain ⟨l, rfl, h1, h2, h3, ho, h4, h5⟩ := r
    exact ⟨l, rfl, h1, h2, ho, h4, h5⟩
theorem spz_len {K : PySem.W.Frag} {w : Wz} {vs : List V} {H : Hp} {Q : VK} {E : XK} {n : Nat} (h : spZ K w vs H Q E) (hl : ∀ ds Nv Ne, w ds Nv Ne → ds.length = n) : vs.length = n := by
  obtain ⟨F, ds, Nv, Ne, le, r, hw, _⟩ := h
  rw [r.len, hl ds Nv Ne hw]
/-! ### dicts -/
def keyD : Key → Dt
  | .inl i => .int i
  | .inr x => .str x
theorem rz_key {K : PySem.W.Frag} {B F : Hp} : ∀ {k : Key} {v : V}, Rz K B F (keyD k) v → v = kV k
  | .inl _, _, h => rz_i h
  | .inr _, _, h => rz_s h
theorem key_rz {K : PySem.W.Frag} {B F : Hp} : ∀ (k : Key), Rz K B F (keyD k) (kV k)
  | .inl _ => rzi
  | .inr _ => rzs
theorem rzl_keys {K : PySem.W.Frag} {B F : Hp} : ∀ {ks : List Key} {vs : List V}, Rzl K B F (ks.map keyD) vs → vs = ks.map kV
  | [], _, h => h.inv0
  | k :: ks, _, h => by
    obtain ⟨v, r, rfl, h1, t⟩ := h.inv
    rw [rz_key h1, rzl_keys t]
    rfl
theorem keys_rzl {K : PySem.W.Frag} {B F : Hp} : ∀ (ks : List Key), Rzl K B F (ks.map keyD) (ks.map kV)
  | [] => .nil
  | k :: ks => .cons (key_rz k) (keys_rzl ks)
inductive GetD : Dt → Dt → Option Dt → Prop
  | k {t : Bool} {ks : List Key} {ds : List Dt} (x : Key) {o : Option Dt} : look ks ds x = o → GetD (.dic t ks ds) (keyD x) o
  | t {t : Bool} {ks : List (List Key)} {ds : List Dt} (x : List Key) {o : Option Dt} : look ks ds x = o → GetD (.dit t ks ds) (.tup (x.map keyD)) o
theorem GetD.str {t : Bool} {ks : List Key} {ds : List Dt} {x : Str} {o : Option Dt} (h : look ks ds (.inr x) = o) : GetD (.dic t ks ds) (.str x) o := .k (.inr x) h
theorem GetD.int {t : Bool} {ks : List Key} {ds : List Dt} {x : Int} {o : Option Dt} (h : look ks ds (.inl x) = o) : GetD (.dic t ks ds) (.int x) o := .k (.inl x) h
inductive PutD : Dt → Dt → Dt → Dt → Prop
  | k {ks : List Key} {ds : List Dt} {d : Dt} (x : Key) : ks.length < 100000 → PutD (.dic true ks ds) (keyD x) d (.dic true (putKs ks x) (putDs ks ds x d))
  | t {ks : List (List Key)} {ds : List Dt} {d : Dt} (x : List Key) : ks.length < 100000 → PutD (.dit true ks ds) (.tup (x.map keyD)) d (.dit true (putKs ks x) (putDs ks ds x d))
theorem PutD.str {ks : List Key} {ds : List Dt} {d : Dt} {x : Str} (h : ks.length < 100000) : PutD (.dic true ks ds) (.str x) d (.dic true (putKs ks (.inr x)) (putDs ks ds (.inr x) d)) := .k (.inr x) h
/-- a dict at a -/
inductive DctR (K : PySem.W.Frag) (B F H : Hp) (a : Addr) : Dt → Prop
  | k {t : Bool} {kvs : List (Key × V)} {ds : List Dt} : L2.Rd H a (.dK kvs) → Rzl K B F ds (kvs.map Prod.snd) → DctR K B F H a (.dic t (kvs.map Prod.fst) ds)
  | t {t : Bool} {kvs : List (List Key × V)} {ds : List Dt} : L2.Rd H a (.dT kvs) → Rzl K B F ds (kvs.map Prod.snd) → DctR K B F H a (.dit t (kvs.map Prod.fst) ds)
def isDd : Dt → Bool
  | .dic _ _ _ => true
  | .dit _ _ _ => true
  | _ => false
theorem rz_dct {K : PySem.W.Frag} {B F H : Hp} {d : Dt} {v : V} (h : Rz K B F d v) (le : Le F H) (i : isDd d = true) : ∃ a, v = .ref a ∧ DctR K B F H a d := by
  cases d <;> first | cases i | skip
  · simp only [Rz] at h
    obtain ⟨a, kvs, rfl, h1, _, rfl, h2⟩ := h
    exact ⟨a, rfl, .k (le.rd h1) h2⟩
  · simp only [Rz] at h
    obtain ⟨a, kvs, rfl, h1, _, rfl, h2⟩ := h
    exact ⟨a, rfl, .t (le.rd h1) h2⟩
theorem GetD.isDd {c y : Dt} {o : Option Dt} (h : GetD c y o) : isDd c = true := by cases h <;> rfl
def OptR (K : PySem.W.Frag) (B F : Hp) : Option Dt → Option V → Prop
  | some d, some v => Rz K B F d v
  | none, none => True
  | _, _ => False
theorem dct_get {K : PySem.W.Frag} {B F H : Hp} {a : Addr} {c y : Dt} {o : Option Dt} {vy : V} (h : DctR K B F H a c) (g : GetD c y o) (r : Rz K B F y vy) (le : Le F H) : ∃ vo, DGet H a vy vo ∧ OptR K B F o vo := by
  cases g with
  | k x e =>
    obtain rfl := rz_key r
    cases h with
    | k h1 h2 =>
      have q := tab_look (k := x) h2
      rw [e] at q
      refine ⟨_, .inl ⟨_, x, h1, rfl, rfl⟩, ?_⟩
      cases o with
      | none => rw [q]; trivial
      | some d =>
        obtain ⟨v, e1, e2⟩ := q
        rw [e1]
        exact e2
  | t x e =>
    simp only [Rz] at r
    obtain ⟨b, xs, rfl, hb, rx⟩ := r
    obtain rfl := rzl_keys rx
    cases h with
    | t h1 h2 =>
      have q := tab_look (k := x) h2
      rw [e] at q
      refine ⟨_, .inr ⟨_, x, b, h1, rfl, le.exact hb rfl, rfl⟩, ?_⟩
      cases o with
      | none => rw [q]; trivial
      | some d =>
        obtain ⟨v, e1, e2⟩ := q
        rw [e1]
        exact e2
theorem OptR.isSome {K : PySem.W.Frag} {B F : Hp} : ∀ {o : Option Dt} {vo : Option V}, OptR K B F o vo → vo.isSome = o.isSome
  | some _, some _, _ => rfl
  | none, none, _ => rfl
section
variable {z : Cz} {ρ : List Sl} {i : Nat}
theorem Sm.has {m : Fm} {F H : Hp} {σ : L2.St} (S : Sm z m F H σ ρ) {s : Sl} {c : Dt} (h : ρ[i]? = some s) (p : Pk s c) : ∃ v, σ[i]? = some (some v) := by
  obtain ⟨ov, e, ok⟩ := S.get h
  rcases p with rfl | rfl | ⟨a, rfl⟩
  · obtain ⟨v, rfl, r⟩ := ok; exact ⟨v, e⟩
  · obtain ⟨l, rfl, _⟩ := ok; exact ⟨_, e⟩
  · obtain ⟨rfl, _⟩ := ok; exact ⟨_, e⟩
theorem Sm.peekD {m : Fm} {F H : Hp} {σ : L2.St} (S : Sm z m F H σ ρ) {s : Sl} {c : Dt} (h : ρ[i]? = some s) (p : Pk s c) (hc : isDd c = true) : ∃ a, σ[i]? = some (some (.ref a)) ∧ DctR z.K m.B F H a c := by
  obtain ⟨ov, e, ok⟩ := S.get h
  rcases p with rfl | rfl | ⟨a, rfl⟩
  · obtain ⟨v, rfl, r⟩ := ok
    obtain ⟨a, rfl, q⟩ := rz_dct r S.le hc
    exact ⟨a, e, q⟩
  · obtain ⟨l, rfl, _, _, _, ho, h1, h2⟩ := ok
    cases h2 with
    | lst r => cases hc
    | dK r => exact ⟨l, e, .k (.inl h1) r⟩
    | dT r => exact ⟨l, e, .t (.inl h1) r⟩
  · obtain ⟨rfl, _, _, ho, h1, h2⟩ := ok
    have hr : L2.Rd H a ho := by
      rcases h1 with h1 | ⟨_, ob, h1⟩
      · exact .inl (S.base _ _ h1)
      · exact .inr ⟨ob, S.base _ _ h1⟩
    cases h2 with
    | lst r => cases hc
    | dK r => exact ⟨a, e, .k hr r⟩
    | dT r => exact ⟨a, e, .t hr r⟩
theorem DctR.isD {K : PySem.W.Frag} {B F H : Hp} {a : Addr} {c : Dt} (h : DctR K B F H a c) : IsD H a := by
  cases h with
  | k h1 _ => exact .inl ⟨_, h1⟩
  | t h1 _ => exact .inr ⟨_, h1⟩
variable {N : Dt → Bool → List Sl → Prop} {td ty tx tv : TE} {s0 : Sl} {c0 : Dt}
theorem ze_dgetv (h0 : ρ[i]? = some s0) (p0 : Pk s0 c0) (h : ZE z ty ρ fun y _ ρ1 => ∃ s c d, ρ1[i]? = some s ∧ Pk s c ∧ GetD c y (some d) ∧ N d false ρ1) : ZE z (tDGet (tVar i) ty) ρ N := fun m F H σ Q S k => by
  obtain ⟨v, e⟩ := S.has h0 p0
  refine ⟨v, e, h m F H σ _ S fun y fy ρ1 F1 H1 vy n1 s1 S1 r1 => ?_⟩
  obtain ⟨F2, s2, S2, ry⟩ := rzF_frz S1 r1
  obtain ⟨s, c, d, hs, p, g, n⟩ := n1
  obtain ⟨a, e', q⟩ := S2.peekD hs p g.isDd
  rw [e] at e'
  cases e'
  obtain ⟨vo, q1, q2⟩ := dct_get q g ry S2.le
  cases vo with
  | none => exact q2.elim
  | some u => exact ⟨a, u, rfl, q1, k _ _ _ _ _ _ n (s1.trans s2) S2 (rzF_f q2)⟩
theorem ze_dget (h : ZE z td ρ fun c _ ρ1 => ZE z ty ρ1 fun y _ ρ2 => ∃ d, GetD c y (some d) ∧ N d false ρ2) : ZE z (tDGet td ty) ρ N := fun m F H σ Q S k => by
  refine h m F H σ _ S fun c fc ρ1 F1 H1 vc n1 s1 S1 r1 => ?_
  obtain ⟨F2, s2, S2, rc⟩ := rzF_frz S1 r1
  refine n1 m F2 H1 σ _ S2 fun y fy ρ2 F3 H2 vy n2 s3 S3 r3 => ?_
  obtain ⟨F4, s4, S4, ry⟩ := rzF_frz S3 r3
  obtain ⟨d, g, n⟩ := n2
  obtain ⟨a, rfl, q⟩ := rz_dct (rz_mono (s3.trans s4) _ _ rc) S4.le g.isDd
  obtain ⟨vo, q1, q2⟩ := dct_get q g ry S4.le
  cases vo with
  | none => exact q2.elim
  | some u => exact ⟨a, u, rfl, q1, k _ _ _ _ _ _ n ((s1.trans s2).trans (s3.trans s4)) S4 (rzF_f q2)⟩
theorem ze_dinv (h0 : ρ[i]? = some s0) (h : ZE z ty ρ fun y _ ρ1 => ∃ s c o, ρ1[i]? = some s ∧ Pk s c ∧ GetD c y o ∧ N (.bl o.isSome) false ρ1) : ZE z (tDIn ty (tVar i)) ρ N := fun m F H σ Q S k => by
  refine h m F H σ _ S fun y fy ρ1 F1 H1 vy n1 s1 S1 r1 => ?_
  obtain ⟨F2, s2, S2, ry⟩ := rzF_frz S1 r1
  obtain ⟨s, c, o, hs, p, g, n⟩ := n1
  obtain ⟨a, e', q⟩ := S2.peekD hs p g.isDd
  obtain ⟨vo, q1, q2⟩ := dct_get q g ry S2.le
  exact ⟨_, e', a, vo, rfl, q1, by rw [q2.isSome]; exact k _ _ _ _ _ _ n (s1.trans s2) S2 (rzF_f rzb)⟩
theorem ze_dnotinv (h0 : ρ[i]? = some s0) (h : ZE z ty ρ fun y _ ρ1 => ∃ s c o, ρ1[i]? = some s ∧ Pk s c ∧ GetD c y o ∧ N (.bl (!o.isSome)) false ρ1) : ZE z (tDNotIn ty (tVar i)) ρ N := fun m F H σ Q S k => by
  refine h m F H σ _ S fun y fy ρ1 F1 H1 vy n1 s1 S1 r1 => ?_
  obtain ⟨F2, s2, S2, ry⟩ := rzF_frz S1 r1
  obtain ⟨s, c, o, hs, p, g, n⟩ := n1
  obtain ⟨a, e', q⟩ := S2.peekD hs p g.isDd
  obtain ⟨vo, q1, q2⟩ := dct_get q g ry S2.le
  exact ⟨_, e', a, vo, rfl, q1, by rw [q2.isSome]; exact k _ _ _ _ _ _ n (s1.trans s2) S2 (rzF_f rzb)⟩
theorem ze_din (h : ZE z ty ρ fun y _ ρ1 => ZE z td ρ1 fun c _ ρ2 => ∃ o, GetD c y o ∧ N (.bl o.isSome) false ρ2) : ZE z (tDIn ty td) ρ N := fun m F H σ Q S k => by
  refine h m F H σ _ S fun y fy ρ1 F1 H1 vy n1 s1 S1 r1 => ?_
  obtain ⟨F2, s2, S2, ry⟩ := rzF_frz S1 r1
  refine n1 m F2 H1 σ _ S2 fun c fc ρ2 F3 H2 vc n2 s3 S3 r3 => ?_
  obtain ⟨F4, s4, S4, rc⟩ := rzF_frz S3 r3
  obtain ⟨o, g, n⟩ := n2
  obtain ⟨a, rfl, q⟩ := rz_dct rc S4.le g.isDd
  obtain ⟨vo, q1, q2⟩ := dct_get q g (rz_mono (s3.trans s4) _ _ ry) S4.le
  exact ⟨a, vo, rfl, q1, by rw [q2.isSome]; exact k _ _ _ _ _ _ n ((s1.trans s2).trans (s3.trans s4)) S4 (rzF_f rzb)⟩
theorem ze_dget2v (h0 : ρ[i]? = some s0) (p0 : Pk s0 c0) (hc : isDd c0 = true) (h : ZE z ty ρ fun y _ ρ1 => ZE z tx ρ1 fun x _ ρ2 => ∃ s c o, ρ2[i]? = some s ∧ Pk s c ∧ GetD c y o ∧ N (o.getD x) false ρ2) : ZE z (tDGet2 (tVar i) ty tx) ρ N := fun m F H σ Q S k => by
  obtain ⟨a, e, q0⟩ := S.peekD h0 p0 hc
  refine ⟨_, e, a, rfl, q0.isD, h m F H σ _ S fun y fy ρ1 F1 H1 vy n1 s1 S1 r1 => ?_⟩
  obtain ⟨F2, s2, S2, ry⟩ := rzF_frz S1 r1
  refine n1 m F2 H1 σ _ S2 fun x fx ρ2 F3 H2 vx n2 s3 S3 r3 => ?_
  obtain ⟨F4, s4, S4, rx⟩ := rzF_frz S3 r3
  obtain ⟨s, c, o, hs, p, g, n⟩ := n2
  obtain ⟨a', e', q⟩ := S4.peekD hs p g.isDd
  rw [e] at e'
  cases e'
  obtain ⟨vo, q1, q2⟩ := dct_get q g (rz_mono (s3.trans s4) _ _ ry) S4.le
  refine ⟨vo, q1, k _ _ _ _ _ _ n ((s1.trans s2).trans (s3.trans s4)) S4 (rzF_f ?_)⟩
  cases o <;> cases vo <;> first | exact q2.elim | exact rx | exact q2
theorem zs_dput {D : Zn} (h : ZE z tv ρ fun v _ ρ1 => ∃ s0 c0, ρ1[i]? = some s0 ∧ Pk s0 c0 ∧ ZE z ty ρ1 fun y _ ρ2 => ∃ c c', ρ2[i]? = some (.o c) ∧ PutD c y v c' ∧ D.nx (ρ2.set i (.o c'))) : ZS z (sDPut (tVar i) ty tv) ρ D := fun m F H σ E S kn kr kb kc => by
  refine h m F H σ _ S fun v fv ρ1 F1 H1 vv n1 s1 S1 r1 => ?_
  obtain ⟨F2, s2, S2, rv⟩ := rzF_frz S1 r1
  obtain ⟨s0, c0, hs0, hp0, n1⟩ := n1
  obtain ⟨u, eu⟩ := S2.has hs0 hp0
  refine ⟨u, eu, n1 m F2 H1 σ _ S2 fun y fy ρ2 F3 H2 vy n2 s3 S3 r3 => ?_⟩
  obtain ⟨F4, s4, S4, ry⟩ := rzF_frz S3 r3
  obtain ⟨c, c', hc, p, n⟩ := n2
  obtain ⟨l, el, h1, h2, h3, ho, h4, h5⟩ := S4.geto hc
  rw [eu] at el
  cases el
  have ss := (s1.trans s2).trans (s3.trans s4)
  have rv' := rz_mono (s3.trans s4) _ _ rv
  cases p with
  | k x hl =>
    obtain rfl := rz_key ry
    cases h5 with
    | dK r =>
      have hr := HoR.dK (tab_putD (k := x) r rv')
      rw [tab_putK] at hr
      exact ⟨l, _, rfl, DPut.k h4 (by rw [List.length_map] at hl; rw [sizeLine_eq]; omega), kn _ _ _ _ n ss (S4.put hc eu hr)⟩
  | t x hl =>
    simp only [Rz] at ry
    obtain ⟨b, xs, rfl, hb, rx⟩ := ry
    obtain rfl := rzl_keys rx
    cases h5 with
    | dT r =>
      have hr := HoR.dT (tab_putD (k := x) r rv')
      rw [tab_putK] at hr
      exact ⟨l, _, rfl, DPut.t h4 (S4.le.exact hb rfl) (by rw [List.length_map] at hl; rw [sizeLine_eq]; omega), kn _ _ _ _ n ss (S4.put hc eu hr)⟩
end
/-! ### a dict locked where it is walked -/
/-- behind: the dict that was locked within is open again -/
def unlN (H : Hp) (N : L2.St → Hp → Prop) : L2.St → Hp → Prop := fun σ' H' => N σ' H' ∨ ∃ d od u, (∀ o' u', H d ≠ some (.frz o' u')) ∧ H' d = some (.frz od u) ∧ N σ' (upd H' d u)
def unlV (H : Hp) (N : VK) : VK := fun v H' => N v H' ∨ ∃ d od u, (∀ o' u', H d ≠ some (.frz o' u')) ∧ H' d = some (.frz od u) ∧ N v (upd H' d u)
def tLockL (t : TS) : TS := fun D σ H => t ⟨unlN H D.nx, unlV H D.rt, unlN H D.bk, unlN H D.ct⟩ σ H
def tLockLE (t : TE) : TE := fun σ H Q => t σ H (unlV H Q)
def tLk (td : TE) : TE := fun σ H Q => td σ H fun x H1 => ∃ d u, x = .ref d ∧ ((H1 d = some u ∧ Mut (some u) ∧ ∀ o, Q x (upd H1 d (.frz o u))) ∨ Q x H1)
section
variable {X : Cx}
theorem nofrz0 {pins : List (Addr × Obj)} {σ : L2.St} {H : Hp} {s : Shared} {d : Addr} (I : Inv X pins σ H s) (h : ∀ o' u', H d ≠ some (.frz o' u')) : ∀ o' u', X.H_0 d ≠ some (.frz o' u') := fun o' u' e => h o' u' (I.base.frzs d o' u' e)
theorem ps_lockL {st : Stmt} {t : TS} (h : PS X st t) : PS X st (tLockL t) := by
  refine ⟨fun pins s σ H D I hw => ?_⟩
  refine thn (h.run pins s σ _ _ I hw) fun f s1 q => ?_
  cases f with
  | next =>
    obtain ⟨σ', H', I2, q | ⟨d, od, u, hn, e, q⟩⟩ := q
    · exact ⟨σ', _, I2, q⟩
    · exact ⟨σ', _, I2.unlock e (nofrz0 I hn), q⟩
  | brk =>
    obtain ⟨σ', H', I2, q | ⟨d, od, u, hn, e, q⟩⟩ := q
    · exact ⟨σ', _, I2, q⟩
    · exact ⟨σ', _, I2.unlock e (nofrz0 I hn), q⟩
  | cont =>
    obtain ⟨σ', H', I2, q | ⟨d, od, u, hn, e, q⟩⟩ := q
    · exact ⟨σ', _, I2, q⟩
    · exact ⟨σ', _, I2.unlock e (nofrz0 I hn), q⟩
  | ret v =>
    obtain ⟨x, σ', H', I2, r, q | ⟨d, od, u, hn, e, q⟩⟩ := q
    · exact ⟨x, σ', _, I2, r, q⟩
    · exact ⟨x, σ', _, I2.unlock e (nofrz0 I hn), r, q⟩
theorem pe_lockL {e : Expr} {t : TE} (h : PE X e t) : PE X e (tLockLE t) := by
  refine ⟨fun pins s σ H Q I hw => ?_⟩
  refine thn (h.run pins s σ _ _ I hw) fun v s1 q => ?_
  obtain ⟨x, H1, I2, r, q | ⟨d, od, u, hn, e, q⟩⟩ := q
  · exact ⟨x, _, I2, r, q⟩
  · exact ⟨x, _, I2.unlock e (nofrz0 I hn), r, q⟩
theorem pe_lk {e : Expr} {t : TE} (h : PE X e t) : PE X e (tLk t) := by
  refine ⟨fun pins s σ H Q I hw => ?_⟩
  refine thn (h.run pins s σ _ _ I hw) fun v s1 q => ?_
  obtain ⟨x, H1, I2, r, d, u, rfl, ⟨e, mu, q⟩ | q⟩ := q
  · obtain ⟨od, I3⟩ := I2.lock e mu
    exact ⟨_, _, I3, r, q od⟩
  · exact ⟨_, _, I2, r, q⟩
end
/-! ### held things -/
def Fm.pin (m : Fm) (l : Addr) (o : HO) : Fm := { m with J := upd m.J l o, hd := fun a => m.hd a ∨ a = l }
def Fm.lock (m : Fm) (l : Addr) (o : HO) : Fm := { m with J := upd m.J l o }
def undo (un : Option (Addr × HO)) (H : Hp) : Hp := match un with
  | none => H
  | some (d, u) => upd H d u
structure Back (z : Cz) (H0 F1 : Hp) (m m' : Fm) (un : Option (Addr × HO)) (bp : List Sl → Prop) (bm : List Sl → List Sl) : Prop where
  leg : ∀ d u, un = some (d, u) → ∀ o' u', H0 d ≠ some (.frz o' u')
  fz : ∀ F H, Sc z m' F H → ∀ d u, un = some (d, u) → ∃ od, H d = some (.frz od u)
  sm : ∀ F H σ ρ, Same F1 F → Sm z m' F H σ ρ → bp ρ → Sm z m F (undo un H) σ (bm ρ)
  bb : m'.B = m.B
  rt : ∀ F H fr d v, Same F1 F → RtR z m' F H fr d v → RtR z m F (undo un H) fr d v
section
variable {z : Cz} {m : Fm} {F H : Hp} {σ : L2.St} {ρ : List Sl} {i : Nat} {d : Dt} {l : Addr}
theorem Back.id {H0 F1 : Hp} : Back z H0 F1 m m none (fun _ => True) (fun ρ => ρ) := ⟨fun _ _ e => (nomatch e), fun _ _ _ _ _ e => (nomatch e), fun _ _ _ _ _ S _ => S, rfl, fun _ _ _ _ _ _ R => R⟩
/-- an owned thing is held: a list as it stands; ho' what is told of it within -/
theorem Sm.pin {ho ho' : HO} (S : Sm z m F H σ ρ) (h : ρ[i]? = some (.o d)) (e : σ[i]? = some (some (.ref l))) (hl : H l = some ho) (k : ho' = ho ∨ isDk ho = true ∧ ∃ ob, ho' = .frz ob ho) :
    Sm z (m.pin l ho') F (upd H l ho') σ (ρ.set i (.l l d)) := by
  obtain ⟨l', e', h1, h2, h3, ho2, h4, h5⟩ := S.geto h
  rw [e] at e'
  cases e'
  rw [hl] at h4
  cases h4
  have nt : isTp ho' = false := by
    rcases k with rfl | ⟨_, ob, rfl⟩
    · exact h5.notTp
    · rfl
  have C : Sc z (m.pin l ho') F (upd H l ho') := ⟨fun a o q => by
      have n : a ≠ l := fun c => by rw [c, h1] at q; cases q
      show upd H l ho' a = some o ∨ _
      rw [upd_ne n]
      refine (S.lk a o q).elim .inl fun ⟨p, ob, p1, p2⟩ => .inr ⟨p, ob, p1, ?_⟩
      show upd m.J l ho' a = _
      rw [upd_ne n]
      exact p2, fun a o q => by
      have q : upd m.J l ho' a = some o := q
      by_cases c : a = l
      · rw [c, upd_same] at q ⊢; exact q
      · rw [upd_ne c] at q ⊢; exact S.base a o q, S.fr, fun a q => by
      by_cases c : a = l
      · rw [c, upd_same] at q; cases q
      · rw [upd_ne c] at q; exact S.dom a q, fun a o q => by
      have n : a ≠ l := fun c => by
        have q : m.B a = some o := q
        rw [c, h2] at q; cases q
      show upd m.J l ho' a = some o ∨ _
      rw [upd_ne n]
      refine (S.bj a o q).elim .inl fun ⟨p, ob, p1⟩ => .inr ⟨p, ob, ?_⟩
      show upd m.J l ho' a = _
      rw [upd_ne n]
      exact p1, S.er, fun a ha => by
      rcases ha with ha | rfl
      · obtain ⟨q1, o, q2, q3⟩ := S.hid a ha
        refine ⟨q1, o, ?_, q3⟩
        show upd m.J l ho' a = _
        rw [upd_ne (fun c => by rw [c, h3] at q2; cases q2)]
        exact q2
      · exact ⟨h1, ho', upd_same, nt⟩, fun a ob u q => by
      show upd m.J l ho' a = _
      by_cases c : a = l
      · rw [c, upd_same] at q ⊢; exact q
      · rw [upd_ne c] at q ⊢; exact S.fj a ob u q⟩
  have hi : i < ρ.length := (List.getElem?_eq_some_iff.mp h).1
  refine { C with len := by rw [List.length_set]; exact S.len, slot := fun j s ov a b => ?_, sep := fun j k d1 d2 l' a b c c' => ?_, psep := fun j k q d1 d2 a b => ?_ }
  · by_cases c : i = j
    · subst c
      rw [List.getElem?_set_self hi] at a
      cases a
      rw [e] at b
      cases b
      refine ⟨rfl, .inr rfl, h2, ho, ?_, h5⟩
      rcases k with rfl | ⟨k1, ob, rfl⟩
      · exact .inl upd_same
      · exact .inr ⟨k1, ob, upd_same⟩
    · rw [List.getElem?_set_ne c] at a
      have q := S.slot j s ov a b
      cases s with
      | un => trivial
      | v d => exact q
      | o d2 =>
        obtain ⟨l', e', q1, q2, q3, ho2, q4, q5⟩ := q
        subst e'
        have n : l' ≠ l := fun z => c (S.sep i j _ _ l h a e (by rw [b, z]))
        refine ⟨l', rfl, q1, q2, ?_, ho2, ?_, q5⟩
        · show upd m.J l ho' l' = none
          rw [upd_ne n]; exact q3
        · rw [upd_ne n]; exact q4
      | l a2 d2 =>
        obtain ⟨q0, q1, q2, ho2, q4, q5⟩ := q
        have n : a2 ≠ l := fun z => by rw [z, h3] at q4; rcases q4 with q4 | ⟨_, _, q4⟩ <;> cases q4
        refine ⟨q0, .inl q1, q2, ho2, ?_, q5⟩
        show upd m.J l ho' a2 = some ho2 ∨ isDk ho2 = true ∧ ∃ ob, upd m.J l ho' a2 = _
        rw [upd_ne n]
        exact q4
  · have key : ∀ {x : Nat} {u : Dt}, (ρ.set i (.l l d))[x]? = some (.o u) → ρ[x]? = some (.o u) := fun {x u} p => by
      by_cases c : i = x
      · subst c
        rw [List.getElem?_set_self hi] at p
        cases p
      · rw [List.getElem?_set_ne c] at p
        exact p
    exact S.sep j k d1 d2 l' (key a) (key b) c c'
  · have key : ∀ {x : Nat} {u : Dt}, (ρ.set i (.l l d))[x]? = some (.l q u) → (x = i ∧ q = l) ∨ (ρ[x]? = some (.l q u) ∧ q ≠ l) := fun {x u} p => by
      by_cases c : i = x
      · subst c
        rw [List.getElem?_set_self hi] at p
        cases p
        exact .inl ⟨rfl, rfl⟩
      · rw [List.getElem?_set_ne c] at p
        refine .inr ⟨p, fun z => ?_⟩
        obtain ⟨ov, _, _, _, _, ho2, q4, _⟩ := S.get p
        rw [z, h3] at q4
        rcases q4 with q4 | ⟨_, _, q4⟩ <;> cases q4
    rcases key a with ⟨rfl, rfl⟩ | ⟨p1, p2⟩
    · rcases key b with ⟨rfl, _⟩ | ⟨_, p3⟩
      · rfl
      · exact absurd rfl p3
    · rcases key b with ⟨_, rfl⟩ | ⟨p3, _⟩
      · exact absurd rfl p2
      · exact S.psep j k q d1 d2 p1 p3
/-- .. and one's own again -/
theorem Sc.unpin {ho ho' : HO} (nf : ∀ ob u, ho ≠ .frz ob u) (S : Sc z (m.pin l ho') F H) (hB : m.B l = none) (hJ : m.J l = none) (hh : ¬ m.hd l) : Sc z m F (upd H l ho) := by
  obtain ⟨hF, _⟩ := S.hid l (.inr rfl)
  refine ⟨fun a o q => ?_, fun a o q => ?_, S.fr, fun a q => ?_, fun a o q => ?_, S.er, fun a ha => ?_, fun a ob u q => ?_⟩
  · have n : a ≠ l := fun c => by rw [c, hF] at q; cases q
    rw [upd_ne n]
    refine (S.lk a o q).elim .inl fun ⟨p, ob, p1, p2⟩ => .inr ⟨p, ob, p1, ?_⟩
    have p2 : upd m.J l ho' a = _ := p2
    rw [upd_ne n] at p2
    exact p2
  · have n : a ≠ l := fun c => by rw [c, hJ] at q; cases q
    rw [upd_ne n]
    refine S.base a o ?_
    show upd m.J l ho' a = _
    rw [upd_ne n]
    exact q
  · by_cases c : a = l
    · rw [c, upd_same] at q; cases q
    · rw [upd_ne c] at q; exact S.dom a q
  · have n : a ≠ l := fun c => by rw [c, hB] at q; cases q
    refine (S.bj a o q).elim (fun p => .inl ?_) fun ⟨p, ob, p1⟩ => .inr ⟨p, ob, ?_⟩
    · have p : upd m.J l ho' a = _ := p
      rw [upd_ne n] at p
      exact p
    · have p1 : upd m.J l ho' a = _ := p1
      rw [upd_ne n] at p1
      exact p1
  · obtain ⟨q1, o, q2, q3⟩ := S.hid a (.inl ha)
    refine ⟨q1, o, ?_, q3⟩
    have q2 : upd m.J l ho' a = _ := q2
    rw [upd_ne (fun c => hh (by rw [← c]; exact ha))] at q2
    exact q2
  · by_cases c : a = l
    · rw [c, upd_same] at q
      exact absurd (Option.some.inj q) (nf ob u)
    · rw [upd_ne c] at q
      have q2 : upd m.J l ho' a = _ := S.fj a ob u q
      rw [upd_ne c] at q2
      exact q2
theorem back_pin {H0 F1 : Hp} {ho ho' : HO} {un : Option (Addr × HO)} (nf : ∀ ob u, ho ≠ .frz ob u) (hB : m.B l = none) (hJ : m.J l = none) (hh : ¬ m.hd l) (k : (ho' = ho ∧ un = none) ∨ (isDk ho = true ∧ (∃ ob, ho' = .frz ob ho) ∧ un = some (l, ho) ∧ ∀ o' u', H0 l ≠ some (.frz o' u'))) :
    Back z H0 F1 m (m.pin l ho') un (fun ρ => ρ[i]? = some (.l l d)) (fun ρ => ρ.set i (.o d)) := by
  have st : ∀ {F H : Hp}, Sc z (m.pin l ho') F H → undo un H = upd H l ho ∧ H l = some ho' := fun {F H} S => by
    have q : H l = some ho' := S.base l ho' upd_same
    refine ⟨?_, q⟩
    rcases k with ⟨rfl, rfl⟩ | ⟨_, _, rfl, _⟩
    · show H = upd H l ho'
      funext b
      by_cases c : b = l
      · rw [c, upd_same]; exact q
      · rw [upd_ne c]
    · rfl
  refine ⟨fun d u e => ?_, fun F H S d u e => ?_, fun F H σ ρ _ S hb => ?_, rfl, fun F H fr d v _ R => ?_⟩
  · rcases k with ⟨_, rfl⟩ | ⟨_, _, rfl, k⟩
    · cases e
    · cases e; exact k
  · rcases k with ⟨_, rfl⟩ | ⟨_, ⟨ob, rfl⟩, rfl, _⟩
    · cases e
    · cases e; exact ⟨ob, (st S).2⟩
  · rw [(st S.toSc).1]
    obtain ⟨hF, _⟩ := S.hid l (.inr rfl)
    have hi : i < ρ.length := (List.getElem?_eq_some_iff.mp hb).1
    obtain ⟨ov, eo, ok⟩ := S.get hb
    obtain ⟨rfl, _, _, ho2, h4, h5⟩ := ok
    have eho : ho2 = ho := by
      have j : (m.pin l ho').J l = some ho' := upd_same
      rw [j] at h4
      rcases k with ⟨rfl, _⟩ | ⟨k1, ⟨ob, rfl⟩, _⟩
      · rcases h4 with h4 | ⟨k2, ob', h4⟩
        · cases h4; rfl
        · cases h4
          exact absurd rfl (nf _ _)
      · rcases h4 with h4 | ⟨_, ob', h4⟩
        · cases h4; cases h5
        · cases h4; rfl
    subst eho
    refine { Sc.unpin nf S.toSc hB hJ hh with len := by rw [List.length_set]; exact S.len, slot := fun j s ov a b => ?_, sep := fun j k' d1 d2 l' a b c c' => ?_, psep := fun j k' q d1 d2 a b => ?_ }
    · by_cases c : i = j
      · subst c
        rw [List.getElem?_set_self hi] at a
        cases a
        rw [eo] at b
        cases b
        exact ⟨l, rfl, hF, hB, hJ, ho2, upd_same, h5⟩
      · rw [List.getElem?_set_ne c] at a
        have q := S.slot j s ov a b
        cases s with
        | un => trivial
        | v d => exact q
        | o d2 =>
          obtain ⟨l', e', q1, q2, q3, ho3, q4, q5⟩ := q
          subst e'
          have q3 : upd m.J l ho' l' = none := q3
          have n : l' ≠ l := fun z => by rw [z, upd_same] at q3; cases q3
          rw [upd_ne n] at q3
          exact ⟨l', rfl, q1, q2, q3, ho3, by rw [upd_ne n]; exact q4, q5⟩
        | l a2 d2 =>
          obtain ⟨q0, q1, q2, ho3, q4, q5⟩ := q
          have n : a2 ≠ l := fun z => by
            subst z
            exact c (S.psep i j _ _ _ hb a)
          have q4 : upd m.J l ho' a2 = some ho3 ∨ isDk ho3 = true ∧ ∃ ob, upd m.J l ho' a2 = some (.frz ob ho3) := q4
          rw [upd_ne n] at q4
          exact ⟨q0, q1.elim id fun z => absurd z n, q2, ho3, q4, q5⟩
    · have key : ∀ {x : Nat} {u : Dt}, (ρ.set i (.o d))[x]? = some (.o u) → σ[x]? = some (some (.ref l')) → (x = i ∧ l' = l) ∨ (ρ[x]? = some (.o u) ∧ l' ≠ l) := fun {x u} p q => by
        by_cases c : i = x
        · subst c
          rw [eo] at q
          cases q
          exact .inl ⟨rfl, rfl⟩
        · rw [List.getElem?_set_ne c] at p
          refine .inr ⟨p, fun z => ?_⟩
          obtain ⟨l2, e2, _, _, q3, _⟩ := S.geto p
          rw [q] at e2
          cases e2
          have q3 : upd m.J l ho' l' = none := q3
          rw [z, upd_same] at q3
          cases q3
      rcases key a c with ⟨rfl, rfl⟩ | ⟨p1, p2⟩
      · rcases key b c' with ⟨rfl, _⟩ | ⟨_, p3⟩
        · rfl
        · exact absurd rfl p3
      · rcases key b c' with ⟨_, rfl⟩ | ⟨p3, _⟩
        · exact absurd rfl p2
        · exact S.sep j k' d1 d2 l' p1 p3 c c'
    · have key : ∀ {x : Nat} {u : Dt}, (ρ.set i (.o d))[x]? = some (.l q u) → ρ[x]? = some (.l q u) := fun {x u} p => by
        by_cases c : i = x
        · subst c
          rw [List.getElem?_set_self hi] at p
          cases p
        · rw [List.getElem?_set_ne c] at p
          exact p
      exact S.psep j k' q d1 d2 (key a) (key b)
  · obtain ⟨S, r⟩ := R
    rw [(st S).1]
    refine ⟨Sc.unpin nf S hB hJ hh, ?_⟩
    cases fr with
    | false => exact r
    | true =>
      rw [if_pos rfl] at r ⊢
      obtain ⟨l', rfl, q1, q2, q3, ho3, q4, q5⟩ := r
      have q3 : upd m.J l ho' l' = none := q3
      have n : l' ≠ l := fun z => by rw [z, upd_same] at q3; cases q3
      rw [upd_ne n] at q3
      exact ⟨l', rfl, q1, q2, q3, ho3, by rw [upd_ne n]; exact q4, q5⟩
/-- a frozen dict is locked -/
theorem Sm.lock {u : HO} (S : Sm z m F H σ ρ) (hF : F l = some u) (hH : H l = some u) (hu : isDk u = true) (ob : Obj) : Sm z (m.lock l (.frz ob u)) F (upd H l (.frz ob u)) σ ρ := by
  have nh : ¬ m.hd l := fun h => by rw [(S.hid l h).1] at hF; cases hF
  have nf : ∀ {o : HO}, isDk o = true → ∀ ob u, o ≠ .frz ob u := fun h ob u z => by rw [z] at h; cases h
  have C : Sc z (m.lock l (.frz ob u)) F (upd H l (.frz ob u)) := ⟨fun a o q => by
      by_cases n : a = l
      · subst n
        rw [hF] at q
        cases q
        exact .inr ⟨hu, ob, upd_same, upd_same⟩
      · rw [upd_ne n]
        refine (S.lk a o q).elim .inl fun ⟨p, ob, p1, p2⟩ => .inr ⟨p, ob, p1, ?_⟩
        show upd m.J l _ a = _
        rw [upd_ne n]
        exact p2, fun a o q => by
      have q : upd m.J l _ a = some o := q
      by_cases c : a = l
      · rw [c, upd_same] at q ⊢; exact q
      · rw [upd_ne c] at q ⊢; exact S.base a o q, S.fr, fun a q => by
      by_cases c : a = l
      · rw [c, upd_same] at q; cases q
      · rw [upd_ne c] at q; exact S.dom a q, fun a o q => by
      show upd m.J l _ a = some o ∨ isDk o = true ∧ ∃ ob, upd m.J l _ a = _
      by_cases n : a = l
      · subst n
        rw [upd_same]
        rcases S.bj a o q with p | ⟨p, ob', p1⟩
        · have := S.base _ _ p
          rw [hH] at this
          cases this
          exact .inr ⟨hu, ob, rfl⟩
        · have := S.base _ _ p1
          rw [hH] at this
          cases this
          cases hu
      · rw [upd_ne n]
        exact S.bj a o q, S.er, fun a ha => by
      obtain ⟨q1, o, q2, q3⟩ := S.hid a ha
      refine ⟨q1, o, ?_, q3⟩
      show upd m.J l _ a = _
      rw [upd_ne (fun c => nh (by rw [← c]; exact ha))]
      exact q2, fun a ob' u' q => by
      show upd m.J l _ a = _
      by_cases c : a = l
      · rw [c, upd_same] at q ⊢; exact q
      · rw [upd_ne c] at q ⊢; exact S.fj a ob' u' q⟩
  refine { C with len := S.len, slot := fun j s ov a b => ?_, sep := S.sep, psep := S.psep }
  have q := S.slot j s ov a b
  cases s with
  | un => trivial
  | v d => exact q
  | o d2 =>
    obtain ⟨l', e', q1, q2, q3, ho2, q4, q5⟩ := q
    have n : l' ≠ l := fun z => by rw [z, hF] at q1; cases q1
    refine ⟨l', e', q1, q2, ?_, ho2, by rw [upd_ne n]; exact q4, q5⟩
    show upd m.J l _ l' = none
    rw [upd_ne n]; exact q3
  | l a2 d2 =>
    obtain ⟨q0, q1, q2, ho2, q4, q5⟩ := q
    have n : a2 ≠ l := fun z => nh (by rw [← z]; exact q1)
    refine ⟨q0, q1, q2, ho2, ?_, q5⟩
    show upd m.J l _ a2 = some ho2 ∨ isDk ho2 = true ∧ ∃ ob, upd m.J l _ a2 = _
    rw [upd_ne n]
    exact q4
theorem back_lock {H0 F1 : Hp} {u : HO} {ob : Obj} (hl : ∀ o' u', H0 l ≠ some (.frz o' u')) (hF : F1 l = some u) (hJ : ∀ o, m.J l = some o → o = u) (hB : ∀ o, m.B l = some o → m.J l = some o) (hu : isDk u = true) (nh : ¬ m.hd l) : Back z H0 F1 m (m.lock l (.frz ob u)) (some (l, u)) (fun _ => True) (fun ρ => ρ) := by
  have st : ∀ {F H : Hp}, Sc z (m.lock l (.frz ob u)) F H → H l = some (.frz ob u) := fun {F H} S => S.base l _ upd_same
  have un : ∀ {F H : Hp}, Same F1 F → Sc z (m.lock l (.frz ob u)) F H → Sc z m F (upd H l u) := fun {F H} sF S => by
    have hH := st S
    refine ⟨fun a o q => ?_, fun a o q => ?_, S.fr, fun a q => ?_, fun a o q => ?_, S.er, fun a ha => ?_, fun a ob' u' q => ?_⟩
    · by_cases n : a = l
      · subst n
        rw [upd_same]
        have := sF _ _ hF
        rw [q] at this
        exact .inl this.symm
      · rw [upd_ne n]
        refine (S.lk a o q).elim .inl fun ⟨p, ob, p1, p2⟩ => .inr ⟨p, ob, p1, ?_⟩
        have p2 : upd m.J l _ a = _ := p2
        rw [upd_ne n] at p2
        exact p2
    · by_cases n : a = l
      · subst n
        rw [upd_same, hJ o q]
      · rw [upd_ne n]
        refine S.base a o ?_
        show upd m.J l _ a = _
        rw [upd_ne n]
        exact q
    · by_cases c : a = l
      · rw [c, upd_same] at q; cases q
      · rw [upd_ne c] at q; exact S.dom a q
    · by_cases n : a = l
      · subst n
        exact .inl (hB o q)
      · refine (S.bj a o q).elim (fun p => .inl ?_) fun ⟨p, ob, p1⟩ => .inr ⟨p, ob, ?_⟩
        · have p : upd m.J l _ a = _ := p
          rw [upd_ne n] at p
          exact p
        · have p1 : upd m.J l _ a = _ := p1
          rw [upd_ne n] at p1
          exact p1
    · obtain ⟨q1, o, q2, q3⟩ := S.hid a ha
      refine ⟨q1, o, ?_, q3⟩
      have q2 : upd m.J l _ a = _ := q2
      rw [upd_ne (fun c => nh (by rw [← c]; exact ha))] at q2
      exact q2
    · by_cases c : a = l
      · rw [c, upd_same] at q
        cases q
        cases hu
      · rw [upd_ne c] at q
        have q2 : upd m.J l _ a = _ := S.fj a ob' u' q
        rw [upd_ne c] at q2
        exact q2
  have jn : ∀ {x : Addr}, (m.lock l (.frz ob u)).J x = none → x ≠ l ∧ m.J x = none := fun {x} q => by
    have q : upd m.J l (.frz ob u) x = none := q
    have n : x ≠ l := fun z => by rw [z, upd_same] at q; cases q
    rw [upd_ne n] at q
    exact ⟨n, q⟩
  refine ⟨fun d u' e => ?_, fun F H S d u' e => ?_, fun F H σ ρ sF S _ => ?_, rfl, fun F H fr d v sF R => ?_⟩
  · cases e; exact hl
  · cases e; exact ⟨ob, st S⟩
  · refine { un sF S.toSc with len := S.len, slot := fun j s ov a b => ?_, sep := S.sep, psep := S.psep }
    have q := S.slot j s ov a b
    cases s with
    | un => trivial
    | v d => exact q
    | o d2 =>
      obtain ⟨l', e', q1, q2, q3, ho2, q4, q5⟩ := q
      obtain ⟨n, q3⟩ := jn q3
      exact ⟨l', e', q1, q2, q3, ho2, by show upd H l u l' = _; rw [upd_ne n]; exact q4, q5⟩
    | l a2 d2 =>
      obtain ⟨q0, q1, q2, ho2, q4, q5⟩ := q
      have n : a2 ≠ l := fun z => nh (by rw [← z]; exact q1)
      have q4 : upd m.J l _ a2 = some ho2 ∨ isDk ho2 = true ∧ ∃ ob, upd m.J l _ a2 = _ := q4
      rw [upd_ne n] at q4
      exact ⟨q0, q1, q2, ho2, q4, q5⟩
  · obtain ⟨S, r⟩ := R
    refine ⟨un sF S, ?_⟩
    cases fr with
    | false => exact r
    | true =>
      rw [if_pos rfl] at r ⊢
      obtain ⟨l', rfl, q1, q2, q3, ho3, q4, q5⟩ := r
      obtain ⟨n, q3⟩ := jn q3
      exact ⟨l', rfl, q1, q2, q3, ho3, by show upd H l u l' = _; rw [upd_ne n]; exact q4, q5⟩
end
/-! ### what is walked -/
/-- the walk begins: perhaps behind a lock -/
def ZI (z : Cz) (wi : TI) (ρ : List Sl) (N : List Dt → List Sl → (List Sl → Prop) → (List Sl → List Sl) → Prop) : Prop := ∀ m F H σ R, Sm z m F H σ ρ →
  (∀ ds ρ' bp bm m' un F' H' Jt, N ds ρ' bp bm → Same F F' → Back z H F' m m' un bp bm → Sm z m' F' H' σ ρ' → ItZ z m' F' Jt ds → R Jt H') → wi σ H R
section
variable {z : Cz} {ρ : List Sl} {wi : TI} {g : TG} {tb : TS} {N : Zn} {I : List Dt → List Sl → (List Sl → Prop) → (List Sl → List Sl) → Prop}
/-- a for: the states that the turns reach -/
theorem zs_forL (h : ZI z wi ρ fun ds ρ1 bp bm => ∃ W : Nat → List Sl → Prop, W 0 ρ1 ∧ (∀ ρ2, W ds.length ρ2 → bp ρ2 ∧ N.nx (bm ρ2)) ∧
    ∀ i d ρ2, ds[i]? = some d → W i ρ2 → ZG z g d false ρ2 fun ρ3 => ZS z tb ρ3 ⟨W (i + 1), N.rt, fun ρ4 => bp ρ4 ∧ N.nx (bm ρ4), W (i + 1)⟩) : ZS z (tLockL (tFor wi g tb)) ρ N := fun m F H σ D S kn kr kb kc => by
  refine h m F H σ _ S fun ds ρ1 bp bm m' un F1 H1 Jt n1 s1 B S1 it => ?_
  obtain ⟨W, w0, wd, ws⟩ := n1
  obtain ⟨n, G, Y, wk, rfl, gk, yk⟩ := it
  have toN : ∀ F2 H2 σ2 ρ2, Same F1 F2 → Sm z m' F2 H2 σ2 ρ2 → bp ρ2 ∧ N.nx (bm ρ2) → unlN H D.nx σ2 H2 := fun F2 H2 σ2 ρ2 s2 S2 q => by
    have S3 := B.sm F2 H2 σ2 ρ2 s2 S2 q.1
    cases un with
    | none => exact .inl (kn _ _ _ _ q.2 (s1.trans s2) S3)
    | some p =>
      obtain ⟨d, u⟩ := p
      obtain ⟨od, e⟩ := B.fz F2 H2 S2.toSc d u rfl
      exact .inr ⟨d, od, u, B.leg d u rfl, e, kn _ _ _ _ q.2 (s1.trans s2) S3⟩
  refine for_it wk (D := ⟨unlN H D.nx, unlV H D.rt, unlN H D.bk, unlN H D.ct⟩) (fun i σ2 H2 => ∃ F2 ρ2, W i ρ2 ∧ Same F1 F2 ∧ Sm z m' F2 H2 σ2 ρ2) ⟨F1, ρ1, w0, Same.refl F1, S1⟩ ?_ ?_ ?_
  · rintro i σ2 H2 hi ⟨F2, ρ2, w, s2, S2⟩
    exact gk F2 H2 s2 S2.le S2.base
  · rintro i x σ2 H2 H3 hi ⟨F2, ρ2, w, s2, S2⟩ y
    obtain ⟨F3, s3, S3, rx⟩ := yk m' i ds[i] F2 H2 H3 x σ2 ρ2 rfl (List.getElem?_eq_getElem hi) s2 S2 y
    refine ws i ds[i] ρ2 (List.getElem?_eq_getElem hi) w m' F3 H3 σ2 x _ S3 (rzF_f rx) fun ρ4 F4 H4 σ4 n4 s4 S4 => ?_
    have ss := s2.trans (s3.trans s4)
    refine n4 m' F4 H4 σ4 _ S4 (fun ρ5 F5 H5 σ5 w5 s5 S5 => ⟨F5, ρ5, w5, ss.trans s5, S5⟩) (fun d fr F5 H5 v q s5 R => ?_) (fun ρ5 F5 H5 σ5 w5 s5 S5 => toN _ _ _ _ (ss.trans s5) S5 w5) fun ρ5 F5 H5 σ5 w5 s5 S5 => ⟨F5, ρ5, w5, ss.trans s5, S5⟩
    have R2 := B.rt F5 H5 fr d v (ss.trans s5) R
    cases un with
    | none => exact .inl (kr _ _ _ _ _ q (s1.trans (ss.trans s5)) R2)
    | some p =>
      obtain ⟨d', u⟩ := p
      obtain ⟨od, e⟩ := B.fz F5 H5 R.1 d' u rfl
      exact .inr ⟨d', od, u, B.leg d' u rfl, e, kr _ _ _ _ _ q (s1.trans (ss.trans s5)) R2⟩
  · rintro σ2 H2 ⟨F2, ρ2, w, s2, S2⟩
    exact toN _ _ _ _ s2 S2 (wd ρ2 w)
end
/-! ### walks -/
theorem upd_self2 {H : Hp} {a : Addr} {o : HO} (h : H a = some o) : upd H a o = H := by
  funext b
  by_cases c : b = a
  · rw [c, upd_same, h]
  · rw [upd_ne c]
section
variable {z : Cz} {ρ : List Sl} {I : List Dt → List Sl → (List Sl → Prop) → (List Sl → List Sl) → Prop} {te : TE} {ta : TA} {i : Nat}
abbrev bT : List Sl → Prop := fun _ => True
abbrev bI : List Sl → List Sl := fun ρ => ρ
theorem it_list {m : Fm} {F : Hp} {K : PySem.W.Frag} {a : Addr} {xs : List V} {ds : List Dt} (hg : ∀ F' H', Same F F' → Le F' H' → Same m.J H' → H' a = some (.lst xs)) (r : Rzl z.K m.B F ds xs) : ItZ z m F (Itl K a) ds :=
  ⟨xs.length, _, _, walk_list, r.len, fun F' H' f le b => SqL.of (hg F' H' f le b), fun m2 i d F' H' H'' x σ ρ eb e f S y => by
    obtain ⟨rfl, y⟩ := y
    obtain ⟨v, e2, r2⟩ := r.at_ e
    rw [y] at e2
    cases e2
    exact ⟨F', Same.refl F', S, rz_mono f _ _ r2⟩⟩
theorem zi_list {K : PySem.W.Frag} (h : ZE z te ρ fun x _ ρ1 => ∃ t ds, x = .lst t ds ∧ I ds ρ1 bT bI) : ZI z (iList K te) ρ I := fun m F H σ R S k => by
  refine h m F H σ _ S fun x fx ρ1 F1 H1 vx n1 s1 S1 r1 => ?_
  obtain ⟨F2, s2, S2, rx⟩ := rzF_frz S1 r1
  obtain ⟨t, ds, rfl, n⟩ := n1
  simp only [Rz] at rx
  obtain ⟨a, xs, rfl, e, _, r⟩ := rx
  exact ⟨a, rfl, ⟨xs, SqL.of (S2.le.exact e rfl)⟩, k _ _ _ _ _ _ _ _ _ n (s1.trans s2) .id S2 (it_list (fun F' H' f le _ => le.exact (f _ _ e) rfl) r)⟩
/-- an owned list, held meanwhile -/
theorem zi_listo {K : PySem.W.Frag} {t : Bool} {ds : List Dt} (h : ρ[i]? = some (.o (.lst t ds))) (n : ∀ l, I ds (ρ.set i (.l l (.lst t ds))) (fun ρ => ρ[i]? = some (.l l (.lst t ds))) (fun ρ => ρ.set i (.o (.lst t ds)))) : ZI z (iList K (tVar i)) ρ I := fun m F H σ R S k => by
  obtain ⟨l, e, h1, h2, h3, ho, h4, h5⟩ := S.geto h
  cases h5 with
  | @lst xs _ r =>
    refine ⟨.ref l, e, l, rfl, ⟨xs, SqL.of h4⟩, ?_⟩
    have S' := S.pin (ho' := .lst xs) h e h4 (.inl rfl)
    rw [upd_self2 h4] at S'
    have nh : ¬ m.hd l := fun q => by
      obtain ⟨_, o, q2, _⟩ := S.hid l q
      rw [h3] at q2
      cases q2
    exact k _ _ _ _ _ _ _ _ _ (n l) (Same.refl F) (back_pin (fun ob u q => HO.noConfusion q) h2 h3 nh (.inl ⟨rfl, rfl⟩)) S' (it_list (fun F' H' _ _ b => b _ _ upd_same) r)
theorem zi_tup {K : PySem.W.Frag} (h : ZE z te ρ fun x _ ρ1 => ∃ ds, x = .tup ds ∧ I ds ρ1 bT bI) : ZI z (iTup K te) ρ I := fun m F H σ R S k => by
  refine h m F H σ _ S fun x fx ρ1 F1 H1 vx n1 s1 S1 r1 => ?_
  obtain ⟨F2, s2, S2, rx⟩ := rzF_frz S1 r1
  obtain ⟨ds, rfl, n⟩ := n1
  simp only [Rz] at rx
  obtain ⟨a, xs, rfl, e, r⟩ := rx
  refine ⟨a, rfl, ⟨xs, SqT.of (S2.le.exact e rfl)⟩, k _ _ _ _ _ _ _ _ _ n (s1.trans s2) .id S2 ⟨xs.length, _, _, walk_tup, r.len, fun F' H' f le b => SqT.of (le.exact (f _ _ e) rfl), fun m2 i d F' H' H'' x σ ρ eb e f S y => ?_⟩⟩
  obtain ⟨rfl, y⟩ := y
  obtain ⟨v, e2, r2⟩ := r.at_ e
  rw [y] at e2
  cases e2
  exact ⟨F', Same.refl F', S, rz_mono f _ _ r2⟩
theorem zi_range1 (h : ZA z ta ρ fun ds ρ1 => ∃ j : Int, ds = [.int j] ∧ -(2 ^ 62) ≤ j ∧ j < 2 ^ 62 ∧ I ((List.range j.toNat).map fun (i : Nat) => Dt.int (i : Int)) ρ1 bT bI) : ZI z (iRng1 ta) ρ I := fun m F H σ R S k => by
  refine h m F H σ _ S fun ds ρ1 F1 H1 vs n1 s1 S1 r1 => ?_
  obtain ⟨j, rfl, h1, h2, n⟩ := n1
  obtain ⟨v, r, rfl, rv, rr⟩ := r1.inv
  obtain rfl := rz_i rv
  obtain rfl := rr.inv0
  refine ⟨j, rfl, h1, h2, k _ _ _ _ _ _ _ _ _ n s1 .id S1 ⟨j.toNat, _, _, walk_range, by simp, fun _ _ _ _ _ => trivial, fun m2 i d F' H' H'' x σ ρ eb e f S y => ?_⟩⟩
  obtain ⟨rfl, rfl⟩ := y
  rw [List.getElem?_map] at e
  cases q : (List.range j.toNat)[i]? with
  | none => rw [q] at e; cases e
  | some u =>
    rw [q] at e
    cases e
    have := (List.getElem?_eq_some_iff.mp q).2
    rw [List.getElem_range] at this
    subst this
    exact ⟨F', Same.refl F', S, by simp [Rz]⟩
/-! dicts -/
/-- a frozen dict opened for a walk -/
theorem lk_open {m : Fm} {F F0 H H0 : Hp} {σ : L2.St} {ρ0 : List Sl} {a : Addr} {u : HO} {Q : V → Hp → Prop} {σ0 : L2.St} (S0 : Sm z m F0 H0 σ0 ρ0) (S : Sm z m F H σ ρ) (hF : F a = some u) (hu : isDk u = true) (mu : Mut (some u))
    (k : ∀ m' un ob H', Back z H0 F m m' un bT bI → Sm z m' F H' σ ρ → m'.J a = some (.frz ob u) → H' a = some (.frz ob u) → Q (.ref a) H') : ∃ d u', V.ref a = .ref d ∧ ((H d = some u' ∧ Mut (some u') ∧ ∀ o, Q (.ref a) (upd H d (.frz o u'))) ∨ Q (.ref a) H) := by
  refine ⟨a, u, rfl, ?_⟩
  rcases S.lk a u hF with h | ⟨_, ob, h, j⟩
  · refine .inl ⟨h, mu, fun o => k _ (some (a, u)) o _ ?_ (S.lock hF h hu o) upd_same upd_same⟩
    have nh : ¬ m.hd a := fun q => by rw [(S.hid a q).1] at hF; cases hF
    refine back_lock (fun o' u' q => ?_) hF (fun o q => ?_) (fun o q => ?_) hu nh
    · have := S.base _ _ (S0.fj a o' u' q)
      rw [h] at this
      cases this
      cases hu
    · have := S.base _ _ q
      rw [h] at this
      exact (Option.some.inj this).symm
    · rcases S.bj a o q with p | ⟨p, ob, p1⟩
      · exact p
      · have := S.base _ _ p1
        rw [h] at this
        cases this
        cases hu
  · exact .inr (k _ _ ob _ .id S j h)
theorem it_keys {m : Fm} {F : Hp} {a : Addr} {kvs : List (Key × V)} {ob : Obj} (j : m.J a = some (.frz ob (.dK kvs))) : ItZ z m F (Itk a ob kvs) ((kvs.map Prod.fst).map keyD) :=
  ⟨kvs.length, _, _, walk_keys, by simp, fun F' H' f le b => b _ _ j, fun m2 i d F' H' H'' x σ ρ eb e f S y => by
    obtain ⟨rfl, k, v, e2, rfl⟩ := y
    rw [List.getElem?_map, List.getElem?_map, e2] at e
    cases e
    exact ⟨F', Same.refl F', S, key_rz k⟩⟩
theorem it_keysT {m : Fm} {F : Hp} {a : Addr} {kvs : List (List Key × V)} {ob : Obj} (j : m.J a = some (.frz ob (.dT kvs))) : ItZ z m F (Itkt a ob kvs) ((kvs.map Prod.fst).map fun k => .tup (k.map keyD)) :=
  ⟨kvs.length, _, _, walk_keysT, by simp, fun F' H' f le b => b _ _ j, fun m2 i d F' H' H'' x σ ρ eb e f S y => by
    obtain ⟨rfl, k, v, q, e2, rfl, hq⟩ := y
    rw [List.getElem?_map, List.getElem?_map, e2] at e
    cases e
    obtain ⟨F'', f2, h2, S2⟩ := S.tup hq
    exact ⟨F'', f2, S2, by simp only [Rz]; exact ⟨q, _, rfl, h2, keys_rzl k⟩⟩⟩
theorem it_vals {m : Fm} {F : Hp} {a : Addr} {kvs : List (Key × V)} {ob : Obj} {ds : List Dt} (j : m.J a = some (.frz ob (.dK kvs))) (r : Rzl z.K m.B F ds (kvs.map Prod.snd)) : ItZ z m F (Itd a ob kvs) ds :=
  ⟨kvs.length, _, _, walk_values, by rw [← r.len]; simp, fun F' H' f le b => b _ _ j, fun m2 i d F' H' H'' x σ ρ eb e f S y => by
    obtain ⟨rfl, k, e2⟩ := y
    obtain ⟨v, e3, r3⟩ := r.at_ e
    rw [List.getElem?_map, e2] at e3
    cases e3
    exact ⟨F', Same.refl F', S, rz_mono f _ _ r3⟩⟩
def pairsD (ks : List Key) (ds : List Dt) : List Dt := List.zipWith (fun k d => .tup [keyD k, d]) ks ds
theorem it_items {m : Fm} {F : Hp} {a : Addr} {kvs : List (Key × V)} {ob : Obj} {ds : List Dt} (j : m.J a = some (.frz ob (.dK kvs))) (r : Rzl z.K m.B F ds (kvs.map Prod.snd)) : ItZ z m F (Iti a ob kvs) (pairsD (kvs.map Prod.fst) ds) :=
  ⟨kvs.length, _, _, walk_items, by unfold pairsD; rw [List.length_zipWith, ← r.len]; simp, fun F' H' f le b => b _ _ j, fun m2 i d F' H' H'' x σ ρ eb e f S y => by
    obtain ⟨T, kx, vx, rfl, hT, rfl, e2, e3⟩ := y
    dsimp only at e2 e3
    cases q : kvs[i]? with
    | none => rw [q] at e2; cases e2
    | some p =>
      rw [q] at e2 e3
      cases e2
      cases e3
      unfold pairsD at e
      rw [List.getElem?_zipWith, List.getElem?_map, q] at e
      obtain ⟨d', hd, rd⟩ := r.back (i := i) (v := p.2) (by rw [List.getElem?_map, q]; rfl)
      rw [hd] at e
      cases e
      obtain ⟨f2, S2⟩ := S.new (o := .tup [kV p.1, p.2]) hT
      exact ⟨_, f2, S2, by simp only [Rz]; exact ⟨T, _, rfl, upd_same, .cons (key_rz _) (.cons (rz_mono (f.trans f2) _ _ rd) .nil)⟩⟩⟩
/-- values, items -/
theorem zi_dK {wi : TE → TI} {f : List Key → List Dt → List Dt} {Jt : Addr → Obj → List (Key × V) → It}
    (hw : ∀ td σ H R, (td σ H fun x H1 => ∃ d o kvs, x = .ref d ∧ H1 d = some (.frz o (.dK kvs)) ∧ R (Jt d o kvs) H1) → wi td σ H R)
    (it : ∀ m F a kvs ob ds, m.J a = some (.frz ob (.dK kvs)) → Rzl z.K m.B F ds (kvs.map Prod.snd) → ItZ z m F (Jt a ob kvs) (f (kvs.map Prod.fst) ds))
    (h : ZE z te ρ fun c _ ρ1 => ∃ t ks ds, c = .dic t ks ds ∧ I (f ks ds) ρ1 bT bI) : ZI z (wi (tLk te)) ρ I := fun m F H σ R S k => by
  refine hw _ _ _ _ (h m F H σ _ S fun c fc ρ1 F1 H1 vc n1 s1 S1 r1 => ?_)
  obtain ⟨F2, s2, S2, rc⟩ := rzF_frz S1 r1
  obtain ⟨t, ks, ds, rfl, n⟩ := n1
  simp only [Rz] at rc
  obtain ⟨a, kvs, rfl, e, _, rfl, r⟩ := rc
  refine lk_open (Q := fun x H1 => ∃ d o kvs, x = .ref d ∧ H1 d = some (.frz o (.dK kvs)) ∧ R (Jt d o kvs) H1) S S2 e rfl trivial fun m' un ob H' B S3 j hh => ?_
  exact ⟨a, ob, kvs, rfl, hh, k _ _ _ _ _ _ _ _ _ n (s1.trans s2) B S3 (it m' F2 a kvs ob ds j (by rw [B.bb]; exact r))⟩
theorem zi_vals (h : ZE z te ρ fun c _ ρ1 => ∃ t ks ds, c = .dic t ks ds ∧ I ds ρ1 bT bI) : ZI z (iVals (tLk te)) ρ I := zi_dK (wi := iVals) (f := fun _ ds => ds) (fun _ _ _ _ h => h) (fun _ _ _ _ _ _ j r => it_vals j r) h
theorem zi_items (h : ZE z te ρ fun c _ ρ1 => ∃ t ks ds, c = .dic t ks ds ∧ I (pairsD ks ds) ρ1 bT bI) : ZI z (iItems (tLk te)) ρ I := zi_dK (wi := iItems) (f := pairsD) (fun _ _ _ _ h => h) (fun _ _ _ _ _ _ j r => it_items j r) h
/-- keys of either kind -/
def keysD : Dt → Option (List Dt)
  | .dic _ ks _ => some (ks.map keyD)
  | .dit _ ks _ => some (ks.map fun k => .tup (k.map keyD))
  | _ => none
theorem zi_keys (h : ZE z te ρ fun c _ ρ1 => ∃ es, keysD c = some es ∧ I es ρ1 bT bI) : ZI z (iKeys (tLk te)) ρ I := fun m F H σ R S k => by
  refine h m F H σ _ S fun c fc ρ1 F1 H1 vc n1 s1 S1 r1 => ?_
  obtain ⟨F2, s2, S2, rc⟩ := rzF_frz S1 r1
  obtain ⟨es, he, n⟩ := n1
  unfold keysD at he
  split at he <;> first | cases he | skip
  · simp only [Rz] at rc
    obtain ⟨a, kvs, rfl, e, _, rfl, r⟩ := rc
    exact lk_open (Q := fun x H1 => ∃ d o, x = .ref d ∧ ((∃ kvs, H1 d = some (.frz o (.dK kvs)) ∧ R (Itk d o kvs) H1) ∨ ∃ kvs, H1 d = some (.frz o (.dT kvs)) ∧ R (Itkt d o kvs) H1)) S S2 e rfl trivial fun m' un ob H' B S3 j hh =>
      ⟨a, ob, rfl, .inl ⟨kvs, hh, k _ _ _ _ _ _ _ _ _ n (s1.trans s2) B S3 (it_keys j)⟩⟩
  · simp only [Rz] at rc
    obtain ⟨a, kvs, rfl, e, _, rfl, r⟩ := rc
    exact lk_open (Q := fun x H1 => ∃ d o, x = .ref d ∧ ((∃ kvs, H1 d = some (.frz o (.dK kvs)) ∧ R (Itk d o kvs) H1) ∨ ∃ kvs, H1 d = some (.frz o (.dT kvs)) ∧ R (Itkt d o kvs) H1)) S S2 e rfl trivial fun m' un ob H' B S3 j hh =>
      ⟨a, ob, rfl, .inr ⟨kvs, hh, k _ _ _ _ _ _ _ _ _ n (s1.trans s2) B S3 (it_keysT j)⟩⟩
/-- keys of an owned dict, held meanwhile -/
theorem zi_keyso {c : Dt} {es : List Dt} (h : ρ[i]? = some (.o c)) (he : keysD c = some es) (n : ∀ l, I es (ρ.set i (.l l c)) (fun ρ => ρ[i]? = some (.l l c)) (fun ρ => ρ.set i (.o c))) : ZI z (iKeys (tLk (tVar i))) ρ I := fun m F H σ R S k => by
  obtain ⟨l, e, h1, h2, h3, ho, h4, h5⟩ := S.geto h
  have nh : ¬ m.hd l := fun q => by
    obtain ⟨_, o, q2, _⟩ := S.hid l q
    rw [h3] at q2
    cases q2
  have leg : ∀ o' u', H l ≠ some (.frz o' u') := fun o' u' q => by
    rw [h4] at q
    cases q
    exact absurd h5.notFz (fun z => nomatch z)
  cases h5 with
  | lst r => cases he
  | @dK kvs _ r =>
    cases he
    refine ⟨.ref l, e, l, _, rfl, .inl ⟨h4, trivial, fun o => ⟨l, o, rfl, .inl ⟨kvs, upd_same, ?_⟩⟩⟩⟩
    exact k _ _ _ _ _ _ _ _ _ (n l) (Same.refl F) (back_pin (fun ob u q => HO.noConfusion q) h2 h3 nh (.inr ⟨rfl, ⟨o, rfl⟩, rfl, leg⟩)) (S.pin (ho' := .frz o (.dK kvs)) h e h4 (.inr ⟨rfl, o, rfl⟩)) (it_keys upd_same)
  | @dT kvs _ r =>
    cases he
    refine ⟨.ref l, e, l, _, rfl, .inl ⟨h4, trivial, fun o => ⟨l, o, rfl, .inr ⟨kvs, upd_same, ?_⟩⟩⟩⟩
    exact k _ _ _ _ _ _ _ _ _ (n l) (Same.refl F) (back_pin (fun ob u q => HO.noConfusion q) h2 h3 nh (.inr ⟨rfl, ⟨o, rfl⟩, rfl, leg⟩)) (S.pin (ho' := .frz o (.dT kvs)) h e h4 (.inr ⟨rfl, o, rfl⟩)) (it_keysT upd_same)
end
/-! ### statements -/
section
variable {z : Cz} {ρ : List Sl} {t u : TS} {nx : List Sl → Prop} {rt : Dt → Bool → Prop} {bk ct : List Sl → Prop} {N : Zn} {te : TE} {i : Nat} {c : TT} {g : TG} {tb : TS}
def slF (fr : Bool) (d : Dt) : Sl := if fr = true then .o d else .v d
theorem Sm.setF {m : Fm} {F H : Hp} {σ : L2.St} {fr : Bool} {d : Dt} {v : V} (S : Sm z m F H σ ρ) (h : RzF z m F H σ ρ fr d v) : Sm z m F H (σ.set i (some v)) (ρ.set i (slF fr d)) := by
  cases fr with
  | false => exact S.setv h
  | true =>
    obtain ⟨l, rfl, o, hs⟩ := h
    exact S.set ⟨l, rfl, o⟩ (fun d' e l' j h1 h2 h3 h4 => by cases h2; exact absurd h4 (hs j e h3)) fun _ _ q => nomatch q
theorem zs_seq (h : ZS z t ρ ⟨fun ρ1 => ZS z u ρ1 ⟨nx, rt, bk, ct⟩, rt, bk, ct⟩) : ZS z (tSeq t u) ρ ⟨nx, rt, bk, ct⟩ := fun m F H σ D S kn kr kb kc =>
  h m F H σ _ S (fun ρ' F' H' σ' n s S' => n m F' H' σ' D S' (fun ρ2 F2 H2 σ2 n2 s2 => kn ρ2 F2 H2 σ2 n2 (s.trans s2)) (fun d fr F2 H2 v n2 s2 => kr d fr F2 H2 v n2 (s.trans s2)) (fun ρ2 F2 H2 σ2 n2 s2 => kb ρ2 F2 H2 σ2 n2 (s.trans s2)) fun ρ2 F2 H2 σ2 n2 s2 => kc ρ2 F2 H2 σ2 n2 (s.trans s2)) kr kb kc
theorem zs_cut (Mid : List Sl → Prop) (h : ZS z t ρ ⟨Mid, rt, bk, ct⟩) (h2 : ∀ ρ1, Mid ρ1 → ZS z u ρ1 ⟨nx, rt, bk, ct⟩) : ZS z (C8.tCut t u) ρ ⟨nx, rt, bk, ct⟩ := fun m F H σ D S kn kr kb kc =>
  ⟨fun σ' H' => ∃ ρ' F', Mid ρ' ∧ Same F F' ∧ Sm z m F' H' σ' ρ', h m F H σ _ S (fun ρ' F' H' σ' n s S' => ⟨ρ', F', n, s, S'⟩) kr kb kc, fun σ' H' ⟨ρ', F', n, s, S'⟩ =>
    h2 ρ' n m F' H' σ' D S' (fun ρ2 F2 H2 σ2 n2 s2 => kn ρ2 F2 H2 σ2 n2 (s.trans s2)) (fun d fr F2 H2 v n2 s2 => kr d fr F2 H2 v n2 (s.trans s2)) (fun ρ2 F2 H2 σ2 n2 s2 => kb ρ2 F2 H2 σ2 n2 (s.trans s2)) fun ρ2 F2 H2 σ2 n2 s2 => kc ρ2 F2 H2 σ2 n2 (s.trans s2)⟩
theorem zs_asg (h : ZE z te ρ fun d fr ρ1 => ZG z g d fr ρ1 N.nx) : ZS z (tAsg te g) ρ N := fun m F H σ D S kn kr kb kc =>
  h m F H σ _ S fun d fr ρ1 F1 H1 v n1 s1 S1 r1 => n1 m F1 H1 σ v _ S1 r1 fun ρ2 F2 H2 σ2 n2 s2 => kn ρ2 F2 H2 σ2 n2 (s1.trans s2)
theorem zg_nameT {d : Dt} {L : List Sl → Prop} (n : L (ρ.set i (.o d))) : ZG z (gName i) d true ρ L := fun m F H σ v Q S r k => k _ F H _ n (Same.refl F) (S.setF r)
theorem zg_nameF {d : Dt} {L : List Sl → Prop} (n : L (ρ.set i (.v d))) : ZG z (gName i) d false ρ L := fun m F H σ v Q S r k => k _ F H _ n (Same.refl F) (S.setF r)
theorem zg_nameB {d : Dt} {fr : Bool} {L : List Sl → Prop} (n : L (ρ.set i (slF fr d))) : ZG z (gName i) d fr ρ L := fun m F H σ v Q S r k => k _ F H _ n (Same.refl F) (S.setF r)
theorem zg_tup {K : PySem.W.Frag} {n : Nat} {gs : TGs} {ds : List Dt} {fr : Bool} {L : List Sl → Prop} (hl : ds.length = n) (h : ZGs z gs ds ρ L) : ZG z (gTup K n gs) (.tup ds) fr ρ L := fun m F H σ v Q S r k => by
  obtain ⟨F1, s1, S1, r⟩ := rzF_frz S r
  simp only [Rz] at r
  obtain ⟨a, xs, rfl, e, r⟩ := r
  exact ⟨a, xs, rfl, SqT.of (S1.le.exact e rfl), by rw [r.len, hl], h m F1 H σ xs Q S1 r fun ρ2 F2 H2 σ2 n2 s2 => k ρ2 F2 H2 σ2 n2 (s1.trans s2)⟩
theorem zgs_nil {L : List Sl → Prop} (n : L ρ) : ZGs z gNil [] ρ L := fun m F H σ vs Q S r k => ⟨r.inv0, k _ _ _ _ n (Same.refl F) S⟩
theorem zgs_cons {g : TG} {gs : TGs} {d : Dt} {ds : List Dt} {L : List Sl → Prop} (h : ZG z g d false ρ fun ρ1 => ZGs z gs ds ρ1 L) : ZGs z (gCons g gs) (d :: ds) ρ L := fun m F H σ vs Q S r k => by
  obtain ⟨v, r', rfl, r1, r2⟩ := r.inv
  exact ⟨v, r', rfl, h m F H σ v _ S r1 fun ρ1 F1 H1 σ1 n1 s1 S1 => n1 m F1 H1 σ1 r' Q S1 (rzl_mono s1 _ _ r2) fun ρ2 F2 H2 σ2 n2 s2 => k ρ2 F2 H2 σ2 n2 (s1.trans s2)⟩
theorem zs_if (h : ZT z c ρ fun b ρ1 => if b = true then ZS z t ρ1 N else ZS z u ρ1 N) : ZS z (tIfS c t u) ρ N := fun m F H σ D S kn kr kb kc => by
  refine h m F H σ _ S fun b ρ1 F1 H1 n1 s1 S1 => ?_
  cases b with
  | true => exact n1 m F1 H1 σ D S1 (fun ρ2 F2 H2 σ2 n2 s2 => kn ρ2 F2 H2 σ2 n2 (s1.trans s2)) (fun d fr F2 H2 v n2 s2 => kr d fr F2 H2 v n2 (s1.trans s2)) (fun ρ2 F2 H2 σ2 n2 s2 => kb ρ2 F2 H2 σ2 n2 (s1.trans s2)) fun ρ2 F2 H2 σ2 n2 s2 => kc ρ2 F2 H2 σ2 n2 (s1.trans s2)
  | false => exact n1 m F1 H1 σ D S1 (fun ρ2 F2 H2 σ2 n2 s2 => kn ρ2 F2 H2 σ2 n2 (s1.trans s2)) (fun d fr F2 H2 v n2 s2 => kr d fr F2 H2 v n2 (s1.trans s2)) (fun ρ2 F2 H2 σ2 n2 s2 => kb ρ2 F2 H2 σ2 n2 (s1.trans s2)) fun ρ2 F2 H2 σ2 n2 s2 => kc ρ2 F2 H2 σ2 n2 (s1.trans s2)
theorem rt_of {m : Fm} {F H : Hp} {σ : L2.St} {fr : Bool} {d : Dt} {v : V} (S : Sm z m F H σ ρ) (h : RzF z m F H σ ρ fr d v) : RtR z m F H fr d v := by
  refine ⟨S.toSc, ?_⟩
  cases fr with
  | false => exact h
  | true =>
    obtain ⟨l, rfl, o, _⟩ := h
    exact ⟨l, rfl, o⟩
theorem zs_ret (h : ZE z te ρ fun d fr _ => N.rt d fr) : ZS z (tRet te) ρ N := fun m F H σ D S kn kr kb kc =>
  h m F H σ _ S fun d fr ρ1 F1 H1 v n1 s1 S1 r1 => kr _ _ _ _ _ n1 s1 (rt_of S1 r1)
/-- an owned thing is handed out -/
theorem zs_reto {d : Dt} (h : ρ[i]? = some (.o d)) (n : N.rt d true) : ZS z (tRet (tVar i)) ρ N := fun m F H σ D S kn kr kb kc => by
  obtain ⟨l, e, o⟩ := S.geto h
  exact ⟨.ref l, e, kr _ _ _ _ _ n (Same.refl F) ⟨S.toSc, l, rfl, o⟩⟩
theorem zs_retN (n : N.rt .non false) : ZS z tRetN ρ N := fun m F H σ D S kn kr kb kc => kr _ _ F H _ n (Same.refl F) ⟨S.toSc, show Rz z.K m.B F .non .non from rzn⟩
theorem zs_next (n : N.nx ρ) : ZS z tNext ρ N := fun m F H σ D S kn kr kb kc => kn _ _ _ _ n (Same.refl F) S
theorem zs_drop (h : ZE z te ρ fun _ _ ρ1 => N.nx ρ1) : ZS z (tDrop te) ρ N := fun m F H σ D S kn kr kb kc => h m F H σ _ S fun d fr ρ1 F1 H1 v n1 s1 S1 r1 => kn _ _ _ _ n1 s1 S1
theorem zs_brk (n : N.bk ρ) : ZS z tBreak ρ N := fun m F H σ D S kn kr kb kc => kb _ _ _ _ n (Same.refl F) S
theorem zs_cont (n : N.ct ρ) : ZS z tCont ρ N := fun m F H σ D S kn kr kb kc => kc _ _ _ _ n (Same.refl F) S
theorem zs_while (W : Nat → List Sl → Prop) (w0 : ∃ n, W n ρ) (hs : ∀ n ρ1, W n ρ1 → ZT z c ρ1 fun b ρ2 => if b = true then ZS z tb ρ2 ⟨fun ρ3 => ∃ n', n' < n ∧ W n' ρ3, N.rt, N.nx, fun ρ3 => ∃ n', n' < n ∧ W n' ρ3⟩ else N.nx ρ2) : ZS z (tWhile c tb) ρ N := fun m F H σ D S kn kr kb kc => by
  obtain ⟨n0, w0⟩ := w0
  refine ⟨fun n σ' H' => ∃ F' ρ', W n ρ' ∧ Same F F' ∧ Sm z m F' H' σ' ρ', ⟨n0, F, ρ, w0, Same.refl F, S⟩, ?_⟩
  rintro n σ1 H1 ⟨F1, ρ1, w, s1, S1⟩
  refine hs n ρ1 w m F1 H1 σ1 _ S1 fun b ρ2 F2 H2 n2 s2 S2 => ?_
  cases b with
  | false => exact kn _ _ _ _ n2 (s1.trans s2) S2
  | true =>
    refine ⟨fun σ' H' => ∃ F' ρ' n', n' < n ∧ W n' ρ' ∧ Same F F' ∧ Sm z m F' H' σ' ρ', fun σ' H' ⟨F', ρ', n', h1, h2, h3, h4⟩ => ⟨n', h1, F', ρ', h2, h3, h4⟩, ?_⟩
    have ss := s1.trans s2
    exact n2 m F2 H2 σ1 _ S2 (fun ρ3 F3 H3 σ3 ⟨n', h1, h2⟩ s3 S3 => ⟨F3, ρ3, n', h1, h2, ss.trans s3, S3⟩) (fun d fr F3 H3 v n3 s3 => kr d fr F3 H3 v n3 (ss.trans s3)) (fun ρ3 F3 H3 σ3 n3 s3 => kn _ _ _ _ n3 (ss.trans s3)) fun ρ3 F3 H3 σ3 ⟨n', h1, h2⟩ s3 S3 => ⟨F3, ρ3, n', h1, h2, ss.trans s3, S3⟩
end
/-! ### comprehensions -/
def wipeZ (ρ : List Sl) : List Nat → List Sl
  | [] => ρ
  | v :: vs => (wipeZ ρ vs).set v .un
def okW (ρ : List Sl) (vs : List Nat) : Bool := vs.all fun i => match ρ[i]? with
  | some (.o _) => false
  | some (.l _ _) => false
  | _ => true
theorem wipe_get (σ : L2.St) (j : Nat) : ∀ vs : List Nat, (wipe σ vs)[j]? = if j ∈ vs then (σ[j]?).map fun _ => none else σ[j]?
  | [] => by simp [wipe]
  | v :: vs => by
    unfold wipe
    by_cases c : v = j
    · subst c
      rw [List.getElem?_set, wipe_length]
      by_cases h : v < σ.length
      · simp [h]
      · simp [h, List.getElem?_eq_none (Nat.le_of_not_lt h)]
    · rw [List.getElem?_set_ne c, wipe_get σ j vs]
      by_cases h : j ∈ vs
      · simp [h]
      · simp [h, Ne.symm c]
theorem wipeZ_length (ρ : List Sl) : ∀ vs : List Nat, (wipeZ ρ vs).length = ρ.length
  | [] => rfl
  | v :: vs => by unfold wipeZ; rw [List.length_set, wipeZ_length ρ vs]
theorem wipeZ_get (ρ : List Sl) (j : Nat) : ∀ vs : List Nat, (wipeZ ρ vs)[j]? = if j ∈ vs then (ρ[j]?).map fun _ => .un else ρ[j]?
  | [] => by simp [wipeZ]
  | v :: vs => by
    unfold wipeZ
    by_cases c : v = j
    · subst c
      rw [List.getElem?_set, wipeZ_length]
      by_cases h : v < ρ.length
      · simp [h]
      · simp [h, List.getElem?_eq_none (Nat.le_of_not_lt h)]
    · rw [List.getElem?_set_ne c, wipeZ_get ρ j vs]
      by_cases h : j ∈ vs
      · simp [h]
      · simp [h, Ne.symm c]
theorem wipe_wipe (σ : L2.St) (vs : List Nat) : wipe (wipe σ vs) vs = wipe σ vs := List.ext_getElem? fun j => by
  rw [wipe_get, wipe_get]
  by_cases h : j ∈ vs
  · simp only [h, if_true]
    cases σ[j]? <;> rfl
  · simp [h]
theorem wipe_setin {σ : L2.St} {i : Nat} {x : Option V} {vs : List Nat} (h : i ∈ vs) : wipe (σ.set i x) vs = wipe σ vs := List.ext_getElem? fun j => by
  rw [wipe_get, wipe_get]
  by_cases c : i = j
  · subst c
    simp only [h, if_true, List.getElem?_set]
    by_cases l : i < σ.length
    · simp [l]
    · simp [l, List.getElem?_eq_none (Nat.le_of_not_lt l)]
  · rw [List.getElem?_set_ne c]
section
variable {z : Cz} {m : Fm} {F F' H : Hp} {σ : L2.St} {ρ : List Sl}
theorem Sm.wipe (S : Sm z m F H σ ρ) : ∀ vs : List Nat, Sm z m F H (L2.wipe σ vs) (wipeZ ρ vs)
  | [] => S
  | v :: vs => by
    unfold L2.wipe wipeZ
    exact (Sm.wipe S vs).setu
theorem Sm.unwipe {H0 : Hp} {vs : List Nat} (S0 : Sm z m F H0 σ ρ) (S : Sm z m F' H (L2.wipe σ vs) (wipeZ ρ vs)) (f : Same F F') (ok : okW ρ vs = true) : Sm z m F' H σ ρ := by
  have okv : ∀ i ∈ vs, (∀ d, ρ[i]? ≠ some (.o d)) ∧ ∀ a d, ρ[i]? ≠ some (.l a d) := fun i hi => by
    have q := List.all_eq_true.mp ok i hi
    refine ⟨fun d e => ?_, fun a d e => ?_⟩ <;> (rw [e] at q; cases q)
  have out : ∀ {j : Nat}, j ∉ vs → (wipeZ ρ vs)[j]? = ρ[j]? ∧ (L2.wipe σ vs)[j]? = σ[j]? := fun {j} h => by
    rw [wipeZ_get, wipe_get, if_neg h, if_neg h]
    exact ⟨rfl, rfl⟩
  refine { S.toSc with len := S0.len, slot := fun i s ov a b => ?_, sep := fun i j d e l a b c c' => ?_, psep := fun i j q d e a b => ?_ }
  · by_cases h : i ∈ vs
    · have q := S0.slot i s ov a b
      cases s with
      | un => trivial
      | v d => obtain ⟨v, e, r⟩ := q; exact ⟨v, e, rz_mono f _ _ r⟩
      | o d => exact absurd a ((okv i h).1 d)
      | l x d => exact absurd a ((okv i h).2 x d)
    · obtain ⟨e1, e2⟩ := out h
      exact S.slot i s ov (by rw [e1]; exact a) (by rw [e2]; exact b)
  · have hi : i ∉ vs := fun h => (okv i h).1 d a
    have hj : j ∉ vs := fun h => (okv j h).1 e b
    exact S.sep i j d e l (by rw [(out hi).1]; exact a) (by rw [(out hj).1]; exact b) (by rw [(out hi).2]; exact c) (by rw [(out hj).2]; exact c')
  · have hi : i ∉ vs := fun h => (okv i h).2 q d a
    have hj : j ∉ vs := fun h => (okv j h).2 q e b
    exact S.psep i j q d e (by rw [(out hi).1]; exact a) (by rw [(out hj).1]; exact b)
/-- a new thing is held (the comprehension's own) -/
theorem Sm.pinNew {D : Addr} {o : HO} (S : Sm z m F H σ ρ) (e : H D = none) (nt : isTp o = false) (nf : isFz o = false) : Sm z (m.pin D o) F (upd H D o) σ ρ := by
  have hF := S.le.free e
  have hB := S.dom D e
  have hJ := S.j_none e
  have C : Sc z (m.pin D o) F (upd H D o) := ⟨fun a u q => by
      have n : a ≠ D := fun c => by rw [c, hF] at q; cases q
      rw [upd_ne n]
      refine (S.lk a u q).elim .inl fun ⟨p, ob, p1, p2⟩ => .inr ⟨p, ob, p1, ?_⟩
      show upd m.J D o a = _
      rw [upd_ne n]
      exact p2, fun a u q => by
      have q : upd m.J D o a = some u := q
      by_cases c : a = D
      · rw [c, upd_same] at q ⊢; exact q
      · rw [upd_ne c] at q ⊢; exact S.base a u q, S.fr, fun a q => by
      by_cases c : a = D
      · rw [c, upd_same] at q; cases q
      · rw [upd_ne c] at q; exact S.dom a q, fun a u q => by
      have n : a ≠ D := fun c => by
        have q : m.B a = some u := q
        rw [c, hB] at q; cases q
      show upd m.J D o a = some u ∨ isDk u = true ∧ ∃ ob, upd m.J D o a = _
      rw [upd_ne n]
      exact S.bj a u q, S.er, fun a ha => by
      rcases ha with ha | rfl
      · obtain ⟨q1, u, q2, q3⟩ := S.hid a ha
        refine ⟨q1, u, ?_, q3⟩
        show upd m.J D o a = _
        rw [upd_ne (fun c => by rw [c, hJ] at q2; cases q2)]
        exact q2
      · exact ⟨hF, o, upd_same, nt⟩, fun a ob u q => by
      show upd m.J D o a = _
      by_cases c : a = D
      · rw [c, upd_same] at q; cases q; cases nf
      · rw [upd_ne c] at q ⊢; exact S.fj a ob u q⟩
  refine { C with len := S.len, slot := fun j s ov a b => ?_, sep := S.sep, psep := S.psep }
  have q := S.slot j s ov a b
  cases s with
  | un => trivial
  | v d => exact q
  | o d2 =>
    obtain ⟨l', e', q1, q2, q3, ho2, q4, q5⟩ := q
    have n : l' ≠ D := fun z => by rw [z, e] at q4; cases q4
    refine ⟨l', e', q1, q2, ?_, ho2, by rw [upd_ne n]; exact q4, q5⟩
    show upd m.J D o l' = none
    rw [upd_ne n]; exact q3
  | l a2 d2 =>
    obtain ⟨q0, q1, q2, ho2, q4, q5⟩ := q
    have n : a2 ≠ D := fun z => by rw [z, hJ] at q4; rcases q4 with q4 | ⟨_, _, q4⟩ <;> cases q4
    refine ⟨q0, .inl q1, q2, ho2, ?_, q5⟩
    show upd m.J D o a2 = some ho2 ∨ isDk ho2 = true ∧ ∃ ob, upd m.J D o a2 = _
    rw [upd_ne n]
    exact q4
theorem Sm.unpinNew {D : Addr} {o : HO} (S : Sm z (m.pin D o) F H σ ρ) (hB : m.B D = none) (hJ : m.J D = none) (hh : ¬ m.hd D) (nf : isFz o = false) (hs : ∀ (i : Nat) (d : Dt), ρ[i]? ≠ some (.l D d)) : Sm z m F H σ ρ ∧ H D = some o ∧ F D = none := by
  have hD : H D = some o := S.base D o upd_same
  obtain ⟨hF, _⟩ := S.hid D (.inr rfl)
  have C := Sc.unpin (ho := o) (fun ob u q => by rw [q] at nf; cases nf) S.toSc hB hJ hh
  rw [upd_self2 hD] at C
  refine ⟨{ C with len := S.len, slot := fun j s ov a b => ?_, sep := S.sep, psep := S.psep }, hD, hF⟩
  have q := S.slot j s ov a b
  cases s with
  | un => trivial
  | v d => exact q
  | o d2 =>
    obtain ⟨l', e', q1, q2, q3, ho2, q4, q5⟩ := q
    have q3 : upd m.J D o l' = none := q3
    have n : l' ≠ D := fun z => by rw [z, upd_same] at q3; cases q3
    rw [upd_ne n] at q3
    exact ⟨l', e', q1, q2, q3, ho2, q4, q5⟩
  | l a2 d2 =>
    obtain ⟨q0, q1, q2, ho2, q4, q5⟩ := q
    have n : a2 ≠ D := fun z => hs j d2 (by rw [← z]; exact a)
    have q4 : upd m.J D o a2 = some ho2 ∨ isDk ho2 = true ∧ ∃ ob, upd m.J D o a2 = _ := q4
    rw [upd_ne n] at q4
    exact ⟨q0, q1.elim id fun z => absurd z n, q2, ho2, q4, q5⟩
theorem Sm.repin {D : Addr} {o o' : HO} (S : Sm z (m.pin D o) F H σ ρ) (hB : m.B D = none) (hJ : m.J D = none) (hh : ¬ m.hd D) (nf : isFz o = false) (nt' : isTp o' = false) (nf' : isFz o' = false) (hs : ∀ (i : Nat) (d : Dt), ρ[i]? ≠ some (.l D d)) : Sm z (m.pin D o') F (upd H D o') σ ρ := by
  obtain ⟨S1, hD, hF⟩ := S.unpinNew hB hJ hh nf hs
  have C : Sc z (m.pin D o') F (upd H D o') := ⟨fun a u q => by
      have n : a ≠ D := fun c => by rw [c, hF] at q; cases q
      rw [upd_ne n]
      refine (S1.lk a u q).elim .inl fun ⟨p, ob, p1, p2⟩ => .inr ⟨p, ob, p1, ?_⟩
      show upd m.J D o' a = _
      rw [upd_ne n]
      exact p2, fun a u q => by
      have q : upd m.J D o' a = some u := q
      by_cases c : a = D
      · rw [c, upd_same] at q ⊢; exact q
      · rw [upd_ne c] at q ⊢; exact S1.base a u q, S1.fr, fun a q => by
      by_cases c : a = D
      · rw [c, upd_same] at q; cases q
      · rw [upd_ne c] at q; exact S1.dom a q, fun a u q => by
      have n : a ≠ D := fun c => by
        have q : m.B a = some u := q
        rw [c, hB] at q; cases q
      show upd m.J D o' a = some u ∨ isDk u = true ∧ ∃ ob, upd m.J D o' a = _
      rw [upd_ne n]
      exact S1.bj a u q, S1.er, fun a ha => by
      rcases ha with ha | rfl
      · obtain ⟨q1, u, q2, q3⟩ := S1.hid a ha
        refine ⟨q1, u, ?_, q3⟩
        show upd m.J D o' a = _
        rw [upd_ne (fun c => by rw [c, hJ] at q2; cases q2)]
        exact q2
      · exact ⟨hF, o', upd_same, nt'⟩, fun a ob u q => by
      show upd m.J D o' a = _
      by_cases c : a = D
      · rw [c, upd_same] at q; cases q; cases nf'
      · rw [upd_ne c] at q ⊢; exact S1.fj a ob u q⟩
  refine { C with len := S.len, slot := fun j s ov a b => ?_, sep := S.sep, psep := S.psep }
  have q := S.slot j s ov a b
  cases s with
  | un => trivial
  | v d => exact q
  | o d2 =>
    obtain ⟨l', e', q1, q2, q3, ho2, q4, q5⟩ := q
    have q3 : upd m.J D o l' = none := q3
    have n : l' ≠ D := fun z => by rw [z, upd_same] at q3; cases q3
    rw [upd_ne n] at q3
    refine ⟨l', e', q1, q2, ?_, ho2, by rw [upd_ne n]; exact q4, q5⟩
    show upd m.J D o' l' = none
    rw [upd_ne n]; exact q3
  | l a2 d2 =>
    obtain ⟨q0, q1, q2, ho2, q4, q5⟩ := q
    have n : a2 ≠ D := fun z => hs j d2 (by rw [← z]; exact a)
    have q4 : upd m.J D o a2 = some ho2 ∨ isDk ho2 = true ∧ ∃ ob, upd m.J D o a2 = _ := q4
    rw [upd_ne n] at q4
    refine ⟨q0, q1, q2, ho2, ?_, q5⟩
    show upd m.J D o' a2 = some ho2 ∨ isDk ho2 = true ∧ ∃ ob, upd m.J D o' a2 = _
    rw [upd_ne n]
    exact q4
end
/-- a comprehension's target -/
def ZGw (z : Cz) (g : TG) (vs : List Nat) (d : Dt) (ρ : List Sl) (N : List Sl → Prop) : Prop := ∀ m F H σ v Q, Sm z m F H σ ρ → Rz z.K m.B F d v →
  (∀ ρ' F' H' σ', N ρ' → Same F F' → Sm z m F' H' σ' ρ' → L2.wipe σ' vs = L2.wipe σ vs → Q σ' H') → g v σ H Q
def ZGws (z : Cz) (g : TGs) (vs : List Nat) (ds : List Dt) (ρ : List Sl) (N : List Sl → Prop) : Prop := ∀ m F H σ us Q, Sm z m F H σ ρ → Rzl z.K m.B F ds us →
  (∀ ρ' F' H' σ', N ρ' → Same F F' → Sm z m F' H' σ' ρ' → L2.wipe σ' vs = L2.wipe σ vs → Q σ' H') → g us σ H Q
section
variable {z : Cz} {ρ : List Sl} {N : List Sl → Prop} {i : Nat} {vs : List Nat} {d : Dt} {ds : List Dt}
theorem zgw_name (h : i ∈ vs) (n : N (ρ.set i (.v d))) : ZGw z (gName i) vs d ρ N := fun m F H σ v Q S r k => k _ F H _ n (Same.refl F) (S.setv r) (wipe_setin h)
theorem zgw_tup {K : PySem.W.Frag} {n : Nat} {gs : TGs} (hl : ds.length = n) (h : ZGws z gs vs ds ρ N) : ZGw z (gTup K n gs) vs (.tup ds) ρ N := fun m F H σ v Q S r k => by
  simp only [Rz] at r
  obtain ⟨a, xs, rfl, e, r⟩ := r
  exact ⟨a, xs, rfl, SqT.of (S.le.exact e rfl), by rw [r.len, hl], h m F H σ xs Q S r k⟩
theorem zgws_nil (n : N ρ) : ZGws z gNil vs [] ρ N := fun m F H σ us Q S r k => ⟨r.inv0, k _ _ _ _ n (Same.refl F) S rfl⟩
theorem zgws_cons {g : TG} {gs : TGs} (h : ZGw z g vs d ρ fun ρ1 => ZGws z gs vs ds ρ1 N) : ZGws z (gCons g gs) vs (d :: ds) ρ N := fun m F H σ us Q S r k => by
  obtain ⟨v, r', rfl, r1, r2⟩ := r.inv
  exact ⟨v, r', rfl, h m F H σ v _ S r1 fun ρ1 F1 H1 σ1 n1 s1 S1 w1 => n1 m F1 H1 σ1 r' Q S1 (rzl_mono s1 _ _ r2) fun ρ2 F2 H2 σ2 n2 s2 S2 w2 => k ρ2 F2 H2 σ2 n2 (s1.trans s2) S2 (w2.trans w1)⟩
end
section
variable {z : Cz} {ρ : List Sl} {wi : TI} {g : TG} {tt : TT} {te tk tv : TE} {vs : List Nat} {N : Dt → Bool → List Sl → Prop}
theorem take_succ_get2 {α : Type} {xs : List α} {j : Nat} {x : α} (h : xs[j]? = some x) : xs.take (j + 1) = xs.take j ++ [x] := by
  rw [List.take_succ, h]; rfl
theorem filterMap_take {α β : Type} (f : α → Option β) {xs : List α} {i : Nat} {x : α} (h : xs[i]? = some x) : (xs.take (i + 1)).filterMap f = (xs.take i).filterMap f ++ (f x).toList := by
  rw [take_succ_get2 h, List.filterMap_append]
  congr 1
theorem filterMap_le {α β : Type} (f : α → Option β) (xs : List α) (i : Nat) : ((xs.take i).filterMap f).length ≤ i := Nat.le_trans (List.length_filterMap_le f _) (by rw [List.length_take]; omega)
/-- [te for g in .. if tt] -/
theorem ze_lc (h : ZI z wi ρ fun ds ρ1 bp bm => bp ρ1 ∧ okW ρ1 vs = true ∧ ds.length ≤ 100000 ∧ ∃ f : Dt → Option Dt,
    (∀ d ∈ ds, ZGw z g vs d (wipeZ ρ1 vs) fun ρ2 => ZT z tt ρ2 fun b ρ3 => if b = true then ZE z te ρ3 fun y _ ρ4 => wipeZ ρ4 vs = wipeZ ρ1 vs ∧ f d = some y else wipeZ ρ3 vs = wipeZ ρ1 vs ∧ f d = none) ∧
    N (.lst true (ds.filterMap f)) true (bm ρ1)) : ZE z (tLockLE (tLc wi g tt te vs)) ρ N := fun m F H σ Q S k => by
  refine h m F H σ _ S fun ds ρ1 bp bm m' un F1 H1 Jt n1 s1 B S1 it => ?_
  obtain ⟨hbp, hw, hz, f, hf, n⟩ := n1
  obtain ⟨n', G, Y, wk, rfl, gk, yk⟩ := it
  intro D hD
  have hB := S1.dom D hD
  have hJ := S1.j_none hD
  have hh : ¬ m'.hd D := fun q => by
    obtain ⟨_, o, q2, _⟩ := S1.hid D q
    rw [hJ] at q2
    cases q2
  have hs : ∀ (i : Nat) (d : Dt), (wipeZ ρ1 vs)[i]? ≠ some (.l D d) := fun i d e => by
    obtain ⟨ov, _, _, q1, _⟩ := (S1.wipe vs).get e
    exact hh q1
  refine lc_it wk (fun i H2 => ∃ F2 acc, Same F1 F2 ∧ Sm z (m'.pin D (.lst acc)) F2 H2 (L2.wipe σ vs) (wipeZ ρ1 vs) ∧ Rzl z.K m'.B F2 ((ds.take i).filterMap f) acc) ?_ ?_ ?_ ?_
  · refine ⟨F1, [], Same.refl F1, (S1.wipe vs).pinNew hD rfl rfl, ?_⟩
    rw [List.take_zero]
    exact .nil
  · rintro i H2 hi ⟨F2, acc, s2, S2, r2⟩
    have b2 : Same m'.J H2 := fun a u q => S2.base a u (by
      show upd m'.J D _ a = _
      rw [upd_ne (fun c => by rw [c, hJ] at q; cases q)]
      exact q)
    exact gk F2 H2 s2 S2.le b2
  · rintro i x H2 H3 hi ⟨F2, acc, s2, S2, r2⟩ y
    obtain ⟨F3, s3, S3, rx⟩ := yk (m'.pin D (.lst acc)) i ds[i] F2 H2 H3 x _ _ rfl (List.getElem?_eq_getElem hi) s2 S2 y
    have hd : ds[i]? = some ds[i] := List.getElem?_eq_getElem hi
    refine hf ds[i] (List.getElem_mem hi) (m'.pin D (.lst acc)) F3 H3 _ x _ S3 rx fun ρ2 F4 H4 σ2 n2 s4 S4 w4 => ?_
    rw [wipe_wipe] at w4
    refine ⟨w4, n2 _ F4 H4 σ2 _ S4 fun b ρ3 F5 H5 n3 s5 S5 => ?_⟩
    have ss := s2.trans (s3.trans (s4.trans s5))
    cases b with
    | false =>
      obtain ⟨e1, e2⟩ := n3
      refine ⟨F5, acc, ss, ?_, ?_⟩
      · have := S5.wipe vs
        rw [e1, w4] at this
        exact this
      · rw [filterMap_take f hd, e2]
        simp only [Option.toList, List.append_nil]
        exact rzl_mono (s3.trans (s4.trans s5)) _ _ r2
    | true =>
      refine n3 _ F5 H5 σ2 _ S5 fun yd fy ρ4 F6 H6 vy n4 s6 S6 r6 => ?_
      obtain ⟨F7, s7, S7, ry⟩ := rzF_frz S6 r6
      obtain ⟨e1, e2⟩ := n4
      have hD6 : H6 D = some (.lst acc) := S7.base D _ upd_same
      have S8 := S7.wipe vs
      rw [e1, w4] at S8
      have sf := s3.trans (s4.trans (s5.trans (s6.trans s7)))
      refine ⟨acc, hD6, ?_, F7, acc ++ [vy], s2.trans sf, S8.repin hB hJ hh rfl rfl rfl hs, ?_⟩
      · have := filterMap_le f ds i
        rw [r2.len, sizeLine_eq]
        omega
      · rw [filterMap_take f hd, e2]
        exact (rzl_mono sf _ _ r2).app (.cons ry .nil)
  · rintro H2 ⟨F2, acc, s2, S2, r2⟩
    obtain ⟨S3, hD2, hF2⟩ := S2.unpinNew hB hJ hh rfl hs
    have S4 := S1.unwipe S3 s2 hw
    rw [List.take_length] at r2
    have S5 := B.sm F2 H2 σ ρ1 s2 S4 hbp
    have S0 := B.sm F1 H1 σ ρ1 (Same.refl F1) S1 hbp
    have uD : ∀ {Hx : Hp} {Fx : Hp}, Sc z m' Fx Hx → undo un Hx D = Hx D := fun {Hx Fx} C => by
      cases un with
      | none => rfl
      | some p =>
        obtain ⟨d, u⟩ := p
        obtain ⟨od, e⟩ := B.fz Fx Hx C d u rfl
        show upd Hx d u D = Hx D
        have j := C.fj d od u e
        rw [upd_ne (fun c => by rw [← c, hJ] at j; cases j)]
    have fresh : RzF z m F2 (undo un H2) σ (bm ρ1) true (.lst true (ds.filterMap f)) (.ref D) := by
      refine ⟨D, rfl, ⟨hF2, by rw [← B.bb]; exact hB, ?_, .lst acc, by rw [uD S3.toSc]; exact hD2, .lst (by rw [← B.bb]; exact r2)⟩, fun j e a b => ?_⟩
      · exact S0.base.free (by rw [uD S1.toSc]; exact hD)
      · obtain ⟨l, hl, _, _, _, ho, h4, _⟩ := S0.geto a
        rw [b] at hl
        cases hl
        rw [uD S1.toSc, hD] at h4
        cases h4
    have fin := k _ _ _ _ _ _ n (s1.trans s2) S5 fresh
    cases un with
    | none => exact .inl fin
    | some p =>
      obtain ⟨d, u⟩ := p
      obtain ⟨od, e⟩ := B.fz F2 H2 S3.toSc d u rfl
      exact .inr ⟨d, od, u, B.leg d u rfl, e, fin⟩
end
/-! ### built-ins, methods -/
section
variable {X : Cx}
theorem CallR.or2 {f : Value} {r r' : List V → Hp → VK → Prop} (h : CallR X f r) (h' : CallR X f r') : CallR X f (fun xs H Q => r xs H Q ∨ r' xs H Q) := by
  intro pins s σ H xs us Q I rr q
  rcases q with q | q
  · exact h pins s σ H xs us Q I rr q
  · exact h' pins s σ H xs us Q I rr q
def rListDR : List V → Hp → VK → Prop := fun xs H Q => ∃ p kvs, xs = [.ref p] ∧ L2.Rd H p (.dK kvs) ∧ ∀ q, H q = none → Q (.ref q) (upd H q (.lst (kvs.map fun kv => kV kv.1)))
theorem call_list_dKR (hc : X.calm = true) : CallR X (.type "list") rListDR := by
  intro pins s σ H xs us Q I r h
  obtain ⟨p, kvs, e, hk, q⟩ := h
  subst e
  obtain ⟨u, eu, rx⟩ := vals1 r
  subst eu
  obtain rfl : u = Value.ref p := rx
  obtain ⟨z, lo, vs, rk, hd⟩ := dk_rd I.hok hk
  obtain ⟨ep, hat⟩ := hd.dictAt
  have hl : kvs.length = vs.length := Paired.length rk
  refine PySem.W.kdl_call (PySem.W.kdl_dict (knd := mixKind X.prog X.w) (kvs := vs) (ep := ep) lo) (I.ok.hd hc) hat (by rw [← hl]; exact z) fun h' tk acc' c' hkeep hS hacc => ?_
  refine ⟨.ref s.heap.objs.size, upd H s.heap.objs.size (.lst (kvs.map fun kv => kV kv.1)), I.laid hkeep (Nat.le_refl _) (show ObjOk X.prog X.w _ _ _ (.lst (kvs.map fun kv => kV kv.1)) from ⟨?_, acc'.toList, c', ?_, ?_⟩), rfl, q _ (I.hok.fresh (Nat.le_refl _))⟩
  · rw [List.length_map]; exact z
  · have el : acc'.toList.length = acc'.size := by simp
    refine vals_of_at (by rw [List.length_map, el, hacc.1, hl]) fun j x w h1 h2 => ?_
    obtain ⟨k, y, hky, hi⟩ := hacc.2 j w (by rw [← Array.getElem?_toList]; exact h2)
    have e1 : (kvs.map (·.1))[j]? = some k := by
      rw [KV.keys rk, List.getElem?_map, hky] <;> rfl
    have e2 : (kvs.map fun kv => kV kv.1)[j]? = some (kV k) := by
      have e3 : (kvs.map fun kv => kV kv.1) = (kvs.map (·.1)).map kV := by rw [List.map_map] <;> rfl
      rw [e3, List.getElem?_map, e1] <;> rfl
    rw [e2] at h1
    cases h1
    exact keyIs_rel hi
  · rw [Array.toArray_toList]; exact hS
def rListSeq (K : PySem.W.Frag) : List V → Hp → VK → Prop := fun xs H Q => ∃ p ys, xs = [.ref p] ∧ (SqL K H p ys ∨ SqT K H p ys) ∧ ∀ l, H l = none → Q (.ref l) (upd H l (.lst ys))
def rListT : List V → Hp → VK → Prop := fun xs H Q => ∃ d kvs, xs = [V.ref d] ∧ L2.Rd H d (.dT kvs) ∧ ∀ p bs, H p = none → IsKeys H kvs bs → Q (.ref p) (upd H p (.lst (bs.map V.ref)))
/-- list(x): of a list, a tuple, a dict -/
def rListZ (K : PySem.W.Frag) : List V → Hp → VK → Prop := fun xs H Q => rListSeq K xs H Q ∨ (rListDR xs H Q ∨ rListT xs H Q)
theorem call_listZ {K : PySem.W.Frag} (e : X.K = K) (hc : X.calm = true) : CallR X (.type "list") (rListZ K) := CallR.or2 (call_listK e) (CallR.or2 (call_list_dKR hc) (call_list_dT hc))
theorem call_len_dTR : CallR X (.builtin "len") (fun xs H Q => ∃ (p : Addr) (kvs : List (List Key × V)), xs = [.ref p] ∧ L2.Rd H p (.dT kvs) ∧ Q (.int ((kvs.length : Nat) : Int)) H) := by
  intro pins s σ H xs us Q I r h
  obtain ⟨p, kvs, rfl, hp, q⟩ := h
  obtain ⟨u, rfl, rx⟩ := vals1 r
  obtain rfl : u = .ref p := rx
  obtain ⟨z, hd, ys, rel, dd⟩ := dt_rd I.hok hp
  have hl : kvs.length = ys.length := Paired.length rel
  refine call_len_dictH hd dd (by rw [← hl]; rw [sizeLine_eq] at z; omega) ?_
  rw [← hl]
  exact ⟨.int ((kvs.length : Nat) : Int), H, I.tok _, ⟨_, rfl⟩, q⟩
theorem call_lenDkR : CallR X (.builtin "len") (fun xs H Q => ∃ a kvs, xs = [V.ref a] ∧ L2.Rd H a (.dK kvs) ∧ Q (.int (kvs.length : Nat)) H) := by
  intro pins s σ H xs us Q I r h
  obtain ⟨a, kvs, rfl, ha, q⟩ := h
  obtain ⟨u, rfl, ru⟩ := vals1 r
  cases ru
  exact d_len I ha fun t s' I' => ⟨.int kvs.length, H, I', ⟨t, rfl⟩, q⟩
def rLenSeq (K : PySem.W.Frag) : List V → Hp → VK → Prop := fun xs H Q => ∃ p ys, xs = [.ref p] ∧ (SqL K H p ys ∨ SqT K H p ys) ∧ Q (.int ys.length) H
def rLenZ (K : PySem.W.Frag) : List V → Hp → VK → Prop := fun xs H Q => rLenSeq K xs H Q ∨ ((∃ a kvs, xs = [V.ref a] ∧ L2.Rd H a (.dK kvs) ∧ Q (.int (kvs.length : Nat)) H) ∨ ∃ (p : Addr) (kvs : List (List Key × V)), xs = [.ref p] ∧ L2.Rd H p (.dT kvs) ∧ Q (.int ((kvs.length : Nat) : Int)) H)
theorem call_lenZ {K : PySem.W.Frag} (e : X.K = K) : CallR X (.builtin "len") (rLenZ K) := CallR.or2 (call_lenK e) (CallR.or2 call_lenDkR call_len_dTR)
end
section
variable {z : Cz} {ρ : List Sl} {N : Dt → Bool → List Sl → Prop} {ta tb te : TE} {t : TA} {i : Nat}
/-- one argument, frozen -/
theorem ze_CB1 {r : List V → Hp → VK → Prop} {W : Dt → (Dt → Bool → List Sl → Prop) → List Sl → Prop}
    (w : ∀ x ρ2 N, W x N ρ2 → ∀ m F H σ Q vx, Sm z m F H σ ρ2 → Rz z.K m.B F x vx → (∀ d fr ρ' F' H' v, N d fr ρ' → Same F F' → Sm z m F' H' σ ρ' → RzF z m F' H' σ ρ' fr d v → Q v H') → r [vx] H Q)
    (h : ZE z ta ρ fun x _ ρ1 => W x N ρ1) : ZE z (tCB r (tCons ta tNil)) ρ N := fun m F H σ Q S k => by
  refine h m F H σ _ S fun x fx ρ1 F1 H1 vx n1 s1 S1 r1 => ?_
  obtain ⟨F2, s2, S2, rx⟩ := rzF_frz S1 r1
  exact w x ρ1 N n1 m F2 H1 σ Q vx S2 rx fun d fr ρ' F' H' v n sf => k d fr ρ' F' H' v n ((s1.trans s2).trans sf)
inductive LenD : Dt → Nat → Prop
  | lst (t : Bool) (ds : List Dt) : LenD (.lst t ds) ds.length
  | tup (ds : List Dt) : LenD (.tup ds) ds.length
  | dic (t : Bool) (ks : List Key) (ds : List Dt) : LenD (.dic t ks ds) ks.length
  | dit (t : Bool) (ks : List (List Key)) (ds : List Dt) : LenD (.dit t ks ds) ks.length
/-- what a container is made of, in the heap -/
inductive CtR (K : PySem.W.Frag) (B F H : Hp) (a : Addr) : Dt → Prop
  | lst {t : Bool} {xs : List V} {ds : List Dt} : H a = some (.lst xs) → Rzl K B F ds xs → CtR K B F H a (.lst t ds)
  | tup {xs : List V} {ds : List Dt} : H a = some (.tup xs) → Rzl K B F ds xs → CtR K B F H a (.tup ds)
  | dct {d : Dt} : DctR K B F H a d → CtR K B F H a d
def isCt : Dt → Bool
  | .lst _ _ | .tup _ | .dic _ _ _ | .dit _ _ _ => true
  | _ => false
theorem rz_ct {K : PySem.W.Frag} {B F H : Hp} {d : Dt} {v : V} (h : Rz K B F d v) (le : Le F H) (i : isCt d = true) : ∃ a, v = .ref a ∧ CtR K B F H a d := by
  cases d <;> first | cases i | skip
  · simp only [Rz] at h
    obtain ⟨a, xs, rfl, h1, h2⟩ := h
    exact ⟨a, rfl, .tup (le.exact h1 rfl) h2⟩
  · simp only [Rz] at h
    obtain ⟨a, xs, rfl, h1, _, h2⟩ := h
    exact ⟨a, rfl, .lst (le.exact h1 rfl) h2⟩
  · obtain ⟨a, e, q⟩ := rz_dct h le rfl
    exact ⟨a, e, .dct q⟩
  · obtain ⟨a, e, q⟩ := rz_dct h le rfl
    exact ⟨a, e, .dct q⟩
theorem Sm.peekC {m : Fm} {F H : Hp} {σ : L2.St} (S : Sm z m F H σ ρ) {s : Sl} {c : Dt} (h : ρ[i]? = some s) (p : Pk s c) (hc : isCt c = true) : ∃ a, σ[i]? = some (some (.ref a)) ∧ CtR z.K m.B F H a c := by
  cases c <;> first | cases hc | skip
  · obtain ⟨ov, e, ok⟩ := S.get h
    rcases p with rfl | rfl | ⟨a, rfl⟩
    · obtain ⟨v, rfl, r⟩ := ok
      obtain ⟨a, rfl, q⟩ := rz_ct r S.le rfl
      exact ⟨a, e, q⟩
    · obtain ⟨l, rfl, _, _, _, ho, h1, h2⟩ := ok
      cases h2
    · obtain ⟨rfl, _, _, ho, h1, h2⟩ := ok
      cases h2
  · obtain ⟨a, xs, e, h1, h2⟩ := S.peekL h p
    exact ⟨a, e, .lst h1 h2⟩
  · obtain ⟨a, e, q⟩ := S.peekD h p rfl
    exact ⟨a, e, .dct q⟩
  · obtain ⟨a, e, q⟩ := S.peekD h p rfl
    exact ⟨a, e, .dct q⟩
theorem LenD.isCt {d : Dt} {n : Nat} (h : LenD d n) : isCt d = true := by cases h <;> rfl
theorem ct_len {K : PySem.W.Frag} {B F H : Hp} {a : Addr} {d : Dt} {n : Nat} {Q : VK} (c : CtR K B F H a d) (h : LenD d n) (q : Q (.int n) H) : rLenZ K [.ref a] H Q := by
  cases h with
  | lst t ds =>
    cases c with
    | lst h1 h2 => exact .inl ⟨a, _, rfl, .inl (SqL.of h1), by rw [h2.len]; exact q⟩
    | dct h => cases h
  | tup ds =>
    cases c with
    | tup h1 h2 => exact .inl ⟨a, _, rfl, .inr (SqT.of h1), by rw [h2.len]; exact q⟩
    | dct h => cases h
  | dic t ks ds =>
    cases c with
    | dct h =>
      cases h with
      | k h1 h2 => exact .inr (.inl ⟨a, _, rfl, h1, by rw [List.length_map] at q; exact q⟩)
  | dit t ks ds =>
    cases c with
    | dct h =>
      cases h with
      | t h1 h2 => exact .inr (.inr ⟨a, _, rfl, h1, by rw [List.length_map] at q; exact q⟩)
theorem ze_lenv {s0 : Sl} {c0 : Dt} {n : Nat} (h0 : ρ[i]? = some s0) (p0 : Pk s0 c0) (hl : LenD c0 n) (q : N (.int n) false ρ) : ZE z (tCB (rLenZ z.K) (tCons (tVar i) tNil)) ρ N := fun m F H σ Q S k => by
  obtain ⟨a, e, c⟩ := S.peekC h0 p0 hl.isCt
  exact ⟨_, e, ct_len c hl (k _ _ _ _ _ _ q (Same.refl F) S (rzF_f rzi))⟩
theorem ze_len (h : ZE z ta ρ fun x _ ρ1 => ∃ n, LenD x n ∧ N (.int (n : Nat)) false ρ1) : ZE z (tCB (rLenZ z.K) (tCons ta tNil)) ρ N :=
  ze_CB1 (W := fun x N ρ1 => ∃ n, LenD x n ∧ N (.int (n : Nat)) false ρ1) (fun x ρ2 N n1 m F H σ Q vx S r k => by
    obtain ⟨n, hl, q⟩ := n1
    obtain ⟨a, rfl, c⟩ := rz_ct r S.le hl.isCt
    exact ct_len c hl (k _ _ _ _ _ _ q (Same.refl F) S (rzF_f rzi))) h
/-- list(x) -/
inductive ListD : Dt → List Dt → Prop
  | lst (t : Bool) (ds : List Dt) : ListD (.lst t ds) ds
  | tup (ds : List Dt) : ListD (.tup ds) ds
  | dic (t : Bool) (ks : List Key) (ds : List Dt) : ListD (.dic t ks ds) (ks.map keyD)
  | dit (t : Bool) (ks : List (List Key)) (ds : List Dt) : ListD (.dit t ks ds) (ks.map fun k => .tup (k.map keyD))
theorem ListD.isCt {d : Dt} {es : List Dt} (h : ListD d es) : isCt d = true := by cases h <;> rfl
theorem isKeys_frz {m : Fm} {F H : Hp} {σ : L2.St} : ∀ {kvs : List (List Key × V)} {bs : List Addr}, Sm z m F H σ ρ → IsKeys H kvs bs → ∃ F', Same F F' ∧ Sm z m F' H σ ρ ∧ Rzl z.K m.B F' ((kvs.map Prod.fst).map fun k => .tup (k.map keyD)) (bs.map V.ref)
  | [], _, S, h => by cases h; exact ⟨F, Same.refl F, S, .nil⟩
  | p :: r, _, S, h => by
    cases h with
    | cons h1 h2 =>
      obtain ⟨F1, s1, e1, S1⟩ := S.tup h1
      obtain ⟨F2, s2, S2, r2⟩ := isKeys_frz S1 h2
      exact ⟨F2, s1.trans s2, S2, .cons (by simp only [Rz]; exact ⟨_, _, rfl, s2 _ _ e1, keys_rzl _⟩) r2⟩
theorem ct_list {m : Fm} {F H : Hp} {σ : L2.St} {a : Addr} {d : Dt} {es : List Dt} {Q : VK} (S : Sm z m F H σ ρ) (c : CtR z.K m.B F H a d) (h : ListD d es)
    (q : ∀ F' H' v, Same F F' → Sm z m F' H' σ ρ → RzF z m F' H' σ ρ true (.lst true es) v → Q v H') : rListZ z.K [.ref a] H Q := by
  cases h with
  | lst t ds =>
    cases c with
    | lst h1 h2 => exact .inl ⟨a, _, rfl, .inl (SqL.of h1), fun p hp => q _ _ _ (Same.refl F) (S.newO hp) (rzF_new S hp (.lst h2))⟩
    | dct h => cases h
  | tup ds =>
    cases c with
    | tup h1 h2 => exact .inl ⟨a, _, rfl, .inr (SqT.of h1), fun p hp => q _ _ _ (Same.refl F) (S.newO hp) (rzF_new S hp (.lst h2))⟩
    | dct h => cases h
  | dic t ks ds =>
    cases c with
    | dct h =>
      cases h with
      | @k _ kvs _ h1 h2 => exact .inr (.inl ⟨a, _, rfl, h1, fun p hp => q _ _ _ (Same.refl F) (S.newO hp) (rzF_new S hp (.lst (by
          have := keys_rzl (K := z.K) (B := m.B) (F := F) (kvs.map Prod.fst)
          rw [List.map_map (f := Prod.fst) (g := kV)] at this
          exact this)))⟩)
  | dit t ks ds =>
    cases c with
    | dct h =>
      cases h with
      | @t _ kvs _ h1 h2 => exact .inr (.inr ⟨a, _, rfl, h1, fun p bs hp hk => by
          obtain ⟨F', s', S', r'⟩ := isKeys_frz S hk
          exact q _ _ _ s' (S'.newO hp) (rzF_new S' hp (.lst r'))⟩)
theorem ze_listv {s0 : Sl} {c0 : Dt} {es : List Dt} (h0 : ρ[i]? = some s0) (p0 : Pk s0 c0) (hl : ListD c0 es) (q : N (.lst true es) true ρ) : ZE z (tCB (rListZ z.K) (tCons (tVar i) tNil)) ρ N := fun m F H σ Q S k => by
  obtain ⟨a, e, c⟩ := S.peekC h0 p0 hl.isCt
  exact ⟨_, e, ct_list S c hl fun F' H' v s S' r => k _ _ _ _ _ _ q s S' r⟩
theorem ze_list (h : ZE z ta ρ fun x _ ρ1 => ∃ es, ListD x es ∧ N (.lst true es) true ρ1) : ZE z (tCB (rListZ z.K) (tCons ta tNil)) ρ N :=
  ze_CB1 (W := fun x N ρ1 => ∃ es, ListD x es ∧ N (.lst true es) true ρ1) (fun x ρ2 N n1 m F H σ Q vx S r k => by
    obtain ⟨es, hl, q⟩ := n1
    obtain ⟨a, rfl, c⟩ := rz_ct r S.le hl.isCt
    exact ct_list S c hl fun F' H' v s S' r => k _ _ _ _ _ _ q s S' r) h
/-! items -/
theorem ze_ixT {K : PySem.W.Frag} (h : ZE z ta ρ fun x _ ρ1 => ZE z tb ρ1 fun y _ ρ2 => ∃ ds i d, x = .tup ds ∧ y = .int i ∧ atI ds i = some d ∧ N d false ρ2) : ZE z (tOp (rIxT K) ta tb) ρ N :=
  ze_op2w (W := fun x y N ρ2 => ∃ ds i d, x = .tup ds ∧ y = .int i ∧ atI ds i = some d ∧ N d false ρ2) (fun x y ρ2 N n2 m F H σ Q vx vy S r1 r2 k => by
    obtain ⟨ds, i, d, rfl, rfl, e, n⟩ := n2
    simp only [Rz] at r1
    obtain ⟨a, xs, rfl, h1, r⟩ := r1
    unfold atI at e
    cases q : ixN ds.length i with
    | none => rw [q] at e; cases e
    | some j =>
      rw [q] at e
      obtain ⟨v, e2, rv⟩ := r.at_ e
      refine ⟨a, xs, i, v, rfl, rz_i r2, SqT.of (S.le.exact h1 rfl), ?_, k _ _ _ _ _ _ n (Same.refl F) S (rzF_f rv)⟩
      unfold atI
      rw [r.len, q]
      exact e2) h
theorem ze_ixL {K : PySem.W.Frag} (h : ZE z ta ρ fun x _ ρ1 => ZE z tb ρ1 fun y _ ρ2 => ∃ t ds i d, x = .lst t ds ∧ y = .int i ∧ atI ds i = some d ∧ N d false ρ2) : ZE z (tOp (rIxL K) ta tb) ρ N :=
  ze_op2w (W := fun x y N ρ2 => ∃ t ds i d, x = .lst t ds ∧ y = .int i ∧ atI ds i = some d ∧ N d false ρ2) (fun x y ρ2 N n2 m F H σ Q vx vy S r1 r2 k => by
    obtain ⟨t, ds, i, d, rfl, rfl, e, n⟩ := n2
    simp only [Rz] at r1
    obtain ⟨a, xs, rfl, h1, _, r⟩ := r1
    unfold atI at e
    cases q : ixN ds.length i with
    | none => rw [q] at e; cases e
    | some j =>
      rw [q] at e
      obtain ⟨v, e2, rv⟩ := r.at_ e
      refine ⟨a, xs, i, v, rfl, rz_i r2, SqL.of (S.le.exact h1 rfl), ?_, k _ _ _ _ _ _ n (Same.refl F) S (rzF_f rv)⟩
      unfold atI
      rw [r.len, q]
      exact e2) h
theorem ze_ixLv {K : PySem.W.Frag} {s0 : Sl} {c0 : Dt} (h0 : ρ[i]? = some s0) (p0 : Pk s0 c0) (h : ZE z tb ρ fun y _ ρ2 => ∃ s t ds j d, ρ2[i]? = some s ∧ Pk s (.lst t ds) ∧ y = .int j ∧ atI ds j = some d ∧ N d false ρ2) : ZE z (tOp (rIxL K) (tVar i) tb) ρ N := fun m F H σ Q S k => by
  obtain ⟨v, ev⟩ := S.has h0 p0
  refine ⟨v, ev, h m F H σ _ S fun y fy ρ2 F2 H2 vy n2 s2 S2 r2 => ?_⟩
  obtain ⟨F3, s3, S3, ry⟩ := rzF_frz S2 r2
  obtain ⟨s, t, ds, j, d, hs, p, rfl, e, n⟩ := n2
  obtain ⟨a, xs, ea, h1, r⟩ := S3.peekL hs p
  rw [ev] at ea
  cases ea
  unfold atI at e
  cases q : ixN ds.length j with
  | none => rw [q] at e; cases e
  | some j' =>
    rw [q] at e
    obtain ⟨u, e2, rv⟩ := r.at_ e
    refine ⟨a, xs, j, u, rfl, rz_i ry, SqL.of h1, ?_, k _ _ _ _ _ _ n (s2.trans s3) S3 (rzF_f rv)⟩
    unfold atI
    rw [r.len, q]
    exact e2
/-! slices -/
def ZO (z : Cz) (t : TO) (ρ : List Sl) (N : Option Int → List Sl → Prop) : Prop := ∀ m F H σ Q, Sm z m F H σ ρ → (∀ o ρ' F' H', N o ρ' → Same F F' → Sm z m F' H' σ ρ' → Q o H') → t σ H Q
theorem zo_no {M : Option Int → List Sl → Prop} (h : M none ρ) : ZO z tNoPart ρ M := fun m F H σ Q S k => k _ _ _ _ h (Same.refl F) S
theorem zo_some {M : Option Int → List Sl → Prop} (h : ZE z te ρ fun x _ ρ1 => ∃ i, x = .int i ∧ M (some i) ρ1) : ZO z (tPart te) ρ M := fun m F H σ Q S k => by
  refine h m F H σ _ S fun x fx ρ1 F1 H1 vx n1 s1 S1 r1 => ?_
  obtain ⟨F2, s2, S2, rx⟩ := rzF_frz S1 r1
  obtain ⟨i, rfl, n⟩ := n1
  exact ⟨i, rz_i rx, k _ _ _ _ n (s1.trans s2) S2⟩
def cutD (ds : List Dt) (lo hi : Option Int) : List Dt := (ds.drop (HT.sIx ds.length 0 lo)).take (HT.sIx ds.length ds.length hi - HT.sIx ds.length 0 lo)
theorem cut_rzl {K : PySem.W.Frag} {B F : Hp} {ds : List Dt} {xs : List V} (r : Rzl K B F ds xs) (lo hi : Option Int) : Rzl K B F (cutD ds lo hi) (cutV xs lo hi) := by
  unfold cutD cutV
  rw [r.len]
  exact (r.drop _).take _
theorem ze_slT {K : PySem.W.Frag} {tl th : TO} (h : ZE z te ρ fun x _ ρ1 => ZO z tl ρ1 fun lo ρ2 => ZO z th ρ2 fun hi ρ3 => ∃ ds, x = .tup ds ∧ ¬ (HT.sIx ds.length 0 lo = 0 ∧ HT.sIx ds.length ds.length hi = ds.length) ∧ N (.tup (cutD ds lo hi)) false ρ3) : ZE z (tSl (rSlT K) te tl th) ρ N := fun m F H σ Q S k => by
  refine h m F H σ _ S fun x fx ρ1 F1 H1 vx n1 s1 S1 r1 => ?_
  obtain ⟨F2, s2, S2, rx⟩ := rzF_frz S1 r1
  refine n1 m F2 H1 σ _ S2 fun lo ρ2 F3 H3 n2 s3 S3 => n2 m F3 H3 σ _ S3 fun hi ρ3 F4 H4 n3 s4 S4 => ?_
  obtain ⟨ds, rfl, hn, n⟩ := n3
  have rx := rz_mono (s3.trans s4) _ _ rx
  simp only [Rz] at rx
  obtain ⟨a, xs, rfl, e, r⟩ := rx
  refine ⟨a, xs, rfl, SqT.of (S4.le.exact e rfl), by rw [r.len]; exact hn, fun p hp => ?_⟩
  obtain ⟨s5, S5⟩ := S4.new (o := .tup (cutV xs lo hi)) hp
  exact k _ _ _ _ _ _ n ((s1.trans s2).trans ((s3.trans s4).trans s5)) S5 (show Rz z.K m.B _ (.tup _) _ by simp only [Rz]; exact ⟨p, _, rfl, upd_same, rzl_mono s5 _ _ (cut_rzl r lo hi)⟩)
theorem ze_slL {K : PySem.W.Frag} {tl th : TO} (h : ZE z te ρ fun x _ ρ1 => ZO z tl ρ1 fun lo ρ2 => ZO z th ρ2 fun hi ρ3 => ∃ t ds, x = .lst t ds ∧ N (.lst true (cutD ds lo hi)) true ρ3) : ZE z (tSl (rSlL K) te tl th) ρ N := fun m F H σ Q S k => by
  refine h m F H σ _ S fun x fx ρ1 F1 H1 vx n1 s1 S1 r1 => ?_
  obtain ⟨F2, s2, S2, rx⟩ := rzF_frz S1 r1
  refine n1 m F2 H1 σ _ S2 fun lo ρ2 F3 H3 n2 s3 S3 => n2 m F3 H3 σ _ S3 fun hi ρ3 F4 H4 n3 s4 S4 => ?_
  obtain ⟨t, ds, rfl, n⟩ := n3
  have rx := rz_mono (s3.trans s4) _ _ rx
  simp only [Rz] at rx
  obtain ⟨a, xs, rfl, e, _, r⟩ := rx
  exact ⟨a, xs, rfl, SqL.of (S4.le.exact e rfl), fun p hp => k _ _ _ _ _ _ n ((s1.trans s2).trans (s3.trans s4)) (S4.newO hp) (rzF_new S4 hp (.lst (cut_rzl r lo hi)))⟩
/-! joins -/
theorem ze_cat (h : ZE z ta ρ fun x _ ρ1 => ZE z tb ρ1 fun y _ ρ2 => ∃ t u ds es, x = .lst t ds ∧ y = .lst u es ∧ ds.length + es.length ≤ 100000 ∧ N (.lst true (ds ++ es)) true ρ2) : ZE z (tOp rCat ta tb) ρ N :=
  ze_op2w (W := fun x y N ρ2 => ∃ t u ds es, x = .lst t ds ∧ y = .lst u es ∧ ds.length + es.length ≤ 100000 ∧ N (.lst true (ds ++ es)) true ρ2) (fun x y ρ2 N n2 m F H σ Q vx vy S r1 r2 k => by
    obtain ⟨t, u, ds, es, rfl, rfl, hl, n⟩ := n2
    simp only [Rz] at r1 r2
    obtain ⟨a, xs, rfl, h1, _, r1⟩ := r1
    obtain ⟨b, ys, rfl, h2, _, r2⟩ := r2
    exact ⟨a, b, xs, ys, rfl, rfl, S.le.exact h1 rfl, S.le.exact h2 rfl, by rw [r1.len, r2.len, sizeLine_eq]; omega, fun p hp => k _ _ _ _ _ _ n (Same.refl F) (S.newO hp) (rzF_new S hp (.lst (r1.app r2)))⟩) h
/-! truth -/
inductive TruD : Dt → Bool → Prop
  | lst (t : Bool) (ds : List Dt) : TruD (.lst t ds) (!ds.isEmpty)
  | tup (ds : List Dt) : TruD (.tup ds) (!ds.isEmpty)
  | bl (b : Bool) : TruD (.bl b) b
  | int (i : Int) : TruD (.int i) (i != 0)
  | non : TruD .non false
theorem isEmpty_len {α β : Type} : ∀ {xs : List α} {ys : List β}, xs.length = ys.length → xs.isEmpty = ys.isEmpty
  | [], [], _ => rfl
  | _ :: _, _ :: _, _ => rfl
  | [], _ :: _, h => by cases h
  | _ :: _, [], h => by cases h
abbrev tTru (K : PySem.W.Frag) (ta : TE) : TT := fun σ H Q => ta σ H fun x H' => ∃ k, TruV K x H' k ∧ Q k H'
theorem zt_truv {s0 : Sl} {t : Bool} {ds : List Dt} {M : Bool → List Sl → Prop} (h0 : ρ[i]? = some s0) (p0 : Pk s0 (.lst t ds)) (q : M (!ds.isEmpty) ρ) : ZT z (tTru z.K (tVar i)) ρ M := fun m F H σ Q S k => by
  obtain ⟨a, xs, e, h1, r⟩ := S.peekL h0 p0
  refine ⟨_, e, _, .inl ⟨xs, SqL.of h1, rfl⟩, ?_⟩
  rw [isEmpty_len r.len]
  exact k _ _ _ _ q (Same.refl F) S
theorem zt_tru {M : Bool → List Sl → Prop} (h : ZE z ta ρ fun x _ ρ1 => ∃ b, TruD x b ∧ M b ρ1) : ZT z (tTru z.K ta) ρ M := fun m F H σ Q S k => by
  refine h m F H σ _ S fun x fx ρ1 F1 H1 vx n1 s1 S1 r1 => ?_
  obtain ⟨F2, s2, S2, rx⟩ := rzF_frz S1 r1
  obtain ⟨b, hb, n⟩ := n1
  have q := k _ _ _ _ n (s1.trans s2) S2
  cases hb with
  | lst t ds =>
    simp only [Rz] at rx
    obtain ⟨a, xs, rfl, e, _, r⟩ := rx
    exact ⟨_, .inl ⟨xs, SqL.of (S2.le.exact e rfl), rfl⟩, by rw [isEmpty_len r.len]; exact q⟩
  | tup ds =>
    simp only [Rz] at rx
    obtain ⟨a, xs, rfl, e, r⟩ := rx
    exact ⟨_, .inr (.inl ⟨xs, SqT.of (S2.le.exact e rfl), rfl⟩), by rw [isEmpty_len r.len]; exact q⟩
  | bl b => exact ⟨b, by rw [rz_b rx]; exact rfl, q⟩
  | int i => exact ⟨_, by rw [rz_i rx]; exact rfl, q⟩
  | non => exact ⟨_, by rw [rz_n rx]; exact rfl, q⟩
/-! methods of an owned list -/
theorem ze_append {K : PySem.W.Frag} {t0 : Bool} {ds0 : List Dt} (h0 : ρ[i]? = some (.o (.lst t0 ds0))) (h : ZE z te ρ fun x _ ρ1 => ∃ ds, ρ1[i]? = some (.o (.lst true ds)) ∧ ds.length < 100000 ∧ N .non false (ρ1.set i (.o (.lst true (ds ++ [x]))))) :
    ZE z (tBM K "list" rAppend (tVar i) (tCons te tNil)) ρ N := fun m F H σ Q S k => by
  obtain ⟨l, e, h1, h2, h3, ho, h4, h5⟩ := S.geto h0
  cases h5 with
  | @lst xs _ r =>
    refine ⟨.ref l, e, .inl ⟨rfl, xs, SqL.of h4⟩, h m F H σ _ S fun x fx ρ1 F1 H1 vx n1 s1 S1 r1 => ?_⟩
    obtain ⟨F2, s2, S2, rx⟩ := rzF_frz S1 r1
    obtain ⟨ds, hs, hl, n⟩ := n1
    obtain ⟨l', e', q1, q2, q3, ho, q4, q5⟩ := S2.geto hs
    rw [e] at e'
    cases e'
    cases q5 with
    | @lst xs _ r =>
      exact ⟨l, xs, vx, rfl, rfl, q4, by rw [r.len, sizeLine_eq]; omega, k _ _ _ _ _ _ n (s1.trans s2) (S2.put hs e (.lst (r.app (.cons rx .nil)))) (rzF_f rzn)⟩
theorem ze_pop {K : PySem.W.Frag} {t0 : Bool} {ds : List Dt} {d : Dt} (h0 : ρ[i]? = some (.o (.lst t0 (ds ++ [d])))) (n : N d false (ρ.set i (.o (.lst true ds)))) : ZE z (tBM0 K "list" rPop (tVar i)) ρ N := fun m F H σ Q S k => by
  obtain ⟨l, e, h1, h2, h3, ho, h4, h5⟩ := S.geto h0
  cases h5 with
  | @lst xs _ r =>
    refine ⟨.ref l, e, .inl ⟨rfl, xs, SqL.of h4⟩, ?_⟩
    have hl := r.len
    rw [List.length_append, List.length_singleton] at hl
    obtain ⟨y, hy, ry⟩ := r.at_ (i := ds.length) (d := d) (by simp)
    refine ⟨l, xs, y, rfl, rfl, h4, by rw [hl]; exact hy, k _ _ _ _ _ _ n (Same.refl F) (S.put h0 e (.lst ?_)) (rzF_f ry)⟩
    have := r.take ds.length
    rw [List.take_left] at this
    rw [List.dropLast_eq_take, hl]
    exact this
theorem ze_extend {K : PySem.W.Frag} {t0 : Bool} {ds0 : List Dt} (h0 : ρ[i]? = some (.o (.lst t0 ds0))) (h : ZE z te ρ fun x _ ρ1 => ∃ ds t es, ρ1[i]? = some (.o (.lst true ds)) ∧ x = .lst t es ∧ ds.length + es.length ≤ 100000 ∧ N .non false (ρ1.set i (.o (.lst true (ds ++ es))))) :
    ZE z (tBM K "list" rExtend (tVar i) (tCons te tNil)) ρ N := fun m F H σ Q S k => by
  obtain ⟨l, e, h1, h2, h3, ho, h4, h5⟩ := S.geto h0
  cases h5 with
  | @lst xs _ r =>
    refine ⟨.ref l, e, .inl ⟨rfl, xs, SqL.of h4⟩, h m F H σ _ S fun x fx ρ1 F1 H1 vx n1 s1 S1 r1 => ?_⟩
    obtain ⟨F2, s2, S2, rx⟩ := rzF_frz S1 r1
    obtain ⟨ds, t, es, hs, rfl, hl, n⟩ := n1
    obtain ⟨l', e', q1, q2, q3, ho, q4, q5⟩ := S2.geto hs
    rw [e] at e'
    cases e'
    simp only [Rz] at rx
    obtain ⟨b, ys, rfl, hb, _, ry⟩ := rx
    cases q5 with
    | @lst xs _ r =>
      exact ⟨l, b, xs, ys, rfl, rfl, q4, S2.le.exact hb rfl, by rw [r.len, ry.len, sizeLine_eq]; omega, k _ _ _ _ _ _ n (s1.trans s2) (S2.put hs e (.lst (r.app ry))) (rzF_f rzn)⟩
/-! in a written tuple of texts -/
theorem ze_inStrs {a : Addr} {xs : List Str} (hk : tupStrs z.K a xs = true) (hl : xs.length ≤ 1000) (h : ZE z ta ρ fun x _ ρ1 => ∃ y, x = .str y ∧ N (.bl (inV (.str y) (xs.map V.str))) false ρ1) : ZE z (tOp (rIn z.K false) ta (tC (.ref a))) ρ N := fun m F H σ Q S k => by
  refine h m F H σ _ S fun x fx ρ1 F1 H1 vx n1 s1 S1 r1 => ?_
  obtain ⟨F2, s2, S2, rx⟩ := rzF_frz S1 r1
  obtain ⟨y, rfl, n⟩ := n1
  obtain rfl := rz_s rx
  refine ⟨a, xs.map V.str, rfl, .inr (tupStrs_ok hk hl), rfl, ?_, k _ _ _ _ _ _ n (s1.trans s2) S2 (rzF_f rzb)⟩
  exact List.all_eq_true.mpr fun v hv => by
    obtain ⟨y, _, rfl⟩ := List.mem_map.mp hv
    rfl
def flatD : Dt → Option V
  | .non => some .non | .bl b => some (.bl b) | .int i => some (.int i) | .str x => some (.str x)
  | _ => none
theorem flat_rz {K : PySem.W.Frag} {B F : Hp} {d : Dt} {v u : V} (h : flatD d = some u) (r : Rz K B F d v) : v = u ∧ flatV u = true := by
  unfold flatD at h
  split at h <;> cases h <;> (simp only [Rz] at r; exact ⟨r, rfl⟩)
theorem flat_rzl {K : PySem.W.Frag} {B F : Hp} : ∀ {ds : List Dt} {vs us : List V}, ds.mapM flatD = some us → Rzl K B F ds vs → vs = us ∧ us.all flatV = true
  | [], _, us, h, r => by
    rw [List.mapM_nil] at h
    cases h
    exact ⟨r.inv0, rfl⟩
  | d :: ds, _, us, h, r => by
    obtain ⟨v, r', rfl, r1, r2⟩ := r.inv
    rw [List.mapM_cons] at h
    cases e : flatD d with
    | none => rw [e] at h; cases h
    | some u =>
      rw [e] at h
      cases e2 : ds.mapM flatD with
      | none => rw [e2] at h; cases h
      | some us' =>
        rw [e2] at h
        cases h
        obtain ⟨h1, h2⟩ := flat_rz e r1
        obtain ⟨h3, h4⟩ := flat_rzl e2 r2
        exact ⟨by rw [h1, h3], by rw [List.all_cons, h2, h4]; rfl⟩
/-- in a list or a tuple of scalars -/
theorem ze_inF {neg : Bool} (h : ZE z ta ρ fun x _ ρ1 => ZE z tb ρ1 fun y _ ρ2 => ∃ u us ds, flatD x = some u ∧ ((∃ t, y = .lst t ds) ∨ y = .tup ds) ∧ ds.mapM flatD = some us ∧ N (.bl (if neg then !inV u us else inV u us)) false ρ2) : ZE z (tOp (rIn z.K neg) ta tb) ρ N :=
  ze_op2w (W := fun x y N ρ2 => ∃ u us ds, flatD x = some u ∧ ((∃ t, y = .lst t ds) ∨ y = .tup ds) ∧ ds.mapM flatD = some us ∧ N (.bl (if neg then !inV u us else inV u us)) false ρ2) (fun x y ρ2 N n2 m F H σ Q vx vy S r1 r2 k => by
    obtain ⟨u, us, ds, hu, hy, hm, n⟩ := n2
    obtain ⟨rfl, fu⟩ := flat_rz hu r1
    rcases hy with ⟨t, rfl⟩ | rfl
    · simp only [Rz] at r2
      obtain ⟨a, xs, rfl, e, _, r⟩ := r2
      obtain ⟨rfl, fs⟩ := flat_rzl hm r
      exact ⟨a, xs, rfl, .inl (SqL.of (S.le.exact e rfl)), fu, fs, k _ _ _ _ _ _ n (Same.refl F) S (rzF_f rzb)⟩
    · simp only [Rz] at r2
      obtain ⟨a, xs, rfl, e, r⟩ := r2
      obtain ⟨rfl, fs⟩ := flat_rzl hm r
      exact ⟨a, xs, rfl, .inr (SqT.of (S.le.exact e rfl)), fu, fs, k _ _ _ _ _ _ n (Same.refl F) S (rzF_f rzb)⟩) h
/-- in a table of the module with text keys -/
theorem ze_inTab {X : Cx} {a : Addr} (h : ZE z ta ρ fun x _ ρ1 => ∃ y b, x = .str y ∧ inTab X.K a y b = true ∧ N (.bl b) false ρ1) :
    ZE z (tOp (fun x y H Q => ∃ (z : Str) (r : Option Value), x = .str z ∧ y = .ref a ∧ PySem.W.nsIn X.K a z = some r ∧ Q (.bl r.isSome) H) ta (tC (.ref a))) ρ N := fun m F H σ Q S k => by
  refine h m F H σ _ S fun x fx ρ1 F1 H1 vx n1 s1 S1 r1 => ?_
  obtain ⟨F2, s2, S2, rx⟩ := rzF_frz S1 r1
  obtain ⟨y, b, rfl, hb, n⟩ := n1
  obtain ⟨r, e, hr⟩ := inTab_ok hb
  exact ⟨y, r, rz_s rx, rfl, e, by rw [hr]; exact k _ _ _ _ _ _ n (s1.trans s2) S2 (rzF_f rzb)⟩
/-! isinstance -/
inductive TyD (K : PySem.W.Frag) : Dt → Value → Prop
  | non : TyD K .non (.type "NoneType")
  | bl (b : Bool) : TyD K (.bl b) (.type "bool")
  | int (i : Int) : TyD K (.int i) (.type "int")
  | str (x : Str) : TyD K (.str x) (.type "str")
  | lst (t : Bool) (ds : List Dt) : TyD K (.lst t ds) (.type "list")
  | tup (ds : List Dt) : TyD K (.tup ds) (.type "tuple")
  | dic (t : Bool) (ks : List Key) (ds : List Dt) : TyD K (.dic t ks ds) (.type "dict")
  | rat (n d : Int) : isiCB K (He.ga K "Ratio") = true → Cls K (He.ga K "Ratio") → TyD K (.rat n d) (.ref (He.ga K "Ratio"))
  | ins (C : Addr) (fs : List Str) (ds : List Dt) : isiCB K C = true → Cls K C → TyD K (.ins C fs ds) (.ref C)
theorem tyD_ok {K : PySem.W.Frag} {B F H : Hp} {d : Dt} {t : Value} {v : V} (h : TyD K d t) (r : Rz K B F d v) (le : Le F H) : TyX K H v t := by
  cases h with
  | non => rw [rz_n r]; exact .base .non
  | bl b => rw [rz_b r]; exact .base (.bl b)
  | int i => rw [rz_i r]; exact .base (.int i)
  | str x => rw [rz_s r]; exact .base (.str x)
  | lst t ds =>
    simp only [Rz] at r
    obtain ⟨a, xs, rfl, e, _⟩ := r
    exact .base (.lst (le.exact e rfl))
  | tup ds =>
    simp only [Rz] at r
    obtain ⟨a, xs, rfl, e, _⟩ := r
    exact .base (.tup (le.exact e rfl))
  | dic t ks ds =>
    simp only [Rz] at r
    obtain ⟨a, xs, rfl, e, _⟩ := r
    rcases le a _ e with q | ⟨_, ob, q⟩
    · exact .base (.dK q)
    · exact .fDict q
  | rat n d h1 h2 =>
    simp only [Rz] at r
    obtain ⟨a, dx, rfl, e⟩ := r
    exact isi_ins h1 h2 (le.exact e rfl)
  | ins C fs ds h1 h2 =>
    simp only [Rz] at r
    obtain ⟨a, dx, kvs, rfl, e, _⟩ := r
    exact isi_ins h1 h2 (le.exact e rfl)
theorem ze_isi {c : V} {u : Value} (hc : ClsV c u) (h : ZE z te ρ fun x _ ρ1 => ∃ t b, TyD z.K x t ∧ PySem.W.kitOne z.K t u = some b ∧ N (.bl b) false ρ1) : ZE z (tCB (rIsi z.K) (tCons te (tCons (tC c) tNil))) ρ N := fun m F H σ Q S k => by
  refine h m F H σ _ S fun x fx ρ1 F1 H1 vx n1 s1 S1 r1 => ?_
  obtain ⟨F2, s2, S2, rx⟩ := rzF_frz S1 r1
  obtain ⟨t, b, ht, hk, n⟩ := n1
  exact ⟨vx, c, t, u, b, rfl, hc, tyD_ok ht rx S2.le, hk, k _ _ _ _ _ _ n (s1.trans s2) S2 (rzF_f rzb)⟩
/-! operators of an own class -/
def isIn (K : PySem.W.Frag) (C : Addr) : Dt → Prop
  | .rat _ _ => C = He.ga K "Ratio"
  | .ins D _ _ => C = D
  | _ => False
theorem rz_ins {K : PySem.W.Frag} {B F H : Hp} {C : Addr} {d : Dt} {v : V} (h : isIn K C d) (r : Rz K B F d v) (le : Le F H) : ∃ a dx fs, v = .ref a ∧ H a = some (.ins C dx fs) := by
  cases d <;> first | exact h.elim | skip
  · obtain rfl := h
    simp only [Rz] at r
    obtain ⟨a, dx, rfl, e⟩ := r
    exact ⟨a, dx, _, rfl, le.exact e rfl⟩
  · obtain rfl := h
    simp only [Rz] at r
    obtain ⟨a, dx, kvs, rfl, e, _⟩ := r
    exact ⟨a, dx, kvs, rfl, le.exact e rfl⟩
theorem ze_bin {C : Addr} {w : Wz} {E : XK} (h : ZE z ta ρ fun x _ ρ1 => ZE z tb ρ1 fun y _ ρ2 => isIn z.K C x ∧ isIn z.K C y ∧ w [x.old, y.old] (fun d fr => N d fr ρ2) fun _ _ => False) : ZE z (tOp (rBin C (spZ z.K w) E) ta tb) ρ N :=
  ze_op2w (W := fun x y N ρ2 => isIn z.K C x ∧ isIn z.K C y ∧ w [x.old, y.old] (fun d fr => N d fr ρ2) fun _ _ => False) (fun x y ρ2 N n2 m F H σ Q vx vy S r1 r2 k => by
    obtain ⟨hx, hy, n⟩ := n2
    obtain ⟨a, dx, fs, rfl, ha⟩ := rz_ins hx r1 S.le
    obtain ⟨b, dy, gs, rfl, hb⟩ := rz_ins hy r2 S.le
    refine ⟨a, b, dx, dy, fs, gs, rfl, rfl, ha, hb, F, _, _, _, S.le, .cons (rz_old _ _ r1) (.cons (rz_old _ _ r2) .nil), n, fun d fr F' H' v nd g => ?_, fun C fs dd H' f => f.elim⟩
    obtain ⟨S2, r⟩ := S.got g
    exact k _ _ _ _ _ _ nd g.1 S2 r) h
theorem ze_neO {C : Addr} {w : Wz} {E : XK} (h : ZE z ta ρ fun x _ ρ1 => ZE z tb ρ1 fun y _ ρ2 => isIn z.K C x ∧ isIn z.K C y ∧ w [x.old, y.old] (fun d fr => ∃ b, d = .bl b ∧ fr = false ∧ N (.bl (!b)) false ρ2) fun _ _ => False) : ZE z (tOp (rNeO C (spZ z.K w) E) ta tb) ρ N :=
  ze_op2w (W := fun x y N ρ2 => isIn z.K C x ∧ isIn z.K C y ∧ w [x.old, y.old] (fun d fr => ∃ b, d = .bl b ∧ fr = false ∧ N (.bl (!b)) false ρ2) fun _ _ => False) (fun x y ρ2 N n2 m F H σ Q vx vy S r1 r2 k => by
    obtain ⟨hx, hy, n⟩ := n2
    obtain ⟨a, dx, fs, rfl, ha⟩ := rz_ins hx r1 S.le
    obtain ⟨b, dy, gs, rfl, hb⟩ := rz_ins hy r2 S.le
    refine ⟨a, b, dx, dy, fs, gs, rfl, rfl, ha, hb, F, _, _, _, S.le, .cons (rz_old _ _ r1) (.cons (rz_old _ _ r2) .nil), n, fun d fr F' H' v nd g => ?_, fun C fs dd H' f => f.elim⟩
    obtain ⟨t, rfl, rfl, nd⟩ := nd
    obtain ⟨S2, r⟩ := S.got g
    exact ⟨t, rz_b (show Rz z.K m.B F' (.bl t) v from r), k _ _ _ _ _ _ nd g.1 S2 (rzF_f rzb)⟩) h
theorem ze_unO {C : Addr} {w : Wz} {E : XK} (h : ZE z ta ρ fun x _ ρ1 => isIn z.K C x ∧ w [x.old] (fun d fr => N d fr ρ1) fun _ _ => False) : ZE z (tUn (rUnO C (spZ z.K w) E) ta) ρ N :=
  ze_un1 fun m F H σ Q S k => h m F H σ Q S fun x fx ρ1 F1 H1 vx n1 s1 S1 r1 => k x fx ρ1 F1 H1 vx (by
    obtain ⟨hx, n⟩ := n1
    intro m F H σ Q vx S r1 k
    obtain ⟨a, dx, fs, rfl, ha⟩ := rz_ins hx r1 S.le
    refine ⟨a, dx, fs, rfl, ha, F, _, _, _, S.le, .cons (rz_old _ _ r1) .nil, n, fun d fr F' H' v nd g => ?_, fun C fs dd H' f => f.elim⟩
    obtain ⟨S2, r⟩ := S.got g
    exact k _ _ _ _ _ _ nd g.1 S2 r) s1 S1 r1
end
/-! ### the law's own helpers: the stream -/
def spStream (K : PySem.W.Frag) : Sp := fun vs H Q _ => ∃ (a : Addr) (ns : List Int), vs = [.ref a] ∧ SqL K H a (ns.map V.int) ∧ ns.length ≤ 63 ∧ ∀ s H', Same H H' → Strm H' s → Q (.ref s) H'
def spDraw : Sp := fun vs H Q _ => ∃ (s : Addr) (n : Int), vs = [.ref s, .int n] ∧ Strm H s ∧ 0 < n ∧ n < 18446744073709551616 ∧ ∀ v, 0 ≤ v → v < n → Q (.int v) H
section
variable {P : Program} {w : World} {K : PySem.W.Frag} {mg : Str → Option Value} {base : Heap}
theorem small31 {i : Int} (h0 : 0 ≤ i) (h : i < 2147483648) : i.natAbs < 2 ^ 31 := by omega
theorem mulW31 {i j : Int} (h0 : 0 ≤ i) (h : i < 2147483648) (h2 : 0 ≤ j) (h3 : j < 2147483648) : CMulW i j := wide_mul (a := 31) (b := 31) (by omega) (by omega) (by decide) (by decide) (by decide)
theorem item_int {ns : List Int} {i : Nat} {x : V} (h : (ns.map V.int)[i]? = some x) : ∃ z, ns[i]? = some z ∧ x = .int z := by
  rw [List.getElem?_map] at h
  cases e : ns[i]? with
  | none => rw [e] at h; cases h
  | some z => rw [e] at h; exact ⟨z, rfl, (Option.some.inj h).symm⟩
theorem atI_ints {ns : List Int} {j : Int} (h0 : 0 ≤ j) (h : j < ((ns.map V.int).length : Int)) : ∃ z, atI (ns.map V.int) j = some (.int z) := by
  rw [List.length_map] at h
  have hk : j.toNat < ns.length := by omega
  have e : j = ((j.toNat : Nat) : Int) := by omega
  refine ⟨ns[j.toNat], ?_⟩
  have q : atI (ns.map V.int) ((j.toNat : Nat) : Int) = some (.int ns[j.toNat]) := atI_nat (by rw [List.getElem?_map, List.getElem?_eq_getElem hk] <;> rfl)
  rw [← e] at q
  exact q
theorem ok__law_draw (T : Top w K mg) : FnOk P w K mg base CX0 1 (He.ga K ("_law_draw" : Str)) (fdOf K d__law_draw) ["stream", "many"] spDraw := by
  refine (T.f__law_draw).ok sc__law_draw (fun vs H Q E h => ?_) (fun cdv A outer s H vs Q E hr h => ?_)
  · obtain ⟨a, n, rfl, _⟩ := h
    rfl
  · obtain ⟨s0, n, rfl, ⟨l, ns, hs, hl, h63⟩, h0, h1, k⟩ := h
    refine ⟨_, PSs.nox (pss_open s0 l (C8.pss_cut (ps_if (PW.pt (pw_and (pt_cmpR op_eq (pe_ix (ix_listK (K := K) rfl) (pv 0) pe_int (fun _ _ => rfl)) pe_int (nomark _)) (pw_and1 (pt_cmpR op_lt (pe_ix (ix_listK (K := K) rfl) (pv 0) pe_int (fun _ _ => rfl)) (pe_callB (call_lenK (K := K) rfl) (by rfl) T.n_len PySem.boot_len (pa_cons (pe_ix (ix_listK (K := K) rfl) (pv 0) pe_int (fun _ _ => rfl)) pa_nil)) (nomark _)))))
    (pss_cons (ps_asg (pe_callB call_abs (by rfl) T.n_abs (by decide +kernel) (pa_cons (pe_callTy call_int1 (by rfl) T.n_int (by decide +kernel) (pa_cons (pe_ix (ix_listK (K := K) rfl) (pe_ix (ix_listK (K := K) rfl) (pv 0) pe_int (fun _ _ => rfl)) (pe_ix (ix_listK (K := K) rfl) (pv 0) pe_int (fun _ _ => rfl)) (fun _ _ => rfl)) pa_nil)) pa_nil)) (pg_sub (pv 0) pe_int set_list))
    (pss_one (ps_asg (pe_op op_add (pe_ix (ix_listK (K := K) rfl) (pv 0) pe_int (fun _ _ => rfl)) pe_int) (pg_sub (pv 0) pe_int set_list))))
    pss_nil)
    (pss_cons (ps_if (pt_cmpR op_eq (pe_ix (ix_listK (K := K) rfl) (pv 0) pe_int (fun _ _ => rfl)) pe_int (nomark _))
    (pss_cons (ps_asg (pe_op op_mod (pe_callTy call_int1 (by rfl) T.n_int (by decide +kernel) (pa_cons (pe_op op_add (pe_op op_mulW (pe_ix (ix_listK (K := K) rfl) (pv 0) pe_int (fun _ _ => rfl)) pe_int) pe_int) pa_nil)) pe_int) (pg_sub (pv 0) pe_int set_list))
    (pss_one (ps_ret (pe_op op_mod (pe_callTy call_int1 (by rfl) T.n_int (by decide +kernel) (pa_cons (pe_op op_fdivG (pe_ix (ix_listK (K := K) rfl) (pv 0) pe_int (fun _ _ => rfl)) pe_int) pa_nil)) (pv 1)))))
    pss_nil)
    (pss_cons (ps_set (i := 2) sc__law_draw.nd rfl (Or.inl rfl) (pe_op op_mod (pe_callTy call_int1 (by rfl) T.n_int (by decide +kernel) (pa_cons (pe_ix (ix_listK (K := K) rfl) (pv 0) pe_int (fun _ _ => rfl)) pa_nil)) (pv 1)))
    (pss_cons (ps_asg (pe_op op_fdivG (pe_ix (ix_listK (K := K) rfl) (pv 0) pe_int (fun _ _ => rfl)) (pv 1)) (pg_sub (pv 0) pe_int set_list))
    (pss_one (ps_ret (pv 2)))))))), ?_⟩
    refine r_open hs (fun i j m hj => ?_)
    have hls : l ≠ s0 := ne_of hl hs (by intro z; cases z)
    refine r_cut (fun σ H' => σ = [some (.ref s0), some (.int n), none] ∧ ∃ i j, okS j m ∧ H' = upd H s0 (.lst (cellsV l i j m))) ?_ ?_
    · have hl' : ∀ o, SqL K (upd H s0 o) l (ns.map V.int) := fun o => SqL.of (by rw [upd_ne hls]; exact hl)
      walk_at "go"
      refine ite_d (fun c1 => ?_) (fun c1 => ?_)
      · walk_at "go"
        refine ⟨_, _, rfl, .inl (hl' _), ?_⟩
        walk_at "go"
        refine ite_d (fun c2 => ?_) (fun c2 => ?_)
        · obtain ⟨z, hz⟩ := atI_ints hj.1 c2
          walk_at "go"
          refine r_ixL (hl' _) hz ?_
          walk_at "go"
          exact ⟨rfl, _, j + 1, ⟨by have := hj.1; omega, hj.2⟩, by rw [upd_upd, upd_upd] <;> rfl⟩
        · walk_at "go"
          exact ⟨rfl, i, j, hj, rfl⟩
      · walk_at "go"
        exact ⟨rfl, i, j, hj, rfl⟩
    · rintro σ H' ⟨rfl, i, j, hj, rfl⟩
      walk_at "go"
      refine ite_d (fun c1 => ?_) (fun c1 => ?_)
      · walk_at "go"
        refine ⟨mulW31 hj.2.1 hj.2.2 (by decide) (by decide), ?_⟩
        walk_at "go"
        refine ⟨cdivG (b := 64) (by omega) (by omega) (by decide) (by decide), ?_⟩
        walk_at "go"
        refine ⟨i, j, (m * 48271 + 11) % 2147483647, upd_same, ⟨hj.1, by omega, by omega⟩, ?_⟩
        rw [upd_back2 hs]
        exact k _ (Int.emod_nonneg _ (by omega)) (Int.emod_lt_of_pos _ h0)
      · walk_at "go"
        refine ⟨cdivG (b := 64) (by omega) (by omega) (by decide) (by decide), ?_⟩
        walk_at "go"
        refine ⟨i.fdiv n, j, m, upd_same, hj, ?_⟩
        rw [upd_back2 hs]
        exact k _ (Int.emod_nonneg _ (by omega)) (Int.emod_lt_of_pos _ h0)
/-- a draw: any number below -/
theorem draw_at {s : Addr} {n : Int} {H : Hp} {Q : VK} {E : XK} (hS : Strm H s) (h0 : 0 < n) (h1 : n < 18446744073709551616) (k : ∀ v, 0 ≤ v → v < n → Q (.int v) H) : spDraw [.ref s, .int n] H Q E := ⟨s, n, rfl, hS, h0, h1, k⟩
theorem ok__law_stream (T : Top w K mg) : FnOk P w K mg base CX0 1 (He.ga K ("_law_stream" : Str)) (fdOf K d__law_stream) ["script"] (spStream K) := by
  refine (T.f__law_stream).ok sc__law_stream (fun vs H Q E h => ?_) (fun cdv A outer s H vs Q E hr h => ?_)
  · obtain ⟨a, n, rfl, _⟩ := h
    rfl
  · obtain ⟨a, ns, rfl, hS, h63, k⟩ := h
    refine ⟨_, PSs.nox (pss_shut (pss_cons (ps_set (i := 1) sc__law_stream.nd rfl (Or.inl rfl) pe_int)
    (pss_cons (ps_for PassesOwn.never rfl (pi_listK (K := K) rfl (pv 0)) (pg_name (i := 2) sc__law_stream.nd rfl (Or.inl rfl))
    (pss_one (ps_set (i := 1) sc__law_stream.nd rfl (Or.inl rfl) (pe_op op_mod (pe_callTy call_int1 (by rfl) T.n_int (by decide +kernel) (pa_cons (pe_op op_add (pe_op op_add (pe_op op_mulW (pv 1) pe_int) (pe_op op_mod (pe_callTy call_int1 (by rfl) T.n_int (by decide +kernel) (pa_cons (pv 2) pa_nil)) pe_int)) pe_int) pa_nil)) pe_int))))
    (pss_one (ps_ret (pe_lst (pa_cons (pe_callTy (call_listK (K := K) rfl) (by rfl) T.n_list (by decide +kernel) (pa_cons (pv 0) pa_nil)) (pa_cons pe_int (pa_cons pe_int (pa_cons (pv 1) pa_nil)))))))))), ?_⟩
    refine r_shut ?_
    walk_at "go"
    refine ⟨⟨_, hS⟩, for_lst (xs := ns.map V.int) (fun i σ H' => H' = H ∧ ∃ (m : Int) (v : Option V), σ = [some (.ref a), some (.int m), v] ∧ 0 ≤ m ∧ m < 2147483648) ⟨rfl, 17, none, rfl, by omega, by omega⟩ (fun i σ H' _ h => by rw [h.1]; exact hS) ?_ ?_⟩
    · rintro i x σ H' hx ⟨rfl, m, v, rfl, h0, h1⟩
      obtain ⟨z, hz, rfl⟩ := item_int hx
      walk_at "go"
      refine ⟨mulW31 h0 h1 (by decide) (by decide), ?_⟩
      walk_at "go"
      exact ⟨rfl, _, _, rfl, Int.emod_nonneg _ (by omega), by show _ % (2147483647 : Int) < _; omega⟩
    · rintro σ H' ⟨rfl, m, v, rfl, h0, h1⟩
      walk_at "go"
      refine ⟨_, _, rfl, .inl hS, fun l hl => ?_⟩
      walk_at "go"
      refine ⟨by show 4 ≤ sizeLine; decide, fun p hp => ?_⟩
      have hlp : l ≠ p := ne_of_none upd_same hp
      have s1 : Same H' (upd H' l (.lst (ns.map V.int))) := same_new hl
      have hp0 : H' p = none := s1.free hp
      refine ⟨p, l, 0, 0, m, rfl, upd_same, ⟨by omega, h0, h1⟩, k p _ (fun b o e => ?_) ⟨l, ns, upd_same, by rw [upd_ne hlp, upd_ne hlp, upd_same], h63⟩⟩
      rw [upd_ne (ne_of_none e hp0), upd_ne (ne_of_none e hp0)]
      exact s1 b o e
end
/-! ### the law's pair in lowest terms -/
def gcdI (n d : Int) : Int := ((Nat.gcd n.natAbs d.natAbs : Nat) : Int)
def sgc (n d : Int) : Int := if d < 0 then -gcdI n d else gcdI n d
def pn (n d : Int) : Int := n.fdiv (sgc n d)
def pd (n d : Int) : Int := d.fdiv (sgc n d)
theorem gcdI_pos {n d : Int} (h : d ≠ 0) : 0 < gcdI n d := by
  have : 0 < Nat.gcd n.natAbs d.natAbs := Nat.gcd_pos_of_pos_right _ (Int.natAbs_pos.mpr h)
  unfold gcdI
  omega
theorem sgc_ne {n d : Int} (h : d ≠ 0) : sgc n d ≠ 0 := by
  have := gcdI_pos (n := n) h
  unfold sgc
  split <;> omega
theorem sgc_abs {n d : Int} (h : d ≠ 0) : (sgc n d).natAbs ≤ d.natAbs := by
  have h1 : Nat.gcd n.natAbs d.natAbs ≤ d.natAbs := Nat.gcd_le_right _ (Int.natAbs_pos.mpr h)
  unfold sgc gcdI
  split <;> omega
/-! ### lowest terms -/
structure Low (n d : Int) : Prop where
  pos : 0 < d
  cop : Nat.gcd n.natAbs d.natAbs = 1
theorem sgc_nat (n d : Int) : (sgc n d).natAbs = Nat.gcd n.natAbs d.natAbs := by
  unfold sgc gcdI
  split
  · rw [Int.natAbs_neg, Int.natAbs_natCast]
  · rw [Int.natAbs_natCast]
theorem sgc_dvd_n (n d : Int) : sgc n d ∣ n := Int.natAbs_dvd_natAbs.mp (by rw [sgc_nat]; exact Nat.gcd_dvd_left _ _)
theorem sgc_dvd_d (n d : Int) : sgc n d ∣ d := Int.natAbs_dvd_natAbs.mp (by rw [sgc_nat]; exact Nat.gcd_dvd_right _ _)
theorem pn_mul (n d : Int) : pn n d * sgc n d = n := Int.fdiv_mul_cancel (sgc_dvd_n n d)
theorem pd_mul (n d : Int) : pd n d * sgc n d = d := Int.fdiv_mul_cancel (sgc_dvd_d n d)
theorem low_of {n d : Int} (h : d ≠ 0) : Low (pn n d) (pd n d) := by
  have hs := sgc_ne (n := n) h
  have e1 := pn_mul n d
  have e2 := pd_mul n d
  have g0 : 0 < (sgc n d).natAbs := Int.natAbs_pos.mpr hs
  refine ⟨?_, ?_⟩
  · rcases Int.lt_trichotomy d 0 with c | c | c
    · have s0 : sgc n d < 0 := by
        have := gcdI_pos (n := n) h
        unfold sgc
        rw [if_pos c]
        omega
      rcases Int.lt_or_le 0 (pd n d) with p | p
      · exact p
      · have := Int.mul_nonneg_of_nonpos_of_nonpos p (Int.le_of_lt s0)
        rw [e2] at this
        omega
    · exact absurd c h
    · have s0 : 0 < sgc n d := by
        have := gcdI_pos (n := n) h
        unfold sgc
        rw [if_neg (by omega)]
        exact this
      rcases Int.lt_or_le 0 (pd n d) with p | p
      · exact p
      · have := Int.mul_nonpos_of_nonpos_of_nonneg p (Int.le_of_lt s0)
        rw [e2] at this
        omega
  · have a1 : n.natAbs = (pn n d).natAbs * (sgc n d).natAbs := by rw [← Int.natAbs_mul, e1]
    have a2 : d.natAbs = (pd n d).natAbs * (sgc n d).natAbs := by rw [← Int.natAbs_mul, e2]
    have a3 := sgc_nat n d
    have a4 : Nat.gcd ((pn n d).natAbs * (sgc n d).natAbs) ((pd n d).natAbs * (sgc n d).natAbs) = (sgc n d).natAbs := by
      rw [← a1, ← a2, a3]
    rw [Nat.gcd_mul_right] at a4
    exact Nat.eq_of_mul_eq_mul_right g0 (by rw [a4, Nat.one_mul])
theorem sgc_low {n d : Int} (h : Low n d) : sgc n d = 1 := by
  have hp := h.pos
  unfold sgc gcdI
  rw [if_neg (by omega), h.cop] <;> rfl
theorem pn_low {n d : Int} (h : Low n d) : pn n d = n := by unfold pn; rw [sgc_low h, Int.fdiv_one]
theorem pd_low {n d : Int} (h : Low n d) : pd n d = d := by unfold pd; rw [sgc_low h, Int.fdiv_one]
theorem pn_le {n d : Int} (h : d ≠ 0) : (pn n d).natAbs ≤ n.natAbs := by
  have a1 : n.natAbs = (pn n d).natAbs * (sgc n d).natAbs := by rw [← Int.natAbs_mul, pn_mul]
  have g0 : 0 < (sgc n d).natAbs := Int.natAbs_pos.mpr (sgc_ne h)
  rw [a1]
  exact Nat.le_mul_of_pos_right _ g0
theorem pd_le {n d : Int} (h : d ≠ 0) : (pd n d).natAbs ≤ d.natAbs := by
  have a1 : d.natAbs = (pd n d).natAbs * (sgc n d).natAbs := by rw [← Int.natAbs_mul, pd_mul]
  have g0 : 0 < (sgc n d).natAbs := Int.natAbs_pos.mpr (sgc_ne h)
  rw [a1]
  exact Nat.le_mul_of_pos_right _ g0
theorem Low.neg {n d : Int} (h : Low n d) : Low (-n) d := ⟨h.pos, by rw [Int.natAbs_neg]; exact h.cop⟩
section
variable {P : Program} {w : World} {K : PySem.W.Frag} {mg : Str → Option Value} {base : Heap}
/-! ### Ratios -/
def rfl2 (n d : Int) : List (Str × V) := [("top", .int n), ("bottom", .int d)]
theorem r2_top (n d : Int) : (rfl2 n d).lookup ("top" : Str) = some (.int n) := rfl
theorem r2_bot (n d : Int) : (rfl2 n d).lookup ("bottom" : Str) = some (.int d) := by
  show (match (("bottom" : Str) == "top") with | true => some (V.int n) | false => List.lookup ("bottom" : Str) [("bottom", V.int d)]) = some (.int d)
  rw [show ((("bottom" : Str) == "top") = false) from by decide +kernel]
  rfl
theorem r2_put (n d : Int) : putF "bottom" (.int d) (putF "top" (.int n) []) = rfl2 n d := by
  show (if ("top" : Str) = "bottom" then [(("top" : Str), V.int d)] else (("top" : Str), V.int n) :: putF "bottom" (V.int d) []) = rfl2 n d
  rw [if_neg (show ¬ (("top" : Str) = "bottom") from by decide +kernel)]
  rfl
def RatAt (K : PySem.W.Frag) (H : Hp) (x : Addr) (n d : Int) : Prop := ∃ dx, H x = some (.ins (He.ga K "Ratio") dx (rfl2 n d))
theorem RatAt.mono {H H' : Hp} {x : Addr} {n d : Int} (h : RatAt K H x n d) (e : Same H H') : RatAt K H' x n d := by
  obtain ⟨dx, h⟩ := h
  exact ⟨dx, e _ _ h⟩
def spInit (K : PySem.W.Frag) : Sp := fun vs H Q E => ∃ (x dx : Addr) (n d : Int), vs = [.ref x, .int n, .int d] ∧ H x = some (.ins (He.ga K "Ratio") dx []) ∧ (d ≠ 0 → Bits 8000 (sgc n d)) ∧ (d = 0 → E (.ref (He.ga K "ByZero")) none H) ∧
  (d ≠ 0 → Q .non (upd H x (.ins (He.ga K "Ratio") dx (rfl2 (pn n d) (pd n d)))))
theorem ok_Ratio___init__ (T : Top w K mg) : FnOk P w K mg base (L2.CX P w) 1 (He.ma K (He.ga K ("Ratio" : Str)) ("__init__" : Str)) (fdOf K d_Ratio___init__) ["self", "numerator", "denominator"] (spInit K) := by
  refine (T.f_Ratio___init__).ok sc_Ratio___init__ (fun vs H Q E h => ?_) (fun cdv A outer s H vs Q E hr h => ?_)
  · obtain ⟨x, dx, n, d, rfl, _⟩ := h
    rfl
  · obtain ⟨x, dx, n, d, rfl, hx, hb, k0, k1⟩ := h
    refine ⟨_, (pss_cons (ps_if (pt_cmpR op_eq (pv 2) pe_int (nomark _))
    (pss_one (ps_raise rfl (takes_of rfl rfl rfl rfl) (pmk_own PySem.F.excBase_ValueError T.exc_ByZero.1 T.g_ByZero T.exc_ByZero.2.1 (raises_own T.exc_ByZero.2.2.1 T.exc_ByZero.2.2.2) rfl)))
    pss_nil)
    (pss_cons (ps_set (i := 3) sc_Ratio___init__.nd rfl (Or.inl rfl) (pe_callBfun cr_gcd rfl T.gcdM (pa_cons (pv 1) (pa_cons (pv 2) pa_nil))))
    (C8.pss_cut (ps_if (pt_cmpR op_lt (pv 2) pe_int (nomark _))
    (pss_one (ps_set (i := 3) sc_Ratio___init__.nd rfl (Or.inl rfl) (pe_un un_neg (pv 3))))
    pss_nil)
    (pss_cons (ps_fldK (K := K) rfl (pv 0) (pe_op op_fdivG (pv 1) (pv 3)) rfl)
    (pss_one (ps_fldK (K := K) rfl (pv 0) (pe_op op_fdivG (pv 2) (pv 3)) rfl)))))), ?_⟩
    walk_at "go"
    refine ite_d (fun c => ?_) (fun c => ?_)
    · exact k0 (vint_inj c)
    · walk_at "go"
      have hd : d ≠ 0 := vint_ne c
      refine r_cut (fun σ H' => σ = [some (.ref x), some (.int n), some (.int d), some (.int (sgc n d))] ∧ H' = H) ?_ ?_
      · walk_at "go"
        refine ite_d (fun c => ?_) (fun c => ?_)
        · walk_at "go"
          refine ⟨?_, rfl⟩
          have e : sgc n d = -(((n.natAbs.gcd d.natAbs : Nat)) : Int) := by rw [sgc, if_pos c] <;> rfl
          rw [e] <;> rfl
        · walk_at "go"
          refine ⟨?_, rfl⟩
          have e : sgc n d = (((n.natAbs.gcd d.natAbs : Nat)) : Int) := by rw [sgc, if_neg c] <;> rfl
          rw [e] <;> rfl
      · rintro σ H' ⟨rfl, rfl⟩
        have cd : ∀ i, CDivG i (sgc n d) := fun i => Bits.divG (sgc_ne hd) (hb hd) (by decide)
        walk_at "go"
        refine ⟨cd _, ?_⟩
        walk_at "go"
        refine ⟨_, _, _, _, rfl, hx, T.cls_Ratio, T.na_Ratio_top, (by show 0 < 1000; decide), ?_⟩
        walk_at "go"
        refine ⟨cd _, ?_⟩
        walk_at "go"
        refine ⟨_, _, _, _, rfl, upd_same, T.cls_Ratio, T.na_Ratio_bottom, (by show 1 < 1000; decide), ?_⟩
        have z := k1 hd
        rw [upd_upd]
        have e := r2_put (pn n d) (pd n d)
        show Q .non (upd H' x (.ins _ dx (putF "bottom" (.int (pd n d)) (putF "top" (.int (pn n d)) []))))
        rw [e]
        exact z
end
/-! ### plain data; sorted -/
mutual
def toP : Dt → Option PyData
  | .non => some .none
  | .bl b => some (.bool b)
  | .int i => some (.int i)
  | .str x => some (.str x)
  | .tup ds => match toPs ds with
    | some ps => some (.tuple ps)
    | none => none
  | .lst _ _ | .ty _ | .adr _ | .strm | .rat _ _ | .dic _ _ _ | .dit _ _ _ | .ins _ _ _ => none
def toPs : List Dt → Option (List PyData)
  | [] => some []
  | d :: ds => match toP d, toPs ds with
    | some p, some ps => some (p :: ps)
    | _, _ => none
end
mutual
theorem toP_dat {K : PySem.W.Frag} {B F H : Hp} (le : Le F H) : ∀ (d : Dt) (p : PyData) (v : V), toP d = some p → Rz K B F d v → DatV K H v p
  | .non, _, _, h, r => by simp only [toP] at h; cases h; rw [rz_n r]; exact .non
  | .bl b, _, _, h, r => by simp only [toP] at h; cases h; rw [rz_b r]; exact .bl b
  | .int i, _, _, h, r => by simp only [toP] at h; cases h; rw [rz_i r]; exact .int i
  | .str x, _, _, h, r => by simp only [toP] at h; cases h; rw [rz_s r]; exact .str x
  | .tup ds, _, _, h, r => by
    simp only [toP] at h
    split at h <;> first | cases h | skip
    rename_i ps e
    simp only [Rz] at r
    obtain ⟨a, xs, rfl, e1, r⟩ := r
    exact .tup (SqT.of (le.exact e1 rfl)) (toPs_dat le ds ps xs e r)
  | .lst _ _, _, _, h, _ => by simp only [toP] at h; cases h
  | .ty _, _, _, h, _ => by simp only [toP] at h; cases h
  | .adr _, _, _, h, _ => by simp only [toP] at h; cases h
  | .strm, _, _, h, _ => by simp only [toP] at h; cases h
  | .rat _ _, _, _, h, _ => by simp only [toP] at h; cases h
  | .dic _ _ _, _, _, h, _ => by simp only [toP] at h; cases h
  | .dit _ _ _, _, _, h, _ => by simp only [toP] at h; cases h
  | .ins _ _ _, _, _, h, _ => by simp only [toP] at h; cases h
theorem toPs_dat {K : PySem.W.Frag} {B F H : Hp} (le : Le F H) : ∀ (ds : List Dt) (ps : List PyData) (vs : List V), toPs ds = some ps → Rzl K B F ds vs → DatsV K H vs ps
  | [], _, _, h, r => by
    simp only [toPs] at h
    cases h
    rw [r.inv0]
    exact .nil
  | d :: ds, _, _, h, r => by
    simp only [toPs] at h
    split at h <;> first | cases h | skip
    rename_i p ps e1 e2
    obtain ⟨v, r', rfl, r1, r2⟩ := r.inv
    exact .cons (toP_dat le d p v e1 r1) (toPs_dat le ds ps r' e2 r2)
end
/-- data with the key it is sorted by -/
abbrev KD : Type := Dt × PyData
def sortZ (ps : List KD) : List KD := ps.mergeSort (PySem.W.dataLe false fun p : KD => p.2)
theorem sortZ_perm (ps : List KD) : (sortZ ps).Perm ps := List.mergeSort_perm _ _
abbrev KT3 : Type := V × Dt × PyData
theorem rzl_triples {K : PySem.W.Frag} {B F : Hp} : ∀ {ps : List KD} {xs : List V}, Rzl K B F (ps.map (·.1)) xs → ∃ ts : List KT3, ts.map (·.1) = xs ∧ ts.map (·.2) = ps ∧ ∀ t ∈ ts, Rz K B F t.2.1 t.1
  | [], _, h => ⟨[], h.inv0.symm, rfl, fun _ q => nomatch q⟩
  | p :: ps, _, h => by
    obtain ⟨v, r, rfl, h1, h2⟩ := h.inv
    obtain ⟨ts, e1, e2, h3⟩ := rzl_triples h2
    exact ⟨(v, p) :: ts, by rw [List.map_cons, e1], by rw [List.map_cons, e2], fun t q => by
      rcases List.mem_cons.mp q with rfl | q
      · exact h1
      · exact h3 t q⟩
theorem rzl_of_all {K : PySem.W.Frag} {B F : Hp} : ∀ {ts : List KT3}, (∀ t ∈ ts, Rz K B F t.2.1 t.1) → Rzl K B F ((ts.map (·.2)).map (·.1)) (ts.map (·.1))
  | [], _ => .nil
  | t :: ts, h => .cons (h t List.mem_cons_self) (rzl_of_all fun u q => h u (List.mem_cons_of_mem _ q))
/-- the sorted values read as the sorted data -/
theorem sorted_rzl {K : PySem.W.Frag} {B F : Hp} {ts : List KT3} (h : ∀ t ∈ ts, Rz K B F t.2.1 t.1) :
    Rzl K B F ((sortZ (ts.map (·.2))).map (·.1)) ((sortD (ts.map fun t => ((t.1, t.2.2) : VD))).map (·.1)) := by
  have e1 : sortZ (ts.map (·.2)) = (ts.mergeSort (PySem.W.dataLe false fun t : KT3 => t.2.2)).map (·.2) :=
    (List.map_mergeSort (f := fun t : KT3 => t.2) (r := PySem.W.dataLe false fun t : KT3 => t.2.2) (s := PySem.W.dataLe false fun p : KD => p.2) (l := ts) fun _ _ _ _ => rfl).symm
  have e2 : sortD (ts.map fun t => ((t.1, t.2.2) : VD)) = (ts.mergeSort (PySem.W.dataLe false fun t : KT3 => t.2.2)).map fun t => ((t.1, t.2.2) : VD) :=
    (List.map_mergeSort (f := fun t : KT3 => ((t.1, t.2.2) : VD)) (r := PySem.W.dataLe false fun t : KT3 => t.2.2) (s := PySem.W.dataLe false fun p : VD => p.2) (l := ts) fun _ _ _ _ => rfl).symm
  rw [e1, e2, List.map_map (g := fun (x : VD) => x.1)]
  exact rzl_of_all fun t q => h t (List.mem_mergeSort.mp q)
section
variable {z : Cz} {ρ : List Sl} {N : Dt → Bool → List Sl → Prop} {ta tb te : TE} {t : TA} {i : Nat}
theorem ze_sorted (h : ZE z ta ρ fun x _ ρ1 => ∃ t ps, x = .lst t (ps.map (·.1)) ∧ (∀ p ∈ ps, toP p.1 = some p.2 ∧ p.2.depth ≤ 8) ∧ PySem.W.AllAlike (ps.map (·.2)) ∧ PySem.W.Sortable (ps.map (·.2)) ∧ N (.lst true ((sortZ ps).map (·.1))) true ρ1) :
    ZE z (tCB (rSortedD z.K) (tCons ta tNil)) ρ N :=
  ze_CB1 (W := fun x N ρ1 => ∃ t ps, x = .lst t (ps.map (·.1)) ∧ (∀ p ∈ ps, toP p.1 = some p.2 ∧ p.2.depth ≤ 8) ∧ PySem.W.AllAlike (ps.map (·.2)) ∧ PySem.W.Sortable (ps.map (·.2)) ∧ N (.lst true ((sortZ ps).map (·.1))) true ρ1) (fun x ρ2 N n1 m F H σ Q vx S r k => by
    obtain ⟨t, ps, rfl, hp, hal, hs, n⟩ := n1
    simp only [Rz] at r
    obtain ⟨a, xs, rfl, e, _, r⟩ := r
    obtain ⟨ts, e1, e2, h3⟩ := rzl_triples r
    have e3 : (ts.map fun t => ((t.1, t.2.2) : VD)).map (·.2) = ps.map (·.2) := by rw [← e2, List.map_map, List.map_map]; rfl
    refine ⟨a, ts.map fun t => ((t.1, t.2.2) : VD), rfl, ?_, fun b hb => ?_, by rw [e3]; exact hal, by rw [e3]; exact hs, fun p hp' => ?_⟩
    · rw [List.map_map]
      refine SqL.of ?_
      rw [S.le.exact e rfl, ← e1]
      rfl
    · obtain ⟨t, ht, rfl⟩ := List.mem_map.mp hb
      obtain ⟨q1, q2⟩ := hp t.2 (by rw [← e2]; exact List.mem_map_of_mem ht)
      exact ⟨toP_dat S.le _ _ _ q1 (h3 t ht), q2⟩
    · have q := sorted_rzl h3
      rw [e2] at q
      exact k _ _ _ _ _ _ n (Same.refl F) (S.newO hp') (rzF_new S hp' (.lst q))) h
/-- sorted(xs, key=f) -/
theorem ze_sortK {K' : PySem.W.Frag} {f : Addr} {w : Wz} (hK : K' = z.K) (h : ZE z ta ρ fun x _ ρ1 => ∃ t ps, x = .lst t (ps.map (·.1)) ∧ (∀ p ∈ ps, p.2.depth ≤ 8 ∧ ∃ d, toP d = some p.2 ∧ ∀ Nv Ne, Nv d false → w [p.1.old] Nv Ne) ∧
    PySem.W.AllAlike (ps.map (·.2)) ∧ PySem.W.Sortable (ps.map (·.2)) ∧ N (.lst true ((sortZ ps).map (·.1))) true ρ1) :
    ZE z (tCKw (rSortK K' f (spZ z.K w)) (tCons ta tNil) (tCons (tC (.ref f)) tNil)) ρ N := fun m F H σ Q S k => by
  subst hK
  refine h m F H σ _ S fun x fx ρ1 F1 H1 vx n1 s1 S1 r1 => ?_
  obtain ⟨F2, s2, S2, rx⟩ := rzF_frz S1 r1
  obtain ⟨t, ps, rfl, hp, hal, hs, n⟩ := n1
  simp only [Rz] at rx
  obtain ⟨a, xs, rfl, e, _, r⟩ := rx
  obtain ⟨ts, e1, e2, h3⟩ := rzl_triples r
  have e3 : (ts.map fun t => ((t.1, t.2.2) : VD)).map (·.2) = ps.map (·.2) := by rw [← e2, List.map_map, List.map_map]; rfl
  have elen : (ts.map fun t => ((t.1, t.2.2) : VD)).length = ps.length := by rw [← e2]; simp
  refine ⟨a, ts.map fun t => ((t.1, t.2.2) : VD), rfl, rfl, ?_, fun b hb => ?_, by rw [e3]; exact hal, by rw [e3]; exact hs,
    fun i ys H' => ∃ F' ks, Same F2 F' ∧ Sm z m F' H' σ ρ1 ∧ Rzl z.K m.B F' ks ys ∧ toPs ks = some ((ps.map (·.2)).take i), ?_, ?_, ?_⟩
  · rw [List.map_map]
    refine SqL.of ?_
    rw [S2.le.exact e rfl, ← e1]
    rfl
  · obtain ⟨t, ht, rfl⟩ := List.mem_map.mp hb
    exact (hp t.2 (by rw [← e2]; exact List.mem_map_of_mem ht)).1
  · exact ⟨F2, [], Same.refl F2, S2, .nil, by simp [toPs]⟩
  · rintro i b ys H' hb ⟨F', ks, s', S', rk, ek⟩
    rw [List.getElem?_map] at hb
    cases q : ts[i]? with
    | none => rw [q] at hb; cases hb
    | some tr =>
      rw [q] at hb
      cases hb
      have hm : tr ∈ ts := List.mem_of_getElem? q
      have hps : ps[i]? = some tr.2 := by rw [← e2, List.getElem?_map, q]; rfl
      obtain ⟨_, d, hd, hw⟩ := hp tr.2 (List.mem_of_getElem? hps)
      refine ⟨F', [tr.2.1.old], fun d' fr => d' = d ∧ fr = false, fun _ _ => False, S'.le, .cons (rz_old _ _ (rz_mono s' _ _ (h3 tr hm))) .nil, hw _ _ ⟨rfl, rfl⟩, ?_, fun _ _ _ _ f => f.elim⟩
      rintro d' fr F'' H'' v ⟨rfl, rfl⟩ g
      obtain ⟨S3, r3⟩ := S'.got g
      refine ⟨F'', ks ++ [d'], s'.trans g.1, S3, (rzl_mono g.1 _ _ rk).app (.cons r3 .nil), ?_⟩
      have ap : ∀ {as : List Dt} {bs : List PyData}, toPs as = some bs → toPs (as ++ [d']) = some (bs ++ [tr.2.2]) := fun {as} => by
        induction as with
        | nil =>
          intro bs q
          simp only [toPs] at q
          cases q
          simp only [List.nil_append, toPs, hd]
        | cons x as ih =>
          intro bs q
          simp only [toPs] at q
          split at q <;> first | cases q | skip
          rename_i p ps' h1 h2
          simp only [List.cons_append, toPs, h1, ih h2]
      rw [ap ek, take_succ_get2 (x := tr.2.2) (by rw [List.getElem?_map, hps]; rfl)]
  · rintro ys H' ⟨F', ks, s', S', rk, ek⟩
    rw [elen, List.take_of_length_le (by rw [List.length_map]; exact Nat.le_refl _)] at ek
    refine ⟨by rw [e3]; exact toPs_dat S'.le _ _ _ ek rk, fun p hp' => ?_⟩
    have q := sorted_rzl fun t ht => rz_mono s' _ _ (h3 t ht)
    rw [e2] at q
    exact k _ _ _ _ _ _ n ((s1.trans s2).trans s') (S'.newO hp') (rzF_new S' hp' (.lst q))
/-- name = [..] -/
theorem zs_setlc {wi : TI} {g : TG} {tt : TT} {vs : List Nat} {D : Zn} (h : ZE z (tLockLE (tLc wi g tt te vs)) ρ fun d fr ρ1 => ZG z (gName i) d fr ρ1 D.nx) : ZS z (tLockL (tAsg (tLc wi g tt te vs) (gName i))) ρ D := fun m F H σ E S kn kr kb kc =>
  h m F H σ (fun x H1 => E.nx (σ.set i (some x)) H1) S fun d fr ρ1 F1 H1 v n1 s1 S1 r1 => n1 m F1 H1 σ v (fun σ2 H2 => E.nx σ2 H2) S1 r1 fun ρ2 F2 H2 σ2 n2 s2 => kn ρ2 F2 H2 σ2 n2 (s1.trans s2)
/-- a plain comparison of two lists or tuples -/
theorem toP_dp {K : PySem.W.Frag} {B F H : Hp} (le : Le F H) {d : Dt} {p : PyData} {v : V} (h : toP d = some p) (r : Rz K B F d v) : DatV K H v p := toP_dat le d p v h r
end
/-! ### Ratios -/
section
variable {z : Cz} {ρ : List Sl} {N : Dt → Bool → List Sl → Prop} {t : TA} {E : XK}
theorem sm_ins {m : Fm} {F H : Hp} {σ : L2.St} {C : Addr} {fs : List (Str × V)} {x dx : Addr} (S : Sm z m F H σ ρ) (hx : H x = none) (hd : H dx = none) (ne : dx ≠ x) :
    Same F (upd F x (.ins C dx fs)) ∧ Sm z m (upd F x (.ins C dx fs)) (upd (upd H dx (.own x)) x (.ins C dx fs)) σ ρ := by
  have S1 := S.newO (o := .own x) hd
  exact S1.new (o := .ins C dx fs) (by rw [upd_ne (Ne.symm ne)]; exact hx)
theorem ze_ratio {dvs : List V} (h : ZA z t ρ fun ds ρ1 => ∃ n d, ((ds = [.int n, .int d] ∧ dvs = []) ∨ (ds = [.int n] ∧ dvs = [.int d])) ∧ d ≠ 0 ∧ Bits 8000 (sgc n d) ∧ N (.rat (pn n d) (pd n d)) false ρ1) : ZE z (tMake (He.ga z.K "Ratio") (spInit z.K) dvs E t) ρ N := fun m F H σ Q S k => by
  refine h m F H σ _ S fun ds ρ1 F1 H1 vs n1 s1 S1 r1 x dx hx hd ne => ?_
  obtain ⟨n, d, hds, h0, hb, n1⟩ := n1
  have ev : vs ++ dvs = [.int n, .int d] := by
    rcases hds with ⟨rfl, rfl⟩ | ⟨rfl, rfl⟩
    · obtain ⟨v, r, rfl, q1, q2⟩ := r1.inv
      obtain ⟨v2, r, rfl, q3, q4⟩ := q2.inv
      rw [rz_i q1, rz_i q3, q4.inv0]
      rfl
    · obtain ⟨v, r, rfl, q1, q2⟩ := r1.inv
      rw [rz_i q1, q2.inv0]
      rfl
  rw [ev]
  refine ⟨x, dx, n, d, rfl, upd_same, fun _ => hb, fun z => absurd z h0, fun _ => ⟨rfl, ?_⟩⟩
  rw [upd_upd]
  obtain ⟨s2, S2⟩ := sm_ins (C := He.ga z.K "Ratio") (fs := rfl2 (pn n d) (pd n d)) S1 hx hd ne
  exact k _ _ _ _ _ _ n1 (s1.trans s2) S2 (rzF_f (show Rz z.K m.B _ (.rat _ _) _ by simp only [Rz]; exact ⟨x, dx, rfl, upd_same⟩))
theorem pn_one (n : Int) : pn n 1 = n ∧ pd n 1 = 1 := ⟨pn_low ⟨by decide, by simp⟩, pd_low ⟨by decide, by simp⟩⟩
theorem sgc_one (n : Int) : Bits 8000 (sgc n 1) := by
  have := sgc_abs (n := n) (d := 1) (by decide)
  exact Bits.small (by omega) (by decide)
/-- a draw -/
theorem ze_draw (h : ZA z t ρ fun ds ρ1 => ∃ n, ds = [.strm, .int n] ∧ 0 < n ∧ n < 18446744073709551616 ∧ ∀ v, 0 ≤ v → v < n → N (.int v) false ρ1) : ZE z (tCall spDraw [] E t) ρ N := fun m F H σ Q S k => by
  refine h m F H σ _ S fun ds ρ1 F1 H1 vs n1 s1 S1 r1 => ?_
  obtain ⟨n, rfl, h0, h1, n1⟩ := n1
  obtain ⟨v, r, rfl, q1, q2⟩ := r1.inv
  obtain ⟨v2, r, rfl, q3, q4⟩ := q2.inv
  obtain rfl := rz_i q3
  obtain rfl := q4.inv0
  simp only [Rz] at q1
  obtain ⟨s0, rfl, l, ns, e1, e2, e3⟩ := q1
  rw [List.append_nil]
  exact ⟨s0, n, rfl, ⟨l, ns, S1.le.exact e1 rfl, S1.le.exact e2 rfl, e3⟩, h0, h1, fun v a b => k _ _ _ _ _ _ (n1 v a b) s1 S1 (rzF_f rzi)⟩
end
/-! ### plain data with lists; == and in -/
mutual
def toQ : Dt → Option PyData
  | .non => some .none
  | .bl b => some (.bool b)
  | .int i => some (.int i)
  | .str x => some (.str x)
  | .tup ds => match toQs ds with
    | some ps => some (.tuple ps)
    | none => none
  | .lst _ ds => match toQs ds with
    | some ps => some (.list ps)
    | none => none
  | .ty _ | .adr _ | .strm | .rat _ _ | .dic _ _ _ | .dit _ _ _ | .ins _ _ _ => none
def toQs : List Dt → Option (List PyData)
  | [] => some []
  | d :: ds => match toQ d, toQs ds with
    | some p, some ps => some (p :: ps)
    | _, _ => none
end
mutual
theorem toQ_dp {K : PySem.W.Frag} {B F H : Hp} (le : Le F H) : ∀ (d : Dt) (p : PyData) (v : V), toQ d = some p → Rz K B F d v → Dp K H v p
  | .non, _, _, h, r => by simp only [toQ] at h; cases h; rw [rz_n r]; exact .non
  | .bl b, _, _, h, r => by simp only [toQ] at h; cases h; rw [rz_b r]; exact .bl b
  | .int i, _, _, h, r => by simp only [toQ] at h; cases h; rw [rz_i r]; exact .int i
  | .str x, _, _, h, r => by simp only [toQ] at h; cases h; rw [rz_s r]; exact .str x
  | .tup ds, _, _, h, r => by
    simp only [toQ] at h
    split at h <;> first | cases h | skip
    rename_i ps e
    simp only [Rz] at r
    obtain ⟨a, xs, rfl, e1, r⟩ := r
    exact .tup (SqT.of (le.exact e1 rfl)) (toQs_dp le ds ps xs e r)
  | .lst _ ds, _, _, h, r => by
    simp only [toQ] at h
    split at h <;> first | cases h | skip
    rename_i ps e
    simp only [Rz] at r
    obtain ⟨a, xs, rfl, e1, _, r⟩ := r
    exact .lst (SqL.of (le.exact e1 rfl)) (toQs_dp le ds ps xs e r)
  | .ty _, _, _, h, _ => by simp only [toQ] at h; cases h
  | .adr _, _, _, h, _ => by simp only [toQ] at h; cases h
  | .strm, _, _, h, _ => by simp only [toQ] at h; cases h
  | .rat _ _, _, _, h, _ => by simp only [toQ] at h; cases h
  | .dic _ _ _, _, _, h, _ => by simp only [toQ] at h; cases h
  | .dit _ _ _, _, _, h, _ => by simp only [toQ] at h; cases h
  | .ins _ _ _, _, _, h, _ => by simp only [toQ] at h; cases h
theorem toQs_dp {K : PySem.W.Frag} {B F H : Hp} (le : Le F H) : ∀ (ds : List Dt) (ps : List PyData) (vs : List V), toQs ds = some ps → Rzl K B F ds vs → DpAll K H vs ps
  | [], _, _, h, r => by
    simp only [toQs] at h
    cases h
    rw [r.inv0]
    exact .nil
  | d :: ds, _, _, h, r => by
    simp only [toQs] at h
    split at h <;> first | cases h | skip
    rename_i p ps e1 e2
    obtain ⟨v, r', rfl, r1, r2⟩ := r.inv
    exact .cons (toQ_dp le d p v e1 r1) (toQs_dp le ds ps r' e2 r2)
end
section
variable {z : Cz} {ρ : List Sl} {N : Dt → Bool → List Sl → Prop} {ta tb : TE}
theorem ze_eqD (h : ZE z ta ρ fun x _ ρ1 => ZE z tb ρ1 fun y _ ρ2 => ∃ p q, toQ x = some p ∧ toQ y = some q ∧ SeqAt.shaped p = true ∧ SeqAt.shaped q = true ∧ N (.bl (PyData.eqv p q)) false ρ2) : ZE z (tOp (rEqD z.K) ta tb) ρ N :=
  ze_op2w (W := fun x y N ρ2 => ∃ p q, toQ x = some p ∧ toQ y = some q ∧ SeqAt.shaped p = true ∧ SeqAt.shaped q = true ∧ N (.bl (PyData.eqv p q)) false ρ2) (fun x y ρ2 N n2 m F H σ Q vx vy S r1 r2 k => by
    obtain ⟨p, q, h1, h2, h3, h4, n⟩ := n2
    exact ⟨p, q, toQ_dp S.le x p vx h1 r1, toQ_dp S.le y q vy h2 r2, h3, h4, k _ _ _ _ _ _ n (Same.refl F) S (rzF_f rzb)⟩) h
theorem ze_neD (h : ZE z ta ρ fun x _ ρ1 => ZE z tb ρ1 fun y _ ρ2 => ∃ p q, toQ x = some p ∧ toQ y = some q ∧ SeqAt.shaped p = true ∧ SeqAt.shaped q = true ∧ N (.bl (!PyData.eqv p q)) false ρ2) : ZE z (tOp (rNeD z.K) ta tb) ρ N :=
  ze_op2w (W := fun x y N ρ2 => ∃ p q, toQ x = some p ∧ toQ y = some q ∧ SeqAt.shaped p = true ∧ SeqAt.shaped q = true ∧ N (.bl (!PyData.eqv p q)) false ρ2) (fun x y ρ2 N n2 m F H σ Q vx vy S r1 r2 k => by
    obtain ⟨p, q, h1, h2, h3, h4, n⟩ := n2
    exact ⟨p, q, toQ_dp S.le x p vx h1 r1, toQ_dp S.le y q vy h2 r2, h3, h4, k _ _ _ _ _ _ n (Same.refl F) S (rzF_f rzb)⟩) h
theorem ze_inD (h : ZE z ta ρ fun x _ ρ1 => ZE z tb ρ1 fun y _ ρ2 => ∃ p t ds ps, toQ x = some p ∧ y = .lst t ds ∧ toQs ds = some ps ∧ SeqAt.shaped p = true ∧ SeqAt.shaped (.list ps) = true ∧ N (.bl (ps.any fun z => PyData.eqv z p)) false ρ2) : ZE z (tOp (rInD z.K) ta tb) ρ N :=
  ze_op2w (W := fun x y N ρ2 => ∃ p t ds ps, toQ x = some p ∧ y = .lst t ds ∧ toQs ds = some ps ∧ SeqAt.shaped p = true ∧ SeqAt.shaped (.list ps) = true ∧ N (.bl (ps.any fun z => PyData.eqv z p)) false ρ2) (fun x y ρ2 N n2 m F H σ Q vx vy S r1 r2 k => by
    obtain ⟨p, t, ds, ps, h1, rfl, h2, h3, h4, n⟩ := n2
    exact ⟨p, ps, toQ_dp S.le x p vx h1 r1, toQ_dp S.le _ (.list ps) vy (by simp only [toQ, h2]) r2, h3, h4, k _ _ _ _ _ _ n (Same.refl F) S (rzF_f rzb)⟩) h
theorem ze_notInD (h : ZE z ta ρ fun x _ ρ1 => ZE z tb ρ1 fun y _ ρ2 => ∃ p t ds ps, toQ x = some p ∧ y = .lst t ds ∧ toQs ds = some ps ∧ SeqAt.shaped p = true ∧ SeqAt.shaped (.list ps) = true ∧ N (.bl (!ps.any fun z => PyData.eqv z p)) false ρ2) : ZE z (tOp (rNotInD z.K) ta tb) ρ N :=
  ze_op2w (W := fun x y N ρ2 => ∃ p t ds ps, toQ x = some p ∧ y = .lst t ds ∧ toQs ds = some ps ∧ SeqAt.shaped p = true ∧ SeqAt.shaped (.list ps) = true ∧ N (.bl (!ps.any fun z => PyData.eqv z p)) false ρ2) (fun x y ρ2 N n2 m F H σ Q vx vy S r1 r2 k => by
    obtain ⟨p, t, ds, ps, h1, rfl, h2, h3, h4, n⟩ := n2
    exact ⟨p, ps, toQ_dp S.le x p vx h1 r1, toQ_dp S.le _ (.list ps) vy (by simp only [toQ, h2]) r2, h3, h4, k _ _ _ _ _ _ n (Same.refl F) S (rzF_f rzb)⟩) h
end
/-! ### small -/
theorem zT {c A B : Prop} [Decidable c] (h : c) (a : A) : if c then A else B := by rw [if_pos h]; exact a
theorem zF {c A B : Prop} [Decidable c] (h : ¬ c) (b : B) : if c then A else B := by rw [if_neg h]; exact b
theorem atI_k {α : Type} {xs : List α} {k : Nat} {x : α} (h : xs[k]? = some x) : atI xs (k : Int) = some x := by
  unfold atI
  rw [Evl.ixN_nat (List.getElem?_eq_some_iff.mp h).1]
  exact h
theorem cut1 {x : Dt} {xs : List Dt} : cutD (x :: xs) (some 1) none = xs := by
  unfold cutD HT.sIx
  simp
theorem cutN {x : Dt} {xs : List Dt} : ¬ (HT.sIx (x :: xs).length 0 (some 1) = 0 ∧ HT.sIx (x :: xs).length (x :: xs).length none = (x :: xs).length) := by
  unfold HT.sIx
  simp
theorem zD {c A B : Prop} [Decidable c] (a : c → A) (b : ¬ c → B) : if decide c = true then A else B := by
  by_cases h : c
  · rw [if_pos (by simpa using h)]; exact a h
  · rw [if_neg (by simpa using h)]; exact b h
theorem zB {x : Bool} {A B : Prop} (a : x = true → A) (b : x = false → B) : if x = true then A else B := by
  cases x
  · rw [if_neg (by decide)]; exact b rfl
  · rw [if_pos rfl]; exact a rfl
/-! ### stars, tuples, sums -/
section
variable {z : Cz} {ρ : List Sl} {N : Dt → Bool → List Sl → Prop} {L : List Dt → List Sl → Prop} {ta tb te : TE} {t : TA} {i j : Nat}
inductive SeqD : Dt → List Dt → Prop
  | lst (t : Bool) (ds : List Dt) : SeqD (.lst t ds) ds
  | tup (ds : List Dt) : SeqD (.tup ds) ds
theorem SeqD.rz {K : PySem.W.Frag} {B F H : Hp} {d : Dt} {ds : List Dt} {v : V} (h : SeqD d ds) (r : Rz K B F d v) (le : Le F H) (K' : PySem.W.Frag) : ∃ p xs, v = .ref p ∧ (SqT K' H p xs ∨ SqL K' H p xs) ∧ Rzl K B F ds xs := by
  cases h with
  | lst t ds =>
    simp only [Rz] at r
    obtain ⟨a, xs, rfl, e, _, r⟩ := r
    exact ⟨a, xs, rfl, .inr (SqL.of (le.exact e rfl)), r⟩
  | tup ds =>
    simp only [Rz] at r
    obtain ⟨a, xs, rfl, e, r⟩ := r
    exact ⟨a, xs, rfl, .inl (SqT.of (le.exact e rfl)), r⟩
theorem za_star {K' : PySem.W.Frag} (h : ZE z te ρ fun x _ ρ1 => ∃ ds, SeqD x ds ∧ ZA z t ρ1 fun es ρ2 => L (ds ++ es) ρ2) : ZA z (StX.tStar K' te t) ρ L := fun m F H σ Q S k => by
  refine h m F H σ _ S fun x fx ρ1 F1 H1 vx n1 s1 S1 r1 => ?_
  obtain ⟨F2, s2, S2, rx⟩ := rzF_frz S1 r1
  obtain ⟨ds, sq, n1⟩ := n1
  obtain ⟨p, xs, rfl, hs, r⟩ := sq.rz rx S2.le K'
  exact ⟨p, xs, rfl, hs, n1 m F2 H1 σ _ S2 fun es ρ' F' H' vs n s S' re => k _ _ _ _ _ n ((s1.trans s2).trans s) S' ((rzl_mono s _ _ r).app re)⟩
/-- tuple(x) -/
def rTupOf (K : PySem.W.Frag) : List V → Hp → VK → Prop := fun xs H Q => ∃ p ys, xs = [.ref p] ∧ ((SqL K H p ys ∧ ∀ l, H l = none → Q (.ref l) (upd H l (.tup ys))) ∨ (SqT K H p ys ∧ Q (.ref p) H))
theorem ze_tupOf {K' : PySem.W.Frag} (h : ZE z ta ρ fun x _ ρ1 => ∃ ds, SeqD x ds ∧ N (.tup ds) false ρ1) : ZE z (tCB (fun xs H Q => ∃ p ys, xs = [.ref p] ∧ ((SqL K' H p ys ∧ ∀ l, H l = none → Q (.ref l) (upd H l (.tup ys))) ∨ (SqT K' H p ys ∧ Q (.ref p) H))) (tCons ta tNil)) ρ N :=
  ze_CB1 (W := fun x N ρ1 => ∃ ds, SeqD x ds ∧ N (.tup ds) false ρ1) (fun x ρ2 N n1 m F H σ Q vx S r k => by
    obtain ⟨ds, hl, q⟩ := n1
    cases hl with
    | lst t ds =>
      simp only [Rz] at r
      obtain ⟨a, xs, rfl, e, _, r⟩ := r
      refine ⟨a, xs, rfl, .inl ⟨SqL.of (S.le.exact e rfl), fun p hp => ?_⟩⟩
      obtain ⟨s2, S2⟩ := S.new (o := .tup xs) hp
      exact k _ _ _ _ _ _ q s2 S2 (show Rz z.K m.B _ (.tup ds) _ by simp only [Rz]; exact ⟨p, xs, rfl, upd_same, rzl_mono s2 _ _ r⟩)
    | tup ds =>
      have r' := r
      simp only [Rz] at r
      obtain ⟨a, xs, rfl, e, r⟩ := r
      exact ⟨a, xs, rfl, .inr ⟨SqT.of (S.le.exact e rfl), k _ _ _ _ _ _ q (Same.refl F) S (rzF_f r')⟩⟩) h
theorem rzl_ints {K : PySem.W.Frag} {B F : Hp} : ∀ {is : List Int} {xs : List V}, Rzl K B F (is.map Dt.int) xs → xs = is.map V.int
  | [], _, r => r.inv0
  | i :: is, _, r => by
    obtain ⟨v, r', rfl, r1, r2⟩ := r.inv
    rw [rz_i r1, rzl_ints r2]
    rfl
theorem ze_sum {K' : PySem.W.Frag} (h : ZE z ta ρ fun x _ ρ1 => ∃ (t : Bool) (is : List Int), x = .lst t (is.map Dt.int) ∧ N (.int is.sum) false ρ1) : ZE z (tCB (rSum K') (tCons ta tNil)) ρ N :=
  ze_CB1 (W := fun x N ρ1 => ∃ (t : Bool) (is : List Int), x = .lst t (is.map Dt.int) ∧ N (.int is.sum) false ρ1) (fun x ρ2 N n1 m F H σ Q vx S r k => by
    obtain ⟨t, is, rfl, q⟩ := n1
    simp only [Rz] at r
    obtain ⟨a, xs, rfl, e, _, r⟩ := r
    refine ⟨a, is, rfl, ?_, k _ _ _ _ _ _ q (Same.refl F) S (rzF_f rzi)⟩
    rw [← rzl_ints r]
    exact SqL.of (S.le.exact e rfl)) h
/-- t + u of tuples, the first not empty -/
theorem ze_catT {K' : PySem.W.Frag} (h : ZE z ta ρ fun x _ ρ1 => ZE z tb ρ1 fun y _ ρ2 => ∃ ds es, x = .tup ds ∧ y = .tup es ∧ ds ≠ [] ∧ ds.length + es.length ≤ 100000 ∧ N (.tup (ds ++ es)) false ρ2) : ZE z (tOp (rCatT K') ta tb) ρ N :=
  ze_op2w (W := fun x y N ρ2 => ∃ ds es, x = .tup ds ∧ y = .tup es ∧ ds ≠ [] ∧ ds.length + es.length ≤ 100000 ∧ N (.tup (ds ++ es)) false ρ2) (fun x y ρ2 N n2 m F H σ Q vx vy S r1 r2 k => by
    obtain ⟨ds, es, rfl, rfl, hne, hl, n⟩ := n2
    have r1' := r1
    simp only [Rz] at r1 r2
    obtain ⟨a, xs, rfl, h1, r1⟩ := r1
    obtain ⟨b, ys, rfl, h2, r2⟩ := r2
    refine ⟨a, b, xs, ys, rfl, rfl, SqT.of (S.le.exact h1 rfl), SqT.of (S.le.exact h2 rfl), fun q => ?_, by rw [r1.len, r2.len, sizeLine_eq]; omega, fun q => ?_, fun q p hp => ?_⟩
    · have := r1.len
      rw [q] at this
      exact hne (List.eq_nil_of_length_eq_zero this.symm)
    · have := r2.len
      rw [q] at this
      have e0 := List.eq_nil_of_length_eq_zero this.symm
      rw [e0, List.append_nil] at n
      exact k _ _ _ _ _ _ n (Same.refl F) S (rzF_f r1')
    · obtain ⟨s2, S2⟩ := S.new (o := .tup (xs ++ ys)) hp
      exact k _ _ _ _ _ _ n s2 S2 (show Rz z.K m.B _ (.tup (ds ++ es)) _ by simp only [Rz]; exact ⟨p, xs ++ ys, rfl, upd_same, rzl_mono s2 _ _ (r1.app r2)⟩)) h
/-- int(b) -/
theorem ze_intOf {r : List V → Hp → VK → Prop} (hr : r = fun xs H Q => (∃ i, xs = [.int i] ∧ Q (.int i) H) ∨ ∃ k, xs = [.bl k] ∧ Q (.int (if k then 1 else 0)) H)
    (h : ZE z ta ρ fun x _ ρ1 => (∃ i, x = .int i ∧ N (.int i) false ρ1) ∨ ∃ k, x = .bl k ∧ N (.int (if k = true then 1 else 0)) false ρ1) : ZE z (tCB r (tCons ta tNil)) ρ N :=
  ze_CB1 (W := fun x N ρ1 => (∃ i, x = .int i ∧ N (.int i) false ρ1) ∨ ∃ k, x = .bl k ∧ N (.int (if k = true then 1 else 0)) false ρ1) (fun x ρ2 N n1 m F H σ Q vx S r k => by
    subst hr
    rcases n1 with ⟨i, rfl, q⟩ | ⟨b, rfl, q⟩
    · exact .inl ⟨i, by rw [rz_i r], k _ _ _ _ _ _ q (Same.refl F) S (rzF_f rzi)⟩
    · exact .inr ⟨b, by rw [rz_b r], k _ _ _ _ _ _ q (Same.refl F) S (rzF_f rzi)⟩) h
/-! ### an owned variable, compared -/
theorem Sm.own_dp {m : Fm} {F H : Hp} {σ : L2.St} (S : Sm z m F H σ ρ) {t : Bool} {ds : List Dt} {p : PyData} {a : Addr} (h : ρ[i]? = some (.o (.lst t ds))) (hv : σ[i]? = some (some (.ref a))) (hp : toQ (.lst t ds) = some p) : Dp z.K H (.ref a) p := by
  obtain ⟨l, e, _, _, _, ho, h4, h5⟩ := S.geto h
  rw [hv] at e
  cases e
  cases h5 with
  | lst r =>
    simp only [toQ] at hp
    split at hp <;> first | cases hp | skip
    rename_i ps e2
    exact .lst (SqL.of h4) (toQs_dp S.le ds ps _ e2 r)
theorem ze_neDv {K' : PySem.W.Frag} (hK : K' = z.K) {c0 : Dt} (h0 : ρ[i]? = some (.o c0)) (h : ZE z tb ρ fun y _ ρ2 => ∃ t ds p q, ρ2[i]? = some (.o (.lst t ds)) ∧ toQ (.lst t ds) = some p ∧ toQ y = some q ∧ SeqAt.shaped p = true ∧ SeqAt.shaped q = true ∧ N (.bl (!PyData.eqv p q)) false ρ2) : ZE z (tOp (rNeD K') (tVar i) tb) ρ N := fun m F H σ Q S k => by
  subst hK
  obtain ⟨l, e, _⟩ := S.geto h0
  refine ⟨_, e, h m F H σ _ S fun y fy ρ2 F2 H2 vy n2 s2 S2 r2 => ?_⟩
  obtain ⟨F3, s3, S3, ry⟩ := rzF_frz S2 r2
  obtain ⟨t, ds, p, q, hi, h1, h2, h3, h4, n⟩ := n2
  exact ⟨p, q, S3.own_dp hi e h1, toQ_dp S3.le y q vy h2 ry, h3, h4, k _ _ _ _ _ _ n (s2.trans s3) S3 (rzF_f rzb)⟩
/-- isinstance of an owned variable -/
theorem ze_isiv {c : V} {u : Value} (hc : ClsV c u) {d0 : Dt} (h0 : ρ[i]? = some (.o d0)) {t : Value} {b : Bool} (ht : TyD z.K d0 t) (hb : PySem.W.kitOne z.K t u = some b) (n : N (.bl b) false ρ) : ZE z (tCB (rIsi z.K) (tCons (tVar i) (tCons (tC c) tNil))) ρ N := fun m F H σ Q S k => by
  obtain ⟨l, e, h1, h2, h3, ho, h4, h5⟩ := S.geto h0
  refine ⟨_, e, _, c, _, u, b, rfl, hc, ?_, hb, k _ _ _ _ _ _ n (Same.refl F) S (rzF_f rzb)⟩
  have r := h5.rz h2 h1
  refine tyD_ok ht r (H := H) fun a o q => ?_
  by_cases c : a = l
  · subst c
    rw [upd_same] at q
    cases q
    exact .inl h4
  · rw [upd_ne c] at q
    exact S.le a o q
end
section
variable {z : Cz} {ρ : List Sl} {wi : TI} {g : TG} {tt : TT} {te : TE} {vs : List Nat} {N : Dt → Bool → List Sl → Prop}
/-- [te for g in .. if tt]: what the turns may give -/
theorem ze_lcW (h : ZI z wi ρ fun ds ρ1 bp bm => bp ρ1 ∧ okW ρ1 vs = true ∧ ds.length ≤ 100000 ∧ ∃ W : Nat → List Dt → Prop, W 0 [] ∧
    (∀ i d ad, ds[i]? = some d → W i ad → ZGw z g vs d (wipeZ ρ1 vs) fun ρ2 => ZT z tt ρ2 fun b ρ3 => if b = true then ZE z te ρ3 fun y _ ρ4 => wipeZ ρ4 vs = wipeZ ρ1 vs ∧ W (i + 1) (ad ++ [y]) else wipeZ ρ3 vs = wipeZ ρ1 vs ∧ W (i + 1) ad) ∧
    ∀ ad, W ds.length ad → N (.lst true ad) true (bm ρ1)) : ZE z (tLockLE (tLc wi g tt te vs)) ρ N := fun m F H σ Q S k => by
  refine h m F H σ _ S fun ds ρ1 bp bm m' un F1 H1 Jt n1 s1 B S1 it => ?_
  obtain ⟨hbp, hw, hz, W, w0, hf, n⟩ := n1
  obtain ⟨n', G, Y, wk, rfl, gk, yk⟩ := it
  intro D hD
  have hB := S1.dom D hD
  have hJ := S1.j_none hD
  have hh : ¬ m'.hd D := fun q => by
    obtain ⟨_, o, q2, _⟩ := S1.hid D q
    rw [hJ] at q2
    cases q2
  have hs : ∀ (i : Nat) (d : Dt), (wipeZ ρ1 vs)[i]? ≠ some (.l D d) := fun i d e => by
    obtain ⟨ov, _, _, q1, _⟩ := (S1.wipe vs).get e
    exact hh q1
  refine lc_it wk (fun i H2 => ∃ F2 acc ad, W i ad ∧ ad.length ≤ i ∧ Same F1 F2 ∧ Sm z (m'.pin D (.lst acc)) F2 H2 (L2.wipe σ vs) (wipeZ ρ1 vs) ∧ Rzl z.K m'.B F2 ad acc) ?_ ?_ ?_ ?_
  · exact ⟨F1, [], [], w0, Nat.le_refl _, Same.refl F1, (S1.wipe vs).pinNew hD rfl rfl, .nil⟩
  · rintro i H2 hi ⟨F2, acc, ad, wa, la, s2, S2, r2⟩
    have b2 : Same m'.J H2 := fun a u q => S2.base a u (by
      show upd m'.J D _ a = _
      rw [upd_ne (fun c => by rw [c, hJ] at q; cases q)]
      exact q)
    exact gk F2 H2 s2 S2.le b2
  · rintro i x H2 H3 hi ⟨F2, acc, ad, wa, la, s2, S2, r2⟩ y
    obtain ⟨F3, s3, S3, rx⟩ := yk (m'.pin D (.lst acc)) i ds[i] F2 H2 H3 x _ _ rfl (List.getElem?_eq_getElem hi) s2 S2 y
    have hd : ds[i]? = some ds[i] := List.getElem?_eq_getElem hi
    refine hf i ds[i] ad hd wa (m'.pin D (.lst acc)) F3 H3 _ x _ S3 rx fun ρ2 F4 H4 σ2 n2 s4 S4 w4 => ?_
    rw [wipe_wipe] at w4
    refine ⟨w4, n2 _ F4 H4 σ2 _ S4 fun b ρ3 F5 H5 n3 s5 S5 => ?_⟩
    have ss := s2.trans (s3.trans (s4.trans s5))
    cases b with
    | false =>
      obtain ⟨e1, e2⟩ := n3
      refine ⟨F5, acc, ad, e2, by omega, ss, ?_, rzl_mono (s3.trans (s4.trans s5)) _ _ r2⟩
      have := S5.wipe vs
      rw [e1, w4] at this
      exact this
    | true =>
      refine n3 _ F5 H5 σ2 _ S5 fun yd fy ρ4 F6 H6 vy n4 s6 S6 r6 => ?_
      obtain ⟨F7, s7, S7, ry⟩ := rzF_frz S6 r6
      obtain ⟨e1, e2⟩ := n4
      have hD6 : H6 D = some (.lst acc) := S7.base D _ upd_same
      have S8 := S7.wipe vs
      rw [e1, w4] at S8
      have sf := s3.trans (s4.trans (s5.trans (s6.trans s7)))
      refine ⟨acc, hD6, ?_, F7, acc ++ [vy], ad ++ [yd], e2, by rw [List.length_append, List.length_singleton]; omega, s2.trans sf, S8.repin hB hJ hh rfl rfl rfl hs, ?_⟩
      · rw [r2.len, sizeLine_eq]
        omega
      · exact (rzl_mono sf _ _ r2).app (.cons ry .nil)
  · rintro H2 ⟨F2, acc, ad, wa, la, s2, S2, r2⟩
    obtain ⟨S3, hD2, hF2⟩ := S2.unpinNew hB hJ hh rfl hs
    have S4 := S1.unwipe S3 s2 hw
    have S5 := B.sm F2 H2 σ ρ1 s2 S4 hbp
    have S0 := B.sm F1 H1 σ ρ1 (Same.refl F1) S1 hbp
    have uD : ∀ {Hx : Hp} {Fx : Hp}, Sc z m' Fx Hx → undo un Hx D = Hx D := fun {Hx Fx} C => by
      cases un with
      | none => rfl
      | some p =>
        obtain ⟨d, u⟩ := p
        obtain ⟨od, e⟩ := B.fz Fx Hx C d u rfl
        show upd Hx d u D = Hx D
        have j := C.fj d od u e
        rw [upd_ne (fun c => by rw [← c, hJ] at j; cases j)]
    have fresh : RzF z m F2 (undo un H2) σ (bm ρ1) true (.lst true ad) (.ref D) := by
      refine ⟨D, rfl, ⟨hF2, by rw [← B.bb]; exact hB, ?_, .lst acc, by rw [uD S3.toSc]; exact hD2, .lst (by rw [← B.bb]; exact r2)⟩, fun j e a b => ?_⟩
      · exact S0.base.free (by rw [uD S1.toSc]; exact hD)
      · obtain ⟨l, hl, _, _, _, ho, h4, _⟩ := S0.geto a
        rw [b] at hl
        cases hl
        rw [uD S1.toSc, hD] at h4
        cases h4
    have fin := k _ _ _ _ _ _ (n ad wa) (s1.trans s2) S5 fresh
    cases un with
    | none => exact .inl fin
    | some p =>
      obtain ⟨d, u⟩ := p
      obtain ⟨od, e⟩ := B.fz F2 H2 S3.toSc d u rfl
      exact .inr ⟨d, od, u, B.leg d u rfl, e, fin⟩
/-- [te for g in .. if tt], over what stands for as -/
theorem ze_lcM {α : Type} (as : List α) (gd : α → Dt) (f : α → Option Dt) (h : ZI z wi ρ fun ds ρ1 bp bm => ds = as.map gd ∧ bp ρ1 ∧ okW ρ1 vs = true ∧ as.length ≤ 100000 ∧
    (∀ a ∈ as, ZGw z g vs (gd a) (wipeZ ρ1 vs) fun ρ2 => ZT z tt ρ2 fun b ρ3 => if b = true then ZE z te ρ3 fun y _ ρ4 => wipeZ ρ4 vs = wipeZ ρ1 vs ∧ f a = some y else wipeZ ρ3 vs = wipeZ ρ1 vs ∧ f a = none) ∧
    N (.lst true (as.filterMap f)) true (bm ρ1)) : ZE z (tLockLE (tLc wi g tt te vs)) ρ N :=
  ze_lcW fun m F H σ R S k => h m F H σ R S fun ds ρ1 bp bm m' un F1 H1 Jt n1 => k ds ρ1 bp bm m' un F1 H1 Jt <| by
    obtain ⟨rfl, h1, h2, h3, h4, h5⟩ := n1
    refine ⟨h1, h2, by rw [List.length_map]; exact h3, fun i ad => ad = (as.take i).filterMap f, rfl, fun i d ad hd ha => ?_, fun ad ha => ?_⟩
    · rw [List.getElem?_map] at hd
      cases q : as[i]? with
      | none => rw [q] at hd; cases hd
      | some a =>
        rw [q] at hd
        cases hd
        have hf := h4 a (List.mem_of_getElem? q)
        refine fun m F H σ v Q S r k => hf m F H σ v Q S r fun ρ2 F2 H2 σ2 n2 => k ρ2 F2 H2 σ2 fun m F H σ Q S k => n2 m F H σ Q S fun b ρ3 F3 H3 n3 => k b ρ3 F3 H3 ?_
        cases b with
        | false =>
          rw [if_neg (by decide)] at n3 ⊢
          refine ⟨n3.1, ?_⟩
          show ad = (as.take (i + 1)).filterMap f
          rw [filterMap_take f q, n3.2, ha]
          simp
        | true =>
          rw [if_pos rfl] at n3 ⊢
          refine fun m F H σ Q S k => n3 m F H σ Q S fun y fy ρ4 F4 H4 v n4 => k y fy ρ4 F4 H4 v ⟨n4.1, ?_⟩
          show ad ++ [y] = (as.take (i + 1)).filterMap f
          rw [filterMap_take f q, n4.2, ha]
          rfl
    · rw [List.length_map, List.take_length] at ha
      rw [ha]
      exact h5
end
/-! ### dicts: displays, copies -/
theorem zmerge_nodup : ∀ (more acc : List (Key × V)), (more.map (·.1)).Nodup → (∀ k ∈ more.map (·.1), valV acc k = none) → mergeK acc more = acc ++ more
  | [], acc, _, _ => (List.append_nil acc).symm
  | (k, v) :: r, acc, nd, hn => by
    rw [List.map_cons, List.nodup_cons] at nd
    show mergeK (putK acc k v) r = _
    have h0 : valV acc k = none := hn k List.mem_cons_self
    rw [putK_new v h0, zmerge_nodup r _ nd.2 fun j hj => ?_, List.append_assoc]
    · rfl
    · rw [valV_snoc k j v acc h0, if_neg fun z => nd.1 (by rw [← z]; exact hj)]
      exact hn j (List.mem_cons_of_mem _ hj)
def noL (ρ : List Sl) : Bool := ρ.all fun s => match s with
  | .l _ _ => false
  | _ => true
theorem noL_not {ρ : List Sl} (h : noL ρ = true) (a : Addr) (i : Nat) (d : Dt) : ρ[i]? ≠ some (.l a d) := fun e => by
  have := List.all_eq_true.mp h _ (List.mem_of_getElem? e)
  cases this
def ZP (z : Cz) : List (TE × TE) → List Sl → (List Key → List Dt → List Sl → Prop) → Prop
  | [], ρ, N => N [] [] ρ
  | (tk, tv) :: r, ρ, N => ZE z tk ρ fun x _ ρ1 => ∃ k, x = keyD k ∧ ZE z tv ρ1 fun y _ ρ2 => ZP z r ρ2 fun ks ds ρ3 => N (k :: ks) (y :: ds) ρ3
section
variable {z : Cz} {ρ : List Sl} {N : Dt → Bool → List Sl → Prop} {ta tb te : TE}
theorem zp_run : ∀ (trs : List (TE × TE)) (ρ : List Sl) (N : List Key → List Dt → List Sl → Prop), ZP z trs ρ N → ∀ (m : Fm) (F H : Hp) (σ : L2.St) (Q : List (V × V) → Hp → Prop), Sm z m F H σ ρ →
    (∀ ks ds ρ' F' H' (kvs : List (Key × V)), N ks ds ρ' → Same F F' → Sm z m F' H' σ ρ' → kvs.map Prod.fst = ks → Rzl z.K m.B F' ds (kvs.map Prod.snd) → Q (kvs.map fun kv => (kV kv.1, kv.2)) H') → tPairs trs σ H Q
  | [], ρ, N, h, m, F, H, σ, Q, S, k => k [] [] ρ F H [] h (Same.refl F) S rfl .nil
  | (tk, tv) :: r, ρ, N, h, m, F, H, σ, Q, S, k => by
    refine h m F H σ _ S fun x fx ρ1 F1 H1 vx n1 s1 S1 r1 => ?_
    obtain ⟨F2, s2, S2, rx⟩ := rzF_frz S1 r1
    obtain ⟨kk, rfl, n1⟩ := n1
    obtain rfl := rz_key rx
    refine n1 m F2 H1 σ _ S2 fun y fy ρ2 F3 H3 vy n2 s3 S3 r3 => ?_
    obtain ⟨F4, s4, S4, ry⟩ := rzF_frz S3 r3
    refine zp_run r ρ2 _ n2 m F4 H3 σ _ S4 fun ks ds ρ' F' H' kvs n s S' e rr => ?_
    exact k (kk :: ks) (y :: ds) ρ' F' H' ((kk, vy) :: kvs) n (((s1.trans s2).trans (s3.trans s4)).trans s) S' (by rw [List.map_cons, e]) (.cons (rz_mono s _ _ ry) rr)
theorem ze_disp {trs : List (TE × TE)} (h : ZP z trs ρ fun ks ds ρ1 => noL ρ1 = true ∧ ks.Nodup ∧ ks.length ≤ 15 ∧ N (.dic true ks ds) true ρ1) : ZE z (tDisp trs) ρ N := fun m F H σ Q S k => by
  intro D hD
  have hB := S.dom D hD
  have hJ := S.j_none hD
  have hh : ¬ m.hd D := fun q => by
    obtain ⟨_, o, q2, _⟩ := S.hid D q
    rw [hJ] at q2
    cases q2
  refine zp_run trs ρ _ h (m.pin D (.dK [])) F (upd H D (.dK [])) σ _ (S.pinNew hD rfl rfl) fun ks ds ρ' F' H' kvs n s S' e rr => ?_
  obtain ⟨nl, nd, hl, n⟩ := n
  have hs : ∀ (i : Nat) (d : Dt), ρ'[i]? ≠ some (.l D d) := noL_not nl D
  have S2 := S'.repin (o' := .dK kvs) hB hJ hh rfl rfl rfl hs
  obtain ⟨S3, hD2, hF2⟩ := S2.unpinNew hB hJ hh rfl hs
  have em : mergeK [] kvs = kvs := by
    have := zmerge_nodup kvs [] (by rw [show kvs.map (·.1) = ks from e]; exact nd) fun _ _ => rfl
    rw [this]
    rfl
  have hD6 : H' D = some (.dK []) := S'.base D _ upd_same
  refine ⟨hD6, kvs, rfl, by rw [← List.length_map (f := Prod.fst), e]; exact hl, ?_⟩
  rw [em]
  refine k _ _ _ _ _ _ n s S3 ⟨D, rfl, ⟨hF2, hB, hJ, .dK kvs, hD2, ?_⟩, fun j e' a b => ?_⟩
  · rw [← e]
    exact .dK rr
  · obtain ⟨l, hl, _, _, q3, _⟩ := S'.geto a
    rw [b] at hl
    cases hl
    have q3 : upd m.J D _ D = none := q3
    rw [upd_same] at q3
    cases q3
/-- dict(d) -/
theorem ze_dictOf (h : ZE z ta ρ fun x _ ρ1 => ∃ t ks ds, x = .dic t ks ds ∧ N (.dic true ks ds) true ρ1) : ZE z (tCB (fun xs H Q => ∃ (a : Addr) (kvs : List (Key × V)), xs = [.ref a] ∧ L2.Rd H a (.dK kvs) ∧ ∀ p, H p = none → Q (.ref p) (upd H p (.dK kvs))) (tCons ta tNil)) ρ N :=
  ze_CB1 (W := fun x N ρ1 => ∃ t ks ds, x = .dic t ks ds ∧ N (.dic true ks ds) true ρ1) (fun x ρ2 N n1 m F H σ Q vx S r k => by
    obtain ⟨t, ks, ds, rfl, q⟩ := n1
    simp only [Rz] at r
    obtain ⟨a, kvs, rfl, e, _, e2, r⟩ := r
    refine ⟨a, kvs, rfl, S.le.rd e, fun p hp => ?_⟩
    refine k _ _ _ _ _ _ q (Same.refl F) (S.newO hp) (rzF_new S hp ?_)
    rw [← e2]
    exact .dK r) h
end
theorem zp_nil {z : Cz} {ρ : List Sl} {N : List Key → List Dt → List Sl → Prop} (h : N [] [] ρ) : ZP z [] ρ N := h
theorem zp_cons {z : Cz} {ρ : List Sl} {tk tv : TE} {r : List (TE × TE)} {N : List Key → List Dt → List Sl → Prop} (h : ZE z tk ρ fun x _ ρ1 => ∃ k, x = keyD k ∧ ZE z tv ρ1 fun y _ ρ2 => ZP z r ρ2 fun ks ds ρ3 => N (k :: ks) (y :: ds) ρ3) : ZP z ((tk, tv) :: r) ρ N := h
/-! ### sets of texts: made of a list, how many, sorted -/
namespace StS
section
variable {P : Program} {w : World}
def keyS (e : Int × Value) : Str := match e.2 with
  | .str x _ => x
  | _ => Str.empty
def Ent (P : Program) (w : World) (e : Int × Value) : Prop := ∃ x t, e.2 = .str x t ∧ e.1 = (PySem.strKind P w).hash x
/-- the set at a has the keys xs, each once; it can be walked -/
def SetX (P : Program) (w : World) (h : Heap) (a : Addr) (xs : List Str) : Prop :=
  ∃ o es ep t, h.get? a = some o ∧ o.ExactSet ∧ o.data = .set es ep t ∧ (∀ e ∈ es.toList, Ent P w e) ∧ (es.toList.map keyS).Nodup ∧ (es.toList.map keyS).Perm xs ∧
    es.size < scanBound ∧ t.fits es.size = true ∧ L2.Ris t.place.toList ∧ (w.params.followText "set-order" = true ∨ t.led = true)
theorem SetX.at {h h' : Heap} {a : Addr} {xs : List Str} (R : SetX P w h a xs) (k : ∀ o, h.get? a = some o → h'.get? a = some o) : SetX P w h' a xs :=
  R.elim fun o q => q.elim fun es q => q.elim fun ep q => q.elim fun t q => ⟨o, es, ep, t, k o q.1, q.2⟩
theorem ent_is {e : Int × Value} (g : Ent P w e) (k : Str) : (PySem.strKind P w).is k e.2 = true ↔ keyS e = k := by
  obtain ⟨x, t, h1, _⟩ := g
  unfold keyS
  rw [h1]
  have q : (PySem.strKind P w).is k (.str x t) = decide (x = k) := by
    by_cases c : x = k
    · rw [c, strKind_is, decide_eq_true rfl]
    · rw [decide_eq_false c]
      cases z : (PySem.strKind P w).is k (.str x t) with
      | false => rfl
      | true => exact absurd ((PySem.strKind P w).inj _ _ _ (strKind_is P w x t) z) c
  rw [q]
  exact decide_eq_true_iff
theorem ent_elems {l : List (Int × Value)} (g : ∀ e ∈ l, Ent P w e) : ElemsOf (PySem.strKind P w) l := fun e he =>
  (g e he).elim fun x q => q.elim fun t q => ⟨⟨x, by rw [q.1]; exact strKind_is P w x t, q.2⟩, by rw [q.1]; rfl⟩
theorem ent_mem {l : List (Int × Value)} (g : ∀ e ∈ l, Ent P w e) (k : Str) : k ∈ l.map keyS ↔ ∃ e ∈ l, (PySem.strKind P w).is k e.2 = true := by
  simp only [List.mem_map]
  exact ⟨fun ⟨e, he, q⟩ => ⟨e, he, (ent_is (g e he) k).2 q⟩, fun ⟨e, he, q⟩ => ⟨e, he, (ent_is (g e he) k).1 q⟩⟩
end
section
variable {P : Program} {w : World} {A : Around} {E : Value → Shared → Prop} {s : Shared} {a : Addr} {xs : List Str}
def addX (xs : List Str) (k : Str) : List Str := if k ∈ xs then xs else k :: xs
theorem tailX {g : Bool → Sem Unit} (hg : ∀ (b : Bool) (s1 : Shared) (Q' : Unit → Shared → Prop), Q' () s1 → wpAny (model P w) A (g b) Q' E s1) {o : Obj} {es es1 : Array (Int × Value)} {ep : Nat} {t t2 : SetTable} {ys : List Str}
    (ho : s.heap.get? a = some o) (hex : o.ExactSet) (hd : o.data = .set es ep t) (g1 : ∀ e ∈ es1.toList, Ent P w e) (nd : (es1.toList.map keyS).Nodup) (pm : (es1.toList.map keyS).Perm ys) (hb : es1.size < scanBound) (hf : t2.fits es1.size = true)
    (hr : L2.Ris t2.place.toList) (hl : w.params.followText "set-order" = true ∨ t2.led = true) {dm : Bool} {R : Option Bool → Shared → Prop} (hR : ∀ h', Heap.SameBut a s.heap h' → SetX P w h' a ys → R (some true) { s with heap := h' }) :
    wpAny (model P w) A (do
        storeSet a es1 t2
        if (!dm && t2.tooFull) = true then do
            g (relayAll t2 es1 (SetTable.grown es1.size)).2.2
            storeSet a (relayAll t2 es1 (SetTable.grown es1.size)).1 (relayAll t2 es1 (SetTable.grown es1.size)).2.1
            pure (some true)
          else pure (some true)) R E s := by
  refine wpAny_bind (wpAny_storeSet_of ho hd ?_ (fits_of_scanBound hb))
  have o1 := L2.store_at (es' := es1) (t' := t2) ho hd
  have b1 := Heap.SameBut.update s.heap a (Obj.putSet es1 t2)
  split
  · have q1 := relayAll_perm t2 es1 (SetTable.grown es1.size)
    have q2 := relayAll_fits t2 es1 (SetTable.grown es1.size)
    have q3 := L2.relayAll_ris t2 es1 (SetTable.grown es1.size)
    have q4 := L2.relayAll_led t2 es1 (SetTable.grown es1.size)
    generalize relayAll t2 es1 (SetTable.grown es1.size) = Z at q1 q2 q3 q4 ⊢
    obtain ⟨es2, t3, gave⟩ := Z
    dsimp only at q1 q2 q3 q4 ⊢
    have hz : es2.size = es1.size := by rw [← Array.length_toList, q1.length_eq, Array.length_toList]
    have hb2 : es2.size < scanBound := hz ▸ hb
    refine wpAny_bind (hg _ _ _ (wpAny_bind (wpAny_storeSet_of o1 rfl ?_ (fits_of_scanBound hb2))))
    have o2 := L2.store_at (es' := es2) (t' := t3) o1 rfl
    exact wpAny_pure (hR _ (b1.trans (Heap.SameBut.update _ a _)) ⟨_, es2, _, t3, o2, hex, rfl, fun e he => g1 e (q1.mem_iff.mp he), (q1.map keyS).nodup_iff.mpr nd, (q1.map keyS).trans pm, hb2, q2, q3, hl.imp id fun z => q4.trans z⟩)
  · exact wpAny_pure (hR _ b1 ⟨_, es1, _, t2, o1, hex, rfl, g1, nd, pm, hb, hf, hr, hl⟩)
theorem addX_hashed {k : Str} {tk : Tok} {Q : Bool → Shared → Prop} (R : SetX P w s.heap a xs) (room : xs.length + 1 < scanBound) (hQ : ∀ h' b, Heap.SameBut a s.heap h' → SetX P w h' a (addX xs k) → Q b { s with heap := h' }) :
    wpAny (model P w) A (setAddHashed a (.str k tk) ((PySem.strKind P w).hash k)) Q E s := by
  obtain ⟨o, es, ep, t, ho, hex, hd, g, nd, pm, hb, hf, hr, hl⟩ := R
  have hk : (PySem.strKind P w).is k (.str k tk) = true := strKind_is P w k tk
  have sc : (Value.str k tk).scannable = true := rfl
  have el := ent_elems g
  unfold setAddHashed setAddHashedIn; refine wpAny_holding (wpAny_bind (wpAny_setState_of ho hd hf ?_))
  dsimp only; rw [byScan_of sc hb el]; simp only [↓reduceIte]
  unfold setAddByScan; refine wpAny_bind (wpAny_bind (wpAny_rule (wpAny_bind (wpAny_setScan_of hk ho hd hf el ?_))))
  cases fi : List.findIdx? (fun e => (PySem.strKind P w).is k e.2) es.toList with
  | some j =>
    obtain ⟨hj, pj, _⟩ := List.findIdx?_eq_some_iff_getElem.mp fi
    have km : k ∈ xs := pm.mem_iff.mp ((ent_mem g k).2 ⟨es.toList[j], List.getElem_mem hj, pj⟩)
    refine wpAny_pure (wpAny_pure (hQ s.heap false (Heap.SameBut.refl a s.heap) ?_))
    unfold addX
    rw [if_pos km]
    exact ⟨o, es, ep, t, ho, hex, hd, g, nd, pm, hb, hf, hr, hl⟩
  | none =>
    have nk : k ∉ es.toList.map keyS := fun z => by
      obtain ⟨e, he, q⟩ := (ent_mem g k).1 z
      have c := List.findIdx?_eq_none_iff.mp fi e he
      rw [q] at c; cases c
    have nx : k ∉ xs := fun z => nk (pm.mem_iff.mpr z)
    dsimp only
    have gw : ∀ (b : Bool) {s1 : Shared} {Q' : Unit → Shared → Prop}, Q' () s1 → wpAny (model P w) A (match b with | true => rule "set.scan.the-table-gave-way" | false => pure ()) Q' E s1 := fun b s1 Q' q => by
      cases b <;> first | exact wpAny_pure q | exact wpAny_rule q
    have q1 := layNew_perm t es ((PySem.strKind P w).hash k) (.str k tk)
    have q2 := layNew_fits t es ((PySem.strKind P w).hash k) (.str k tk)
    have q3 := L2.layNew_ris t es ((PySem.strKind P w).hash k) (.str k tk) hr
    have q4 := L2.layNew_led t es ((PySem.strKind P w).hash k) (.str k tk)
    generalize layNew t es ((PySem.strKind P w).hash k) (.str k tk) = Z at q1 q2 q3 q4 ⊢
    obtain ⟨es1, t1, dm, gave⟩ := Z
    dsimp only at q1 q2 q3 q4 ⊢
    rw [Array.toList_push] at q1
    have pc : es1.toList.Perm (((PySem.strKind P w).hash k, Value.str k tk) :: es.toList) := q1.trans (List.perm_append_singleton _ _)
    have pk : (es1.toList.map keyS).Perm (k :: es.toList.map keyS) := pc.map keyS
    have g1 : ∀ e ∈ es1.toList, Ent P w e := fun e he => (List.mem_cons.mp (pc.mem_iff.mp he)).elim (fun z => ⟨k, tk, by rw [z], by rw [z]⟩) (g e)
    have n1 : (es1.toList.map keyS).Nodup := pk.nodup_iff.mpr (List.nodup_cons.mpr ⟨nk, nd⟩)
    have p1 : (es1.toList.map keyS).Perm (addX xs k) := by
      unfold addX
      rw [if_neg nx]
      exact pk.trans (List.Perm.cons k pm)
    have hb1 : es1.size < scanBound := by
      have := pc.length_eq
      have := pm.length_eq
      simp only [List.length_cons, Array.length_toList, List.length_map] at *
      omega
    have ld : w.params.followText "set-order" = true ∨ t1.led = true := hl.imp id fun z => q4.trans z
    refine wpAny_bind (gw _ ?_)
    split
    · refine wpAny_bind ?_
      rw [hashByValue_scannable 8 sc]
      refine wpAny_pure (tailX ?_ ho hex hd g1 n1 p1 hb1 ?_ ?_ ?_ fun h' sb r => by dsimp only; exact wpAny_pure (hQ h' true sb r))
      · intro b s1 Q' q; cases b <;> first | exact wpAny_pure q | exact wpAny_rule q
      · first | (split <;> first | exact q2 | exact SetTable.fits_plain_off q2) | exact q2
      · first | (split <;> exact q3) | exact q3
      · first | (split <;> exact ld) | exact ld
    · refine wpAny_bind (wpAny_pure ?_)
      simp only [↓reduceIte]
      refine tailX ?_ ho hex hd g1 n1 p1 hb1 q2 q3 ld fun h' sb r => by dsimp only; exact wpAny_pure (hQ h' true sb r)
      intro b s1 Q' q; cases b <;> first | exact wpAny_pure q | exact wpAny_rule q
end
end StS
namespace StS
section
variable {P : Program} {w : World} {A : Around} {R : Result → Shared → Prop} {I : Addr} {fp wr : List Addr} {G : Array GenState → Array GenState → Prop} {n : Nat} {Pv : Nat → Value → Prop} {St : Nat → Shared → Prop}
def metX (names : List Str) (i : Nat) : List Str := (names.take i).foldl addX []
theorem addX_len (xs : List Str) (k : Str) : (addX xs k).length ≤ xs.length + 1 := by
  unfold addX
  split
  · omega
  · rw [List.length_cons]; omega
theorem metX_succ {names : List Str} {i : Nat} (h : i < names.length) : metX names (i + 1) = addX (metX names i) (names.getD i Str.empty) := by
  unfold metX
  rw [List.take_succ, List.getElem?_eq_getElem h, List.foldl_append, List.getD_eq_getElem?_getD, List.getElem?_eq_getElem h]
  rfl
theorem metX_len (names : List Str) : ∀ i, (metX names i).length ≤ i := by
  intro i
  induction i with
  | zero => exact Nat.le_refl 0
  | succ i ih =>
    by_cases h : i < names.length
    · rw [metX_succ h]
      have := addX_len (metX names i) (names.getD i Str.empty)
      omega
    · unfold metX at ih ⊢
      rw [List.take_of_length_le (by omega)] at ih ⊢
      omega
theorem loopX (W : WalksS P w A.in1 I fp wr G n Pv St) (S : Addr) (far : S ∉ fp) (names : List Str) (hn : names.length = n) (hv : ∀ i v, Pv i v → ∃ t, v = .str (names.getD i Str.empty) t) (hb : n + 1 < scanBound) :
    ∀ (k i : Nat) (s : Shared), n - i = k → i ≤ n → St i s → SetX P w s.heap S (metX names i) → (∀ s', Moved (S :: wr) G s s' → SetX P w s'.heap S (metX names n) → R (.ok (.ret .none)) s') →
      codeAny (model P w) A (.builtin "set.update.loop" ⟨[.ref S, .ref I], []⟩) R s := by
  have hw : S ∉ wr := fun h => far (W.sub _ h)
  have more : ∀ b ∈ wr, b ∈ S :: wr := fun b hb => List.mem_cons_of_mem _ hb
  intro k
  induction k with
  | zero =>
    intro i s hk hi st x fin
    obtain rfl : i = n := by omega
    refine codeAny_builtin PyProof.Rows.F.entry_set_update_loop ?_; rw [Around.under_plainId PyProof.Rows.F.plain_set_update_loop _]
    show wpAny _ A.in1 (pyNext (.ref I) >>= fun _ => _) _ _ s
    refine wpAny_bind (W.done s _ _ st fun s' hm => ?_)
    show wpAny _ A.in1 (ret .none) _ _ s'
    exact wpAny_pure (fin s' (hm.mono more) (x.at fun o e => hm.heap S o hw e))
  | succ k ih =>
    intro i s hk hi st x fin
    have lt : i < n := by omega
    refine codeAny_builtin PyProof.Rows.F.entry_set_update_loop ?_; rw [Around.under_plainId PyProof.Rows.F.plain_set_update_loop _]
    show wpAny _ A.in1 (pyNext (.ref I) >>= fun _ => _) _ _ s
    refine wpAny_bind (W.item i s _ _ lt st fun v s' hP st' hm => ?_)
    obtain ⟨t, rfl⟩ := hv i v hP
    have x' : SetX P w s'.heap S (metX names i) := x.at fun o e => hm.heap S o hw e
    show wpAny _ A.in1 (holding [Value.str (names.getD i Str.empty) t] (setAdd S (.str (names.getD i Str.empty) t)) >>= fun _ => _) _ _ s'
    refine wpAny_bind (wpAny_holding ?_); unfold setAdd
    refine wpAny_holding (wpAny_bind ((PySem.strKind P w).pyHash (k := names.getD i Str.empty) (strKind_is _ _ _ _) ?_))
    refine addX_hashed (s := { s' with toks := s'.toks + 1 }) x' (by have := metX_len names i; omega) fun h' _ sb y => ?_
    rw [← metX_succ (hn ▸ lt)] at y
    refine wpAny_pure ⟨plainId_quiet PyProof.Rows.F.plain_set_update_loop _, ih (i + 1) _ (by omega) lt (W.frame _ s' _ _ st' (Nat.le_succ _) fun b hb o e => ?_) y fun s2 m2 z => ?_⟩
    · rw [sb.2 b fun c => far (c ▸ hb)]; exact e
    · refine fin s2 (Moved.trans W.gtrans ((hm.mono more).then_heap (Nat.le_succ _) fun b o hb e => ?_) m2) z
      rw [sb.2 b fun c => hb (c ▸ List.mem_cons_self)]; exact e
end
section
variable {P : Program} {w : World} {A : Around} {E : Value → Shared → Prop} {s : Shared}
abbrev newO (w : World) : Obj := { cls := .type "set", dict := none, data := .set #[] 0 (.fresh 0 0 (!w.params.followText "set-order")) }
theorem newX (a : Value) {Q : Value → Shared → Prop} (h : Q (.ref s.heap.objs.size) { s with heap := s.heap.push (newO w) }) : codeAny (model P w) A (.call (.builtin "set.__new__") ⟨[.type "set", a], []⟩) (wants Q E) s := by
  refine codeAny_of_tree ?_
  show wpAny _ A.in1 (checkBuiltinCall "set.__new__" ⟨[.type "set", a], []⟩ >>= fun _ => again (.builtin "set.__new__" ⟨[.type "set", a], []⟩)) _ _ s
  refine wpAny_bind (wpAny_of_eq (PySem.F.newCall_set_1 a) (wpAny_pure ⟨plainId_quiet PySem.F.plain_set_new _, codeAny_builtin PySem.F.entry_set_new ?_⟩)); rw [Around.under_plainId PySem.F.plain_set_new _]
  unfold Builtin.«set.__new__» Builtin.Frozenset.newClass; have sub := sub_set_self
  obtain ⟨hp, g, d, tk, os⟩ := s
  dsimp only; wp_walk
  refine wpAny_askSetting (wpAny_pure ?_); dsimp only; simp only [newObj]
  refine wpAny_bind (wpAny_alloc (wpAny_pure (wpAny_pure ?_)))
  exact h
theorem freshX {h : Heap} : SetX P w (h.push (newO w)) h.objs.size [] :=
  ⟨_, #[], 0, _, Heap.get?_push_size _ rfl, ⟨rfl, rfl, rfl⟩, rfl, (fun e he => by simp at he), (by simp), List.Perm.refl _, (by decide), (by rfl), List.Pairwise.nil, by
    show _ ∨ (!w.params.followText "set-order") = true
    cases w.params.followText "set-order"
    · exact .inr rfl
    · exact .inl rfl⟩
end
end StS
namespace StS
section
variable {P : Program} {w : World} {A : Around} {E : Value → Shared → Prop} {s : Shared}
theorem strsAt : ∀ {us : List Value} {xs : List Str}, PyProof.Rows.StrsAre us xs → ∀ (i : Nat) (v : Value), us[i]? = some v → ∃ t, v = .str (xs.getD i Str.empty) t
  | _, _, .nil, i, v, h => by simp at h
  | _, _, .cons n t hr, 0, v, h => by
    simp at h
    exact ⟨t, h.symm⟩
  | _, _, .cons n t hr, i + 1, v, h => by
    rw [List.getElem?_cons_succ] at h
    obtain ⟨t', e⟩ := strsAt hr i v h
    exact ⟨t', e⟩
set_option maxRecDepth 100000 in
set_option maxHeartbeats 3200000 in
theorem ofList {l : Addr} {items : Array Value} {names : List Str} {Q : Value → Shared → Prop} (hh : A.handled = none) (hl : s.heap.IsList l items) (hi : PyProof.Rows.StrsAre items.toList names) (hb : items.size + 1 < scanBound)
    (h : ∀ (h' : Heap) (tk : Nat), SetX P w h' s.heap.objs.size (metX names items.size) → (∀ b o, b < s.heap.objs.size → s.heap.get? b = some o → h'.get? b = some o) → Q (.ref s.heap.objs.size) { s with heap := h', toks := tk }) :
    wpAny (model P w) A (call (.type "set") [.ref l]) Q E s := by
  obtain ⟨c, tl, hmro⟩ := PySem.F.called_set.mro
  have made := PySem.F.called_set.made; have sub := PySem.F.called_set.sub
  refine wpAny_call (codeAny_of_tree ?_)
  show wpAny _ _ (callAny (.type "set") ⟨[.ref l], []⟩) _ _ _
  refine wpAny_pure ⟨Code.quiet_builtin _ (by decide +kernel), codeAny_builtin PySem.F.entry_type_call ?_⟩
  rw [Around.under_plain (weight_type_call_type "set" [.ref l] []) rfl]
  have f1 := PySem.F.called_set.notType; have f2 := PySem.F.called_set.canCreate; have f3 := PySem.F.typeCall_set_1 (.ref l)
  repeat (any_goals (first | assumption | wp_step))
  refine codeAny_mono (newX (.ref l) (E := E) (Q := fun obj s1 => obj = .ref s.heap.objs.size ∧ s1 = { s with heap := s.heap.push (newO w) }) ⟨rfl, rfl⟩) fun r s1 hr => ?_
  cases r with
  | error e => exact hr
  | ok fl =>
    cases fl with
    | ret obj =>
      obtain ⟨rfl, rfl⟩ := hr
      have hS : (s.heap.push (newO w)).get? s.heap.objs.size = some (newO w) := Heap.get?_push_size _ rfl
      have hT : Shared.TypeIs { s with heap := s.heap.push (newO w) } (.ref s.heap.objs.size) "set" := ⟨_, hS, rfl⟩
      have hli := PySem.F.called_set.init.lookup; have hbi := PySem.F.called_set.init.bind (.ref s.heap.objs.size)
      repeat (any_goals (first | assumption | wp_step))
      refine codeAny_mono (codeAny_call_builtin (R := wants (fun r s2 => r = .none ∧ ∃ h' tk, s2 = { s with heap := h', toks := tk } ∧ SetX P w h' s.heap.objs.size (metX names items.size) ∧ (∀ b o, b < s.heap.objs.size → s.heap.get? b = some o → h'.get? b = some o)) E)
        PySem.F.called_set.init.plain PySem.F.entry_set_init (check_set_init_1 hT ?_)) fun r2 s2 hr2 => ?_
      · obtain ⟨ol, hol, hcl, nl, hdl⟩ := hl
        obtain ⟨ocls, odict, odata, oslots⟩ := ol
        (simp only at hcl hdl; subst hcl; subst hdl)
        have hol' : (s.heap.push (newO w)).get? l = some { cls := .type "list", dict := odict, data := .seq items nl, slots := oslots } := Heap.get?_push_of_some _ hol
        have g1 := PySem.F.sub_list_set; have g2 := PySem.F.sub_list_frozenset
        have g3 : (Value.type "list" == Value.type "dict") = false := by decide
        have l1 : (s.heap.push (newO w)).IsList l items := ⟨_, hol', rfl, nl, rfl⟩
        unfold Builtin.«set.__init__» noKeywords Builtin.Frozenset.updateFrom
        generalize hPI : pyIter = PI
        wp_walk
        subst hPI
        refine wpAny_pyIter_list l1 (wpAny_bind (wpAny_runValue ?_))
        have ls : l < s.heap.objs.size := Heap.lt_size hol
        have h3 : A.in1.in1.in1.handled = none := by simp [hh]
        have nI : l ≠ (s.heap.push (newO w)).objs.size := by rw [Heap.size_push]; exact Nat.ne_of_lt (Nat.lt_succ_of_lt ls)
        have far : s.heap.objs.size ∉ [(s.heap.push (newO w)).objs.size, l] := by
          rw [Heap.size_push]; simp only [List.mem_cons, List.not_mem_nil, or_false, not_or]
          exact ⟨Nat.ne_of_lt (Nat.lt_succ_self _), Nat.ne_of_gt ls⟩
        have hv : ∀ (i : Nat) (v : Value), items[i]? = some v → ∃ t, v = .str (names.getD i Str.empty) t := fun i v e => strsAt hi i v (by rw [Array.getElem?_toList]; exact e)
        have hn : names.length = items.size := by rw [← StrsAre.len_eq hi, Array.length_toList]
        refine loopX ((Walks.list h3 _ l nI items).toS) s.heap.objs.size far names hn hv hb (items.size - 0) 0 _ (by omega) (Nat.zero_le _) ⟨⟨_, Heap.get?_push_size _ rfl, rfl, rfl⟩, (l1.push _)⟩ ?_ ?_
        · exact SetX.at (freshX (w := w)) fun o e => Heap.get?_push_of_some _ e
        · intro s' hm hS'
          obtain ⟨h', g', d', tk', os'⟩ := s'
          obtain rfl : g' = s.gens := hm.gens
          obtain rfl : d' = s.drawn := hm.drawn
          obtain rfl : os' = s.os := hm.os
          show wpAny _ _ _ _ _ _
          refine wpAny_pure ?_
          show wpAny _ _ (ret Value.none) _ _ _
          refine wpAny_pure ⟨rfl, h', tk', rfl, hS', fun b o hb e => ?_⟩
          refine hm.heap b o ?_ (Heap.get?_push_of_some _ (Heap.get?_push_of_some _ e))
          rw [Heap.size_push]
          simp only [List.mem_cons, List.not_mem_nil, or_false, not_or]
          exact ⟨Nat.ne_of_lt hb, Nat.ne_of_lt (Nat.lt_succ_of_lt hb)⟩
      · cases r2 with
        | error e => exact hr2
        | ok fl2 =>
          cases fl2 with
          | ret r =>
            obtain ⟨rfl, h', tk, rfl, x, k⟩ := hr2
            repeat (any_goals (first | assumption | wp_step))
            exact h _ _ x k
          | _ => exact hr2.elim
    | _ => exact hr.elim
end
end StS
namespace StS
section
variable {P : Program} {w : World} {A : Around} {E : Value → Shared → Prop} {s : Shared} {a : Addr} {xs : List Str}
theorem strsOf : ∀ (l : List Value), (∀ v ∈ l, ∃ k tk, v = Value.str k tk) → PyProof.Rows.StrsAre l (l.map fun v => match v with | .str k _ => k | _ => Str.empty)
  | [], _ => .nil
  | v :: l, h => by
    obtain ⟨k, tk, rfl⟩ := h v List.mem_cons_self
    exact .cons k tk (strsOf l fun u hu => h u (List.mem_cons_of_mem _ hu))
/-- sorted(set) -/
theorem sortedX {Q : Value → Shared → Prop} (R : SetX P w s.heap a xs) (hh : A.handled = none) (h64 : xs.length < 64)
    (hQ : ∀ s' p (out : Array Value) (c : Nat) (ys : List Str), (∀ b o, s.heap.get? b = some o → s'.heap.get? b = some o) → s'.gens = s.gens → s'.os = s.os → s.heap.objs.size ≤ p →
      s'.heap.get? p = some (seqObj "list" out c) → PyProof.Rows.StrsAre out.toList ys → ys.Perm xs → sortedS ys = true → Q (.ref p) s') :
    wpAny (model P w) A (call (.builtin "sorted") [.ref a]) Q E s := by
  obtain ⟨o, es, ep, t, ho, hex, hd, g, nd, pm, hb, hf, hr, hl⟩ := R
  refine Calls.call_function_entry kind_sorted plain_sorted entry_sorted (args_sorted1 _) ?_
  unfold Builtin.«sorted»; refine wpAny_bind (m := checkCount "sorted" 1 1 _) (wpAny_pure ?_)
  refine wpAny_bind (L2.collect_set (A := A.in1) hh ⟨o, ho, hex.1, hd⟩ hf hb hr hl fun s1 vs k1 hz g1 o1 pv => ?_)
  have lv : vs.length = xs.length := by rw [pv.length_eq, List.length_map, ← pm.length_eq, List.length_map]
  have hS := strsOf vs fun v hv => by
    obtain ⟨e, he, q⟩ := List.mem_map.mp (pv.mem_iff.mp hv)
    obtain ⟨k, tk, h1, _⟩ := g e he
    exact ⟨k, tk, by rw [← q]; exact h1⟩
  have pk : (vs.map fun v => match v with | .str k _ => k | _ => Str.empty).Perm xs := by
    have q := pv.map fun v => match v with | .str k _ => k | _ => Str.empty
    rw [List.map_map] at q
    exact q.trans pm
  refine wpAny_bind (wpAny_newList ?_ (by rw [lv, sizeLine_eq]; omega))
  have hoL : (s1.heap.push (seqObj "list" vs.toArray 0)).get? s1.heap.objs.size = some (seqObj "list" vs.toArray 0) := Heap.get?_push_size _ rfl
  refine wpAny_bind (wpAny_holding (wpAny_call_entry PyProof.Rows.slot_list_sort ⟨_, hoL, rfl⟩ PyProof.Rows.entry_list_sort
    (list_sort_treeK strKind_oneLt (s := { s1 with heap := s1.heap.push (seqObj "list" vs.toArray 0) }) hoL hS.keysOf (fun u1 u2 rest e => keyKind_strs (by rw [← e]; exact hS)) (by rw [lv]; exact h64) fun st' hp hs => ⟨_, rfl, ?_⟩) (PyProof.Rows.args_list_sort _)))
  obtain ⟨ys, y1, y2, y3⟩ := sorted_out_str hS hp hs
  obtain ⟨c, hc⟩ := PyProof.Rows.sortedHeap_at (vs := vs) (out := (arrOf st').map (·.2)) hoL
  refine wpAny_pure ⟨_, rfl, hQ _ s1.heap.objs.size _ c ys (fun b u e => ?_) g1 o1 hz hc y1 (y2.trans pk) y3⟩
  have q := k1 b u e
  have lt := Heap.lt_size q
  show (PyProof.Rows.sortedHeap (s1.heap.push (seqObj "list" vs.toArray 0)) s1.heap.objs.size vs ((arrOf st').map (·.2))).get? b = some u
  rw [PyProof.Rows.sortedHeap_old (Nat.ne_of_lt lt) (by rw [size_push']; exact Nat.lt_succ_of_lt lt)]
  exact Heap.get?_push_of_some _ q
end
end StS
/-! ### .. by values -/
namespace StS
section
variable {X : Cx}
def SetO (P : Program) (w : World) (a : Addr) (xs : List Str) : HO := .ext fun h => SetX P w h a xs
theorem setO_new {P : Program} {w : World} {H : Hp} {h : Heap} {a : Addr} {xs : List Str} (R : SetX P w h a xs) : ObjOk P w H h a (SetO P w a xs) := by
  have R' := R
  obtain ⟨o, _, _, _, ho, _⟩ := R'
  exact ⟨R, ⟨o, ho⟩, fun h1 h2 p k => SetX.at p k⟩
theorem setO_get {pins : List (Addr × Obj)} {σ : St} {H : Hp} {s : Shared} {a : Addr} {xs : List Str} (I : Inv X pins σ H s) (ha : H a = some (SetO X.prog X.w a xs)) : SetX X.prog X.w s.heap a xs := (I.hok a _ ha).1
/-- set(list of texts) -/
def rSetL (P : Program) (w : World) (K : PySem.W.Frag) : List V → Hp → VK → Prop := fun vs H Q => ∃ (l : Addr) (names : List Str), vs = [.ref l] ∧ SqL K H l (names.map V.str) ∧ names.length + 1 < scanBound ∧ ∀ p, H p = none → Q (.ref p) (upd H p (SetO P w p (metX names names.length)))
theorem cr_setL {K : PySem.W.Frag} (hK : X.K = K) (hc : X.calm = true) : CallR X (.type "set") (rSetL X.prog X.w K) := by
  subst hK
  intro pins s σ H vs us Q I r h
  obtain ⟨l, names, rfl, hl, hn, q⟩ := h
  obtain ⟨its, rv, pl, hz⟩ := I.list hl
  rw [Vals.ref1 r]
  have hi : PyProof.Rows.StrsAre its.toArray.toList names := strsAre_of rv
  have ln : its.toArray.size = names.length := by rw [List.size_toArray, ← rv.length, List.length_map]
  refine ofList (I.ok.hd hc) pl.isList hi (by rw [ln]; exact hn) fun h' tk x k => ?_
  rw [ln] at x
  exact ⟨.ref _, _, I.laid (t' := tk) (fun b u e => k b u (Heap.lt_size e) e) (Nat.le_refl _) (setO_new x), rfl, q _ (I.hok.fresh (Nat.le_refl _))⟩
/-- sorted(set of texts) -/
def rSortedSet (P : Program) (w : World) : List V → Hp → VK → Prop := fun vs H Q => ∃ (a : Addr) (xs : List Str), vs = [.ref a] ∧ H a = some (SetO P w a xs) ∧ xs.length < 64 ∧
  ∀ (ys : List Str) (p : Addr), ys.Perm xs → sortedS ys = true → H p = none → Q (.ref p) (upd H p (.lst (ys.map V.str)))
theorem cr_sortedSet (hc : X.calm = true) : CallR X (.builtin "sorted") (rSortedSet X.prog X.w) := by
  intro pins s σ H vs us Q I r h
  obtain ⟨a, xs, rfl, ha, h64, q⟩ := h
  rw [Vals.ref1 r]
  refine sortedX (setO_get I ha) (I.ok.hd hc) h64 fun s' p out c ys k g o hp hg hi hs hm => ?_
  have hn : H p = none := I.hok.fresh hp
  have hlen : (ys.map V.str).length ≤ sizeLine := by rw [List.length_map, hs.length_eq, sizeLine_eq]; omega
  have J : Inv X pins σ (upd H p (.lst (ys.map V.str))) { s with heap := s'.heap, gens := s'.gens, drawn := s'.drawn, toks := s'.toks } :=
    I.call (ch := []) (Un.laid k hp hn) (I.hok.laid k hp ⟨hlen, out.toList, c, vals_of_strs hi, hg⟩) (by rw [g]; exact I.bare) (fun _ z => nomatch z)
  have e : s' = { s with heap := s'.heap, gens := s'.gens, drawn := s'.drawn, toks := s'.toks } := by
    obtain ⟨a1, a2, a3, a4, a5⟩ := s'
    cases o
    rfl
  rw [e]
  exact ⟨.ref p, _, J, rfl, q ys p hs hm hn⟩
/-- len(set of texts) -/
def rLenSet (P : Program) (w : World) : List V → Hp → VK → Prop := fun vs H Q => ∃ (a : Addr) (xs : List Str), vs = [.ref a] ∧ H a = some (SetO P w a xs) ∧ Q (.int xs.length) H
theorem cr_lenSet : CallR X (.builtin "len") (rLenSet X.prog X.w) := by
  intro pins s σ H vs us Q I r h
  obtain ⟨a, xs, rfl, ha, q⟩ := h
  rw [Vals.ref1 r]
  obtain ⟨o, es, ep, t, ho, hex, hd, g, nd, pm, hb, hf, _⟩ := setO_get I ha
  have hz : es.size = xs.length := by rw [← pm.length_eq, List.length_map, Array.length_toList]
  refine call_len_set ho hex hd hf (by have : scanBound ≤ 2 ^ 62 := by decide +kernel
                                       omega) ?_
  rw [hz]
  exact ⟨.int xs.length, H, I.tok _, ⟨_, rfl⟩, q⟩
end
end StS
/-! ### sorted(d) of a dict with tuple keys -/
namespace StT
def keyP1 : Key → PyData
  | .inl i => .int i
  | .inr x => .str x
def keyPT (k : List Key) : PyData := .tuple (k.map keyP1)
section
variable {X : Cx}
theorem key_reads {h : Heap} : ∀ {k : Key} {u : Value}, RelV (kV k) u → ∃ as, Reads h u (keyP1 k) as
  | .inl i, u, r => by
    obtain ⟨t, rfl⟩ := r
    exact ⟨_, .int i t⟩
  | .inr x, u, r => by
    obtain ⟨t, rfl⟩ := r
    exact ⟨_, .str x t⟩
theorem keys_reads {h : Heap} : ∀ {k : List Key} {us : List Value}, Vals (k.map kV) us → ∃ as, ReadsAll h us (k.map keyP1) as
  | [], _, r => by cases r; exact ⟨_, .nil⟩
  | a :: k, _, r => by
    cases r with
    | cons r1 r2 =>
      obtain ⟨as, q1⟩ := key_reads (h := h) r1
      obtain ⟨bs, q2⟩ := keys_reads (h := h) r2
      exact ⟨_, .cons q1 q2⟩
abbrev AK : Type := Addr × List Key
def sortA (bs : List AK) : List AK := bs.mergeSort (PySem.W.dataLe false fun b : AK => keyPT b.2)
theorem sortA_perm (bs : List AK) : (sortA bs).Perm bs := List.mergeSort_perm _ _
def rSortedT : List V → Hp → VK → Prop := fun vs H Q => ∃ (d : Addr) (kvs : List (List Key × V)), vs = [.ref d] ∧ L2.Rd H d (.dT kvs) ∧ PySem.W.AllAlike (kvs.map fun p => keyPT p.1) ∧ (∀ p ∈ kvs, p.1 ≠ []) ∧ kvs.length ≤ 10000 ∧
  ∀ (bs : List AK) (p : Addr), bs.map Prod.snd = kvs.map Prod.fst → (∀ b ∈ bs, H b.1 = some (.tup (b.2.map kV))) → H p = none → Q (.ref p) (upd H p (.lst ((sortA bs).map fun b => V.ref b.1)))
theorem refs_each {R : Value → AK → Prop} (hR : ∀ b, R (.ref b.1) b) : ∀ bs : List AK, PySem.W.EachIs R (bs.map fun b => Value.ref b.1) bs
  | [] => .nil
  | b :: bs => .cons (hR b) (refs_each hR bs)
theorem each_refs : ∀ {us : List Value} {bs : List AK}, PySem.W.EachIs (fun u (b : AK) => u = .ref b.1) us bs → us = bs.map fun b => Value.ref b.1
  | _, _, .nil => rfl
  | _, _, .cons h t => by rw [h, each_refs t]; rfl
theorem depth_key : ∀ k : Key, (keyP1 k).depth = 0
  | .inl _ => rfl
  | .inr _ => rfl
theorem depth_keys : ∀ k : List Key, PyData.depthAll (k.map keyP1) = 0
  | [] => rfl
  | a :: k => by
    show max (keyP1 a).depth (PyData.depthAll (k.map keyP1)) = 0
    rw [depth_key, depth_keys k]
    rfl
theorem pair_right {α β : Type} {R : α → β → Prop} : ∀ {xs : List α} {ys : List β}, Paired R xs ys → ∀ {y : β}, y ∈ ys → ∃ x, R x y
  | _, _, .nil, _, h => by cases h
  | _, _, .cons r t, y, h => (List.mem_cons.mp h).elim (fun e => ⟨_, e ▸ r⟩) fun h => pair_right t h
set_option maxHeartbeats 4000000 in
theorem cr_sortedT (hc : X.calm = true) (hu : X.A.units + 64 < cLine) : CallR X (.builtin "sorted") rSortedT := by
  intro pins s σ H vs us Q I r h
  obtain ⟨d, kvs, rfl, hd, hal, hne, hz, q⟩ := h
  rw [Vals.ref1 r]
  obtain ⟨z, hs, ks, pr, o, es, ep, ho, hx, hdt, he, hn⟩ := (show ObjOk X.prog X.w H s.heap d (.dT kvs) from hd.ok I.hok)
  have l1 : es.size = ks.length := size_of_entries he
  have l2 : kvs.length = ks.length := Paired.length pr
  have kd : ks.map (·.1) = kvs.map Prod.fst := by
    clear he hn l1 l2 q hal hz hd z hne
    induction pr with
    | nil => rfl
    | cons h _ ih => rw [List.map_cons, List.map_cons, h.1, ih]
  refine Calls.call_function_entry PyProof.Rows.kind_sorted PyProof.Rows.plain_sorted PyProof.Rows.entry_sorted (PyProof.Rows.args_sorted1 _) ?_
  unfold Builtin.«sorted»; refine wpAny_bind (m := checkCount "sorted" 1 1 _) (wpAny_pure ?_)
  refine wpAny_bind (PySem.W.kdu_collect (A := X.A.in1) (kdl_raw hs hx hdt) (I.ok.hd hc) ho (by omega) fun h' tk acc kp it => ?_)
  have ea : acc.toList = ((ks.map fun x => ((x.2.1, x.1) : AK)).map fun b => Value.ref b.1) := by
    rw [List.map_map]
    apply List.ext_getElem?
    intro j
    rw [List.getElem?_map]
    have hl : acc.toList.length = ks.length := by rw [Array.length_toList, it.1]; exact l1
    cases hj : acc.toList[j]? with
    | none => rw [List.getElem?_eq_none (by have := List.getElem?_eq_none_iff.mp hj; omega)]; rfl
    | some v =>
      obtain ⟨en, hen, hv⟩ := it.2 j v (by rw [← Array.getElem?_toList]; exact hj)
      have qe := entry_at he j
      rw [hen] at qe
      cases hb : ks[j]? with
      | none => rw [hb] at qe; exact nomatch (show some en = none from qe)
      | some b =>
        rw [hb] at qe
        have e2 : en = entryOfKey (tupleKind (mixKind X.prog X.w)) b := Option.some.inj qe
        rw [hv, e2]
        rfl
  generalize hbs : (ks.map fun x => ((x.2.1, x.1) : AK)) = bs at ea
  have b1 : bs.map Prod.snd = kvs.map Prod.fst := by rw [← hbs, List.map_map, ← kd]; rfl
  have b2 : ∀ b ∈ bs, H b.1 = some (.tup (b.2.map kV)) := by
    rw [← hbs]
    intro b hb
    obtain ⟨x, hx, rfl⟩ := List.mem_map.mp hb
    obtain ⟨y, q1, q2, _⟩ := pair_right pr hx
    rw [← q1]
    exact q2
  have lb : bs.length = kvs.length := by have := congrArg List.length b1; simpa using this
  rw [ea]
  refine wpAny_bind (wpAny_newList ?_ (by rw [List.length_map, sizeLine_eq]; omega))
  have hoL : (h'.push (seqObj "list" (bs.map fun b => Value.ref b.1).toArray 0)).get? h'.objs.size = some (seqObj "list" (bs.map fun b => Value.ref b.1).toArray 0) := Heap.get?_push_size _ rfl
  have er : PySem.W.EachIs (fun v (b : AK) => ∃ as, Reads (PySem.W.sortingHeap (h'.push (seqObj "list" (bs.map fun b => Value.ref b.1).toArray 0)) h'.objs.size (bs.map fun b => Value.ref b.1)) v (keyPT b.2) as) (bs.map fun b => Value.ref b.1) bs := by
    have go : ∀ cs : List AK, (∀ b ∈ cs, b ∈ bs) → PySem.W.EachIs (fun v (b : AK) => ∃ as, Reads (PySem.W.sortingHeap (h'.push (seqObj "list" (bs.map fun b => Value.ref b.1).toArray 0)) h'.objs.size (bs.map fun b => Value.ref b.1)) v (keyPT b.2) as) (cs.map fun b => Value.ref b.1) cs := by
      intro cs
      induction cs with
      | nil => intro _; exact .nil
      | cons b cs ih =>
        intro hb
        refine .cons ?_ (ih fun x hx => hb x (List.mem_cons_of_mem _ hx))
        obtain ⟨_, its, rv, o1, g1, g2, n1, g3⟩ := I.hok b.1 _ (b2 b (hb b List.mem_cons_self))
        have g1' := kp _ _ g1
        have g4 : (PySem.W.sortingHeap (h'.push (seqObj "list" (bs.map fun b => Value.ref b.1).toArray 0)) h'.objs.size (bs.map fun b => Value.ref b.1)).get? b.1 = some o1 :=
          PySem.W.sortingHeap_old (Nat.ne_of_lt (Heap.lt_size g1')) (Heap.get?_push_of_some _ g1')
        obtain ⟨as, ra⟩ := keys_reads (h := PySem.W.sortingHeap (h'.push (seqObj "list" (bs.map fun b => Value.ref b.1).toArray 0)) h'.objs.size (bs.map fun b => Value.ref b.1)) rv
        exact ⟨_, .tuple g4 g2 g3 (by simpa using ra)⟩
    exact go bs fun _ h => h
  have e0 : PySem.W.EachIs (fun u (b : AK) => u = Value.ref b.1) (bs.map fun b => Value.ref b.1) bs := refs_each (fun _ => rfl) bs
  have al : PySem.W.AllAlike (bs.map fun b => keyPT b.2) := by
    have : (bs.map fun b => keyPT b.2) = kvs.map fun p => keyPT p.1 := by
      rw [show (bs.map fun b => keyPT b.2) = (bs.map Prod.snd).map keyPT from by rw [List.map_map]; rfl, b1, List.map_map]
      rfl
    rw [this]
    exact hal
  have hk : PySem.W.Sortable (bs.map fun b => keyPT b.2) := by
    refine .inl fun d hd => ?_
    obtain ⟨b, hb, rfl⟩ := List.mem_map.mp hd
    have m : b.2 ∈ kvs.map Prod.fst := b1 ▸ List.mem_map_of_mem hb
    obtain ⟨p, hp, e⟩ := List.mem_map.mp m
    have n := hne p hp
    rw [e] at n
    obtain ⟨k, hk⟩ : ∃ k, b.2 = k := ⟨_, rfl⟩
    rw [hk] at n ⊢
    cases k with
    | nil => exact absurd rfl n
    | cons x r => exact ⟨_, _, rfl⟩
  refine wpAny_bind (wpAny_holding (wpAny_call_entry PyProof.Rows.slot_list_sort ⟨_, hoL, rfl⟩ PyProof.Rows.entry_list_sort (PySem.W.list_sort_vals (κ := PySem.W.dataKind _ (bs.map fun b => keyPT b.2)) hoL
    (PySem.W.SortsAt.data (s := { s with heap := PySem.W.sortingHeap (h'.push (seqObj "list" (bs.map fun b => Value.ref b.1).toArray 0)) h'.objs.size (bs.map fun b => Value.ref b.1), toks := tk }) (PySem.W.each_map (R := fun v d => ∃ as, Reads (PySem.W.sortingHeap (h'.push (seqObj "list" (bs.map fun b => Value.ref b.1).toArray 0)) h'.objs.size (bs.map fun b => Value.ref b.1)) v d as) (fun b : AK => keyPT b.2) er) al hk ?_) (by rw [List.length_map, sizeLine_eq]; omega) ⟨.none, rfl, ?_⟩) (PyProof.Rows.args_list_sort _)))
  · refine PySem.W.bound_map fun b hb => ?_
    have e := depth_keys b.2
    show X.A.units + 1 + 1 + (PyData.depthAll (b.2.map keyP1) + 1) < cLine
    rw [e]
    omega
  · have ho := each_refs (PySem.W.sortVals_data (enc := fun b : AK => keyPT b.2) false e0 er al)
    obtain ⟨c, hc⟩ := PyProof.Rows.sortedHeap_at (vs := bs.map fun b => Value.ref b.1) (out := ((sortA bs).map fun b => Value.ref b.1).toArray) hoL
    have lo : ((sortA bs).map fun b => V.ref b.1).length ≤ sizeLine := by
      rw [List.length_map, (sortA_perm bs).length_eq, sizeLine_eq]
      omega
    have vr : ∀ cs : List AK, Vals (cs.map fun b => V.ref b.1) (cs.map fun b => Value.ref b.1) := by
      intro cs
      induction cs with
      | nil => exact .nil
      | cons b cs ih => exact .cons rfl ih
    have hp' : s.heap.get? h'.objs.size = none := by
      cases e : s.heap.get? h'.objs.size with
      | none => rfl
      | some u => exact absurd (Heap.lt_size (kp _ _ e)) (Nat.lt_irrefl _)
    have hp : H h'.objs.size = none := (I.hok.kept kp).fresh (Nat.le_refl _)
    rw [ho]
    have J := I.laidN (t' := tk) (a := h'.objs.size) (o := .lst ((sortA bs).map fun b => V.ref b.1)) (h' := PyProof.Rows.sortedHeap (h'.push (seqObj "list" (bs.map fun b => Value.ref b.1).toArray 0)) h'.objs.size (bs.map fun b => Value.ref b.1) ((sortA bs).map fun b => Value.ref b.1).toArray) (fun b u e => by
      have q := kp b u e
      have lt := Heap.lt_size q
      rw [PyProof.Rows.sortedHeap_old (Nat.ne_of_lt lt) (by rw [size_push']; exact Nat.lt_succ_of_lt lt)]
      exact Heap.get?_push_of_some _ q) hp' hp ⟨lo, ((sortA bs).map fun b => Value.ref b.1), c, vr (sortA bs), by exact hc⟩
    refine wpAny_pure ⟨_, rfl, ?_⟩
    exact ⟨.ref h'.objs.size, _, J, rfl, q bs _ b1 b2 hp⟩
end
end StT
/-! ### modifications as data; what is put over what -/
namespace Md
def cpS (x : Str) : List Nat := x.cps.toList
theorem cpS_inj {x y : Str} (h : cpS x = cpS y) : x = y := by
  cases x
  cases y
  simp only [cpS] at h
  congr
  exact Array.ext' h
def leS (a b : Str) : Bool := decide (cpS a ≤ cpS b)
theorem leS_trans (a b c : Str) (h1 : leS a b = true) (h2 : leS b c = true) : leS a c = true := by
  simp only [leS, decide_eq_true_iff] at *
  exact List.le_trans h1 h2
theorem leS_total (a b : Str) : (leS a b || leS b a) = true := by
  simp only [leS, Bool.or_eq_true, decide_eq_true_iff]
  exact List.le_total _ _
theorem leS_anti {a b : Str} (h1 : leS a b = true) (h2 : leS b a = true) : a = b := by
  simp only [leS, decide_eq_true_iff] at *
  exact cpS_inj (List.le_antisymm h1 h2)
def onceS : List Str → List Str
  | [] => []
  | k :: ks => if k ∈ onceS ks then onceS ks else k :: onceS ks
theorem onceS_mem : ∀ (ks : List Str) (k : Str), k ∈ onceS ks ↔ k ∈ ks
  | [], _ => Iff.rfl
  | x :: xs, k => by
    rw [onceS]
    split
    · rename_i h
      rw [onceS_mem xs k]
      exact ⟨fun q => List.mem_cons_of_mem _ q, fun q => by rcases List.mem_cons.mp q with rfl | q; exact (onceS_mem xs _).mp h; exact q⟩
    · rw [List.mem_cons, List.mem_cons, onceS_mem xs k]
theorem onceS_nodup : ∀ ks : List Str, (onceS ks).Nodup
  | [] => .nil
  | x :: xs => by
    rw [onceS]
    split
    · exact onceS_nodup xs
    · rename_i h
      exact List.nodup_cons.mpr ⟨h, onceS_nodup xs⟩
theorem onceS_len : ∀ ks : List Str, (onceS ks).length ≤ ks.length
  | [] => Nat.le_refl _
  | k :: ks => by
    rw [onceS]
    have := onceS_len ks
    split
    · rw [List.length_cons]; omega
    · rw [List.length_cons, List.length_cons]; omega
def sortN (xs : List Str) : List Str := (onceS xs).mergeSort leS
theorem sortN_perm (xs : List Str) : (sortN xs).Perm (onceS xs) := List.mergeSort_perm _ _
theorem sortN_mem (xs : List Str) (k : Str) : k ∈ sortN xs ↔ k ∈ xs := ((sortN_perm xs).mem_iff).trans (onceS_mem xs k)
theorem sortN_nodup (xs : List Str) : (sortN xs).Nodup := (sortN_perm xs).nodup_iff.mpr (onceS_nodup xs)
theorem sortN_pair (xs : List Str) : (sortN xs).Pairwise fun a b => leS a b = true := List.pairwise_mergeSort leS_trans leS_total _
theorem sortN_len (xs : List Str) : (sortN xs).length ≤ xs.length := by
  rw [(sortN_perm xs).length_eq]
  exact onceS_len xs
theorem perm_ndS {l1 l2 : List Str} (n1 : l1.Nodup) (n2 : l2.Nodup) (h : ∀ k, k ∈ l1 ↔ k ∈ l2) : l1.Perm l2 := by
  rw [List.perm_iff_count]
  intro k
  rw [List.Nodup.count n1, List.Nodup.count n2]
  simp only [h]
/-- one order only -/
theorem sortN_of {l xs : List Str} (n : l.Nodup) (p : l.Pairwise fun a b => leS a b = true) (h : ∀ k, k ∈ l ↔ k ∈ xs) : l = sortN xs :=
  List.Perm.eq_of_pairwise (le := fun a b => leS a b = true) (fun _ _ _ _ h1 h2 => leS_anti h1 h2) p (sortN_pair xs) (perm_ndS n (sortN_nodup xs) fun k => (h k).trans (sortN_mem xs k).symm)
theorem sortN_congr {xs ys : List Str} (h : ∀ k, k ∈ xs ↔ k ∈ ys) : sortN xs = sortN ys :=
  sortN_of (sortN_nodup xs) (sortN_pair xs) fun k => (sortN_mem xs k).trans (h k)

/-- a change that is no list: a number's tree, or a truth's -/
inductive Rt where
  | num (n d : Int) | truth (b : Bool)
section
variable {L : Type} (J : L → Option L → L)
abbrev Rw (L : Type) : Type := Str × (Rt ⊕ L)
def treeF (nm : Str) (acc : Option Rt) (r : Rw L) : Option Rt := match r.2 with
  | .inl t => if r.1 = nm then some t else acc
  | .inr _ => acc
def listF (nm : Str) (acc : Option L) (r : Rw L) : Option L := match r.2 with
  | .inl _ => acc
  | .inr c => if r.1 = nm then some (J c acc) else acc
def treeOf (rows : List (Rw L)) (nm : Str) : Option Rt := rows.foldl (treeF nm) none
def listOf (rows : List (Rw L)) (nm : Str) : Option L := rows.foldl (listF J nm) none
def cell (nm : Str) (t : Option Rt) (l : Option L) : List (Rw L) := (match t with
  | some t => [(nm, .inl t)]
  | none => []) ++ match l with
  | some c => [(nm, .inr c)]
  | none => []
def normR (rows : List (Rw L)) : List (Rw L) := (sortN (rows.map (·.1))).flatMap fun nm => cell nm (treeOf rows nm) (listOf J rows nm)
theorem cell_name {nm : Str} {t : Option Rt} {l : Option L} {r : Rw L} (h : r ∈ cell nm t l) : r.1 = nm := by
  unfold cell at h
  cases t <;> cases l <;> simp at h
  · rw [h]
  · rw [h]
  · rcases h with h | h <;> rw [h]
/-- a fold that looks at one name -/
theorem fold_skip {α : Type} {f : α → Rw L → α} {nm : Str} (hf : ∀ acc r, r.1 ≠ nm → f acc r = acc) : ∀ {rows : List (Rw L)} {acc : α}, (∀ r ∈ rows, r.1 ≠ nm) → rows.foldl f acc = acc
  | [], _, _ => rfl
  | r :: rows, acc, h => by
    rw [List.foldl_cons, hf acc r (h r List.mem_cons_self)]
    exact fold_skip hf fun x hx => h x (List.mem_cons_of_mem _ hx)
theorem fold_flat {α : Type} {f : α → Rw L → α} {nm : Str} (hf : ∀ acc r, r.1 ≠ nm → f acc r = acc) {g : Str → List (Rw L)} (hg : ∀ x, ∀ r ∈ g x, r.1 = x) :
    ∀ {names : List Str} {acc : α}, names.Nodup → (names.flatMap g).foldl f acc = if nm ∈ names then (g nm).foldl f acc else acc
  | [], _, _ => rfl
  | x :: names, acc, nd => by
    obtain ⟨h1, h2⟩ := List.nodup_cons.mp nd
    rw [List.flatMap_cons, List.foldl_append]
    by_cases e : x = nm
    · subst e
      rw [if_pos List.mem_cons_self, fold_flat hf hg h2, if_neg h1]
    · rw [fold_skip (rows := g x) hf (fun r hr => by rw [hg x r hr]; exact e), fold_flat hf hg h2]
      by_cases m : nm ∈ names
      · rw [if_pos m, if_pos (List.mem_cons_of_mem _ m)]
      · rw [if_neg m, if_neg (fun z => (List.mem_cons.mp z).elim (fun q => e q.symm) m)]
theorem treeF_skip {nm : Str} (acc : Option Rt) (r : Rw L) (h : r.1 ≠ nm) : treeF nm acc r = acc := by
  unfold treeF
  split
  · rw [if_neg h]
  · rfl
theorem listF_skip {nm : Str} (acc : Option L) (r : Rw L) (h : r.1 ≠ nm) : listF J nm acc r = acc := by
  unfold listF
  split
  · rfl
  · rw [if_neg h]
theorem fold_names {α : Type} {f : α → Rw L → α} {nm : Str} (hf : ∀ acc r, r.1 ≠ nm → f acc r = acc) {rows : List (Rw L)} {acc : α} (h : nm ∉ rows.map (·.1)) : rows.foldl f acc = acc :=
  fold_skip hf fun r hr e => h (List.mem_map.mpr ⟨r, hr, e⟩)
theorem fold_normR {α : Type} {f : α → Rw L → α} {nm : Str} (hf : ∀ acc r, r.1 ≠ nm → f acc r = acc) (rows : List (Rw L)) (acc : α) : (normR J rows).foldl f acc = (cell nm (treeOf rows nm) (listOf J rows nm)).foldl f acc := by
  unfold normR
  rw [fold_flat hf (fun x r hr => cell_name hr) (sortN_nodup _)]
  split
  · rfl
  · rename_i h
    rw [sortN_mem] at h
    have e1 : treeOf rows nm = none := fold_names treeF_skip h
    have e2 : listOf J rows nm = none := fold_names (listF_skip J) h
    rw [e1, e2]
    rfl
theorem tree_cell (nm : Str) (t : Option Rt) (l : Option L) (acc : Option Rt) : (cell nm t l).foldl (treeF nm) acc = t.or acc := by
  cases t <;> cases l <;> simp [cell, treeF]
theorem list_cell (nm : Str) (t : Option Rt) (l : Option L) (acc : Option L) : (cell nm t l).foldl (listF J nm) acc = match l with
  | some c => some (J c acc)
  | none => acc := by
  cases t <;> cases l <;> simp [cell, listF]
theorem tree_fold (nm : Str) : ∀ (rows : List (Rw L)) (acc : Option Rt), rows.foldl (treeF nm) acc = (treeOf rows nm).or acc := by
  intro rows
  induction rows with
  | nil => intro acc; simp [treeOf]
  | cons r rows ih =>
    intro acc
    have e : treeOf (r :: rows) nm = rows.foldl (treeF nm) (treeF nm none r) := rfl
    rw [List.foldl_cons, ih, e, ih (treeF nm none r), Option.or_assoc]
    congr 1
    unfold treeF
    split
    · split <;> simp
    · simp
structure Good : Prop where
  one : ∀ c o, J (J c o) none = J c o
  two : ∀ c o a, J (J c o) (some a) = J c (some (match o with
    | some b => J b (some a)
    | none => a))
theorem list_foldR (g : Good J) (nm : Str) : ∀ (rows : List (Rw L)), (∀ l, listOf J rows nm = some l → J l none = l) ∧ ∀ acc, rows.foldl (listF J nm) acc = match listOf J rows nm with
    | some c => some (J c acc)
    | none => acc := by
  intro rows
  rw [← List.reverse_reverse rows]
  induction rows.reverse with
  | nil => exact ⟨fun l h => (nomatch h), fun acc => rfl⟩
  | cons r rs ih =>
    rw [List.reverse_cons]
    generalize rs.reverse = rows at ih
    obtain ⟨i1, i2⟩ := ih
    have e : listOf J (rows ++ [r]) nm = listF J nm (listOf J rows nm) r := by unfold listOf; rw [List.foldl_append]; rfl
    have e2 : ∀ acc, (rows ++ [r]).foldl (listF J nm) acc = listF J nm (rows.foldl (listF J nm) acc) r := fun acc => by rw [List.foldl_append]; rfl
    rw [e]
    refine ⟨fun l h => ?_, fun acc => ?_⟩
    · revert h
      unfold listF
      split
      · exact i1 l
      · split
        · intro h
          cases h
          exact g.one _ _
        · exact i1 l
    · rw [e2, i2 acc]
      unfold listF
      split
      · rfl
      · split
        · rename_i c _ _
          dsimp only
          congr 1
          cases h : listOf J rows nm with
          | none =>
            dsimp only
            cases acc with
            | none => exact (g.one _ _).symm
            | some a => exact (g.two c none a).symm
          | some l =>
            dsimp only
            cases acc with
            | none => rw [i1 l h, g.one]
            | some a => exact (g.two c (some l) a).symm
        · rfl
theorem cell_some (g : Good J) {rows : List (Rw L)} {k : Str} (h : k ∈ rows.map (·.1)) : treeOf rows k ≠ none ∨ listOf J rows k ≠ none := by
  obtain ⟨r, hr, e⟩ := List.mem_map.mp h
  obtain ⟨u, v, rfl⟩ := List.append_of_mem hr
  obtain ⟨n, c⟩ := r
  dsimp only at e
  subst e
  cases c with
  | inl t =>
    left
    unfold treeOf
    rw [List.foldl_append, List.foldl_cons, tree_fold]
    simp [treeF]
  | inr l =>
    right
    unfold listOf
    rw [List.foldl_append, List.foldl_cons, (list_foldR J g n v).2]
    split
    · exact Option.some_ne_none _
    · simp [listF]
theorem some_iff (g : Good J) (rows : List (Rw L)) (k : Str) : k ∈ rows.map (·.1) ↔ treeOf rows k ≠ none ∨ listOf J rows k ≠ none := by
  refine ⟨cell_some J g, fun h => ?_⟩
  by_cases c : k ∈ rows.map (·.1)
  · exact c
  · have e1 : treeOf rows k = none := fold_names treeF_skip c
    have e2 : listOf J rows k = none := fold_names (listF_skip J) c
    rcases h with h | h
    · exact absurd e1 h
    · exact absurd e2 h
theorem norm_names (g : Good J) (rows : List (Rw L)) (k : Str) : k ∈ (normR J rows).map (·.1) ↔ k ∈ rows.map (·.1) := by
  constructor
  · intro h
    obtain ⟨r, hr, rfl⟩ := List.mem_map.mp h
    obtain ⟨x, hx, hc⟩ := List.mem_flatMap.mp hr
    rw [cell_name hc]
    exact (sortN_mem _ _).mp hx
  · intro h
    have key : (cell k (treeOf rows k) (listOf J rows k)) ≠ [] := by
      have q := cell_some J g h
      revert q
      cases treeOf rows k <;> cases listOf J rows k <;> simp [cell]
    obtain ⟨r, hr⟩ := List.exists_mem_of_ne_nil _ key
    exact List.mem_map.mpr ⟨r, List.mem_flatMap.mpr ⟨k, (sortN_mem _ _).mpr h, hr⟩, cell_name hr⟩
theorem norm_congr {xs ys : List (Rw L)} (h1 : ∀ k, k ∈ xs.map (·.1) ↔ k ∈ ys.map (·.1)) (h2 : ∀ k, treeOf xs k = treeOf ys k) (h3 : ∀ k, listOf J xs k = listOf J ys k) : normR J xs = normR J ys := by
  unfold normR
  rw [sortN_congr h1]
  simp only [h2, h3]
theorem tree_norm (rows : List (Rw L)) (k : Str) (acc : Option Rt) : (normR J rows).foldl (treeF k) acc = rows.foldl (treeF k) acc := by
  rw [fold_normR J treeF_skip, tree_cell, tree_fold]
theorem list_norm (g : Good J) (rows : List (Rw L)) (k : Str) (acc : Option L) : (normR J rows).foldl (listF J k) acc = rows.foldl (listF J k) acc := by
  rw [fold_normR J (listF_skip J), list_cell, (list_foldR J g k rows).2]
theorem norm_left (g : Good J) (xs ys : List (Rw L)) : normR J (normR J xs ++ ys) = normR J (xs ++ ys) :=
  norm_congr J (fun k => by rw [List.map_append, List.map_append, List.mem_append, List.mem_append, norm_names J g])
    (fun k => by unfold treeOf; rw [List.foldl_append, List.foldl_append, tree_norm]) fun k => by unfold listOf; rw [List.foldl_append, List.foldl_append, list_norm J g]
theorem norm_right (g : Good J) (xs ys : List (Rw L)) : normR J (xs ++ normR J ys) = normR J (xs ++ ys) :=
  norm_congr J (fun k => by rw [List.map_append, List.map_append, List.mem_append, List.mem_append, norm_names J g])
    (fun k => by unfold treeOf; rw [List.foldl_append, List.foldl_append, tree_norm]) fun k => by unfold listOf; rw [List.foldl_append, List.foldl_append, list_norm J g]
end
def Lo : Nat → Type
  | 0 => Empty
  | n + 1 => List (Rw (Lo n))
abbrev Rws (n : Nat) : Type := List (Rw (Lo n))
/-- a change's list put over the list that the name has already -/
def putC : (n : Nat) → Lo n → Option (Lo n) → Lo n
  | 0 => fun c _ => c
  | n + 1 => fun (c : Rws n) (o : Option (Rws n)) => normR (putC n) (o.getD [] ++ c)
/-- what stands when outer is put over inner, is norm (inner ++ outer) -/
def norm (n : Nat) (rows : Rws n) : Rws n := normR (putC n) rows
theorem good : ∀ n : Nat, Good (putC n)
  | 0 => ⟨fun c => c.elim, fun c => c.elim⟩
  | n + 1 => by
    have g := good n
    constructor
    · intro (c : Rws n) (o : Option (Rws n))
      show normR (putC n) ([] ++ normR (putC n) (o.getD [] ++ c)) = normR (putC n) (o.getD [] ++ c)
      rw [norm_right _ g]
      rfl
    · intro (c : Rws n) (o : Option (Rws n)) (a : Rws n)
      show normR (putC n) (a ++ normR (putC n) (o.getD [] ++ c)) = _
      rw [norm_right _ g]
      cases o with
      | none => rfl
      | some b =>
        show normR (putC n) (a ++ (b ++ c)) = normR (putC n) (normR (putC n) (a ++ b) ++ c)
        rw [norm_left _ g, List.append_assoc]
/-- three put over one another, from either side -/
theorem assoc (n : Nat) (a b c : Rws n) : norm n (norm n (a ++ b) ++ c) = norm n (a ++ norm n (b ++ c)) := by
  unfold norm
  rw [norm_left _ (good n), norm_right _ (good n), List.append_assoc]
/-! the law's names; how many rows -/
def NM : List Str := ["start", "fixed", "r", "x"]
def OkL : (n : Nat) → Lo n → Prop
  | 0 => fun _ => True
  | n + 1 => fun (c : Rws n) => c.length ≤ 8 ∧ ∀ r ∈ c, r.1 ∈ NM ∧ ∀ l, r.2 = .inr l → OkL n l
def OkW (n : Nat) (r : Rw (Lo n)) : Prop := r.1 ∈ NM ∧ ∀ l, r.2 = .inr l → OkL n l
abbrev OkR (n : Nat) (c : Rws n) : Prop := OkL (n + 1) c
theorem names_few {l : List Str} (nd : l.Nodup) (h : ∀ k ∈ l, k ∈ NM) : l.length ≤ 4 := by
  have p : l.Perm (NM.filter fun k => decide (k ∈ l)) := perm_ndS nd (List.Nodup.sublist List.filter_sublist (by decide +kernel)) fun k => by
    rw [List.mem_filter, decide_eq_true_iff]
    exact ⟨fun q => ⟨h k q, q⟩, (·.2)⟩
  rw [p.length_eq]
  exact Nat.le_trans (List.length_filter_le _ _) (by decide +kernel)
theorem flat_len {α β : Type} {g : α → List β} {m : Nat} (h : ∀ x, (g x).length ≤ m) : ∀ l : List α, (l.flatMap g).length ≤ l.length * m
  | [] => by simp
  | x :: l => by
    rw [List.flatMap_cons, List.length_append, List.length_cons, Nat.succ_mul]
    have := h x
    have := flat_len h l
    omega
theorem cell_len {L : Type} (nm : Str) (t : Option Rt) (l : Option L) : (cell nm t l).length ≤ 2 := by
  cases t <;> cases l <;> simp [cell]
theorem ok_listOf {n : Nat} (hJ : ∀ c o, OkL n c → (∀ b, o = some b → OkL n b) → OkL n (putC n c o)) {rows : List (Rw (Lo n))} (h : ∀ r ∈ rows, OkW n r) (k : Str) : ∀ l, listOf (putC n) rows k = some l → OkL n l := by
  have go : ∀ (rs : List (Rw (Lo n))) (acc : Option (Lo n)), (∀ r ∈ rs, OkW n r) → (∀ b, acc = some b → OkL n b) → ∀ l, rs.foldl (listF (putC n) k) acc = some l → OkL n l := by
    intro rs
    induction rs with
    | nil => intro acc _ h2 l e; exact h2 l e
    | cons r rs ih =>
      intro acc h1 h2
      refine ih _ (fun x hx => h1 x (List.mem_cons_of_mem _ hx)) fun b e => ?_
      unfold listF at e
      split at e
      · exact h2 b e
      · rename_i c hc
        split at e
        · cases e
          exact hJ c acc ((h1 r List.mem_cons_self).2 c hc) h2
        · exact h2 b e
  exact go rows none h fun b e => nomatch e
theorem ok_normR {n : Nat} (hJ : ∀ c o, OkL n c → (∀ b, o = some b → OkL n b) → OkL n (putC n c o)) {rows : List (Rw (Lo n))} (h : ∀ r ∈ rows, OkW n r) : OkR n (normR (putC n) rows) := by
  have hn : ∀ k ∈ sortN (rows.map (·.1)), k ∈ NM := fun k hk => by
    obtain ⟨r, hr, rfl⟩ := List.mem_map.mp ((sortN_mem _ _).mp hk)
    exact (h r hr).1
  refine ⟨?_, fun r hr => ?_⟩
  · have a := flat_len (g := fun nm => cell nm (treeOf rows nm) (listOf (putC n) rows nm)) (m := 2) (fun x => cell_len _ _ _) (sortN (rows.map (·.1)))
    have b := names_few (sortN_nodup _) hn
    exact Nat.le_trans a (by omega)
  · obtain ⟨x, hx, hc⟩ := List.mem_flatMap.mp hr
    refine ⟨cell_name hc ▸ hn x hx, fun l e => ?_⟩
    have q := ok_listOf hJ h x l
    revert hc q
    cases treeOf rows x <;> cases listOf (putC n) rows x <;> simp [cell] <;> intro hc
    all_goals first | (subst hc; cases e) | skip
    · intro q; exact q rfl
    · intro q
      rcases hc with rfl | rfl
      · cases e
      · cases e; exact q rfl
theorem ok_putC : ∀ (n : Nat) (c : Lo n) (o : Option (Lo n)), OkL n c → (∀ b, o = some b → OkL n b) → OkL n (putC n c o)
  | 0, c, _, _, _ => c.elim
  | n + 1, (c : Rws n), (o : Option (Rws n)), h1, h2 => by
    refine ok_normR (ok_putC n) fun r hr => ?_
    rcases List.mem_append.mp hr with hr | hr
    · cases o with
      | none => cases hr
      | some b => exact (h2 b rfl).2 r hr
    · exact h1.2 r hr
theorem ok_norm {n : Nat} {a b : Rws n} (h1 : OkR n a) (h2 : OkR n b) : OkR n (norm n (a ++ b)) :=
  ok_normR (ok_putC n) fun r hr => (List.mem_append.mp hr).elim (h1.2 r) (h2.2 r)
end Md
/-! ### sorted(set(list of texts)); sorted of a dict with tuple keys -/
namespace StS
theorem sortedS_pairM {l : List Str} (h : sortedS l = true) : l.Pairwise fun a b => Md.leS a b = true := by
  have rise : ∀ (r : List Str) (p : Str), risingS p r = true → (p :: r).Pairwise fun a b => Md.leS a b = true := by
    intro r
    induction r with
    | nil => intro p _; simp
    | cons x r ih =>
      intro p h
      simp only [risingS, Bool.and_eq_true] at h
      have q := ih x h.2
      have h1 : Md.leS p x = true := by
        have h1 := h.1
        rw [ltCps_eq] at h1
        have h2 : p.cps.toList ≤ x.cps.toList := List.not_lt.mp (by simpa using h1)
        exact decide_eq_true (p := Md.cpS p ≤ Md.cpS x) h2
      refine List.pairwise_cons.mpr ⟨fun y hy => ?_, q⟩
      rcases List.mem_cons.mp hy with rfl | hy
      · exact h1
      · exact Md.leS_trans _ _ _ h1 (List.rel_of_pairwise_cons q hy)
  cases l with
  | nil => simp
  | cons x r => exact rise r x h
theorem addX_mem (xs : List Str) (k x : Str) : x ∈ addX xs k ↔ x = k ∨ x ∈ xs := by
  unfold addX
  split
  · rename_i h
    exact ⟨.inr, fun q => q.elim (fun e => e ▸ h) id⟩
  · exact List.mem_cons
theorem addX_nodup {xs : List Str} (h : xs.Nodup) (k : Str) : (addX xs k).Nodup := by
  unfold addX
  split
  · exact h
  · rename_i c
    exact List.nodup_cons.mpr ⟨c, h⟩
theorem fold_memX : ∀ (ns xs : List Str) (x : Str), x ∈ ns.foldl addX xs ↔ x ∈ ns ∨ x ∈ xs
  | [], _, _ => by simp
  | n :: ns, xs, x => by
    rw [List.foldl_cons, fold_memX ns, addX_mem, List.mem_cons]
    constructor
    · rintro (h | h | h)
      · exact .inl (.inr h)
      · exact .inl (.inl h)
      · exact .inr h
    · rintro ((h | h) | h)
      · exact .inr (.inl h)
      · exact .inl h
      · exact .inr (.inr h)
theorem fold_nodupX : ∀ (ns xs : List Str), xs.Nodup → (ns.foldl addX xs).Nodup
  | [], _, h => h
  | n :: ns, xs, h => fold_nodupX ns _ (addX_nodup h n)
theorem met_sort {names ys : List Str} (hp : ys.Perm (metX names names.length)) (hs : sortedS ys = true) : ys = Md.sortN names := by
  refine Md.sortN_of (hp.nodup_iff.mpr ?_) (sortedS_pairM hs) fun k => hp.mem_iff.trans ?_
  · unfold metX
    exact fold_nodupX _ _ .nil
  · unfold metX
    rw [fold_memX, List.take_length]
    simp
end StS
section
variable {z : Cz} {ρ : List Sl} {N : Dt → Bool → List Sl → Prop} {ta tb te : TE} {t : TA} {i : Nat}
theorem strs_rzl2 {K : PySem.W.Frag} {B F : Hp} : ∀ xs : List Str, Rzl K B F (xs.map Dt.str) (xs.map V.str)
  | [] => rfl
  | x :: xs => ⟨_, _, rfl, rfl, strs_rzl2 xs⟩
theorem rzl_strs2 {K : PySem.W.Frag} {B F : Hp} : ∀ {xs : List Str} {vs : List V}, Rzl K B F (xs.map Dt.str) vs → vs = xs.map V.str
  | [], _, h => h.inv0
  | x :: xs, _, h => by
    obtain ⟨v, r, rfl, h1, h2⟩ := h.inv
    rw [rz_s h1, rzl_strs2 h2]
    rfl
theorem ze_sortedSet {P' : Program} {w' : World} {K' : PySem.W.Frag} (hK : K' = z.K) (h : ZE z ta ρ fun x _ ρ1 => ∃ t names, x = .lst t (names.map Dt.str) ∧ names.length < 64 ∧ N (.lst true ((Md.sortN names).map Dt.str)) true ρ1) :
    ZE z (tCB (StS.rSortedSet P' w') (tCons (tCB (StS.rSetL P' w' K') (tCons ta tNil)) tNil)) ρ N := fun m F H σ Q S k => by
  subst hK
  refine h m F H σ _ S fun x fx ρ1 F1 H1 vx n1 s1 S1 r1 => ?_
  obtain ⟨F2, s2, S2, rx⟩ := rzF_frz S1 r1
  obtain ⟨t, names, rfl, hl, n⟩ := n1
  simp only [Rz] at rx
  obtain ⟨a, xs, rfl, e, _, rx⟩ := rx
  obtain rfl := rzl_strs2 rx
  have ml := StS.metX_len names names.length
  refine ⟨a, names, rfl, SqL.of (S2.le.exact e rfl), Nat.lt_of_le_of_lt hl (by decide +kernel), fun p hp => ?_⟩
  refine ⟨p, _, rfl, upd_same, by omega, fun ys q hq hs hn => ?_⟩
  obtain rfl := StS.met_sort hq hs
  have S3 := S2.newO (o := StS.SetO P' w' p (StS.metX names names.length)) hp
  exact k _ _ _ _ _ _ n (s1.trans s2) (S3.newO hn) (rzF_new S3 hn (.lst (strs_rzl2 _)))
end
namespace StT
def sortKs (ks : List (List Key)) : List (List Key) := ks.mergeSort (PySem.W.dataLe false keyPT)
theorem sortA_snd (bs : List AK) : (sortA bs).map Prod.snd = sortKs (bs.map Prod.snd) := List.map_mergeSort (f := Prod.snd) (r := PySem.W.dataLe false fun b : AK => keyPT b.2) (s := PySem.W.dataLe false keyPT) (l := bs) fun _ _ _ _ => rfl
section
variable {z : Cz} {ρ : List Sl} {N : Dt → Bool → List Sl → Prop} {ta : TE}
theorem refs_frz {m : Fm} {F H : Hp} {σ : L2.St} : ∀ {bs : List AK}, Sm z m F H σ ρ → (∀ b ∈ bs, H b.1 = some (.tup (b.2.map kV))) → ∃ F', Same F F' ∧ Sm z m F' H σ ρ ∧ Rzl z.K m.B F' ((bs.map Prod.snd).map fun k => .tup (k.map keyD)) (bs.map fun b => V.ref b.1)
  | [], S, _ => ⟨F, Same.refl F, S, .nil⟩
  | b :: bs, S, h => by
    obtain ⟨F1, s1, e1, S1⟩ := S.tup (h b List.mem_cons_self)
    obtain ⟨F2, s2, S2, r2⟩ := refs_frz S1 fun x hx => h x (List.mem_cons_of_mem _ hx)
    exact ⟨F2, s1.trans s2, S2, .cons (by simp only [Rz]; exact ⟨_, _, rfl, s2 _ _ e1, keys_rzl _⟩) r2⟩
theorem ze_sortedT (h : ZE z ta ρ fun x _ ρ1 => ∃ t ks ds, x = .dit t ks ds ∧ PySem.W.AllAlike (ks.map keyPT) ∧ (∀ k ∈ ks, k ≠ []) ∧ ks.length ≤ 10000 ∧ N (.lst true ((sortKs ks).map fun k => .tup (k.map keyD))) true ρ1) : ZE z (tCB rSortedT (tCons ta tNil)) ρ N :=
  ze_CB1 (W := fun x N ρ1 => ∃ t ks ds, x = .dit t ks ds ∧ PySem.W.AllAlike (ks.map keyPT) ∧ (∀ k ∈ ks, k ≠ []) ∧ ks.length ≤ 10000 ∧ N (.lst true ((sortKs ks).map fun k => .tup (k.map keyD))) true ρ1) (fun x ρ2 N n1 m F H σ Q vx S r k => by
    obtain ⟨t, ks, ds, rfl, hal, hne, hl, n⟩ := n1
    simp only [Rz] at r
    obtain ⟨a, kvs, rfl, e, _, rfl, r⟩ := r
    refine ⟨a, kvs, rfl, S.le.rd e, ?_, fun p hp => hne _ (List.mem_map_of_mem hp), by rw [List.length_map] at hl; exact hl, fun bs p b1 b2 hp => ?_⟩
    · rw [List.map_map] at hal
      exact hal
    · obtain ⟨F', s', S', r'⟩ := refs_frz (bs := sortA bs) S fun b hb => b2 b ((sortA_perm bs).mem_iff.mp hb)
      rw [sortA_snd, b1] at r'
      exact k _ _ _ _ _ _ n s' (S'.newO hp) (rzF_new S' hp (.lst r'))) h
end
/-! the order of pairs of a text and a whole number -/
abbrev Pr : Type := Str × Int
def pK (p : Pr) : List Key := [.inr p.1, .inl p.2]
theorem pK_inj {p q : Pr} (h : pK p = pK q) : p = q := by
  obtain ⟨a, b⟩ := p
  obtain ⟨c, d⟩ := q
  simp only [pK, List.cons.injEq, Sum.inr.injEq, Sum.inl.injEq, and_true] at h
  rw [h.1, h.2]
def ltP (p q : Pr) : Bool := if p.1 = q.1 then decide (p.2 < q.2) else decide (Md.cpS p.1 < Md.cpS q.1)
theorem lt_pK (p q : Pr) : PySem.W.dataLt (keyPT (pK p)) (keyPT (pK q)) = ltP p q := by
  show PySem.W.dataLt (.tuple [.str p.1, .int p.2]) (.tuple [.str q.1, .int q.2]) = _
  rw [PySem.W.dataLt_pair (by simp [PySem.W.alike]) (by simp [PySem.W.alike]), PySem.W.dataLt_int, PySem.W.dataLt_str]
  unfold ltP
  simp only [PyData.eqv, beq_iff_eq]
  by_cases h : p.1 = q.1
  · rw [if_pos h, if_pos h]
    by_cases h2 : p.2 = q.2
    · rw [if_pos h2, h2]
      simp
    · rw [if_neg h2]
  · rw [if_neg h, if_neg h]
    rfl
theorem ltP_iff {a b : Pr} : ltP a b = true ↔ Md.cpS a.1 < Md.cpS b.1 ∨ (Md.cpS a.1 = Md.cpS b.1 ∧ a.2 < b.2) := by
  unfold ltP
  by_cases h : a.1 = b.1
  · rw [if_pos h, decide_eq_true_iff, h]
    exact ⟨fun q => .inr ⟨rfl, q⟩, fun q => q.elim (fun q => absurd q (List.lt_irrefl _)) (·.2)⟩
  · rw [if_neg h, decide_eq_true_iff]
    exact ⟨.inl, fun q => q.elim id fun q => absurd (Md.cpS_inj q.1) h⟩
theorem ltP_trans {a b c : Pr} (h1 : ltP a b = true) (h2 : ltP b c = true) : ltP a c = true := by
  rw [ltP_iff] at *
  rcases h1 with h1 | ⟨e1, h1⟩ <;> rcases h2 with h2 | ⟨e2, h2⟩
  · exact .inl (List.lt_trans h1 h2)
  · exact .inl (e2 ▸ h1)
  · exact .inl (e1 ▸ h2)
  · exact .inr ⟨e1.trans e2, Int.lt_trans h1 h2⟩
theorem ltP_three (a b : Pr) : ltP a b = true ∨ ltP b a = true ∨ a = b := by
  by_cases h : Md.cpS a.1 < Md.cpS b.1
  · exact .inl (ltP_iff.mpr (.inl h))
  · by_cases h2 : Md.cpS b.1 < Md.cpS a.1
    · exact .inr (.inl (ltP_iff.mpr (.inl h2)))
    · have e : Md.cpS a.1 = Md.cpS b.1 := List.le_antisymm (List.not_lt.mp h2) (List.not_lt.mp h)
      rcases Int.lt_trichotomy a.2 b.2 with q | q | q
      · exact .inl (ltP_iff.mpr (.inr ⟨e, q⟩))
      · exact .inr (.inr (Prod.ext (Md.cpS_inj e) q))
      · exact .inr (.inl (ltP_iff.mpr (.inr ⟨e.symm, q⟩)))
theorem ltP_irr (a : Pr) : ltP a a = false := by
  cases h : ltP a a with
  | false => rfl
  | true => rcases ltP_iff.mp h with q | ⟨_, q⟩
            · exact absurd q (List.lt_irrefl _)
            · omega
def leP (a b : Pr) : Bool := !ltP b a
theorem leP_total (a b : Pr) : (leP a b || leP b a) = true := by
  unfold leP
  cases h1 : ltP b a with
  | false => rfl
  | true =>
    cases h2 : ltP a b with
    | false => rfl
    | true => exact absurd (ltP_trans h1 h2) (by rw [ltP_irr]; decide)
theorem leP_trans (a b c : Pr) (h1 : leP a b = true) (h2 : leP b c = true) : leP a c = true := by
  unfold leP at *
  simp only [Bool.not_eq_true'] at *
  cases h : ltP c a with
  | false => rfl
  | true =>
    exfalso
    rcases ltP_three b c with q | q | q
    · rw [ltP_trans q h] at h1
      cases h1
    · rw [q] at h2
      cases h2
    · rw [q, h] at h1
      cases h1
theorem leP_anti {a b : Pr} (h1 : leP a b = true) (h2 : leP b a = true) : a = b := by
  unfold leP at *
  simp only [Bool.not_eq_true'] at *
  rcases ltP_three a b with q | q | q
  · rw [q] at h2
    cases h2
  · rw [q] at h1
    cases h1
  · exact q
theorem sortKs_pairs (ps : List Pr) : sortKs (ps.map pK) = (ps.mergeSort leP).map pK :=
  (List.map_mergeSort (f := pK) (r := leP) (s := PySem.W.dataLe false keyPT) (l := ps) fun a _ b _ => by
    show leP a b = (!PySem.W.dataLt (keyPT (pK b)) (keyPT (pK a)))
    rw [lt_pK]
    rfl).symm
/-- one order only -/
theorem sortP_of {l ps : List Pr} (n1 : l.Nodup) (n2 : ps.Nodup) (p : l.Pairwise fun a b => leP a b = true) (h : ∀ k, k ∈ l ↔ k ∈ ps) : ps.mergeSort leP = l :=
  List.Perm.eq_of_pairwise (le := fun a b => leP a b = true) (fun _ _ _ _ h1 h2 => leP_anti h1 h2) (List.pairwise_mergeSort leP_trans leP_total _) p ((List.mergeSort_perm _ _).trans (by
    rw [List.perm_iff_count]
    intro k
    rw [List.Nodup.count n2, List.Nodup.count n1]
    simp only [h]))
theorem alike_pK (a b : Pr) : PySem.W.alike (keyPT (pK a)) (keyPT (pK b)) = true := by simp [keyPT, pK, keyP1, PySem.W.alike, PySem.W.alikeAll]
end StT
/-! ### xs[::step] of a list, step 1 or -1 -/
section
variable {X : Cx}
def tStepL (K : PySem.W.Frag) (te : TE) (to : TO) : TE := fun σ H Q => te σ H fun x H1 => to σ H1 fun o H2 => ∃ a xs, x = .ref a ∧ SqL K H2 a xs ∧
  ((o = some (-1) ∧ ∀ p, H2 p = none → Q (.ref p) (upd H2 p (.lst xs.reverse))) ∨ (o = some 1 ∧ ∀ p, H2 p = none → Q (.ref p) (upd H2 p (.lst xs))))
theorem pick_one (items : Array Value) : slicePick items none none (some 1) = items := by
  have e : slicePick items none none (some 1) = slicePick items none none none := rfl
  have h := slicePick_cut items.toList none none
  rw [Array.toArray_toList] at h
  rw [e, h]
  unfold HT.sIx
  have e2 : items.size = items.toList.length := by simp
  simp only [Option.getD, e2, Nat.sub_zero, List.drop_zero, List.take_length, Array.toArray_toList]
theorem pe_stepL {K : PySem.W.Frag} (hK : X.K = K) {e est : Expr} {te : TE} {to : TO} {p3 pos : Pos} (he : PE X e te) (hs : PO X (some est) to) (hsub : ∀ u v : Value, subscripted (.Slice none none (some est) p3) false u v = operate [u, v] (getItem u v) := by intro _ _; with_unfolding_all rfl) (lt : ∀ v r, letTemporaryGo e v r = pure () := by intro _ _; rfl) : PE X (.Subscript e (.Slice none none (some est) p3) pos) (tStepL K te to) := by
  subst hK
  refine ⟨fun pins s σ H Q I h => ?_⟩
  refine Subscript_ (thn (he.run pins s σ H _ I h) fun v s1 ⟨x, H1, I1, r1, q1⟩ => ?_)
  refine wpAny_Slice (thn (po_none.run pins s1 σ H1 (fun o H2 => o = none ∧ H2 = H1) I1 ⟨rfl, rfl⟩) fun vl s2 ⟨l, H2, I2, pl, el, e2⟩ => ?_)
  subst el e2
  refine thn (po_none.run pins s2 σ H2 (fun o H3 => o = none ∧ H3 = H2) I2 ⟨rfl, rfl⟩) fun vu s3 ⟨u, H3, I3, pu, eu, e3⟩ => ?_
  subst eu e3
  refine thn (hs.run pins s3 σ H3 _ I3 q1) fun vs s4 ⟨o, H4, I4, ps, a, xs, ex, hx, q⟩ => ?_
  subst ex
  cases r1
  have I5 : Inv X pins σ H4 { s4 with heap := s4.heap.push { cls := .type "slice", data := .fields #[vl, vu, vs] } } := I4.kept (t' := s4.toks) fun b ob q => Heap.get?_push_of_some _ q
  obtain ⟨its, r, ht, hz⟩ := I5.list hx
  have hlen := r.length
  show wpAny (model X.prog X.w) X.A (subscriptTail e (.Slice none none (some est) p3) (.ref a) (.ref s4.heap.objs.size)) (EP X pins σ Q) X.xe { s4 with heap := s4.heap.push { cls := .type "slice", data := .fields #[vl, vu, vs] } }
  refine tail_any (ops := [.ref a, .ref s4.heap.objs.size]) ht.isList.typeIs (PySem.slot_list_getitem.lookup) ?_ (hsub _ _)
  rcases q with ⟨rfl, q⟩ | ⟨rfl, q⟩
  · refine wpAny_getItem_list_slice ht.isList (Heap.IsSliceOf.new _ vl vu vs) pl pu ps (by decide) ?_ (by rw [List.size_toArray]; omega)
    rw [PySem.W.krv_pick]
    refine ⟨.ref _, _, I5.laid (t' := s4.toks) (o := .lst xs.reverse) (fun b ob q => Heap.get?_push_of_some _ q) (Nat.le_refl _) ?_, rfl, q _ (I5.hok.fresh (Nat.le_refl _))⟩
    exact ⟨by rw [List.length_reverse]; exact hz, _, 0, r.reverse, Heap.get?_push_size _ rfl⟩
  · refine wpAny_getItem_list_slice ht.isList (Heap.IsSliceOf.new _ vl vu vs) pl pu ps (by decide) ?_ (by rw [List.size_toArray]; omega)
    rw [pick_one]
    refine ⟨.ref _, _, I5.laid (t' := s4.toks) (o := .lst xs) (fun b ob q => Heap.get?_push_of_some _ q) (Nat.le_refl _) ?_, rfl, q _ (I5.hok.fresh (Nat.le_refl _))⟩
    exact ⟨hz, _, 0, r, Heap.get?_push_size _ rfl⟩
end
/-! ### more built-ins: all, d.get on any dict, sorted(dict), texts joined, str of an int, xs[::step] -/
section
variable {z : Cz} {ρ : List Sl} {N : Dt → Bool → List Sl → Prop} {ta tb td ty tx te : TE} {to : TO} {i : Nat}
theorem rzl_bls {K : PySem.W.Frag} {B F : Hp} : ∀ {bs : List Bool} {xs : List V}, Rzl K B F (bs.map Dt.bl) xs → xs = bs.map V.bl
  | [], _, h => h.inv0
  | b :: bs, _, h => by
    obtain ⟨v, r, rfl, h1, t⟩ := h.inv
    rw [rz_b h1, rzl_bls t]
    rfl
theorem rzl_strs {K : PySem.W.Frag} {B F : Hp} : ∀ {bs : List Str} {xs : List V}, Rzl K B F (bs.map Dt.str) xs → xs = bs.map V.str
  | [], _, h => h.inv0
  | b :: bs, _, h => by
    obtain ⟨v, r, rfl, h1, t⟩ := h.inv
    rw [rz_s h1, rzl_strs t]
    rfl
theorem strs_rzl {K : PySem.W.Frag} {B F : Hp} : ∀ (bs : List Str), Rzl K B F (bs.map Dt.str) (bs.map V.str)
  | [] => .nil
  | b :: bs => .cons rzs (strs_rzl bs)
theorem ze_all {K' : PySem.W.Frag} (h : ZE z ta ρ fun x _ ρ1 => ∃ (t : Bool) (bs : List Bool), x = .lst t (bs.map Dt.bl) ∧ N (.bl (bs.all id)) false ρ1) : ZE z (tCB (rAll K') (tCons ta tNil)) ρ N :=
  ze_CB1 (W := fun x N ρ1 => ∃ (t : Bool) (bs : List Bool), x = .lst t (bs.map Dt.bl) ∧ N (.bl (bs.all id)) false ρ1) (fun x ρ2 N n1 m F H σ Q vx S r k => by
    obtain ⟨t, bs, rfl, q⟩ := n1
    simp only [Rz] at r
    obtain ⟨a, xs, rfl, e, _, r⟩ := r
    refine ⟨a, bs, rfl, ?_, k _ _ _ _ _ _ q (Same.refl F) S (rzF_f rzb)⟩
    rw [← rzl_bls r]
    exact SqL.of (S.le.exact e rfl)) h
theorem ze_dget2 (h : ZE z td ρ fun c _ ρ0 => isDd c = true ∧ ZE z ty ρ0 fun y _ ρ1 => ZE z tx ρ1 fun x _ ρ2 => ∃ o, GetD c y o ∧ N (o.getD x) false ρ2) : ZE z (tDGet2 td ty tx) ρ N := fun m F H σ Q S k => by
  refine h m F H σ _ S fun c fc ρ0 F0 H0 vc n0 s0 S0 r0 => ?_
  obtain ⟨F1, s1, S1, rc⟩ := rzF_frz S0 r0
  obtain ⟨hc, n0⟩ := n0
  obtain ⟨a, rfl, q0⟩ := rz_dct rc S1.le hc
  refine ⟨a, rfl, q0.isD, n0 m F1 H0 σ _ S1 fun y fy ρ1 F2 H1 vy n1 s2 S2 r1 => ?_⟩
  obtain ⟨F3, s3, S3, ry⟩ := rzF_frz S2 r1
  refine n1 m F3 H1 σ _ S3 fun x fx ρ2 F4 H2 vx n2 s4 S4 r3 => ?_
  obtain ⟨F5, s5, S5, rx⟩ := rzF_frz S4 r3
  obtain ⟨o, g, n⟩ := n2
  obtain ⟨a', e', q⟩ := rz_dct (rz_mono ((s2.trans s3).trans (s4.trans s5)) _ _ rc) S5.le hc
  cases e'
  obtain ⟨vo, q1, q2⟩ := dct_get q g (rz_mono (s4.trans s5) _ _ ry) S5.le
  refine ⟨vo, q1, k _ _ _ _ _ _ n (((s0.trans s1).trans (s2.trans s3)).trans (s4.trans s5)) S5 (rzF_f ?_)⟩
  cases o <;> cases vo <;> first | exact q2.elim | exact rx | exact q2
/-- sorted(d), of a dict with fewer than 64 keys, all texts -/
def rSortedDz : List V → Hp → VK → Prop := fun xs H Q => ∃ (a : Addr) (kvs : List (Key × V)) (ks : List Str), xs = [.ref a] ∧ L2.Rd H a (.dK kvs) ∧ kvs.map (·.1) = ks.map Sum.inr ∧ ks.length < 64 ∧
    ∀ ys p, ys.Perm ks → sortedS ys = true → H p = none → Q (.ref p) (upd H p (.lst (ys.map V.str)))
theorem ze_sortedD (h : ZE z ta ρ fun x _ ρ1 => ∃ (t : Bool) (ks : List Str) (ds : List Dt), x = .dic t (ks.map Sum.inr) ds ∧ ks.length < 64 ∧ ∀ ys : List Str, ys.Perm ks → sortedS ys = true → N (.lst true (ys.map Dt.str)) true ρ1) : ZE z (tCB rSortedDz (tCons ta tNil)) ρ N :=
  ze_CB1 (W := fun x N ρ1 => ∃ (t : Bool) (ks : List Str) (ds : List Dt), x = .dic t (ks.map Sum.inr) ds ∧ ks.length < 64 ∧ ∀ ys : List Str, ys.Perm ks → sortedS ys = true → N (.lst true (ys.map Dt.str)) true ρ1) (fun x ρ2 N n1 m F H σ Q vx S r k => by
    obtain ⟨t, ks, ds, rfl, hl, q⟩ := n1
    simp only [Rz] at r
    obtain ⟨a, kvs, rfl, e, _, e2, r⟩ := r
    refine ⟨a, kvs, ks, rfl, S.le.rd e, e2, hl, fun ys p hp hs hn => ?_⟩
    exact k _ _ _ _ _ _ (q ys hp hs) (Same.refl F) (S.newO hn) (rzF_new S hn (.lst (strs_rzl ys)))) h
theorem ze_addStr (h : ZE z ta ρ fun x _ ρ1 => ZE z tb ρ1 fun y _ ρ2 => ∃ a b, x = .str a ∧ y = .str b ∧ a.length + b.length ≤ 100000 ∧ N (.str (a ++ b)) false ρ2) : ZE z (tOp (fun x y H Q => ∃ i j, x = V.str i ∧ y = V.str j ∧ i.length + j.length ≤ sizeLine ∧ Q (V.str (i ++ j)) H) ta tb) ρ N :=
  ze_op2w (W := fun x y N ρ2 => ∃ a b, x = .str a ∧ y = .str b ∧ a.length + b.length ≤ 100000 ∧ N (.str (a ++ b)) false ρ2) (fun x y ρ2 N n2 m F H σ Q vx vy S r1 r2 k => by
    obtain ⟨a, b, rfl, rfl, hl, n⟩ := n2
    exact ⟨a, b, rz_s r1, rz_s r2, by rw [sizeLine_eq]; omega, k _ _ _ _ _ _ n (Same.refl F) S (rzF_f rzs)⟩) h
theorem ze_strInt (h : ZE z ta ρ fun x _ ρ1 => ∃ j : Int, x = .int j ∧ j.natAbs.log2 < 1920 ∧ N (.str (toString j)) false ρ1) : ZE z (tCB (fun xs H Q => ∃ i : Int, xs = [V.int i] ∧ i.natAbs.log2 < 1920 ∧ Q (V.str (toString i)) H) (tCons ta tNil)) ρ N :=
  ze_CB1 (W := fun x N ρ1 => ∃ j : Int, x = .int j ∧ j.natAbs.log2 < 1920 ∧ N (.str (toString j)) false ρ1) (fun x ρ2 N n1 m F H σ Q vx S r k => by
    obtain ⟨j, rfl, hl, q⟩ := n1
    exact ⟨j, by rw [rz_i r], hl, k _ _ _ _ _ _ q (Same.refl F) S (rzF_f rzs)⟩) h
theorem ze_stepL {K' : PySem.W.Frag} (h : ZE z ta ρ fun x _ ρ1 => ZO z to ρ1 fun o ρ2 => ∃ t ds, x = .lst t ds ∧ ((o = some (-1) ∧ N (.lst true ds.reverse) true ρ2) ∨ (o = some 1 ∧ N (.lst true ds) true ρ2))) : ZE z (tStepL K' ta to) ρ N := fun m F H σ Q S k => by
  refine h m F H σ _ S fun x fx ρ1 F1 H1 vx n1 s1 S1 r1 => ?_
  obtain ⟨F2, s2, S2, rx⟩ := rzF_frz S1 r1
  refine n1 m F2 H1 σ _ S2 fun o ρ2 F3 H2 n2 s3 S3 => ?_
  obtain ⟨t, ds, rfl, n⟩ := n2
  have rx := rz_mono s3 _ _ rx
  simp only [Rz] at rx
  obtain ⟨a, xs, rfl, e, _, r⟩ := rx
  refine ⟨a, xs, rfl, SqL.of (S3.le.exact e rfl), ?_⟩
  rcases n with ⟨rfl, n⟩ | ⟨rfl, n⟩
  · exact .inl ⟨rfl, fun p hp => k _ _ _ _ _ _ n ((s1.trans s2).trans s3) (S3.newO hp) (rzF_new S3 hp (.lst r.rev))⟩
  · exact .inr ⟨rfl, fun p hp => k _ _ _ _ _ _ n ((s1.trans s2).trans s3) (S3.newO hp) (rzF_new S3 hp (.lst r))⟩
end
local macro_rules | `(tactic| walk_at "z1") => `(tactic| first | (with_reducible apply ze_all) | (with_reducible apply ze_dget2) | (with_reducible apply ze_sortedD) | (with_reducible apply ze_addStr) | (with_reducible apply ze_strInt) | (with_reducible apply ze_stepL))
/-! ### a dict as what its keys lead to -/
section
variable {κ : Type} [DecidableEq κ] {α : Type}
theorem look_repl {x k : κ} {d : α} : ∀ {ks : List κ} {ds : List α}, ds.length = ks.length → look ks (List.zipWith (fun k' d' => if k' = x then d else d') ks ds) k = if x = k then (if x ∈ ks then some d else none) else look ks ds k
  | [], [], _ => by simp [look]
  | a :: ks, e :: ds, h => by
    have h' : ds.length = ks.length := by simpa using h
    rw [List.zipWith_cons_cons]
    simp only [look]
    rw [look_repl h']
    by_cases c1 : a = k
    · by_cases c2 : a = x
      · have c3 : x = k := c2 ▸ c1
        subst c2
        simp [c1]
      · have c3 : ¬ x = k := fun q => c2 (c1.trans q.symm)
        simp [c1, c2, c3]
        intro q
        exact absurd q.symm c3
    · by_cases c2 : x = k
      · have c3 : ¬ x = a := fun q => c1 (q.symm.trans c2)
        have c4 : ¬ k = a := fun q => c1 q.symm
        subst c2
        simp [c1, c3]
      · simp [c1, c2]
theorem look_app {k : κ} : ∀ {ks ls : List κ} {ds es : List α}, ds.length = ks.length → k ∉ ks → look (ks ++ ls) (ds ++ es) k = look ls es k
  | [], _, [], _, _, _ => rfl
  | a :: ks, _, e :: ds, _, h, n => by
    simp only [List.mem_cons, not_or] at n
    rw [List.cons_append, List.cons_append, look, if_neg (fun q => n.1 q.symm)]
    exact look_app (by simpa using h) n.2
theorem look_app1 {k : κ} : ∀ {ks ls : List κ} {ds es : List α}, ds.length = ks.length → k ∈ ks → look (ks ++ ls) (ds ++ es) k = look ks ds k
  | a :: ks, _, e :: ds, _, h, n => by
    rw [List.cons_append, List.cons_append, look, look]
    by_cases c : a = k
    · rw [if_pos c, if_pos c]
    · rw [if_neg c, if_neg c]
      exact look_app1 (by simpa using h) ((List.mem_cons.mp n).resolve_left fun q => c q.symm)
theorem look_put {x k : κ} {d : α} {ks : List κ} {ds : List α} (h : ds.length = ks.length) : look (putKs ks x) (putDs ks ds x d) k = if x = k then some d else look ks ds k := by
  unfold putKs putDs
  by_cases c : x ∈ ks
  · rw [if_pos c, if_pos c, look_repl h, if_pos c]
  · rw [if_neg c, if_neg c]
    by_cases e : x = k
    · subst e
      rw [if_pos rfl, look_app h c]
      simp [look]
    · rw [if_neg e]
      by_cases m : k ∈ ks
      · rw [look_app1 h m]
      · rw [look_app h m, (look_none h).mpr m]
        simp [look, e]
theorem put_lenD {x : κ} {d : α} {ks : List κ} {ds : List α} (h : ds.length = ks.length) : (putDs ks ds x d).length = (putKs ks x).length := by
  unfold putKs putDs
  split
  · rw [List.length_zipWith]; omega
  · rw [List.length_append, List.length_append, h]; rfl
theorem put_lenK {x : κ} {ks : List κ} : (putKs ks x).length ≤ ks.length + 1 := by
  unfold putKs
  split
  · omega
  · rw [List.length_append]; exact Nat.le_refl _
theorem put_nd {x : κ} {ks : List κ} (h : ks.Nodup) : (putKs ks x).Nodup := by
  unfold putKs
  split
  · exact h
  · rename_i c
    exact List.nodup_append.mpr ⟨h, by simp, fun a ha b hb e => c (by rw [← List.mem_singleton.mp hb, ← e]; exact ha)⟩
structure TabF (ks : List κ) (ds : List α) (f : κ → Option α) : Prop where
  len : ds.length = ks.length
  nd : ks.Nodup
  at_ : ∀ k, look ks ds k = f k
theorem TabF.nil : TabF (α := α) ([] : List κ) [] (fun _ => none) := ⟨rfl, .nil, fun _ => rfl⟩
theorem TabF.put {ks : List κ} {ds : List α} {f : κ → Option α} (h : TabF ks ds f) (x : κ) (d : α) {g : κ → Option α} (e : ∀ k, g k = if x = k then some d else f k) : TabF (putKs ks x) (putDs ks ds x d) g :=
  ⟨put_lenD h.len, put_nd h.nd, fun k => by rw [look_put h.len, h.at_, e]⟩
theorem TabF.congr {ks : List κ} {ds : List α} {f g : κ → Option α} (h : TabF ks ds f) (e : ∀ k, f k = g k) : TabF ks ds g := ⟨h.len, h.nd, fun k => (h.at_ k).trans (e k)⟩
theorem TabF.mem {ks : List κ} {ds : List α} {f : κ → Option α} (h : TabF ks ds f) (k : κ) : k ∈ ks ↔ f k ≠ none := by
  rw [← h.at_ k]
  by_cases c : k ∈ ks
  · exact ⟨fun _ q => (look_none h.len).mp q c, fun _ => c⟩
  · exact ⟨fun q => absurd q c, fun q => absurd ((look_none h.len).mpr c) q⟩
theorem inr_list {β : Type} {ks : List (β ⊕ κ)} (h : ∀ k ∈ ks, ∃ x, k = .inr x) : ∃ xs : List κ, ks = xs.map Sum.inr := by
  induction ks with
  | nil => exact ⟨[], rfl⟩
  | cons k ks ih =>
    obtain ⟨x, rfl⟩ := h k List.mem_cons_self
    obtain ⟨xs, e⟩ := ih fun k hk => h k (List.mem_cons_of_mem _ hk)
    exact ⟨x :: xs, by rw [e]; rfl⟩
end
local macro_rules | `(tactic| walk_at "z1") => `(tactic| first
  | (with_reducible apply zs_seq) | (with_reducible apply zs_asg) | (with_reducible apply zs_setlc) | (with_reducible apply zs_if) | (with_reducible apply zs_reto; exact rfl) | (with_reducible apply zs_ret) | (with_reducible apply zs_next) | (with_reducible apply zs_drop) | (with_reducible apply zs_brk) | (with_reducible apply zs_cont) | (with_reducible apply zs_retN) | (with_reducible apply zs_dput)
  | (with_reducible apply zg_nameT) | (with_reducible apply zg_nameF) | (with_reducible apply zg_tup) | (with_reducible apply zgs_nil) | (with_reducible apply zgs_cons)
  | ((with_reducible apply ze_var); exact rfl) | ((with_reducible apply ze_varo); exact rfl) | (with_reducible apply ze_int) | (with_reducible apply ze_str) | (with_reducible apply ze_bl) | (with_reducible apply ze_non) | (with_reducible apply ze_adr) | (with_reducible apply ze_ty)
  | (with_reducible apply ze_I0) | (with_reducible apply ze_IB) | (with_reducible apply ze_I) | (with_reducible apply ze_neg) | (with_reducible apply ze_eq) | (with_reducible apply ze_ne)
  | (with_reducible apply zt_val) | (with_reducible apply zt_B) | (with_reducible apply zt_and) | (with_reducible apply zt_or) | (with_reducible apply zt_not) | (with_reducible apply zt_yes) | (with_reducible apply ze_andV) | (with_reducible apply ze_orV) | (with_reducible apply ze_notV) | (with_reducible apply ze_ifE) | (with_reducible apply ze_chain)
  | (with_reducible apply za_nil) | (with_reducible apply za_cons) | (with_reducible apply ze_tup) | (with_reducible apply ze_lst) | (with_reducible apply ze_dnewT) | (with_reducible apply ze_dnewK) | (with_reducible apply ze_fld) | (with_reducible apply ze_call) | (with_reducible apply ze_draw) | (with_reducible apply ze_ratio))
local macro_rules | `(tactic| walk_at "z1") => `(tactic| first
  | ((with_reducible apply ze_dgetv); exact rfl; walk_at "pk") | (with_reducible apply ze_dget) | ((with_reducible apply ze_dinv); exact rfl) | ((with_reducible apply ze_dnotinv); exact rfl) | (with_reducible apply ze_din) | ((with_reducible apply ze_dget2v); exact rfl; walk_at "pk"; exact rfl)
  | ((with_reducible apply ze_lenv); exact rfl; walk_at "pk"; walk_at "ln") | (with_reducible apply ze_len) | ((with_reducible apply ze_listv); exact rfl; walk_at "pk"; walk_at "li") | (with_reducible apply ze_list)
  | (with_reducible apply ze_ixT) | ((with_reducible apply ze_ixLv); exact rfl; walk_at "pk") | (with_reducible apply ze_ixL) | (with_reducible apply ze_slT) | (with_reducible apply ze_slL) | (with_reducible apply zo_no) | (with_reducible apply zo_some) | (with_reducible apply ze_cat)
  | ((with_reducible apply zt_truv); exact rfl; walk_at "pk") | (with_reducible apply zt_tru) | ((with_reducible apply ze_append); exact rfl) | ((with_reducible apply ze_pop); exact rfl) | ((with_reducible apply ze_extend); exact rfl)
  | (with_reducible apply ze_inF) | (with_reducible apply ze_inTab) | (with_reducible apply ze_isi) | (with_reducible apply ze_bin) | (with_reducible apply ze_neO) | (with_reducible apply ze_unO) | (with_reducible apply ze_sorted) | (with_reducible apply za_star) | (with_reducible apply ze_tupOf) | (with_reducible apply ze_disp) | (with_reducible apply zp_cons) | (with_reducible apply zp_nil) | (with_reducible apply ze_dictOf) | (with_reducible apply ze_sum) | (with_reducible apply ze_catT) | ((with_reducible apply ze_sortK); exact rfl) | (with_reducible apply ze_eqD) | (with_reducible apply ze_neD) | (with_reducible apply ze_inD) | (with_reducible apply ze_notInD))
local macro_rules | `(tactic| walk_at "pk") => `(tactic| first | exact Or.inl rfl | exact Or.inr (Or.inl rfl) | exact Or.inr (Or.inr ⟨_, rfl⟩))
local macro_rules | `(tactic| walk_at "ln") => `(tactic| first | exact .lst _ _ | exact .tup _ | exact .dic _ _ _ | exact .dit _ _ _)
local macro_rules | `(tactic| walk_at "li") => `(tactic| first | exact .lst _ _ | exact .tup _ | exact .dic _ _ _ | exact .dit _ _ _)
local macro_rules | `(tactic| walk_at "z2") => `(tactic| first
  | (refine ⟨_, rfl, cutN, ?_⟩) | (refine ⟨_, _, rfl, rfl, ?_⟩) | (refine ⟨_, rfl, ?_⟩) | (refine ⟨_, .ii _ _, ?_⟩) | (refine ⟨_, .ss _ _, ?_⟩) | (refine ⟨_, .bb _ _, ?_⟩) | (refine ⟨_, _, _, rfl, rfl, rfl, ?_⟩) | (refine ⟨_, .lst _ _, ?_⟩) | (refine ⟨_, .tup _, ?_⟩) | (refine ⟨Nat.le_of_ble_eq_true rfl, ?_⟩) | (refine ⟨by decide, ?_⟩)
  | (refine ⟨Sum.inr _, rfl, ?_⟩) | (rw [cut1]) | (refine zT (by decide) ?_) | (refine zF (by decide) ?_)
  | (refine ⟨_, _, rfl, Or.inr (Or.inl rfl), ?_⟩) | (refine ⟨_, _, rfl, Or.inl rfl, ?_⟩)
  | (refine ⟨_, _, _, rfl, rfl, atI_k (k := 0) rfl, ?_⟩) | (refine ⟨_, _, _, rfl, rfl, atI_k (k := 1) rfl, ?_⟩) | (refine ⟨_, _, _, rfl, rfl, atI_k (k := 2) rfl, ?_⟩) | (refine ⟨_, _, _, rfl, rfl, atI_k (k := 3) rfl, ?_⟩))
local macro_rules | `(tactic| walk_at "zz") => `(tactic| repeat first | walk_at "z1" | walk_at "z2")
local macro_rules | `(tactic| walk_at "z1") => `(tactic| ((with_reducible apply zs_reto); exact rfl))
theorem ze_isiT {z : Cz} {ρ : List Sl} {N : Dt → Bool → List Sl → Prop} {te : TE} {n : String} (h : ZE z te ρ fun x _ ρ1 => ∃ t b, TyD z.K x t ∧ PySem.W.kitOne z.K t (.type n) = some b ∧ N (.bl b) false ρ1) : ZE z (tCB (rIsi z.K) (tCons te (tCons (tC (.ty n)) tNil))) ρ N := ze_isi (.ty n) h
local macro_rules | `(tactic| walk_at "z1") => `(tactic| with_reducible apply ze_isiT)
namespace Md
section
variable {n : Nat} {P : Program} {w : World} {K : PySem.W.Frag} {mg : Str → Option Value} {base : Heap}
def trL : Rt → List Dt
  | .num n d => [.str "num", .rat n d]
  | .truth b => [.str "truth", .bl b]
theorem trL_old (t : Rt) : Dt.olds (trL t) = trL t := by cases t <;> rfl
def treeD (t : Rt) : Dt := .tup (trL t)
/-- a row's change, and rows, as data; b: whether the lists are new -/
def chD {L : Type} (f : L → Dt) : Rt ⊕ L → Dt
  | .inl t => treeD t
  | .inr c => f c
def rowD {L : Type} (f : L → Dt) (r : Rw L) : Dt := .tup [.str r.1, chD f r.2]
def loD (b : Bool) : (n : Nat) → Lo n → Dt
  | 0 => fun c => c.elim
  | n + 1 => fun (c : Rws n) => .lst b (c.map (rowD (loD b n)))
def rowsD (b : Bool) (n : Nat) (c : Rws n) : Dt := .lst b (c.map (rowD (loD b n)))
theorem loD_old : ∀ (n : Nat) (b : Bool) (c : Lo n), (loD b n c).old = loD false n c
  | 0, _, c => c.elim
  | n + 1, b, (c : Rws n) => by
    show Dt.lst false (Dt.olds (c.map (rowD (loD b n)))) = .lst false (c.map (rowD (loD false n)))
    rw [olds_map, List.map_map]
    congr 1
    refine List.map_congr_left fun r _ => ?_
    obtain ⟨x, t | l⟩ := r
    · simp [rowD, chD, treeD, Dt.old, Dt.olds, trL_old]
    · simp [rowD, chD, Dt.old, Dt.olds, loD_old n b l]
theorem rowsD_old (n : Nat) (b : Bool) (c : Rws n) : (rowsD b n c).old = rowsD false n c := loD_old (n + 1) b c
/-- put_over -/
def wPut (n : Nat) : Wz := fun ds Nv _ => ∃ a b : Rws n, ds = [rowsD false n a, rowsD false n b] ∧ OkR n a ∧ OkR n b ∧ Nv (rowsD true n (norm n (b ++ a))) true
def wPutP : Nat → Wz
  | 0 => fun _ _ _ => False
  | n + 1 => wPut n
def tF (rows : List (Rw (Lo n))) : Key → Option Dt
  | .inr k => (treeOf rows k).map treeD
  | .inl _ => none
def lF (n : Nat) (rows : List (Rw (Lo n))) : Key → Option Dt
  | .inr k => (listOf (putC n) rows k).map (loD true n)
  | .inl _ => none
theorem tF_tree {rows : List (Rw (Lo n))} {x : Str} {t : Rt} (k : Key) : tF (rows ++ [(x, .inl t)]) k = if Sum.inr x = k then some (treeD t) else tF rows k := by
  cases k with
  | inl i => rfl
  | inr y =>
    have e : treeOf (rows ++ [(x, .inl t)]) y = if x = y then some t else treeOf rows y := by unfold treeOf; rw [List.foldl_append]; rfl
    simp only [tF, e, Sum.inr.injEq]
    split <;> rfl
theorem lF_tree {rows : List (Rw (Lo n))} {x : Str} {t : Rt} (k : Key) : lF n (rows ++ [(x, .inl t)]) k = lF n rows k := by
  cases k with
  | inl i => rfl
  | inr y =>
    have e : listOf (putC n) (rows ++ [(x, .inl t)]) y = listOf (putC n) rows y := by unfold listOf; rw [List.foldl_append]; rfl
    simp only [lF, e]
theorem tF_list {rows : List (Rw (Lo n))} {x : Str} {c : Lo n} (k : Key) : tF (rows ++ [(x, .inr c)]) k = tF rows k := by
  cases k with
  | inl i => rfl
  | inr y =>
    have e : treeOf (rows ++ [(x, .inr c)]) y = treeOf rows y := by unfold treeOf; rw [List.foldl_append]; rfl
    simp only [tF, e]
theorem lF_list {rows : List (Rw (Lo n))} {x : Str} {c : Lo n} (k : Key) : lF n (rows ++ [(x, .inr c)]) k = if Sum.inr x = k then some (loD true n (putC n c (listOf (putC n) rows x))) else lF n rows k := by
  cases k with
  | inl i => rfl
  | inr y =>
    have e : listOf (putC n) (rows ++ [(x, .inr c)]) y = if x = y then some (putC n c (listOf (putC n) rows y)) else listOf (putC n) rows y := by unfold listOf; rw [List.foldl_append]; rfl
    simp only [lF, e, Sum.inr.injEq]
    split
    · rename_i q
      rw [q]
      rfl
    · rfl
set_option maxHeartbeats 4000000 in
theorem put_step (T : Top w K mg) (n : Nat) (ih_put_over : FnOk P w K mg base CX0 (n + 1) (He.ga K ("put_over" : Str)) (fdOf K d_put_over) ["outer", "inner"] (spZ K (wPutP n))) :
    FnOk P w K mg base CX0 (n + 2) (He.ga K ("put_over" : Str)) (fdOf K d_put_over) ["outer", "inner"] (spZ K (wPutP (n + 1))) := by
  refine (T.f_put_over).ok sc_put_over (fun vs H Q E h => spz_len h (n := 2) fun ds Nv Ne hw => ?_) (fun cdv A outer s H vs Q E hr h => ?_)
  · obtain ⟨a, b, rfl, _⟩ := hw
    rfl
  · refine z_fn h (PSs.nox (pss_cons (ps_set (i := 2) sc_put_over.nd rfl (Or.inl rfl) pe_dnewK)
    (pss_cons (ps_set (i := 3) sc_put_over.nd rfl (Or.inl rfl) pe_dnewK)
    (pss_cons (ps_lockL (ps_for PassesOwn.never rfl (pi_listK (K := K) rfl (pe_lst (StX.pa_star (pv 1) (StX.pa_star (pv 0) pa_nil)))) (pg_tup (by rfl) (pgs_cons (pg_name (i := 4) sc_put_over.nd rfl (Or.inl rfl)) (pgs_cons (pg_name (i := 5) sc_put_over.nd rfl (Or.inl rfl)) pgs_nil)))
    (pss_one (ps_if (pt_val (pe_callB (call_isiK' (K := K) rfl) (by rfl) T.n_isinstance (by decide +kernel) (pa_cons (pv 5) (pa_cons (pe_bltn (v := .ty "list") rfl T.n_list (by decide +kernel) rfl) pa_nil))))
    (pss_one (ps_dput (hu_of hr) (pv 3) (pv 4) (pe_call ih_put_over (hr.mono (by omega)) rfl T.g_put_over T.f_put_over.kp T.b_put_over .nil pass0 (pa_cons (pv 5) (pa_cons (pe_dget2 (hu_of hr) (pv 3) (pv 4) (pe_lst pa_nil) ⟨rfl, rfl, rfl, rfl⟩) pa_nil))) rfl))
    (pss_one (ps_dput (hu_of hr) (pv 2) (pv 4) (pv 5) rfl))))))
    (pss_cons (ps_set (i := 6) sc_put_over.nd rfl (Or.inl rfl) (pe_lst pa_nil))
    (pss_cons (ps_lockL (ps_for PassesOwn.never rfl (pi_listK (K := K) rfl (pe_callB (StS.cr_sortedSet rfl) (by rfl) T.n_sorted (by decide +kernel) (pa_cons (pe_callTy (StS.cr_setL (K := K) rfl rfl) (by rfl) T.n_set (by decide +kernel) (pa_cons (pe_op op_cat (pe_callTy (call_listZ (K := K) rfl rfl) (by rfl) T.n_list (by decide +kernel) (pa_cons (pv 2) pa_nil)) (pe_callTy (call_listZ (K := K) rfl rfl) (by rfl) T.n_list (by decide +kernel) (pa_cons (pv 3) pa_nil))) pa_nil)) pa_nil))) (pg_name (i := 4) sc_put_over.nd rfl (Or.inl rfl))
    (pss_cons (ps_if (pt_cmp (pc_din (hu_of hr) (pv 4) (pv 2)))
    (pss_one (ps_expr (pe_bm PySem.F.plainAttrs_list PySem.F.slot_list_append PySem.F.type_list_append mt_append (pv 6) (pa_cons (pe_tup (pa_cons (pv 4) (pa_cons (pe_dget (hu_of hr) (pv 2) (pv 4) (fun _ _ => rfl)) pa_nil))) pa_nil))))
    pss_nil)
    (pss_one (ps_if (pt_cmp (pc_din (hu_of hr) (pv 4) (pv 3)))
    (pss_one (ps_expr (pe_bm PySem.F.plainAttrs_list PySem.F.slot_list_append PySem.F.type_list_append mt_append (pv 6) (pa_cons (pe_tup (pa_cons (pv 4) (pa_cons (pe_dget (hu_of hr) (pv 3) (pv 4) (fun _ _ => rfl)) pa_nil))) pa_nil))))
    pss_nil)))))
    (pss_one (ps_ret (pv 6))))))))) fun ds Nv Ne hw => ?_
    obtain ⟨a, b, rfl, oa, ob, k⟩ := hw
    have la := oa.1
    have lb := ob.1
    walk_at "zz"
    refine zs_forL (zi_list ?_)
    walk_at "zz"
    rw [List.append_nil, ← List.map_append]
    have lab : (b ++ a).length ≤ 16 := by rw [List.length_append]; omega
    have okr : ∀ r ∈ b ++ a, OkW n r := fun r hr => (List.mem_append.mp hr).elim (ob.2 r) (oa.2 r)
    refine ⟨by rw [List.length_map]; omega, _, _, rfl, fun i ρ => ∃ tk td lk ld p q, ρ = [.v (rowsD false n a), .v (rowsD false n b), .o (.dic true tk td), .o (.dic true lk ld), p, q, .un] ∧ TabF tk td (tF ((b ++ a).take i)) ∧ TabF lk ld (lF n ((b ++ a).take i)) ∧ tk.length ≤ i ∧ lk.length ≤ i,
      ⟨[], [], [], [], .un, .un, rfl, TabF.nil.congr fun k => by cases k <;> rfl, TabF.nil.congr fun k => by cases k <;> rfl, Nat.le_refl _, Nat.le_refl _⟩, ?_, ?_⟩
    · rintro ρ ⟨tk, td, lk, ld, p, q, rfl, h1, h2, l1, l2⟩
      refine ⟨trivial, ?_⟩
      dsimp only [bI]
      rw [List.length_map] at h1 h2 l1 l2
      rw [List.take_length] at h1 h2
      walk_at "zz"
      refine zs_forL (zi_list (ze_sortedSet rfl ?_))
      walk_at "zz"
      obtain ⟨xs, rfl⟩ := inr_list (ks := tk) fun k hk => by
        cases k with
        | inr x => exact ⟨x, rfl⟩
        | inl x => exact absurd rfl ((h1.mem _).mp hk)
      obtain ⟨ys, rfl⟩ := inr_list (ks := lk) fun k hk => by
        cases k with
        | inr x => exact ⟨x, rfl⟩
        | inl x => exact absurd rfl ((h2.mem _).mp hk)
      rw [List.length_map] at l1 l2
      have m1 : ∀ k, k ∈ xs ↔ treeOf (b ++ a) k ≠ none := fun k => by
        have q := h1.mem (Sum.inr k)
        rw [List.mem_map] at q
        refine ⟨fun z e => q.mp ⟨k, z, rfl⟩ (by show (treeOf (b ++ a) k).map treeD = none; rw [e]; rfl), fun z => ?_⟩
        obtain ⟨y, hy, e⟩ := q.mpr fun e => z (Option.map_eq_none_iff.mp e)
        cases e
        exact hy
      have m2 : ∀ k, k ∈ ys ↔ listOf (putC n) (b ++ a) k ≠ none := fun k => by
        have q := h2.mem (Sum.inr k)
        rw [List.mem_map] at q
        refine ⟨fun z e => q.mp ⟨k, z, rfl⟩ (by show (listOf (putC n) (b ++ a) k).map (loD true n) = none; rw [e]; rfl), fun z => ?_⟩
        obtain ⟨y, hy, e⟩ := q.mpr fun e => z (Option.map_eq_none_iff.mp e)
        cases e
        exact hy
      have es : sortN (xs ++ ys) = sortN ((b ++ a).map (·.1)) := sortN_congr fun k => by rw [List.mem_append, m1, m2, some_iff (putC n) (good n)]
      have hsl := sortN_len ((b ++ a).map (·.1))
      rw [List.length_map] at hsl
      refine ⟨true, true, xs.map .str, ys.map .str, by rw [List.map_map]; rfl, by rw [List.map_map]; rfl, by rw [List.length_map, List.length_map]; omega, true, xs ++ ys, by rw [List.map_append], by rw [List.length_append]; omega, ?_⟩
      rw [es]
      generalize hS : sortN ((b ++ a).map (·.1)) = S at hsl
      refine ⟨_, _, rfl, fun i ρ => ∃ p q, ρ = [.v (rowsD false n a), .v (rowsD false n b), .o (.dic true (xs.map Sum.inr) td), .o (.dic true (ys.map Sum.inr) ld), p, q, .o (.lst true (((S.take i).flatMap fun nm => cell nm (treeOf (b ++ a) nm) (listOf (putC n) (b ++ a) nm)).map (rowD (loD true n))))], ⟨p, q, rfl⟩, ?_, ?_⟩
      · rintro ρ ⟨p, q, rfl⟩
        refine ⟨trivial, ?_⟩
        dsimp only [bI]
        rw [List.length_map, List.take_length]
        walk_at "zz"
        subst hS
        exact k
      · rintro i d ρ hd ⟨p, q, rfl⟩
        rw [List.getElem?_map] at hd
        cases hx : S[i]? with
        | none => rw [hx] at hd; cases hd
        | some x =>
          rw [hx] at hd
          cases hd
          have hi : i < S.length := (List.getElem?_eq_some_iff.mp hx).1
          have et : S.take (i + 1) = S.take i ++ [x] := by rw [List.take_succ, hx]; rfl
          have fl := flat_len (g := fun nm => cell nm (treeOf (b ++ a) nm) (listOf (putC n) (b ++ a) nm)) (m := 2) (fun x => cell_len _ _ _) (S.take i)
          rw [List.length_take] at fl
          have efin : ((S.take (i + 1)).flatMap fun nm => cell nm (treeOf (b ++ a) nm) (listOf (putC n) (b ++ a) nm)).map (rowD (loD true n)) = ((S.take i).flatMap fun nm => cell nm (treeOf (b ++ a) nm) (listOf (putC n) (b ++ a) nm)).map (rowD (loD true n)) ++ (cell x (treeOf (b ++ a) x) (listOf (putC n) (b ++ a) x)).map (rowD (loD true n)) := by
            rw [et, List.flatMap_append, List.map_append]
            congr 2
            simp
          generalize hA : ((S.take i).flatMap fun nm => cell nm (treeOf (b ++ a) nm) (listOf (putC n) (b ++ a) nm)) = A at efin fl
          have lA : A.length ≤ 32 := by omega
          walk_at "zz"
          have g1 : GetD (.dic true (xs.map Sum.inr) td) (.str x) ((treeOf (b ++ a) x).map treeD) := GetD.str (h1.at_ _)
          have g2 : GetD (.dic true (ys.map Sum.inr) ld) (.str x) ((listOf (putC n) (b ++ a) x).map (loD true n)) := GetD.str (h2.at_ _)
          refine ⟨_, _, _, rfl, .inr (.inl rfl), g1, ?_⟩
          cases e1 : treeOf (b ++ a) x with
          | none =>
            rw [e1] at efin
            refine ⟨_, rfl, zF Bool.false_ne_true ?_⟩
            walk_at "zz"
            refine ⟨_, _, _, rfl, .inr (.inl rfl), g2, ?_⟩
            cases e2 : listOf (putC n) (b ++ a) x with
            | none =>
              rw [e2] at efin
              refine ⟨_, rfl, zF Bool.false_ne_true ?_⟩
              walk_at "zz"
              exact ⟨_, _, by rw [efin]; simp only [cell, List.append_nil, List.map_nil]; rfl⟩
            | some l =>
              rw [e2] at efin g2
              refine ⟨_, rfl, zT rfl ?_⟩
              walk_at "zz"
              refine ⟨_, _, _, rfl, .inr (.inl rfl), g2, ?_⟩
              walk_at "zz"
              refine ⟨by rw [List.length_map]; omega, ?_⟩
              exact ⟨_, _, by rw [efin]; rfl⟩
          | some t =>
            rw [e1] at efin g1
            refine ⟨_, rfl, zT rfl ?_⟩
            walk_at "zz"
            refine ⟨_, _, _, rfl, .inr (.inl rfl), g1, ?_⟩
            walk_at "zz"
            refine ⟨by rw [List.length_map]; omega, ?_⟩
            walk_at "zz"
            refine ⟨_, _, _, rfl, .inr (.inl rfl), g2, ?_⟩
            cases e2 : listOf (putC n) (b ++ a) x with
            | none =>
              rw [e2] at efin
              refine ⟨_, rfl, zF Bool.false_ne_true ?_⟩
              walk_at "zz"
              exact ⟨_, _, by rw [efin]; rfl⟩
            | some l =>
              rw [e2] at efin g2
              refine ⟨_, rfl, zT rfl ?_⟩
              walk_at "zz"
              refine ⟨_, _, _, rfl, .inr (.inl rfl), g2, ?_⟩
              walk_at "zz"
              refine ⟨by rw [List.length_append, List.length_map]; exact Nat.lt_of_le_of_lt (Nat.succ_le_succ lA) (by decide), ?_⟩
              exact ⟨_, _, by rw [efin, List.append_assoc]; rfl⟩
    · rintro i d ρ hd ⟨tk, td, lk, ld, p, q, rfl, h1, h2, l1, l2⟩
      rw [List.getElem?_map] at hd
      cases hr : (b ++ a)[i]? with
      | none => rw [hr] at hd; cases hd
      | some r =>
        rw [hr] at hd
        cases hd
        have hi : i < (b ++ a).length := (List.getElem?_eq_some_iff.mp hr).1
        have et : (b ++ a).take (i + 1) = (b ++ a).take i ++ [r] := by rw [List.take_succ, hr]; rfl
        have rok := okr r (List.mem_of_getElem? hr)
        obtain ⟨x, t | c⟩ := r
        · dsimp only [rowD, chD, treeD]
          refine zg_tup rfl ?_
          walk_at "zz"
          refine ⟨_, _, .tup _, of_decide_eq_true T.x_kit_t_tuple_t_list, ?_⟩
          walk_at "zz"
          have lk1 := put_lenK (ks := tk) (x := (Sum.inr x : Key))
          exact ⟨_, _, rfl, PutD.str (by omega), _, _, _, _, _, _, rfl, h1.put (Sum.inr x) _ (fun k => by rw [et]; exact tF_tree k), h2.congr (fun k => by rw [et]; exact (lF_tree k).symm), by omega, by omega⟩
        · cases n with
          | zero => exact c.elim
          | succ n =>
            dsimp only [rowD, chD, loD]
            refine zg_tup rfl ?_
            walk_at "zz"
            refine ⟨_, _, .lst _ _, of_decide_eq_true T.x_kit_t_list_t_list, ?_⟩
            walk_at "zz"
            refine ⟨_, _, lF (n + 1) ((b ++ a).take i) (.inr x), rfl, .inr (.inl rfl), GetD.str (h2.at_ _), ?_⟩
            walk_at "zz"
            have okl := ok_listOf (n := n + 1) (ok_putC (n + 1)) (rows := (b ++ a).take i) (fun r hr => okr r (List.mem_of_mem_take hr)) x
            have lk1 := put_lenK (ks := lk) (x := (Sum.inr x : Key))
            have hP := h2.put (Sum.inr x) (loD true (n + 1) (putC (n + 1) c (listOf (putC (n + 1)) ((b ++ a).take i) x))) (g := lF (n + 1) ((b ++ a).take (i + 1))) (fun k => by rw [et]; exact lF_list k)
            have h1' := h1.congr (g := tF ((b ++ a).take (i + 1))) fun k => by rw [et]; exact (tF_list k).symm
            have e0 : Dt.olds [Dt.lst false (List.map (rowD (loD false n)) c), (lF (n + 1) ((b ++ a).take i) (.inr x)).getD (.lst true [])] = [rowsD false n c, rowsD false n ((listOf (putC (n + 1)) ((b ++ a).take i) x).getD [])] := by
              simp only [lF]
              cases listOf (putC (n + 1)) ((b ++ a).take i) x with
              | none =>
                exact congrArg (fun d => [d, Dt.lst false []]) (rowsD_old n false c)
              | some l => exact Eq.trans (congrArg (fun d => [d, (rowsD true n l).old]) (rowsD_old n false c)) (congrArg (fun e => [rowsD false n c, e]) (rowsD_old n true l))
            refine ⟨c, (listOf (putC (n + 1)) ((b ++ a).take i) x).getD [], e0, rok.2 c rfl, ?_, ?_⟩
            · cases e : listOf (putC (n + 1)) ((b ++ a).take i) x with
              | none => exact ⟨Nat.zero_le _, fun r hr => nomatch hr⟩
              | some l => exact okl l e
            · walk_at "zz"
              exact ⟨_, _, rfl, PutD.str (by omega), _, _, _, _, _, _, rfl, h1', hP, by omega, by omega⟩
theorem ok_put_over (T : Top w K mg) : ∀ n : Nat, FnOk P w K mg base CX0 (n + 1) (He.ga K ("put_over" : Str)) (fdOf K d_put_over) ["outer", "inner"] (spZ K (wPutP n))
  | 0 => ⟨fun _ _ _ _ ⟨_, _, _, _, _, _, h, _⟩ => h.elim, fun _ _ _ _ _ _ _ _ _ _ _ _ _ ⟨_, _, _, _, _, _, h, _⟩ => h.elim⟩
  | n + 1 => put_step T n (ok_put_over T n)
end
end Md
local macro_rules | `(tactic| walk_at "z1") => `(tactic| first | ((with_reducible apply ze_intOf); exact rfl) | with_reducible apply StT.ze_sortedT)
namespace Md
section
variable {n : Nat} {P : Program} {w : World} {K : PySem.W.Frag} {mg : Str → Option Value} {base : Heap}
/-! ### the law's own _law_put -/
def fF (n : Nat) (rows : List (Rw (Lo n))) : List Key → Option Dt
  | [.inr k, .inl i] => if i = 0 then (treeOf rows k).map fun t => rowD (loD true n) (k, .inl t) else if i = 1 then (listOf (putC n) rows k).map fun l => rowD (loD true n) (k, .inr l) else none
  | _ => none
theorem fF_tree {rows : List (Rw (Lo n))} {x : Str} {t : Rt} (k : List Key) : fF n (rows ++ [(x, .inl t)]) k = if StT.pK (x, 0) = k then some (rowD (loD true n) (x, .inl t)) else fF n rows k := by
  unfold fF
  split
  · rename_i y i
    have e1 : treeOf (rows ++ [(x, .inl t)]) y = if x = y then some t else treeOf rows y := by unfold treeOf; rw [List.foldl_append]; rfl
    have e2 : listOf (putC n) (rows ++ [(x, .inl t)]) y = listOf (putC n) rows y := by unfold listOf; rw [List.foldl_append]; rfl
    rw [e1, e2]
    simp only [StT.pK, List.cons.injEq, Sum.inr.injEq, Sum.inl.injEq, and_true]
    by_cases c : x = y
    · subst c
      by_cases d : i = 0
      · simp [d]
      · have : ¬ 0 = i := fun q => d q.symm
        simp [d, this]
    · simp [c]
  · rename_i h
    rw [if_neg]
    intro e
    exact h x 0 e.symm
theorem fF_list {rows : List (Rw (Lo n))} {x : Str} {c : Lo n} (k : List Key) : fF n (rows ++ [(x, .inr c)]) k = if StT.pK (x, 1) = k then some (rowD (loD true n) (x, .inr (putC n c (listOf (putC n) rows x)))) else fF n rows k := by
  unfold fF
  split
  · rename_i y i
    have e1 : treeOf (rows ++ [(x, .inr c)]) y = treeOf rows y := by unfold treeOf; rw [List.foldl_append]; rfl
    have e2 : listOf (putC n) (rows ++ [(x, .inr c)]) y = if x = y then some (putC n c (listOf (putC n) rows y)) else listOf (putC n) rows y := by unfold listOf; rw [List.foldl_append]; rfl
    rw [e1, e2]
    simp only [StT.pK, List.cons.injEq, Sum.inr.injEq, Sum.inl.injEq, and_true]
    by_cases c : x = y
    · subst c
      by_cases d : i = 1
      · simp [d]
      · have : ¬ 1 = i := fun q => d q.symm
        simp [d, this]
    · simp [c]
  · rename_i h
    rw [if_neg]
    intro e
    exact h x 1 e.symm
def cellK (t : Option Rt) (l : Option (Lo n)) (nm : Str) : List StT.Pr := (if t.isSome then [(nm, 0)] else []) ++ if l.isSome then [(nm, 1)] else []
def keysOf (n : Nat) (rows : List (Rw (Lo n))) : List StT.Pr := (sortN (rows.map (·.1))).flatMap fun nm => cellK (treeOf rows nm) (listOf (putC n) rows nm) nm
theorem cellK_mem {t : Option Rt} {l : Option (Lo n)} {nm : Str} {p : StT.Pr} : p ∈ cellK t l nm ↔ (p = (nm, 0) ∧ t ≠ none) ∨ (p = (nm, 1) ∧ l ≠ none) := by
  unfold cellK
  cases t <;> cases l <;> simp
theorem keysOf_mem (rows : List (Rw (Lo n))) (p : StT.Pr) : p ∈ keysOf n rows ↔ fF n rows (StT.pK p) ≠ none := by
  obtain ⟨k, i⟩ := p
  unfold keysOf
  rw [List.mem_flatMap]
  simp only [cellK_mem, sortN_mem, some_iff (putC n) (good n), Prod.mk.injEq]
  constructor
  · rintro ⟨nm, _, ⟨⟨rfl, rfl⟩, h⟩ | ⟨⟨rfl, rfl⟩, h⟩⟩
    · simp [StT.pK, fF, h]
    · simp [StT.pK, fF, h]
  · intro h
    simp only [StT.pK, fF] at h
    split at h
    · rename_i e
      have q : treeOf rows k ≠ none := fun z => h (by rw [z]; rfl)
      exact ⟨k, .inl q, .inl ⟨⟨rfl, e⟩, q⟩⟩
    · split at h
      · rename_i e
        have q : listOf (putC n) rows k ≠ none := fun z => h (by rw [z]; rfl)
        exact ⟨k, .inr q, .inr ⟨⟨rfl, e⟩, q⟩⟩
      · exact absurd rfl h
theorem cellK_name {t : Option Rt} {l : Option (Lo n)} {nm : Str} {p : StT.Pr} (h : p ∈ cellK t l nm) : p.1 = nm := by
  rcases cellK_mem.mp h with ⟨e, _⟩ | ⟨e, _⟩ <;> rw [e]
theorem keysOf_lt (rows : List (Rw (Lo n))) : (keysOf n rows).Pairwise fun a b => StT.ltP a b = true := by
  unfold keysOf
  rw [List.pairwise_flatMap]
  refine ⟨fun a _ => ?_, ?_⟩
  · unfold cellK
    cases treeOf rows a <;> cases listOf (putC n) rows a <;> simp [StT.ltP]
  · have nd : (sortN (rows.map (·.1))).Nodup := sortN_nodup _
    refine ((sortN_pair _).and nd).imp fun {a b} h x hx y hy => ?_
    rw [StT.ltP_iff]
    left
    rw [cellK_name hx, cellK_name hy]
    have h1 := h.1
    simp only [leS, decide_eq_true_iff] at h1
    by_cases c : cpS a < cpS b
    · exact c
    · exact absurd (cpS_inj (List.le_antisymm h1 (List.not_lt.mp c))) h.2
theorem keysOf_sort {rows : List (Rw (Lo n))} {ps : List StT.Pr} (nd : ps.Nodup) (h : ∀ p, p ∈ ps ↔ fF n rows (StT.pK p) ≠ none) : ps.mergeSort StT.leP = keysOf n rows := by
  have q := keysOf_lt rows
  refine StT.sortP_of (q.imp fun {a b} h e => ?_) nd (q.imp fun {a b} h => ?_) fun k => by rw [keysOf_mem, h]
  · rw [e, StT.ltP_irr] at h
    cases h
  · unfold StT.leP
    cases c : StT.ltP b a with
    | false => rfl
    | true => exact absurd (StT.ltP_trans h c) (by rw [StT.ltP_irr]; decide)
theorem keysOf_rows (rows : List (Rw (Lo n))) : (keysOf n rows).filterMap (fun p => fF n rows (StT.pK p)) = (norm n rows).map (rowD (loD true n)) := by
  unfold keysOf norm normR
  rw [List.filterMap_flatMap, List.map_flatMap]
  congr 1
  funext nm
  unfold cellK cell
  cases e1 : treeOf rows nm <;> cases e2 : listOf (putC n) rows nm <;> simp [StT.pK, fF, e1, e2]
theorem pairs_of {ks : List (List Key)} (h : ∀ k ∈ ks, ∃ p, k = StT.pK p) : ∃ ps : List StT.Pr, ks = ps.map StT.pK := by
  induction ks with
  | nil => exact ⟨[], rfl⟩
  | cons k ks ih =>
    obtain ⟨p, rfl⟩ := h k List.mem_cons_self
    obtain ⟨ps, e⟩ := ih fun k hk => h k (List.mem_cons_of_mem _ hk)
    exact ⟨p :: ps, by rw [e]; rfl⟩
def FI (n : Nat) (rows : List (Rw (Lo n))) (ks : List (List Key)) (ds : List Dt) : Prop := TabF ks ds (fF n rows) ∧ ks.length ≤ rows.length
set_option maxHeartbeats 4000000 in
theorem lput_step (T : Top w K mg) (n : Nat) (ih__law_put : FnOk P w K mg base CX0 (n + 1) (He.ga K ("_law_put" : Str)) (fdOf K d__law_put) ["outer", "inner"] (spZ K (wPutP n))) :
    FnOk P w K mg base CX0 (n + 2) (He.ga K ("_law_put" : Str)) (fdOf K d__law_put) ["outer", "inner"] (spZ K (wPutP (n + 1))) := by
  refine (T.f__law_put).ok sc__law_put (fun vs H Q E h => spz_len h (n := 2) fun ds Nv Ne hw => ?_) (fun cdv A outer s H vs Q E hr h => ?_)
  · obtain ⟨a, b, rfl, _⟩ := hw
    rfl
  · refine z_fn h (PSs.nox (pss_cons (ps_set (i := 2) sc__law_put.nd rfl (Or.inr rfl) (pe_dnewT))
    (pss_cons (ps_lockL (ps_for PassesOwn.never rfl (pi_tupK (K := K) rfl (pe_tup (pa_cons (pv 1) (pa_cons (pv 0) pa_nil)))) (pg_name (i := 3) sc__law_put.nd rfl (Or.inl rfl))
    (pss_one (ps_lockL (ps_for PassesOwn.never rfl (pi_listK (K := K) rfl (pv 3)) (pg_tup (by rfl) (pgs_cons (pg_name (i := 4) sc__law_put.nd rfl (Or.inl rfl)) (pgs_cons (pg_name (i := 5) sc__law_put.nd rfl (Or.inl rfl)) pgs_nil)))
    (pss_cons (ps_set (i := 6) sc__law_put.nd rfl (Or.inl rfl) (pe_tup (pa_cons (pv 4) (pa_cons (pe_callTy call_int1 (by rfl) T.n_int (by decide +kernel) (pa_cons (pe_callB (call_isiK' (K := K) rfl) (by rfl) T.n_isinstance (by decide +kernel) (pa_cons (pv 5) (pa_cons (pe_bltn (v := .ty "list") rfl T.n_list (by decide +kernel) rfl) pa_nil))) pa_nil)) pa_nil))))
    (pss_cons (ps_if (PW.pt (pw_and (pt_cmpR op_eq (pe_ix (ix_tupK (K := K) rfl) (pv 6) pe_int (fun _ _ => rfl)) pe_int (nomark _)) (pw_and1 (pt_cmp (pc_din (hu_of hr) (pv 6) (pv 2))))))
    (pss_one (ps_set (i := 5) sc__law_put.nd rfl (Or.inl rfl) (pe_call ih__law_put (hr.mono (by omega)) rfl T.g__law_put T.f__law_put.kp T.b__law_put .nil pass0 (pa_cons (pv 5) (pa_cons (pe_ix (ix_tupK (K := K) rfl) (pe_dget (hu_of hr) (pv 2) (pv 6) (fun _ _ => rfl)) pe_int (fun _ _ => rfl)) pa_nil)))))
    (pss_one (ps_if (pt_cmpR op_eq (pe_ix (ix_tupK (K := K) rfl) (pv 6) pe_int (fun _ _ => rfl)) pe_int (nomark _))
    (pss_one (ps_set (i := 5) sc__law_put.nd rfl (Or.inl rfl) (pe_call ih__law_put (hr.mono (by omega)) rfl T.g__law_put T.f__law_put.kp T.b__law_put .nil pass0 (pa_cons (pv 5) (pa_cons (pe_lst pa_nil) pa_nil)))))
    pss_nil)))
    (pss_one (ps_dput (hu_of hr) (pv 2) (pv 6) (pe_tup (pa_cons (pv 4) (pa_cons (pv 5) pa_nil))) rfl)))))))))
    (pss_one (ps_ret (pe_lockL (pe_lc (own := [(("key" : Str), 6)]) (g := (gName 6)) (tt := tYes) rfl sc__law_put.nd (pi_listK (K := K) rfl ((pe_callB (StT.cr_sortedT rfl hr.units) (by rfl) T.n_sorted (by decide +kernel) (pa_cons (pv 2) pa_nil)))) (blkOk_by (N := ["outer", "inner", "found", "rows", "name", "change", "key"]) (sc := defScope s__law_put) (by decide +kernel)) (fun _ _ _ _ _ => (pg_name (i := 6) sc__law_put.nd rfl (Or.inl rfl))) (fun _ _ _ _ _ => pts_nil) (fun _ _ _ _ _ => (pe_dget (hu_of hr) (pv 2) (pv 6) (fun _ _ => rfl)))))))))) fun ds Nv Ne hw => ?_
    obtain ⟨a, b, rfl, oa, ob, k⟩ := hw
    have la := oa.1
    have lb := ob.1
    walk_at "zz"
    refine zs_forL (zi_tup ?_)
    walk_at "zz"
    let pre : Nat → List (Rw (Lo n)) := fun j => ([b, a].take j).flatten
    refine ⟨fun j ρ => ∃ ks ds p3 p4 p5 p6, ρ = [.v (rowsD false n a), .v (rowsD false n b), .o (.dit true ks ds), p3, p4, p5, p6] ∧ FI n (pre j) ks ds ∧ (p6 = .un ∨ ∃ d, p6 = .v d),
      ⟨[], [], .un, .un, .un, .un, rfl, ⟨TabF.nil.congr fun k => by unfold fF; split <;> simp [pre, treeOf, listOf], Nat.le_refl _⟩, .inl rfl⟩, ?_, ?_⟩
    · rintro ρ ⟨ks, ds, p3, p4, p5, p6, rfl, hf, hp⟩
      refine ⟨trivial, ?_⟩
      dsimp only [bI]
      have ep : pre 2 = b ++ a := by simp [pre]
      have hf : FI n (b ++ a) ks ds := ep ▸ hf
      obtain ⟨hf, hl⟩ := hf
      rw [List.length_append] at hl
      obtain ⟨ps, rfl⟩ : ∃ ps : List StT.Pr, ks = ps.map StT.pK := pairs_of fun k hk => by
        have q := (hf.mem k).mp hk
        unfold fF at q
        split at q
        · rename_i y i
          exact ⟨(y, i), rfl⟩
        · exact absurd rfl q
      have nd : ps.Nodup := by
        have q := hf.nd
        exact List.Pairwise.imp (fun h e => h (by rw [e])) (List.pairwise_map.mp q)
      have hmem : ∀ p, p ∈ ps ↔ fF n (b ++ a) (StT.pK p) ≠ none := fun p => by
        rw [← hf.mem, List.mem_map]
        exact ⟨fun h => ⟨p, h, rfl⟩, fun ⟨q, h, e⟩ => StT.pK_inj e ▸ h⟩
      have es : StT.sortKs (ps.map StT.pK) = (keysOf n (b ++ a)).map StT.pK := by rw [StT.sortKs_pairs, keysOf_sort nd hmem]
      have hkl : (keysOf n (b ++ a)).length = ps.length := by rw [← keysOf_sort nd hmem, (List.mergeSort_perm _ _).length_eq]
      rw [List.length_map] at hl
      have fin : ∀ p6, (p6 = .un ∨ ∃ d, p6 = Sl.v d) → ZS { K := K, Er := E, Eh := Ne } (tRet (tLockLE (tLc (iList K (tCB StT.rSortedT (tCons (tVar 2) tNil))) (gName 6) tYes (tDGet (tVar 2) (tVar 6)) (List.map (fun x => x.snd) [(Str.ofString "key", 6)])))) [Sl.v (rowsD false n a), Sl.v (rowsD false n b), Sl.o (Dt.dit true (ps.map StT.pK) ds), p3, p4, p5, p6] { nx := fun x => Nv Dt.non false, rt := Nv } := by
        intro p6 hp
        refine zs_ret (ze_lcM (keysOf n (b ++ a)) (fun p => .tup ((StT.pK p).map keyD)) (fun p => fF n (b ++ a) (StT.pK p)) (zi_list (StT.ze_sortedT ?_)))
        walk_at "zz"
        refine ⟨true, _, ds, rfl, ?_, ?_, by rw [List.length_map]; omega, true, _, rfl, by rw [es, List.map_map]; rfl, trivial, ?_, by omega, fun p hp => ?_, ?_⟩
        · rw [List.map_map]
          exact PySem.W.AllAlike.of fun a b => StT.alike_pK a b
        · intro k hk e
          obtain ⟨p, _, rfl⟩ := List.mem_map.mp hk
          cases e
        · rcases hp with rfl | ⟨d, rfl⟩ <;> rfl
        · refine zgw_name (by simp) ?_
          walk_at "zz"
          have q := (keysOf_mem (b ++ a) p).mp hp
          obtain ⟨v, hv⟩ := Option.ne_none_iff_exists'.mp q
          exact ⟨_, _, v, rfl, .inl rfl, GetD.t (StT.pK p) ((hf.at_ _).trans hv), rfl, hv⟩
        · rw [keysOf_rows]
          exact k
      exact fin p6 hp
    · rintro j d ρ hd ⟨ks, ds, p3, p4, p5, p6, rfl, hf, hp⟩
      obtain ⟨r, rfl, okr, epre⟩ : ∃ r : Rws n, d = rowsD false n r ∧ OkR n r ∧ pre (j + 1) = pre j ++ r := by
        match j, hd with
        | 0, hd => cases hd; exact ⟨b, rfl, ob, by simp [pre]⟩
        | 1, hd => cases hd; exact ⟨a, rfl, oa, by simp [pre]⟩
      have lr := okr.1
      have lpre : (pre j).length ≤ 16 := by
        have q : (pre j).length ≤ ([b, a].flatten).length := by
          show (([b, a].take j).flatten).length ≤ _
          rw [← List.take_append_drop j [b, a], List.flatten_append, List.length_append, List.take_append_drop]
          omega
        have e : ([b, a].flatten).length = b.length + a.length := by simp
        omega
      walk_at "zz"
      refine zs_forL (zi_list ?_)
      walk_at "zz"
      refine ⟨_, _, rfl, fun i ρ => ∃ ks ds p4 p5 p6, ρ = [.v (rowsD false n a), .v (rowsD false n b), .o (.dit true ks ds), .v (rowsD false n r), p4, p5, p6] ∧ FI n (pre j ++ r.take i) ks ds ∧ (p6 = .un ∨ ∃ d, p6 = .v d), ⟨ks, ds, p4, p5, p6, rfl, by rw [List.take_zero, List.append_nil]; exact hf, hp⟩, ?_, ?_⟩
      · rintro ρ ⟨ks, ds, p4, p5, p6, rfl, hf, hp⟩
        rw [List.length_map, List.take_length] at hf
        exact ⟨trivial, ks, ds, _, _, _, _, rfl, by rw [epre]; exact hf, hp⟩
      · clear hp hf
        rintro i d ρ hd ⟨ks, ds, p4, p5, p6, rfl, hf, hp⟩
        rw [List.getElem?_map] at hd
        cases hr : r[i]? with
        | none => rw [hr] at hd; cases hd
        | some r0 =>
          rw [hr] at hd
          cases hd
          have et : pre j ++ r.take (i + 1) = (pre j ++ r.take i) ++ [r0] := by rw [List.take_succ, hr, List.append_assoc]; rfl
          have rok := okr.2 r0 (List.mem_of_getElem? hr)
          obtain ⟨hf, hl⟩ := hf
          have hl2 : (pre j ++ r.take i).length ≤ 24 := by rw [List.length_append, List.length_take]; omega
          have hl3 : (pre j ++ r.take (i + 1)).length = (pre j ++ r.take i).length + 1 := by rw [et, List.length_append]; rfl
          have okp : ∀ x ∈ pre j ++ r.take i, OkW n x := fun x hx => by
            rcases List.mem_append.mp hx with hx | hx
            · have hx : x ∈ ([b, a].take j).flatten := hx
              obtain ⟨l, hl, hx⟩ := List.mem_flatten.mp hx
              rcases List.mem_cons.mp (List.mem_of_mem_take hl) with e | hl
              · rw [e] at hx
                exact ob.2 x hx
              · rw [List.mem_singleton.mp hl] at hx
                exact oa.2 x hx
            · exact okr.2 x (List.mem_of_mem_take hx)
          generalize hR : pre j ++ r.take i = R at *
          obtain ⟨x, t | c⟩ := r0
          · dsimp only [rowD, chD, treeD]
            refine zg_tup rfl ?_
            walk_at "zz"
            refine ⟨_, _, .tup _, of_decide_eq_true T.x_kit_t_tuple_t_list, .inr ⟨_, rfl, ?_⟩⟩
            walk_at "zz"
            have lk := put_lenK (ks := ks) (x := StT.pK (x, 0))
            exact ⟨_, _, rfl, PutD.t (StT.pK (x, 0)) (by omega), _, _, _, _, _, rfl, ⟨hf.put (StT.pK (x, 0)) _ (fun k => by rw [et]; exact fF_tree k), by omega⟩, .inr ⟨_, rfl⟩⟩
          · cases n with
            | zero => exact c.elim
            | succ n =>
              dsimp only [rowD, chD, loD]
              refine zg_tup rfl ?_
              walk_at "zz"
              refine ⟨_, _, .lst _ _, of_decide_eq_true T.x_kit_t_list_t_list, .inr ⟨_, rfl, ?_⟩⟩
              walk_at "zz"
              have gk : fF (n + 1) R (StT.pK (x, 1)) = (listOf (putC (n + 1)) R x).map fun l => rowD (loD true (n + 1)) (x, .inr l) := by simp [fF, StT.pK]
              have g : GetD (.dit true ks ds) (.tup ((StT.pK (x, 1)).map keyD)) ((listOf (putC (n + 1)) R x).map fun l => rowD (loD true (n + 1)) (x, .inr l)) := GetD.t _ ((hf.at_ _).trans gk)
              have okl := ok_listOf (n := n + 1) (ok_putC (n + 1)) okp x
              have lk := put_lenK (ks := ks) (x := StT.pK (x, 1))
              have hP := fun v (e : v = putC (n + 1) c (listOf (putC (n + 1)) R x)) => hf.put (StT.pK (x, 1)) (rowD (loD true (n + 1)) (x, .inr v)) (g := fF (n + 1) (pre j ++ r.take (i + 1))) (fun k => by rw [et, e]; exact fF_list k)
              refine ⟨_, _, _, rfl, .inr (.inl rfl), g, ?_⟩
              cases e : listOf (putC (n + 1)) R x with
              | none =>
                refine ⟨_, rfl, zF Bool.false_ne_true ?_⟩
                walk_at "zz"
                refine ⟨c, [], congrArg (fun d => [d, Dt.lst false []]) (rowsD_old n false c), rok.2 c rfl, ⟨Nat.zero_le _, fun r hr => nomatch hr⟩, ?_⟩
                walk_at "zz"
                exact ⟨_, _, rfl, PutD.t (StT.pK (x, 1)) (by omega), _, _, _, _, _, rfl, ⟨hP (norm n (([] : Rws n) ++ (show Rws n from c))) (by rw [e]; rfl), by omega⟩, .inr ⟨_, rfl⟩⟩
              | some l =>
                rw [e] at g
                refine ⟨_, rfl, zT rfl ?_⟩
                walk_at "zz"
                refine ⟨_, _, _, rfl, .inr (.inl rfl), g, ?_⟩
                walk_at "zz"
                refine ⟨c, l, Eq.trans (congrArg (fun d => [d, (rowsD true n l).old]) (rowsD_old n false c)) (congrArg (fun e => [rowsD false n c, e]) (rowsD_old n true l)), rok.2 c rfl, okl l e, ?_⟩
                walk_at "zz"
                exact ⟨_, _, rfl, PutD.t (StT.pK (x, 1)) (by omega), _, _, _, _, _, rfl, ⟨hP (norm n ((show Rws n from l) ++ (show Rws n from c))) (by rw [e]; rfl), by omega⟩, .inr ⟨_, rfl⟩⟩
theorem ok__law_put (T : Top w K mg) : ∀ n : Nat, FnOk P w K mg base CX0 (n + 1) (He.ga K ("_law_put" : Str)) (fdOf K d__law_put) ["outer", "inner"] (spZ K (wPutP n))
  | 0 => ⟨fun _ _ _ _ ⟨_, _, _, _, _, _, h, _⟩ => h.elim, fun _ _ _ _ _ _ _ _ _ _ _ _ _ ⟨_, _, _, _, _, _, h, _⟩ => h.elim⟩
  | n + 1 => lput_step T n (ok__law_put T n)
end
end Md
/-! ### == and != of equal data that holds Ratios: nothing else stays behind -/
def NoFz (H H' : Hp) : Prop := ∀ a ob u, H' a = some (.frz ob u) → H a = some (.frz ob u)
/-- H', without the frozen that H has not -/
def unFz (H H' : Hp) : Hp := fun a => match H' a with
  | some (.frz _ _) => H a
  | o => o
theorem unFz_of {H H' : Hp} {a : Addr} {o : HO} (h : H' a = some o) (n : isFz o = false) : unFz H H' a = some o := by
  unfold unFz
  rw [h]
  cases o <;> first | rfl | cases n
theorem unFz_none {H H' : Hp} (e : Ext H H') {a : Addr} (h : H' a = none) : unFz H H' a = none := by
  unfold unFz
  rw [h]
theorem unFz_old {H H' : Hp} (e : Ext H H') {a : Addr} {o : HO} (h : H a = some o) : unFz H H' a = some o := by
  unfold unFz
  rw [e _ _ h]
  cases o <;> first | rfl | exact h
theorem unFz_sub {H H' : Hp} (e : Ext H H') {a : Addr} {o : HO} (h : unFz H H' a = some o) : H' a = some o := by
  unfold unFz at h
  split at h
  · exact e _ _ h
  · exact h
theorem unFz_noFz {H H' : Hp} : NoFz H (unFz H H') := fun a ob u h => by
  unfold unFz at h
  split at h
  · exact h
  · rename_i x hx
    exact absurd h (hx ob u)
theorem objOk_unFz {P : Program} {w : World} {H H' : Hp} {h : Heap} (e : Ext H H') {a : Addr} : ∀ {o : HO}, ObjOk P w H' h a o → ObjOk P w (unFz H H') h a o
  | .lst _, x => x
  | .tup _, x => x
  | .dK _, x => x
  | .dT kvs, x => by
    obtain ⟨h1, h2, xs, h3, h4⟩ := x
    exact ⟨h1, h2, xs, Paired.mapP h3 fun p q ⟨a1, a2, a3⟩ => ⟨a1, unFz_of a2 rfl, a3⟩, h4⟩
  | .set _ _, x => x
  | .ins _ _ _, x => by
    obtain ⟨h1, h2⟩ := x
    exact ⟨unFz_of h1 rfl, h2⟩
  | .own _, x => x
  | .xd _, x => x
  | .rng _ _, x => x
  | .frz o u, x => by
    obtain ⟨h1, h2⟩ := x
    exact ⟨h1, objOk_unFz e h2⟩
  | .tbl _, x => x
  | .met _ _, x => x
  | .ext _, x => x
theorem inv_unFz {X : Cx} {pins : List (Addr × Obj)} {σ : L2.St} {H H' : Hp} {s s' : Shared} (I : Inv X pins σ H s) (I' : Inv X pins σ H' s') (e : Ext H H') : Inv X pins σ (unFz H H') s' where
  ok := I'.ok
  os := I'.os
  bare := I'.bare
  base := ⟨I'.base.keep, I'.base.slot, fun b o q n hx => unFz_none e (I'.base.free b o q n hx), I'.base.there, fun b xs q => unFz_of (I'.base.tups b xs q) rfl, fun b o u q => unFz_old e (I.base.frzs b o u q), fun b ps q => by
    obtain ⟨more, hm⟩ := I'.base.tbls b ps q
    exact ⟨more, unFz_of hm rfl⟩⟩
  loc := I'.loc
  cell := I'.cell
  free := unFz_none e I'.free
  freeC := fun x c q => unFz_none e (I'.freeC x c q)
  pin := fun p hp => by
    obtain ⟨h1, h2, h3⟩ := I'.pin p hp
    exact ⟨h1, unFz_none e h2, h3⟩
  hok := fun a o q => objOk_unFz e (I'.hok a o (unFz_sub e q))
  len := I'.len
def rEqZ (D : Eqv) (b : Bool) : R2 := fun x y H Q => D x y H ∧ ∀ H', Ext H H' → NoFz H H' → Q (.bl b) H'
theorem op_eqZ {X : Cx} {n : Nat} {D : Eqv} (h : RcG X n D) (hr : Room n X.A) : OpR X (compareOp .Eq) (rEqZ D true) := by
  intro pins s σ H x y v u Q I rx ry hq
  obtain ⟨d, q⟩ := hq
  show wpAny (model X.prog X.w) X.A (richCompare .Eq v u) (EP X pins σ Q) X.xe s
  refine wpAny_mono (h X.A pins s σ H x y v u ⟨hr, rfl⟩ I rx ry d) (fun r s' z => ?_) fun _ _ x => x
  obtain ⟨rfl, H', I', e⟩ := z
  exact ⟨.bl true, _, inv_unFz I I' e, rfl, q _ (fun a o w => unFz_old e w) unFz_noFz⟩
theorem op_neZ {X : Cx} {n : Nat} {D : Eqv} (h : RnG X n D) (hr : Room n X.A) : OpR X (compareOp .NotEq) (rEqZ D false) := by
  intro pins s σ H x y v u Q I rx ry hq
  obtain ⟨d, q⟩ := hq
  show wpAny (model X.prog X.w) X.A (richCompare .NotEq v u) (EP X pins σ Q) X.xe s
  refine wpAny_mono (h X.A pins s σ H x y v u ⟨hr, rfl⟩ I rx ry d) (fun r s' z => ?_) fun _ _ x => x
  obtain ⟨rfl, H', I', e⟩ := z
  exact ⟨.bl false, _, inv_unFz I I' e, rfl, q _ (fun a o w => unFz_old e w) unFz_noFz⟩
theorem RcG.or {X : Cx} {n : Nat} {D D' : Eqv} (h : RcG X n D) (h' : RcG X n D') : RcG X n (fun x y H => D x y H ∨ D' x y H) := fun A pins s σ H x y u v sb I rx ry d => by
  rcases d with d | d
  · exact h A pins s σ H x y u v sb I rx ry d
  · exact h' A pins s σ H x y u v sb I rx ry d
theorem RnG.or {X : Cx} {n : Nat} {D D' : Eqv} (h : RnG X n D) (h' : RnG X n D') : RnG X n (fun x y H => D x y H ∨ D' x y H) := fun A pins s σ H x y u v sb I rx ry d => by
  rcases d with d | d
  · exact h A pins s σ H x y u v sb I rx ry d
  · exact h' A pins s σ H x y u v sb I rx ry d
theorem OpR.or2 {X : Cx} {op : Value → Value → Sem Value} {r r' : R2} (h : OpR X op r) (h' : OpR X op r') : OpR X op (fun x y H Q => r x y H Q ∨ r' x y H Q) := by
  intro pins s σ H x y v u Q I rx ry hq
  rcases hq with q | q
  · exact h pins s σ H x y v u Q I rx ry q
  · exact h' pins s σ H x y v u Q I rx ry q
/-! what is equal -/
def RatR (K : PySem.W.Frag) (a b : Addr) (H : Hp) : Prop := ∃ n d, RatAt K H a n d ∧ RatAt K H b n d
def DZ (K : PySem.W.Frag) : Nat → Eqv
  | 0 => fun x y H => DFlat x y H ∨ DIns (He.ga K "Ratio") (RatR K) x y H
  | n + 1 => fun x y H => DZ K n x y H ∨ (DTup K (DZ K n) x y H ∨ DList (DZ K n) x y H)
theorem mon_dz (K : PySem.W.Frag) : ∀ n, Mon (DZ K n)
  | 0 => Mon.or mon_flat (mon_ins fun a b H H' e ⟨n, d, h1, h2⟩ => ⟨n, d, h1.mono e, h2.mono e⟩)
  | n + 1 => Mon.or (mon_dz K n) (Mon.or (mon_tup (mon_dz K n)) (mon_list (mon_dz K n)))
theorem DZ.up {K : PySem.W.Frag} {x y : V} {H : Hp} {n m : Nat} (h : n ≤ m) (d : DZ K n x y H) : DZ K m x y H := by
  induction h with
  | refl => exact d
  | step _ ih => exact .inl ih
mutual
inductive EqD : Nat → Dt → Dt → Prop
  | flat {n : Nat} {d : Dt} {u : V} : flatD d = some u → EqD n d d
  | rat {n : Nat} (a b : Int) : EqD n (.rat a b) (.rat a b)
  | tup {n : Nat} {ds es : List Dt} : EqDs n ds es → EqD (n + 1) (.tup ds) (.tup es)
  | lst {n : Nat} {t s : Bool} {ds es : List Dt} : EqDs n ds es → EqD (n + 1) (.lst t ds) (.lst s es)
inductive EqDs : Nat → List Dt → List Dt → Prop
  | nil {n : Nat} : EqDs n [] []
  | cons {n : Nat} {d e : Dt} {ds es : List Dt} : EqD n d e → EqDs n ds es → EqDs n (d :: ds) (e :: es)
end
theorem eqV_self {v : V} (h : flatV v = true) : eqV v v = true := by cases v <;> first | rfl | (simp [eqV]; done) | cases h
mutual
theorem EqD.dz {K : PySem.W.Frag} {B B' F F' H : Hp} (l : Le F H) (l' : Le F' H) : ∀ {n : Nat} {d e : Dt} {x y : V}, EqD n d e → Rz K B F d x → Rz K B' F' e y → DZ K n x y H
  | n, _, _, x, y, .flat h, r, r' => by
    obtain ⟨h1, h2⟩ := flat_rz h r
    obtain ⟨h3, _⟩ := flat_rz h r'
    rw [h1, h3]
    exact DZ.up (Nat.zero_le n) (.inl ⟨h2, h2, eqV_self h2⟩)
  | n, _, _, x, y, .rat a b, r, r' => by
    simp only [Rz] at r r'
    obtain ⟨p, dx, rfl, h1⟩ := r
    obtain ⟨q, dy, rfl, h2⟩ := r'
    have e1 := l.exact h1 rfl
    have e2 := l'.exact h2 rfl
    exact DZ.up (Nat.zero_le n) (.inr ⟨p, q, dx, dy, _, _, rfl, rfl, e1, e2, a, b, ⟨dx, e1⟩, ⟨dy, e2⟩⟩)
  | _, _, _, x, y, .tup h, r, r' => by
    simp only [Rz] at r r'
    obtain ⟨p, xs, rfl, h1, r⟩ := r
    obtain ⟨q, ys, rfl, h2, r'⟩ := r'
    exact .inr (.inl ⟨p, q, xs, ys, rfl, rfl, SqT.of (l.exact h1 rfl), SqT.of (l'.exact h2 rfl), EqDs.dz l l' h r r'⟩)
  | _, _, _, x, y, .lst h, r, r' => by
    simp only [Rz] at r r'
    obtain ⟨p, xs, rfl, h1, _, r⟩ := r
    obtain ⟨q, ys, rfl, h2, _, r'⟩ := r'
    exact .inr (.inr ⟨p, q, xs, ys, rfl, rfl, l.exact h1 rfl, l'.exact h2 rfl, EqDs.dz l l' h r r'⟩)
theorem EqDs.dz {K : PySem.W.Frag} {B B' F F' H : Hp} (l : Le F H) (l' : Le F' H) : ∀ {n : Nat} {ds es : List Dt} {xs ys : List V}, EqDs n ds es → Rzl K B F ds xs → Rzl K B' F' es ys → Prs (DZ K n) xs ys H
  | _, _, _, _, _, .nil, r, r' => by
    rw [r.inv0, r'.inv0]
    exact Prs.nil
  | _, _, _, _, _, .cons h h', r, r' => by
    obtain ⟨v, vs, rfl, a1, a2⟩ := r.inv
    obtain ⟨u, us, rfl, b1, b2⟩ := r'.inv
    exact Prs.cons (EqD.dz l l' h a1 b1) (EqDs.dz l l' h' a2 b2)
end
def DZ1 (K : PySem.W.Frag) (n : Nat) : Eqv := fun x y H => DTup K (DZ K n) x y H ∨ DList (DZ K n) x y H
theorem EqD.dz1 {K : PySem.W.Frag} {B B' F F' H : Hp} (l : Le F H) (l' : Le F' H) {n : Nat} {d e : Dt} {x y : V} (h : EqD (n + 1) d e) (nf : flatD d = none) (nr : ∀ a b, d ≠ .rat a b) (r : Rz K B F d x) (r' : Rz K B' F' e y) : DZ1 K n x y H := by
  cases h with
  | flat h => rw [nf] at h; cases h
  | rat a b => exact absurd rfl (nr a b)
  | tup h =>
    simp only [Rz] at r r'
    obtain ⟨p, xs, rfl, h1, r⟩ := r
    obtain ⟨q, ys, rfl, h2, r'⟩ := r'
    exact .inl ⟨p, q, xs, ys, rfl, rfl, SqT.of (l.exact h1 rfl), SqT.of (l'.exact h2 rfl), EqDs.dz l l' h r r'⟩
  | lst h =>
    simp only [Rz] at r r'
    obtain ⟨p, xs, rfl, h1, _, r⟩ := r
    obtain ⟨q, ys, rfl, h2, _, r'⟩ := r'
    exact .inr ⟨p, q, xs, ys, rfl, rfl, l.exact h1 rfl, l'.exact h2 rfl, EqDs.dz l l' h r r'⟩
/-- the rule: plain data, or what is equal -/
def rEqZZ (K : PySem.W.Frag) (n : Nat) : R2 := fun x y H Q => rEqD K x y H Q ∨ rEqZ (DZ1 K n) true x y H Q
def rNeZZ (K : PySem.W.Frag) (n : Nat) : R2 := fun x y H Q => rNeD K x y H Q ∨ rEqZ (DZ1 K n) false x y H Q
section
variable {z : Cz} {ρ : List Sl} {N : Dt → Bool → List Sl → Prop} {ta tb : TE}
theorem Sm.ext0 {m : Fm} {F H H' : Hp} {σ : L2.St} (S : Sm z m F H σ ρ) (e : Ext H H') (n : NoFz H H') : Sm z m F H' σ ρ := S.ext (Same.refl F) e (S.lk.same e) (Nw.refl F H) n
theorem ze_eqZ {K' : PySem.W.Frag} {n : Nat} (hK : K' = z.K) (h : ZE z ta ρ fun x _ ρ1 => ZE z tb ρ1 fun y _ ρ2 => EqD (n + 1) x y ∧ flatD x = none ∧ (∀ a b, x ≠ .rat a b) ∧ N (.bl true) false ρ2) : ZE z (tOp (rEqZZ K' n) ta tb) ρ N :=
  ze_op2w (W := fun x y N ρ2 => EqD (n + 1) x y ∧ flatD x = none ∧ (∀ a b, x ≠ .rat a b) ∧ N (.bl true) false ρ2) (fun x y ρ2 N n2 m F H σ Q vx vy S r1 r2 k => by
    subst hK
    obtain ⟨h1, h2, h3, n⟩ := n2
    exact .inr ⟨h1.dz1 S.le S.le h2 h3 r1 r2, fun H' e nf => k _ _ _ _ _ _ n (Same.refl F) (S.ext0 e nf) (rzF_f rzb)⟩) h
theorem ze_neZ {K' : PySem.W.Frag} {n : Nat} (hK : K' = z.K) (h : ZE z ta ρ fun x _ ρ1 => ZE z tb ρ1 fun y _ ρ2 => EqD (n + 1) x y ∧ flatD x = none ∧ (∀ a b, x ≠ .rat a b) ∧ N (.bl false) false ρ2) : ZE z (tOp (rNeZZ K' n) ta tb) ρ N :=
  ze_op2w (W := fun x y N ρ2 => EqD (n + 1) x y ∧ flatD x = none ∧ (∀ a b, x ≠ .rat a b) ∧ N (.bl false) false ρ2) (fun x y ρ2 N n2 m F H σ Q vx vy S r1 r2 k => by
    subst hK
    obtain ⟨h1, h2, h3, n⟩ := n2
    exact .inr ⟨h1.dz1 S.le S.le h2 h3 r1 r2, fun H' e nf => k _ _ _ _ _ _ n (Same.refl F) (S.ext0 e nf) (rzF_f rzb)⟩) h
end
section
variable {P : Program} {w : World} {K : PySem.W.Frag} {mg : Str → Option Value} {base : Heap}
theorem r_isiRat {H : Hp} {Q : VK} {x : Addr} {n d : Int} (T : Top w K mg) (r : RatAt K H x n d) (h : Q (.bl true) H) : rIsi K [.ref x, .ref (He.ga K "Ratio")] H Q := by
  obtain ⟨dx, r⟩ := r
  exact r_isi (isi_ins T.x_isi_Ratio T.cls_Ratio r) (.own _) (of_decide_eq_true T.x_kit_Ratio_Ratio) h
theorem ok_Ratio___eq__ (T : Top w K mg) : FnOk P w K mg base CX0 1 (He.ma K (He.ga K ("Ratio" : Str)) ("__eq__" : Str)) (fdOf K d_Ratio___eq__) ["self", "other"] (spEq (RatR K)) := by
  refine (T.f_Ratio___eq__).ok sc_Ratio___eq__ (fun vs H Q E h => ?_) (fun cdv A outer s H vs Q E hr h => ?_)
  · obtain ⟨x, y, rfl, _⟩ := h
    rfl
  · obtain ⟨x, y, rfl, ⟨n, d, ⟨dx, hx⟩, ry⟩, k⟩ := h
    obtain ⟨dy, hy⟩ := id ry
    refine ⟨_, PSs.nox (pss_one (ps_ret (pe_and (pe_callB (call_isiK' (K := K) rfl) (by rfl) T.n_isinstance (by decide +kernel) (pa_cons (pv 1) (pa_cons (pe_glob (v := .ref (He.ga K ("Ratio" : Str))) rfl T.g_Ratio rfl) pa_nil))) (pe_and (pe_cmpR op_eq (pe_fldK (K := K) rfl (pv 0) rfl) (pe_fldK (K := K) rfl (pv 1) rfl) (nomark _)) (pe_one (pe_cmpR op_eq (pe_fldK (K := K) rfl (pv 0) rfl) (pe_fldK (K := K) rfl (pv 1) rfl) (nomark _))))))), ?_⟩
    walk_at "go"
    refine r_isiRat T ry ?_
    walk_at "go"
    refine ⟨_, _, _, _, _, rfl, hx, T.cls_Ratio, T.na_Ratio_top, r2_top _ _, ?_⟩
    walk_at "go"
    refine ⟨_, _, _, _, _, rfl, hy, T.cls_Ratio, T.na_Ratio_top, r2_top _ _, ?_⟩
    walk_at "go"
    refine ite_d (fun c => ?_) (fun c => absurd rfl c)
    walk_at "go"
    refine ⟨_, _, _, _, _, rfl, hx, T.cls_Ratio, T.na_Ratio_bottom, r2_bot _ _, ?_⟩
    walk_at "go"
    refine ⟨_, _, _, _, _, rfl, hy, T.cls_Ratio, T.na_Ratio_bottom, r2_bot _ _, ?_⟩
    walk_at "go"
    rw [decide_eq_true rfl]
    exact k H Ext.rfl'
theorem eqDZ (T : Top w K mg) {X : Cx} (hp : X.prog = P) (hw : X.w = w) (hk : X.K = K) (hm : X.mg = mg) : ∀ n, EqG X (1 + n) (DZ K n)
  | 0 => by
    subst hp hw hk hm
    exact EqG.or ((eqG_flat (X := X)).mono (Nat.zero_le 1)) (eqG_ins (ok_Ratio___eq__ (base := X.base) T) T.m_Ratio___eq__.at_ T.m_Ratio___eq__.fn T.b_Ratio___eq__ pass0)
  | n + 1 => by
    have ih := eqDZ T hp hw hk hm n
    subst hp hw hk hm
    exact EqG.or (ih.mono (Nat.le_succ _)) (EqG.or (eqG_tup (mon_dz _ n) ih) (eqG_list (mon_dz _ n) ih))
theorem op_eqZZ (T : Top w K mg) (n : Nat) {X : Cx} (hu : X.A.units + 64 < cLine) (hr : Room (1 + n + 1) X.A) (hp : X.prog = P := by rfl) (hw : X.w = w := by rfl) (hk : X.K = K := by rfl) (hm : X.mg = mg := by rfl) : OpR X (compareOp .Eq) (rEqZZ K n) := by
  have h := eqDZ T hp hw hk hm n
  refine OpR.or2 (op_eqDK hk hu) (op_eqZ (RcG.or ?_ (rcG_list (mon_dz K n) h)) hr)
  subst hk
  exact rcG_tup (mon_dz _ n) h
theorem op_neZZ (T : Top w K mg) (n : Nat) {X : Cx} (hu : X.A.units + 64 < cLine) (hr : Room (1 + n + 1) X.A) (hp : X.prog = P := by rfl) (hw : X.w = w := by rfl) (hk : X.K = K := by rfl) (hm : X.mg = mg := by rfl) : OpR X (compareOp .NotEq) (rNeZZ K n) := by
  have h := eqDZ T hp hw hk hm n
  refine OpR.or2 (op_neDK hk hu) (op_neZ (RnG.or ?_ (rnG_list (mon_dz K n) h)) hr)
  subst hk
  exact rnG_tup (mon_dz _ n) h
end
section
variable {z : Cz} {ρ : List Sl} {N : Dt → Bool → List Sl → Prop} {ta tb te : TE} {i j : Nat}
/-- plain data, whatever the answer -/
theorem ze_eqDZ {K' : PySem.W.Frag} {n : Nat} (hK : K' = z.K) (h : ZE z ta ρ fun x _ ρ1 => ZE z tb ρ1 fun y _ ρ2 => ∃ p q, toQ x = some p ∧ toQ y = some q ∧ SeqAt.shaped p = true ∧ SeqAt.shaped q = true ∧ N (.bl (PyData.eqv p q)) false ρ2) : ZE z (tOp (rEqZZ K' n) ta tb) ρ N :=
  ze_op2w (W := fun x y N ρ2 => ∃ p q, toQ x = some p ∧ toQ y = some q ∧ SeqAt.shaped p = true ∧ SeqAt.shaped q = true ∧ N (.bl (PyData.eqv p q)) false ρ2) (fun x y ρ2 N n2 m F H σ Q vx vy S r1 r2 k => by
    subst hK
    obtain ⟨p, q, h1, h2, h3, h4, n⟩ := n2
    exact .inl ⟨p, q, toQ_dp S.le x p vx h1 r1, toQ_dp S.le y q vy h2 r2, h3, h4, k _ _ _ _ _ _ n (Same.refl F) S (rzF_f rzb)⟩) h
theorem ze_neDvZ {K' : PySem.W.Frag} {n : Nat} (hK : K' = z.K) {c0 : Dt} (h0 : ρ[i]? = some (.o c0)) (h : ZE z tb ρ fun y _ ρ2 => ∃ t ds p q, ρ2[i]? = some (.o (.lst t ds)) ∧ toQ (.lst t ds) = some p ∧ toQ y = some q ∧ SeqAt.shaped p = true ∧ SeqAt.shaped q = true ∧ N (.bl (!PyData.eqv p q)) false ρ2) : ZE z (tOp (rNeZZ K' n) (tVar i) tb) ρ N := fun m F H σ Q S k => by
  subst hK
  obtain ⟨l, e, _⟩ := S.geto h0
  refine ⟨_, e, h m F H σ _ S fun y fy ρ2 F2 H2 vy n2 s2 S2 r2 => ?_⟩
  obtain ⟨F3, s3, S3, ry⟩ := rzF_frz S2 r2
  obtain ⟨t, ds, p, q, hi, h1, h2, h3, h4, n⟩ := n2
  exact .inl ⟨p, q, S3.own_dp hi e h1, toQ_dp S3.le y q vy h2 ry, h3, h4, k _ _ _ _ _ _ n (s2.trans s3) S3 (rzF_f rzb)⟩
theorem ze_isivT {nm : String} {d0 : Dt} (h0 : ρ[i]? = some (.o d0)) (h : ∃ t b, TyD z.K d0 t ∧ PySem.W.kitOne z.K t (.type nm) = some b ∧ N (.bl b) false ρ) : ZE z (tCB (rIsi z.K) (tCons (tVar i) (tCons (tC (.ty nm)) tNil))) ρ N := by
  obtain ⟨t, b, h1, h2, n⟩ := h
  exact ze_isiv (.ty nm) h0 h1 h2 n
theorem ze_notInDv {K' : PySem.W.Frag} (hK : K' = z.K) (h : ZE z ta ρ fun x _ ρ1 => ∃ p t ds ps, ρ1[i]? = some (.o (.lst t ds)) ∧ toQ x = some p ∧ toQs ds = some ps ∧ SeqAt.shaped p = true ∧ SeqAt.shaped (.list ps) = true ∧ N (.bl (!ps.any fun z => PyData.eqv z p)) false ρ1) : ZE z (tOp (rNotInD K') ta (tVar i)) ρ N := fun m F H σ Q S k => by
  subst hK
  refine h m F H σ _ S fun x fx ρ1 F1 H1 vx n1 s1 S1 r1 => ?_
  obtain ⟨F2, s2, S2, rx⟩ := rzF_frz S1 r1
  obtain ⟨p, t, ds, ps, hi, h1, h2, h3, h4, n⟩ := n1
  obtain ⟨l, e, _⟩ := S2.geto hi
  exact ⟨_, e, p, ps, toQ_dp S2.le x p vx h1 rx, S2.own_dp hi e (by simp only [toQ, h2]), h3, h4, k _ _ _ _ _ _ n (s1.trans s2) S2 (rzF_f rzb)⟩
theorem ze_neZv {K' : PySem.W.Frag} {n : Nat} (hK : K' = z.K) {c0 : Dt} (h0 : ρ[i]? = some (.o c0)) (h : ZE z tb ρ fun y _ ρ2 => ∃ t ds, ρ2[i]? = some (.o (.lst t ds)) ∧ EqD (n + 1) (.lst t ds) y ∧ N (.bl false) false ρ2) : ZE z (tOp (rNeZZ K' n) (tVar i) tb) ρ N := fun m F H σ Q S k => by
  subst hK
  obtain ⟨l, e, _⟩ := S.geto h0
  refine ⟨_, e, h m F H σ _ S fun y fy ρ2 F2 H2 vy n2 s2 S2 r2 => ?_⟩
  obtain ⟨F3, s3, S3, ry⟩ := rzF_frz S2 r2
  obtain ⟨t, ds, hi, hq, n⟩ := n2
  obtain ⟨l', e', f1, f2, f3, ho, f4, f5⟩ := S3.geto hi
  rw [e] at e'
  cases e'
  have rl := f5.rz f2 f1
  have lel : Le (upd F3 l ho) H2 := fun a o q => by
    by_cases c : a = l
    · subst c
      rw [upd_same] at q
      cases q
      exact .inl f4
    · rw [upd_ne c] at q
      exact S3.le a o q
  exact .inr ⟨hq.dz1 lel S3.le rfl (fun _ _ q => nomatch q) rl ry, fun H' ex nf => k _ _ _ _ _ _ n (s2.trans s3) (S3.ext0 ex nf) (rzF_f rzb)⟩
end
local macro_rules | `(tactic| walk_at "z1") => `(tactic| first | ((with_reducible apply ze_isivT); exact rfl) | (with_reducible apply ze_isiT) | ((with_reducible apply ze_notInDv); exact rfl))
namespace Md
section
variable {z : Cz} {ρ : List Sl} {D : Zn} {t : TS} {i : Nat} {d : Dt}
theorem frzVarM {m : Fm} {F H : Hp} {σ : L2.St} (S : Sm z m F H σ ρ) (h : ρ[i]? = some (.o d)) : ∃ F', Same F F' ∧ Sm z m F' H σ (ρ.set i (.v d)) := by
  have := ze_varo (z := z) (N := fun _ _ ρ' => ρ' = ρ.set i (.v d)) h rfl m F H σ (fun _ H' => ∃ F', Same F F' ∧ Sm z m F' H' σ (ρ.set i (.v d))) S fun d' fr ρ' F' H' v n s S' r => by subst n; exact ⟨F', s, S'⟩
  obtain ⟨v, e', q⟩ := this
  exact q
theorem zt_truM {K' : PySem.W.Frag} (hK : K' = z.K) {s0 : Sl} {t : Bool} {ds : List Dt} {M : Bool → List Sl → Prop} (h0 : ρ[i]? = some s0) (p0 : Pk s0 (.lst t ds)) (q : M (!ds.isEmpty) ρ) : ZT z (tTru K' (tVar i)) ρ M := by
  subst hK
  exact zt_truv h0 p0 q
theorem atI_M {α : Type} {f : α → Dt} {xs : List α} {j : Int} (h0 : 0 ≤ j) (h1 : j < (xs.length : Int)) : ∃ x ∈ xs, atI (xs.map f) j = some (f x) := by
  have hk : j.toNat < xs.length := by omega
  have e : j = ((j.toNat : Nat) : Int) := by omega
  refine ⟨xs[j.toNat], List.getElem_mem hk, ?_⟩
  have q : atI (xs.map f) ((j.toNat : Nat) : Int) = some (f xs[j.toNat]) := atI_k (by rw [List.getElem?_map, List.getElem?_eq_getElem hk]; rfl)
  rw [← e] at q
  exact q
theorem ze_frzM {N : Dt → Bool → List Sl → Prop} {te : TE} (h : ρ[i]? = some (.o d)) (n : ZE z te (ρ.set i (.v d)) N) : ZE z te ρ N := fun m F H σ Q S k => by
  obtain ⟨F', s, S'⟩ := frzVarM S h
  exact n m F' H σ Q S' fun d2 fr ρ' F2 H2 v n2 s2 => k d2 fr ρ' F2 H2 v n2 (s.trans s2)
theorem zs_frzM (h : ρ[i]? = some (.o d)) (n : ZS z t (ρ.set i (.v d)) D) : ZS z t ρ D := fun m F H σ E S kn kr kb kc => by
  obtain ⟨F', s, S'⟩ := frzVarM S h
  exact n m F' H σ E S' (fun ρ' F2 H2 σ2 n2 s2 => kn ρ' F2 H2 σ2 n2 (s.trans s2)) (fun d fr F2 H2 v n2 s2 => kr d fr F2 H2 v n2 (s.trans s2)) (fun ρ' F2 H2 σ2 n2 s2 => kb ρ' F2 H2 σ2 n2 (s.trans s2)) fun ρ' F2 H2 σ2 n2 s2 => kc ρ' F2 H2 σ2 n2 (s.trans s2)
end
section
variable {n : Nat} {P : Program} {w : World} {K : PySem.W.Frag} {mg : Str → Option Value} {base : Heap}
/-! ### copies -/
def wCopy (n : Nat) : Wz := fun ds Nv _ => ∃ a : Rws n, ds = [rowsD false n a] ∧ OkR n a ∧ Nv (rowsD true n a) true
def wCopyP : Nat → Wz
  | 0 => fun _ _ _ => False
  | n + 1 => wCopy n
set_option maxHeartbeats 4000000 in
theorem copy_step (T : Top w K mg) (n : Nat) (ih__law_copy : FnOk P w K mg base CX0 (n + 1) (He.ga K ("_law_copy" : Str)) (fdOf K d__law_copy) ["rows"] (spZ K (wCopyP n))) :
    FnOk P w K mg base CX0 (n + 2) (He.ga K ("_law_copy" : Str)) (fdOf K d__law_copy) ["rows"] (spZ K (wCopyP (n + 1))) := by
  refine (T.f__law_copy).ok sc__law_copy (fun vs H Q E h => spz_len h (n := 1) fun ds Nv Ne hw => ?_) (fun cdv A outer s H vs Q E hr h => ?_)
  · obtain ⟨a, rfl, _⟩ := hw
    rfl
  · refine z_fn h (PSs.nox (pss_cons (ps_set (i := 1) sc__law_copy.nd rfl (Or.inl rfl) (pe_lst pa_nil))
    (pss_cons (ps_lockL (ps_for PassesOwn.never rfl (pi_listK (K := K) rfl (pv 0)) (pg_tup (by rfl) (pgs_cons (pg_name (i := 2) sc__law_copy.nd rfl (Or.inl rfl)) (pgs_cons (pg_name (i := 3) sc__law_copy.nd rfl (Or.inl rfl)) pgs_nil)))
    (pss_cons (ps_if (pt_val (pe_callB (call_isiK' (K := K) rfl) (by rfl) T.n_isinstance (by decide +kernel) (pa_cons (pv 3) (pa_cons (pe_bltn (v := .ty "list") rfl T.n_list (by decide +kernel) rfl) pa_nil))))
    (pss_one (ps_set (i := 3) sc__law_copy.nd rfl (Or.inl rfl) (pe_call ih__law_copy (hr.mono (by omega)) rfl T.g__law_copy T.f__law_copy.kp T.b__law_copy .nil pass0 (pa_cons (pv 3) pa_nil))))
    pss_nil)
    (pss_one (ps_expr (pe_bm PySem.F.plainAttrs_list PySem.F.slot_list_append PySem.F.type_list_append mt_append (pv 1) (pa_cons (pe_tup (pa_cons (pv 2) (pa_cons (pv 3) pa_nil))) pa_nil)))))))
    (pss_one (ps_ret (pv 1)))))) fun ds Nv Ne hw => ?_
    obtain ⟨a, rfl, oa, k⟩ := hw
    have la := oa.1
    walk_at "zz"
    refine zs_forL (zi_list ?_)
    walk_at "zz"
    refine ⟨_, _, rfl, fun i ρ => ∃ p q, ρ = [.v (rowsD false n a), .o (.lst true ((a.take i).map (rowD (loD true n)))), p, q], ⟨.un, .un, rfl⟩, ?_, ?_⟩
    · rintro ρ ⟨p, q, rfl⟩
      refine ⟨trivial, ?_⟩
      dsimp only [bI]
      rw [List.length_map, List.take_length]
      walk_at "zz"
      exact k
    · rintro i d ρ hd ⟨p, q, rfl⟩
      rw [List.getElem?_map] at hd
      cases hr : a[i]? with
      | none => rw [hr] at hd; cases hd
      | some r =>
        rw [hr] at hd
        cases hd
        have et : (a.take (i + 1)).map (rowD (loD true n)) = (a.take i).map (rowD (loD true n)) ++ [rowD (loD true n) r] := by rw [List.take_succ, hr, List.map_append]; rfl
        have rok := oa.2 r (List.mem_of_getElem? hr)
        have hl : ((a.take i).map (rowD (loD true n))).length < 100000 := by rw [List.length_map, List.length_take]; omega
        obtain ⟨x, t | c⟩ := r
        · dsimp only [rowD, chD, treeD]
          refine zg_tup rfl ?_
          walk_at "zz"
          refine ⟨_, _, .tup _, of_decide_eq_true T.x_kit_t_tuple_t_list, ?_⟩
          walk_at "zz"
          exact ⟨hl, _, _, by rw [et]; rfl⟩
        · cases n with
          | zero => exact c.elim
          | succ n =>
            show ZG _ (gTup _ _ _) (.tup [.str x, .lst false (c.map (rowD (loD false n)))]) false _ _
            refine zg_tup rfl ?_
            walk_at "zz"
            refine ⟨_, _, .lst _ _, of_decide_eq_true T.x_kit_t_list_t_list, ?_⟩
            walk_at "zz"
            refine ⟨c, congrArg (fun d => [d]) (rowsD_old n false c), rok.2 c rfl, ?_⟩
            walk_at "zz"
            exact ⟨hl, _, _, by rw [et]; rfl⟩
theorem ok__law_copy (T : Top w K mg) : ∀ n : Nat, FnOk P w K mg base CX0 (n + 1) (He.ga K ("_law_copy" : Str)) (fdOf K d__law_copy) ["rows"] (spZ K (wCopyP n))
  | 0 => ⟨fun _ _ _ _ ⟨_, _, _, _, _, _, h, _⟩ => h.elim, fun _ _ _ _ _ _ _ _ _ _ _ _ _ ⟨_, _, _, _, _, _, h, _⟩ => h.elim⟩
  | n + 1 => copy_step T n (ok__law_copy T n)
/-! ### what the law draws -/
def wNum : Wz := fun ds Nv _ => ds = [.strm] ∧ ∀ n d : Int, Nv (treeD (.num n d)) false
theorem ok__law_num (T : Top w K mg) : FnOk P w K mg base CX0 4 (He.ga K ("_law_num" : Str)) (fdOf K d__law_num) ["stream"] (spZ K wNum) := by
  obtain ⟨ds0, B0⟩ := T.b0_Ratio___init__
  refine (T.f__law_num).ok sc__law_num (fun vs H Q E h => spz_len h (n := 1) fun ds Nv Ne hw => ?_) (fun cdv A outer s H vs Q E hr h => ?_)
  · obtain ⟨rfl, _⟩ := hw
    rfl
  · refine z_fn h (PSs.nox (pss_one (ps_ret (pe_tup (pa_cons pe_str (pa_cons (pe_make (C := He.ga K ("Ratio" : Str)) T.mk_Ratio (ok_Ratio___init__ (K := K) T) (hr.mono (by decide)) rfl T.g_Ratio (B0.2) (B0.1) passL (pa_cons (pe_call (ok__law_draw (K := K) T) (hr.mono (by decide)) rfl T.g__law_draw T.f__law_draw.kp T.b__law_draw .nil pass0 (pa_cons (pv 0) (pa_cons pe_int pa_nil))) pa_nil)) pa_nil)))))) fun ds Nv Ne hw => ?_
    obtain ⟨rfl, k⟩ := hw
    walk_at "zz"
    intro v a0 a1
    walk_at "zz"
    refine ⟨v, 1, .inr ⟨rfl, rfl⟩, by decide, Bits.small (Nat.lt_of_le_of_lt (sgc_abs (by decide)) (by decide)) (by decide), ?_⟩
    walk_at "zz"
    exact k (pn v 1) (pd v 1)
abbrev namesD : Dt := .lst false (NM.map .str)
abbrev kbD (p : Str × Bool) : Dt := .tup [.str p.1, .bl p.2]
def kbP (p : Str × Bool) : PyData := .tuple [.str p.1, .bool p.2]
theorem kb_toQ : ∀ ks : List (Str × Bool), toQs (ks.map kbD) = some (ks.map kbP)
  | [] => rfl
  | k :: ks => by rw [List.map_cons, toQs, kb_toQ ks]; rfl
theorem kb_shaped {k : Str × Bool} (h : PyData.strOk k.1 = true) : SeqAt.shaped (kbP k) = true := by
  simp [SeqAt.shaped, kbP, PyData.canLay0, PyData.canLayAll0, PyData.depth, PyData.depthAll, h]
theorem kbs_can : ∀ {ks : List (Str × Bool)}, (∀ k ∈ ks, PyData.strOk k.1 = true) → PyData.canLayAll0 (ks.map kbP) = true
  | [], _ => rfl
  | k :: ks, h => by
    have h1 := kb_shaped (h k List.mem_cons_self)
    unfold SeqAt.shaped at h1
    rw [List.map_cons, PyData.canLayAll0, (Bool.and_eq_true_iff.mp h1).1, kbs_can fun x hx => h x (List.mem_cons_of_mem _ hx)]
    rfl
theorem kbs_shaped {ks : List (Str × Bool)} (h : ∀ k ∈ ks, PyData.strOk k.1 = true) : SeqAt.shaped (.list (ks.map kbP)) = true := by
  unfold SeqAt.shaped
  rw [Bool.and_eq_true_iff]
  refine ⟨by rw [PyData.canLay0]; exact kbs_can h, ?_⟩
  have : PyData.depthAll (ks.map kbP) ≤ 3 := by
    clear h
    induction ks with
    | nil => decide
    | cons k ks ih =>
      have h2 : PyData.depth (kbP k) ≤ 3 := by simp [kbP, PyData.depth, PyData.depthAll]
      rw [List.map_cons, PyData.depthAll]
      omega
  rw [decide_eq_true_iff, PyData.depth]
  omega
theorem nm_ok : ∀ x ∈ NM, PyData.strOk x = true := by decide +kernel
def wMod (n : Nat) : Wz := fun ds Nv _ => ds = [.strm, namesD, .int n] ∧ ∀ c : Rws n, OkR n c → Nv (rowsD true n c) true
def wModP : Nat → Wz
  | 0 => fun _ _ _ => False
  | n + 1 => wMod n
set_option maxHeartbeats 4000000 in
theorem mod_step (T : Top w K mg) (n : Nat) (ih__law_modifications : FnOk P w K mg base CX0 (n + 5) (He.ga K ("_law_modifications" : Str)) (fdOf K d__law_modifications) ["stream", "names", "deep"] (spZ K (wModP n))) :
    FnOk P w K mg base CX0 (n + 6) (He.ga K ("_law_modifications" : Str)) (fdOf K d__law_modifications) ["stream", "names", "deep"] (spZ K (wModP (n + 1))) := by
  refine (T.f__law_modifications).ok sc__law_modifications (fun vs H Q E h => spz_len h (n := 3) fun ds Nv Ne hw => ?_) (fun cdv A outer s H vs Q E hr h => ?_)
  · obtain ⟨rfl, _⟩ := hw
    rfl
  · refine z_fn h (PSs.nox (pss_cons (ps_set (i := 3) sc__law_modifications.nd rfl (Or.inl rfl) (pe_lst pa_nil))
    (pss_cons (ps_set (i := 4) sc__law_modifications.nd rfl (Or.inl rfl) (pe_lst pa_nil))
    (pss_cons (ps_lockL (ps_for PassesOwn.never rfl (pi_range1 rfl T.n_range (pa_cons (pe_call (ok__law_draw (K := K) T) (hr.mono (by omega)) rfl T.g__law_draw T.f__law_draw.kp T.b__law_draw .nil pass0 (pa_cons (pv 0) (pa_cons pe_int pa_nil))) pa_nil)) (pg_name (i := 5) sc__law_modifications.nd rfl (Or.inl rfl))
    (pss_cons (ps_set (i := 6) sc__law_modifications.nd rfl (Or.inl rfl) (pe_ix (ix_listK (K := K) rfl) (pv 1) (pe_call (ok__law_draw (K := K) T) (hr.mono (by omega)) rfl T.g__law_draw T.f__law_draw.kp T.b__law_draw .nil pass0 (pa_cons (pv 0) (pa_cons (pe_callB (call_lenZ (K := K) rfl) (by rfl) T.n_len PySem.boot_len (pa_cons (pv 1) pa_nil)) pa_nil))) (fun _ _ => rfl)))
    (pss_cons (ps_set (i := 7) sc__law_modifications.nd rfl (Or.inl rfl) (pe_call (ok__law_num (K := K) T) (hr.mono (by omega)) rfl T.g__law_num T.f__law_num.kp T.b__law_num .nil pass0 (pa_cons (pv 0) pa_nil)))
    (C8.pss_cut (ps_if (PW.pt (pw_and (pt_cmpR op_gt (pv 2) pe_int (nomark _)) (pw_and1 (pt_cmpR op_eq (pe_call (ok__law_draw (K := K) T) (hr.mono (by omega)) rfl T.g__law_draw T.f__law_draw.kp T.b__law_draw .nil pass0 (pa_cons (pv 0) (pa_cons pe_int pa_nil))) pe_int (nomark _)))))
    (pss_cons (ps_set (i := 7) sc__law_modifications.nd rfl (Or.inl rfl) (pe_call ih__law_modifications (hr.mono (by omega)) rfl T.g__law_modifications T.f__law_modifications.kp T.b__law_modifications .nil pass0 (pa_cons (pv 0) (pa_cons (pv 1) (pa_cons (pe_op op_sub (pv 2) pe_int) pa_nil)))))
    (pss_one (ps_if (pt_not (pt_truth (pv 7) (by intro _; rfl)))
    (pss_one (ps_set (i := 7) sc__law_modifications.nd rfl (Or.inl rfl) (pe_lst (pa_cons (pe_tup (pa_cons (pe_ix (ix_listK (K := K) rfl) (pv 1) pe_int (fun _ _ => rfl)) (pa_cons (pe_call (ok__law_num (K := K) T) (hr.mono (by omega)) rfl T.g__law_num T.f__law_num.kp T.b__law_num .nil pass0 (pa_cons (pv 0) pa_nil)) pa_nil))) pa_nil))))
    pss_nil)))
    pss_nil)
    (pss_cons (ps_set (i := 8) sc__law_modifications.nd rfl (Or.inl rfl) (pe_tup (pa_cons (pv 6) (pa_cons (pe_callB (call_isiK' (K := K) rfl) (by rfl) T.n_isinstance (by decide +kernel) (pa_cons (pv 7) (pa_cons (pe_bltn (v := .ty "list") rfl T.n_list (by decide +kernel) rfl) pa_nil))) pa_nil))))
    (pss_one (ps_if (pt_cmpR (op_notInDK (K := K) rfl (Room.units2 hr)) (pv 8) (pv 4) (by rfl))
    (pss_cons (ps_expr (pe_bm PySem.F.plainAttrs_list PySem.F.slot_list_append PySem.F.type_list_append mt_append (pv 4) (pa_cons (pv 8) pa_nil)))
    (pss_one (ps_expr (pe_bm PySem.F.plainAttrs_list PySem.F.slot_list_append PySem.F.type_list_append mt_append (pv 3) (pa_cons (pe_tup (pa_cons (pv 6) (pa_cons (pv 7) pa_nil))) pa_nil)))))
    pss_nil))))))))
    (pss_one (ps_ret (pv 3))))))) fun ds Nv Ne hw => ?_
    obtain ⟨rfl, k⟩ := hw
    walk_at "zz"
    refine zs_forL (zi_range1 ?_)
    walk_at "zz"
    intro v a0 a1
    walk_at "zz"
    refine ⟨by omega, by omega, fun i ρ => ∃ (c : Rws n) (ks : List (Str × Bool)) (p5 p6 p7 p8 : Sl), ρ = [.v .strm, .v namesD, .v (.int n), .o (.lst true (c.map (rowD (loD true n)))), .o (.lst true (ks.map kbD)), p5, p6, p7, p8] ∧ (∀ r ∈ c, OkW n r) ∧ c.length ≤ i ∧ ks.length ≤ i ∧ ∀ p ∈ ks, p.1 ∈ NM,
      ⟨[], [], .un, .un, .un, .un, rfl, (fun r hr => nomatch hr), Nat.le_refl _, Nat.le_refl _, fun r hr => nomatch hr⟩, ?_, ?_⟩
    · rintro ρ ⟨c, ks, p5, p6, p7, p8, rfl, hc, l1, l2, hk⟩
      refine ⟨trivial, ?_⟩
      dsimp only [bI]
      rw [List.length_map, List.length_range] at l1
      walk_at "zz"
      exact k c ⟨by omega, hc⟩
    · rintro i d ρ hd ⟨c, ks, p5, p6, p7, p8, rfl, hc, l1, l2, hk⟩
      have hi : i < 4 := by
        have q := (List.getElem?_eq_some_iff.mp hd).1
        rw [List.length_map, List.length_range] at q
        omega
      walk_at "zz"
      intro u b0 b1
      obtain ⟨x, hx, ex⟩ := atI_M (f := Dt.str) (xs := NM) b0 (by rw [List.length_map] at b1; exact b1)
      refine ⟨_, _, _, _, _, rfl, .inl rfl, rfl, ex, ?_⟩
      walk_at "zz"
      refine ⟨rfl, fun tn td => ?_⟩
      generalize Rt.num tn td = t0
      walk_at "zz"
      refine zs_cut (fun ρ => ∃ (ch : Rt ⊕ Lo n) (s : Sl), ρ = [.v .strm, .v namesD, .v (.int n), .o (.lst true (c.map (rowD (loD true n)))), .o (.lst true (ks.map kbD)), .v d, .v (.str x), s, p8] ∧ (∀ l, ch = .inr l → OkL n l) ∧ (s = .v (chD (loD true n) ch) ∨ s = .o (chD (loD true n) ch))) ?_ ?_
      · walk_at "zz"
        refine zD (fun c1 => ?_) (fun c1 => ?_)
        · obtain ⟨n, rfl⟩ : ∃ m, n = m + 1 := ⟨n - 1, by omega⟩
          walk_at "zz"
          intro u2 d0 d1
          walk_at "zz"
          refine zD (fun c2 => ?_) (fun c2 => ?_)
          · walk_at "zz"
            have ed : ((n + 1 : Nat) : Int) - 1 = (n : Int) := by omega
            refine ⟨by rw [ed]; rfl, fun ch okch => ?_⟩
            walk_at "zz"
            refine zt_truM rfl rfl (.inr (.inl rfl)) ?_
            cases ch with
            | nil =>
              refine zT rfl ?_
              walk_at "zz"
              refine ⟨_, _, _, 0, _, rfl, .inl rfl, rfl, atI_k (k := 0) rfl, ?_⟩
              walk_at "zz"
              refine ⟨rfl, fun un ud => ?_⟩
              generalize Rt.num un ud = t1
              walk_at "zz"
              refine ⟨.inr [("start", .inl t1)], _, rfl, fun l e => ?_, .inr rfl⟩
              cases e
              refine ⟨Nat.le_of_ble_eq_true rfl, fun r hr => ?_⟩
              rw [List.mem_singleton.mp hr]
              have hs : ("start" : Str) ∈ NM := by decide +kernel
              exact ⟨hs, fun l e => nomatch e⟩
            | cons r ch =>
              refine zF Bool.false_ne_true ?_
              walk_at "zz"
              exact ⟨.inr (r :: ch), _, rfl, (fun l e => by cases e; exact okch), .inr rfl⟩
          · walk_at "zz"
            exact ⟨.inl t0, _, rfl, (fun l e => nomatch e), .inl rfl⟩
        · refine zF Bool.false_ne_true ?_
          walk_at "zz"
          exact ⟨.inl t0, _, rfl, (fun l e => nomatch e), .inl rfl⟩
      · rintro ρ1 ⟨ch, s, rfl, hok, hs⟩
        have ty : ∃ t b, TyD K (chD (loD true n) ch) t ∧ PySem.W.kitOne K t (.type "list") = some b := by
          cases ch with
          | inl t => exact ⟨_, _, .tup _, of_decide_eq_true T.x_kit_t_tuple_t_list⟩
          | inr l =>
            cases n with
            | zero => exact l.elim
            | succ n => exact ⟨_, _, .lst _ _, of_decide_eq_true T.x_kit_t_list_t_list⟩
        obtain ⟨ty, b, ty1, ty2⟩ := ty
        obtain ⟨ex0, ex1⟩ : PyData.strOk x = true ∧ ∀ q ∈ ks, PyData.strOk q.1 = true := ⟨nm_ok x hx, fun q hq => nm_ok _ (hk q hq)⟩
        rcases hs with rfl | rfl
        all_goals try refine zs_frzM (i := 7) (d := chD (loD true n) ch) rfl ?_
        all_goals
          walk_at "zz"
          refine ⟨ty, b, ty1, ty2, ?_⟩
          walk_at "zz"
          refine ⟨kbP (x, b), true, ks.map kbD, ks.map kbP, rfl, rfl, kb_toQ ks, kb_shaped ex0, kbs_shaped ex1, ?_⟩
          walk_at "zz"
          refine zB (fun hn => ?_) (fun hn => ?_)
          · walk_at "zz"
            refine ⟨by rw [List.length_map]; omega, ?_⟩
            walk_at "zz"
            refine ⟨by rw [List.length_map]; omega, ?_⟩
            refine ⟨c ++ [(x, ch)], ks ++ [(x, b)], _, _, _, _, by rw [List.map_append, List.map_append]; rfl, fun r hr => ?_, by rw [List.length_append]; exact Nat.succ_le_succ l1, by rw [List.length_append]; exact Nat.succ_le_succ l2, fun q hq => ?_⟩
            · rcases List.mem_append.mp hr with hr | hr
              · exact hc r hr
              · rw [List.mem_singleton.mp hr]
                exact ⟨hx, hok⟩
            · rcases List.mem_append.mp hq with hq | hq
              · exact hk q hq
              · rw [List.mem_singleton.mp hq]
                exact hx
          · walk_at "zz"
            exact ⟨c, ks, _, _, _, _, rfl, hc, by omega, by omega, hk⟩
theorem ok__law_modifications (T : Top w K mg) : ∀ n : Nat, FnOk P w K mg base CX0 (n + 5) (He.ga K ("_law_modifications" : Str)) (fdOf K d__law_modifications) ["stream", "names", "deep"] (spZ K (wModP n))
  | 0 => ⟨fun _ _ _ _ ⟨_, _, _, _, _, _, h, _⟩ => h.elim, fun _ _ _ _ _ _ _ _ _ _ _ _ _ ⟨_, _, _, _, _, _, h, _⟩ => h.elim⟩
  | n + 1 => mod_step T n (ok__law_modifications T n)
end
end Md
/-! ### for x in f(..): if isinstance(x[1], list): x[1].append(k): what f has made is changed, and never looked at again -/
namespace Md
def AppOk (e : Dt) : Prop := ∃ x, (∃ t, e = .tup [.str x, .tup t]) ∨ ∃ es, e = .tup [.str x, .lst true es] ∧ es.length ≤ 10000
def vOn (ρ : List Sl) : Prop := ∀ (k : Nat) (s : Sl), ρ[k]? = some s → s = .un ∨ ∃ d, s = .v d
/-- at the i-th turn: an inner list may have grown -/
structure Grow (H1 F2 H' : Hp) (a : Addr) (xs : List V) (i : Nat) : Prop where
  out : H' a = some (.lst xs)
  tup : ∀ b ys, F2 b = some (.tup ys) → H' b = some (.tup ys)
  lst : ∀ l ys, F2 l = some (.lst ys) → H1 l = none → ∃ ys', H' l = some (.lst ys') ∧ ys'.length ≤ ys.length + i
section
variable {z : Cz} {ρ : List Sl} {N : Zn} {m : Fm} {F1 F2 H1 H2 H' : Hp} {σ : L2.St}
theorem sm_app (S : Sm z m F1 H' σ ρ) (vo : vOn ρ) {l : Addr} {o : HO} (fl : F1 l = none) (jl : m.J l = none) (no : isFz o = false) : Sm z m F1 (upd H' l o) σ ρ := by
  have ne : ∀ {c : Addr} {o : HO} {G : Hp}, G l = none → G c = some o → c ≠ l := fun {c o G} e q z => by rw [z, e] at q; cases q
  have C : Sc z m F1 (upd H' l o) := ⟨fun c u q => by
      have n := ne fl q
      rw [upd_ne n]
      exact S.lk c u q, fun c u q => by
      rw [upd_ne (ne jl q)]
      exact S.base c u q, S.fr, fun c q => by
      by_cases n : c = l
      · rw [n, upd_same] at q; cases q
      · rw [upd_ne n] at q; exact S.dom c q, S.bj, S.er, S.hid, fun c ob u q => by
      by_cases n : c = l
      · rw [n, upd_same] at q
        cases q
        cases no
      · rw [upd_ne n] at q; exact S.fj c ob u q⟩
  refine { C with len := S.len, slot := fun k s ov a b => ?_, sep := fun k k' d e l' a b _ _ => ?_, psep := fun k k' q d e a b => ?_ }
  · have q := S.slot k s ov a b
    rcases vo k s a with rfl | ⟨d, rfl⟩
    · trivial
    · exact q
  · rcases vo k _ a with h | ⟨_, h⟩ <;> cases h
  · rcases vo k _ a with h | ⟨_, h⟩ <;> cases h
theorem sm_down (S1 : Sm z m F1 H1 σ ρ) (S2 : Sm z m F2 H2 σ ρ) (s : Same F1 F2) (vo : vOn ρ) : Sm z m F1 H2 σ ρ := by
  have C : Sc z m F1 H2 := ⟨fun c o q => S2.lk c o (s _ _ q), S2.base, S1.fr, S2.dom, S1.bj, S1.er, S1.hid, S2.fj⟩
  refine { C with len := S1.len, slot := fun k s ov a b => ?_, sep := fun k k' d e l' a b _ _ => ?_, psep := fun k k' q d e a b => ?_ }
  · have q := S1.slot k s ov a b
    rcases vo k s a with rfl | ⟨d, rfl⟩
    · trivial
    · exact q
  · rcases vo k _ a with h | ⟨_, h⟩ <;> cases h
  · rcases vo k _ a with h | ⟨_, h⟩ <;> cases h
theorem sm_un (S : Sm z m F1 H' σ ρ) (vo : vOn ρ) {i : Nat} (v : Option V) : Sm z m F1 H' (σ.set i v) (ρ.set i .un) := by
  have vo2 : vOn (ρ.set i .un) := fun k s q => by
    by_cases c : i = k
    · subst c
      by_cases hi : i < ρ.length
      · rw [List.getElem?_set_self hi] at q
        exact .inl (Option.some.inj q).symm
      · rw [List.getElem?_eq_none (by rw [List.length_set]; omega)] at q
        cases q
    · rw [List.getElem?_set_ne c] at q
      exact vo k s q
  have C : Sc z m F1 H' := S.toSc
  refine { C with len := by rw [List.length_set, List.length_set]; exact S.len, slot := fun k s ov a b => ?_, sep := fun k k' d e l' a b _ _ => ?_, psep := fun k k' q d e a b => ?_ }
  · by_cases c : i = k
    · subst c
      by_cases hi : i < ρ.length
      · rw [List.getElem?_set_self hi] at a
        cases a
        trivial
      · rw [List.getElem?_eq_none (by rw [List.length_set]; omega)] at a
        cases a
    · rw [List.getElem?_set_ne c] at a b
      exact S.slot k s ov a b
  · rcases vo2 k _ a with h | ⟨_, h⟩ <;> cases h
  · rcases vo2 k _ a with h | ⟨_, h⟩ <;> cases h
theorem vOn_un (vo : vOn ρ) (i : Nat) : vOn (ρ.set i .un) := fun k s q => by
  by_cases c : i = k
  · subst c
    by_cases hi : i < ρ.length
    · rw [List.getElem?_set_self hi] at q
      exact .inl (Option.some.inj q).symm
    · rw [List.getElem?_eq_none (by rw [List.length_set]; omega)] at q
      cases q
  · rw [List.getElem?_set_ne c] at q
    exact vo k s q
theorem un_un (i : Nat) : (ρ.set i .un).set i .un = ρ.set i .un := by rw [List.set_set]
theorem zs_forApp {w : Wz} {E : XK} {t : TA} {i : Nat} {j : Int} {K1 K3 K4 K5 : PySem.W.Frag} (kt : PySem.W.kitOne z.K (.type "tuple") (.type "list") = some false) (kl : PySem.W.kitOne z.K (.type "list") (.type "list") = some true)
    (h : ZA z t ρ fun ds ρ1 => vOn ρ1 ∧ i < ρ1.length ∧ w (Dt.olds ds) (fun d fr => ∃ es, fr = true ∧ d = .lst true es ∧ (∀ e ∈ es, AppOk e) ∧ es.length ≤ 10000 ∧ N.nx (ρ1.set i .un)) fun _ _ => False) :
    ZS z (tLockL (tFor (iList K1 (tCall (spZ z.K w) [] E t)) (gName i) (tIfS (tB (tCB (rIsi z.K) (tCons (tOp (rIxT K3) (tVar i) (tC (.int 1))) (tCons (tC (.ty "list")) tNil)))) (tDrop (tBM K4 "list" rAppend (tOp (rIxT K5) (tVar i) (tC (.int 1))) (tCons (tC (.int j)) tNil))) tNext))) ρ N := fun m F H σ D S kn kr kb kc => by
  refine h m F H σ _ S fun ds ρ1 F1 H1 vs n1 s1 S1 r1 => ?_
  obtain ⟨vo, hi, hw⟩ := n1
  rw [List.append_nil]
  refine ⟨F1, Dt.olds ds, _, _, S1.le, rzl_old _ _ r1, hw, fun d fr F2 H2 v nd g => ?_, fun _ _ _ _ f => f.elim⟩
  obtain ⟨es, rfl, rfl, hes, hle, hN⟩ := nd
  obtain ⟨S2, _⟩ := S1.got g
  have sF := g.1
  have raw := g.2.2.2.2.2
  rw [if_pos rfl] at raw
  obtain ⟨a, rfl, fa, ha, ho, h4, h5⟩ := raw
  cases h5 with
  | @lst xs _ rx =>
    have S3 : Sm z m F1 H2 σ (ρ1.set i .un) := by
      have q := sm_un (sm_down S1 S2 sF vo) vo (i := i) (σ[i]?.join)
      have e : σ.set i (σ[i]?.join) = σ := by
        apply List.ext_getElem?
        intro k
        by_cases c : i = k
        · subst c
          have hl : i < σ.length := by rw [S1.len]; exact hi
          rw [List.getElem?_set_self hl, List.getElem?_eq_getElem hl]
          rfl
        · rw [List.getElem?_set_ne c]
      rw [e] at q
      exact q
    have vo2 := vOn_un vo i
    refine ⟨a, rfl, ⟨xs, SqL.of h4⟩, ?_⟩
    refine for_it (walk_list (K := K1) (a := a) (xs := xs)) (D := ⟨unlN H D.nx, unlV H D.rt, unlN H D.bk, unlN H D.ct⟩) (fun k σ' H' => Sm z m F1 H' σ' (ρ1.set i .un) ∧ Grow H1 F2 H' a xs k)
      ⟨S3, h4, fun b ys q => S2.le.exact q rfl, fun l ys q _ => ⟨ys, S2.le.exact q rfl, Nat.le_refl _⟩⟩ (fun k σ' H' _ q => SqL.of q.2.out) ?_ fun σ' H' q => .inl (kn _ _ _ _ hN s1 q.1)
    rintro k x σ' H' H'' hk ⟨S4, G⟩ y
    obtain ⟨rfl, y⟩ := y
    have hk2 : k < es.length := by rw [← rx.len]; exact hk
    have he : es[k]? = some es[k] := List.getElem?_eq_getElem hk2
    obtain ⟨v, e2, r2⟩ := rx.at_ he
    rw [y] at e2
    cases e2
    obtain ⟨x0, hx0⟩ := hes _ (List.mem_of_getElem? he)
    generalize es[k] = e at r2 hx0
    have S5 : Sm z m F1 H'' (σ'.set i (some x)) (ρ1.set i .un) := by
      have q := sm_un S4 vo2 (i := i) (some x)
      rw [un_un] at q
      exact q
    have hσ : (σ'.set i (some x))[i]? = some (some x) := List.getElem?_set_self (by rw [S4.len, List.length_set]; exact hi)
    show tIfS _ _ _ _ (σ'.set i (some x)) H''
    rcases hx0 with ⟨t, rfl⟩ | ⟨es', rfl, hl⟩
    · simp only [Rz] at r2
      obtain ⟨b, ys, rfl, eb, r2⟩ := r2
      obtain ⟨v1, r, rfl, q1, r2⟩ := r2.inv
      obtain ⟨v2, r, rfl, q2, r2⟩ := r2.inv
      obtain rfl := r2.inv0
      simp only [Rz] at q2
      obtain ⟨q, zs, rfl, eq, _⟩ := q2
      refine ⟨_, hσ, b, [v1, .ref q], 1, .ref q, rfl, rfl, SqT.of (G.tup _ _ eb), atI_k (k := 1) rfl, .ref q, .ty "list", .type "tuple", .type "list", false, rfl, .ty "list", .base (.tup (G.tup _ _ eq)), kt, false, rfl, ?_⟩
      show (if (false = true) then _ else _)
      rw [if_neg (by decide)]
      exact ⟨S5, G.out, G.tup, fun l ys e1 e2 => (G.lst l ys e1 e2).elim fun ys' p => ⟨ys', p.1, by omega⟩⟩
    · simp only [Rz] at r2
      obtain ⟨b, ys, rfl, eb, r2⟩ := r2
      obtain ⟨v1, r, rfl, q1, r2⟩ := r2.inv
      obtain ⟨v2, r, rfl, q2, r2⟩ := r2.inv
      obtain rfl := r2.inv0
      simp only [Rz] at q2
      obtain ⟨q, zs, rfl, eq, hnew, rz⟩ := q2
      have hq1 : H1 q = none := hnew trivial
      obtain ⟨ys', hL, hlen⟩ := G.lst q zs eq hq1
      have hzl : zs.length ≤ 10000 := by rw [rz.len]; exact hl
      have hTb := G.tup _ _ eb
      refine ⟨_, hσ, b, [v1, .ref q], 1, .ref q, rfl, rfl, SqT.of hTb, atI_k (k := 1) rfl, .ref q, .ty "list", .type "list", .type "list", true, rfl, .ty "list", .base (.lst hL), kl, true, rfl, ?_⟩
      show (if (true = true) then _ else _)
      rw [if_pos rfl]
      refine ⟨_, hσ, b, [v1, .ref q], 1, .ref q, rfl, rfl, SqT.of hTb, atI_k (k := 1) rfl, .inl ⟨rfl, ys', SqL.of hL⟩, q, ys', .int j, rfl, rfl, hL, by rw [sizeLine_eq]; omega, ?_⟩
      have fq : F1 q = none := S1.le.free hq1
      have jq : m.J q = none := S1.j_none hq1
      refine ⟨sm_app S5 vo2 fq jq rfl, ?_, fun c us e => ?_, fun l us e1 e2 => ?_⟩
      · rw [upd_ne (fun z => by rw [z, eq] at fa; cases fa)]
        exact G.out
      · rw [upd_ne (fun z => by rw [z, eq] at e; cases e)]
        exact G.tup c us e
      · obtain ⟨us', p1, p2⟩ := G.lst l us e1 e2
        by_cases c : l = q
        · subst c
          rw [hL] at p1
          cases p1
          exact ⟨_, upd_same, by rw [List.length_append]; exact Nat.succ_le_succ p2⟩
        · exact ⟨us', by rw [upd_ne c]; exact p1, by omega⟩
end
end Md
namespace Md
section
variable {P : Program} {w : World} {K : PySem.W.Frag} {mg : Str → Option Value} {base : Heap}
/-- from where the stream is made -/
theorem z_restM {K : PySem.W.Frag} {E : XK} {t : TS} {N : List Str} {ds : List Dt} {vs : List V} {H : Hp} {D : Ends} (r : Rzl K H H ds vs)
    (go : ZS ⟨K, E, fun _ _ => False⟩ t (slots N ds) ⟨fun _ => False, fun d fr => d = .bl true ∧ fr = false, fun _ => False, fun _ => False⟩) (k : ∀ H', D.rt (.bl true) H') : t D (L2.start N vs) H :=
  go (fmE H H) H H _ D (Sm.start (Le.refl H) r fun _ _ _ _ f => f.elim) (fun _ _ _ _ f => f.elim) (fun d fr F' H' v n s R => by
    obtain ⟨rfl, rfl⟩ := n
    obtain ⟨_, r⟩ := R
    rw [if_neg (by decide)] at r
    rw [rz_b r]
    exact k _) (fun _ _ _ _ f => f.elim) fun _ _ _ _ f => f.elim
def vOb (ρ : List Sl) : Bool := ρ.all fun s => match s with
  | .un => true
  | .v _ => true
  | _ => false
theorem vOn_of {ρ : List Sl} (h : vOb ρ = true) : vOn ρ := fun k s q => by
  have := List.all_eq_true.mp h s (List.mem_of_getElem? q)
  cases s with
  | un => exact .inl rfl
  | v d => exact .inr ⟨d, rfl⟩
  | o d => cases this
  | l a d => cases this
theorem app_ok {c : Rws 2} (h : OkR 2 c) : ∀ e ∈ c.map (rowD (loD true 2)), AppOk e := fun e he => by
  obtain ⟨r, hr, rfl⟩ := List.mem_map.mp he
  have q := (h.2 r hr).2
  obtain ⟨x, t | l⟩ := r
  · exact ⟨x, .inl ⟨_, rfl⟩⟩
  · refine ⟨x, .inr ⟨_, rfl, ?_⟩⟩
    have q2 := (q l rfl).1
    exact Nat.le_trans (Nat.le_of_eq (List.length_map (as := (show Rws 1 from l)) (rowD (loD true 1)))) (Nat.le_trans q2 (by decide))
theorem zs_atM {z : Cz} {t : TS} {ρ ρ' : List Sl} {D : Zn} (e : ρ = ρ') (h : ZS z t ρ' D) : ZS z t ρ D := e ▸ h
theorem olds2M (a b : Rws 2) (s t : Bool) : Dt.olds [rowsD s 2 a, rowsD t 2 b] = [rowsD false 2 a, rowsD false 2 b] := by
  show [(rowsD s 2 a).old, (rowsD t 2 b).old] = _
  rw [rowsD_old, rowsD_old]
theorem olds2N (b : Rws 2) (s t : Bool) : Dt.olds [.lst s [], rowsD t 2 b] = [rowsD false 2 [], rowsD false 2 b] := olds2M [] b s t
theorem olds2P (b : Rws 2) (s t : Bool) : Dt.olds [rowsD t 2 b, .lst s []] = [rowsD false 2 b, rowsD false 2 []] := olds2M b [] t s
theorem eqd_lo : ∀ (n m : Nat) (b b' : Bool) (c : Lo n), 2 * n + 1 ≤ m → EqD m (loD b n c) (loD b' n c)
  | 0, _, _, _, c, _ => c.elim
  | n + 1, m, b, b', (c : Rws n), h => by
    obtain ⟨m, rfl⟩ : ∃ k, m = k + 2 := ⟨m - 2, by omega⟩
    show EqD (m + 2) (.lst b (c.map (rowD (loD b n)))) (.lst b' (c.map (rowD (loD b' n))))
    refine .lst ?_
    induction c with
    | nil => exact .nil
    | cons r c ih =>
      rw [List.map_cons, List.map_cons]
      refine .cons ?_ ih
      obtain ⟨x, t | l⟩ := r
      · obtain ⟨m, rfl⟩ : ∃ k, m = k + 1 := ⟨m - 1, by omega⟩
        have q : EqDs m (trL t) (trL t) := by
          cases t with
          | num n d => exact .cons (.flat rfl) (.cons (.rat _ _) .nil)
          | truth b => exact .cons (.flat rfl) (.cons (.flat rfl) .nil)
        exact .tup (.cons (.flat rfl) (.cons (.tup q) .nil))
      · exact .tup (.cons (.flat rfl) (.cons (eqd_lo n m b b' l (by omega)) .nil))
theorem eqd_rows (n m : Nat) (b b' : Bool) (c : Rws n) (h : 2 * n + 3 ≤ m) : EqD m (rowsD b n c) (rowsD b' n c) := eqd_lo (n + 1) m b b' c (by omega)
end
end Md
section
open Md
variable {P : Program} {w : World} {K : PySem.W.Frag} {mg : Str → Option Value} {base : Heap}
def spLaw (K : PySem.W.Frag) : Sp := fun vs H Q _ => ∃ (a : Addr) (ns : List Int), vs = [.ref a] ∧ SqL K H a (ns.map V.int) ∧ ns.length ≤ 63 ∧ ∀ H', Q (.bl true) H'
set_option maxHeartbeats 8000000 in
theorem ok_law (T : Top w K mg) : FnOk P w K mg base CX0 60 (He.ga K ("law" : Str)) (fdOf K d_law) ["script"] (spLaw K) := by
  have ih__law_modifications := ok__law_modifications (P := P) (w := w) (base := base) T 3
  have ih__law_copy := ok__law_copy (P := P) (w := w) (base := base) T 3
  have ih__law_put := ok__law_put (P := P) (w := w) (base := base) T 3
  have ih_put_over := ok_put_over (P := P) (w := w) (base := base) T 3
  refine (T.f_law).ok sc_law (fun vs H Q E h => ?_) (fun cdv A outer s H vs Q E hr h => ?_)
  · obtain ⟨a, ns, rfl, _⟩ := h
    rfl
  · obtain ⟨sa, ns, rfl, hS, h63, k⟩ := h
    refine ⟨_, PSs.nox (pss_cons (ps_set (i := 1) sc_law.nd rfl (Or.inr rfl) (pe_call (ok__law_stream (K := K) T) (hr.mono (by omega)) rfl T.g__law_stream T.f__law_stream.kp T.b__law_stream .nil pass0 (pa_cons (pv 0) pa_nil)))
    (pss_cons (ps_set (i := 2) sc_law.nd rfl (Or.inr rfl) (pe_lst (pa_cons pe_str (pa_cons pe_str (pa_cons pe_str (pa_cons pe_str pa_nil))))))
    (pss_cons (ps_lockL (ps_setLc (i := 3) (own := [(("k" : Str), 4)]) (g := (gName 4)) (tt := tYes) rfl sc_law.nd rfl rfl (by rfl) (pi_range1 rfl T.n_range (pa_cons pe_int pa_nil)) (blkOk_by (N := ["script", "stream", "names", "rows", "k", "given", "row", "due", "actual", "one", "two", "pair"]) (sc := defScope s_law) (by decide +kernel)) (fun _ _ _ _ _ => (pg_name (i := 4) sc_law.nd rfl (Or.inl rfl))) (fun _ _ _ _ _ => pts_nil) (fun _ _ _ _ _ => (pe_call ih__law_modifications (hr.mono (by omega)) rfl T.g__law_modifications T.f__law_modifications.kp T.b__law_modifications .nil pass0 (pa_cons (pv 1) (pa_cons (pv 2) (pa_cons pe_int pa_nil)))))))
    (pss_cons (ps_lockL (ps_setLc (i := 5) (own := [(("row" : Str), 6)]) (g := (gName 6)) (tt := tYes) rfl sc_law.nd rfl rfl (by rfl) (pi_listK (K := K) rfl (pv 3)) (blkOk_by (N := ["script", "stream", "names", "rows", "k", "given", "row", "due", "actual", "one", "two", "pair"]) (sc := defScope s_law) (by decide +kernel)) (fun _ _ _ _ _ => (pg_name (i := 6) sc_law.nd rfl (Or.inl rfl))) (fun _ _ _ _ _ => pts_nil) (fun _ _ _ _ _ => (pe_call ih__law_copy (hr.mono (by omega)) rfl T.g__law_copy T.f__law_copy.kp T.b__law_copy .nil pass0 (pa_cons (pv 6) pa_nil)))))
    (pss_cons (ps_set (i := 7) sc_law.nd rfl (Or.inl rfl) (pe_call ih__law_put (hr.mono (by omega)) rfl T.g__law_put T.f__law_put.kp T.b__law_put .nil pass0 (pa_cons (pe_ix (ix_listK (K := K) rfl) (pv 3) pe_int (fun _ _ => rfl)) (pa_cons (pe_ix (ix_listK (K := K) rfl) (pv 3) pe_int (fun _ _ => rfl)) pa_nil))))
    (pss_cons (ps_set (i := 8) sc_law.nd rfl (Or.inl rfl) (pe_call ih_put_over (hr.mono (by omega)) rfl T.g_put_over T.f_put_over.kp T.b_put_over .nil pass0 (pa_cons (pe_ix (ix_listK (K := K) rfl) (pv 5) pe_int (fun _ _ => rfl)) (pa_cons (pe_ix (ix_listK (K := K) rfl) (pv 5) pe_int (fun _ _ => rfl)) pa_nil))))
    (pss_cons (ps_if (PW.pt (pw_or (pt_not (pt_val (pe_callB (call_isiK' (K := K) rfl) (by rfl) T.n_isinstance (by decide +kernel) (pa_cons (pv 8) (pa_cons (pe_bltn (v := .ty "list") rfl T.n_list (by decide +kernel) rfl) pa_nil))))) (pw_or (pt_cmpR (op_neZZ T 8 hr.units (by exact hr.mono (by decide))) (pv 8) (pv 7) (nomark _)) (pw_or1 (pt_cmpR (op_neZZ T 8 hr.units (by exact hr.mono (by decide))) (pv 5) (pv 3) (nomark _))))))
    (pss_one (ps_ret pe_bl))
    pss_nil)
    (pss_cons (ps_if (PW.pt (pw_or (pt_cmpR (op_neZZ T 8 hr.units (by exact hr.mono (by decide))) (pe_call ih_put_over (hr.mono (by omega)) rfl T.g_put_over T.f_put_over.kp T.b_put_over .nil pass0 (pa_cons (pe_lst pa_nil) (pa_cons (pe_ix (ix_listK (K := K) rfl) (pv 5) pe_int (fun _ _ => rfl)) pa_nil))) (pe_call ih__law_put (hr.mono (by omega)) rfl T.g__law_put T.f__law_put.kp T.b__law_put .nil pass0 (pa_cons (pe_lst pa_nil) (pa_cons (pe_ix (ix_listK (K := K) rfl) (pv 3) pe_int (fun _ _ => rfl)) pa_nil))) (nomark _)) (pw_or1 (pt_cmpR (op_neZZ T 8 hr.units (by exact hr.mono (by decide))) (pe_call ih_put_over (hr.mono (by omega)) rfl T.g_put_over T.f_put_over.kp T.b_put_over .nil pass0 (pa_cons (pe_ix (ix_listK (K := K) rfl) (pv 5) pe_int (fun _ _ => rfl)) (pa_cons (pe_lst pa_nil) pa_nil))) (pe_call ih__law_put (hr.mono (by omega)) rfl T.g__law_put T.f__law_put.kp T.b__law_put .nil pass0 (pa_cons (pe_ix (ix_listK (K := K) rfl) (pv 3) pe_int (fun _ _ => rfl)) (pa_cons (pe_lst pa_nil) pa_nil))) (nomark _)))))
    (pss_one (ps_ret pe_bl))
    pss_nil)
    (pss_cons (ps_set (i := 9) sc_law.nd rfl (Or.inl rfl) (pe_call ih_put_over (hr.mono (by omega)) rfl T.g_put_over T.f_put_over.kp T.b_put_over .nil pass0 (pa_cons (pe_ix (ix_listK (K := K) rfl) (pv 5) pe_int (fun _ _ => rfl)) (pa_cons (pe_call ih_put_over (hr.mono (by omega)) rfl T.g_put_over T.f_put_over.kp T.b_put_over .nil pass0 (pa_cons (pe_ix (ix_listK (K := K) rfl) (pv 5) pe_int (fun _ _ => rfl)) (pa_cons (pe_ix (ix_listK (K := K) rfl) (pv 5) pe_int (fun _ _ => rfl)) pa_nil))) pa_nil))))
    (pss_cons (ps_set (i := 10) sc_law.nd rfl (Or.inl rfl) (pe_call ih_put_over (hr.mono (by omega)) rfl T.g_put_over T.f_put_over.kp T.b_put_over .nil pass0 (pa_cons (pe_call ih_put_over (hr.mono (by omega)) rfl T.g_put_over T.f_put_over.kp T.b_put_over .nil pass0 (pa_cons (pe_ix (ix_listK (K := K) rfl) (pv 5) pe_int (fun _ _ => rfl)) (pa_cons (pe_ix (ix_listK (K := K) rfl) (pv 5) pe_int (fun _ _ => rfl)) pa_nil))) (pa_cons (pe_ix (ix_listK (K := K) rfl) (pv 5) pe_int (fun _ _ => rfl)) pa_nil))))
    (pss_cons (ps_if (PW.pt (pw_or (pt_cmpR (op_neZZ T 8 hr.units (by exact hr.mono (by decide))) (pv 9) (pv 10) (nomark _)) (pw_or1 (pt_cmpR (op_neZZ T 8 hr.units (by exact hr.mono (by decide))) (pv 9) (pe_call ih__law_put (hr.mono (by omega)) rfl T.g__law_put T.f__law_put.kp T.b__law_put .nil pass0 (pa_cons (pe_ix (ix_listK (K := K) rfl) (pv 3) pe_int (fun _ _ => rfl)) (pa_cons (pv 7) pa_nil))) (nomark _)))))
    (pss_one (ps_ret pe_bl))
    pss_nil)
    (pss_cons (ps_expr (pe_bm PySem.F.plainAttrs_list PySem.F.slot_list_append PySem.F.type_list_append mt_append (pv 8) (pa_cons pe_int pa_nil)))
    (pss_cons (ps_lockL (ps_for PassesOwn.never rfl (pi_listK (K := K) rfl (pe_call ih_put_over (hr.mono (by omega)) rfl T.g_put_over T.f_put_over.kp T.b_put_over .nil pass0 (pa_cons (pe_ix (ix_listK (K := K) rfl) (pv 5) pe_int (fun _ _ => rfl)) (pa_cons (pe_ix (ix_listK (K := K) rfl) (pv 5) pe_int (fun _ _ => rfl)) pa_nil)))) (pg_name (i := 11) sc_law.nd rfl (Or.inl rfl))
    (pss_one (ps_if (pt_val (pe_callB (call_isiK' (K := K) rfl) (by rfl) T.n_isinstance (by decide +kernel) (pa_cons (pe_ix (ix_tupK (K := K) rfl) (pv 11) pe_int (fun _ _ => rfl)) (pa_cons (pe_bltn (v := .ty "list") rfl T.n_list (by decide +kernel) rfl) pa_nil))))
    (pss_one (ps_expr (pe_bm PySem.F.plainAttrs_list PySem.F.slot_list_append PySem.F.type_list_append mt_append (pe_ix (ix_tupK (K := K) rfl) (pv 11) pe_int (fun _ _ => rfl)) (pa_cons pe_int pa_nil))))
    pss_nil))))
    (pss_one (ps_ret (pe_and (pe_cmpR (op_eqZZ T 8 hr.units (by exact hr.mono (by decide))) (pv 5) (pv 3) (nomark _)) (pe_one (pe_cmpR (op_eqZZ T 8 hr.units (by exact hr.mono (by decide))) (pe_call ih_put_over (hr.mono (by omega)) rfl T.g_put_over T.f_put_over.kp T.b_put_over .nil pass0 (pa_cons (pe_ix (ix_listK (K := K) rfl) (pv 5) pe_int (fun _ _ => rfl)) (pa_cons (pe_ix (ix_listK (K := K) rfl) (pv 5) pe_int (fun _ _ => rfl)) pa_nil))) (pv 7) (nomark _))))))))))))))))))), ?_⟩
    walk_at "go"
    refine ⟨sa, ns, rfl, hS, h63, fun s0 H1 e1 hS1 => ?_⟩
    refine z_restM (K := K) (E := E) (N := ["script", "stream", "names", "rows", "k", "given", "row", "due", "actual", "one", "two", "pair"]) (ds := [.adr sa, .strm]) (vs := [.ref sa, .ref s0])
      (.cons (by simp only [Rz]) (.cons (by simp only [Rz]; exact ⟨s0, rfl, hS1⟩) .nil)) ?_ k
    walk_at "zz"
    refine ze_frzM (i := 2) rfl ?_
    refine ze_lcW (zi_range1 ?_)
    walk_at "zz"
    refine ⟨trivial, rfl, by simp, fun j ad => ∃ cs : List (Rws 2), ad = cs.map (rowsD true 2) ∧ cs.length = j ∧ ∀ c ∈ cs, OkR 2 c, ⟨[], rfl, rfl, fun _ h => nomatch h⟩, ?_, ?_⟩
    · rintro j d ad hd ⟨cs, rfl, hl, hcs⟩
      refine zgw_name (by simp) ?_
      walk_at "zz"
      refine ⟨rfl, fun c hc => ?_⟩
      refine ⟨rfl, cs ++ [c], by rw [List.map_append]; rfl, by rw [List.length_append, hl]; rfl, fun x hx => ?_⟩
      rcases List.mem_append.mp hx with hx | hx
      · exact hcs x hx
      · rw [List.mem_singleton.mp hx]
        exact hc
    · rintro ad ⟨cs, rfl, hl, hcs⟩
      have hl : cs.length = 3 := hl
      obtain ⟨c0, c1, c2, rfl⟩ : ∃ c0 c1 c2, cs = [c0, c1, c2] := by
        match cs, hl with
        | [a, b, c], _ => exact ⟨a, b, c, rfl⟩
      have o0 := hcs c0 (by simp)
      have o1 := hcs c1 (by simp)
      have o2 := hcs c2 (by simp)
      walk_at "zz"
      refine ze_lcM [c0, c1, c2] (rowsD true 2) (fun c => some (rowsD true 2 c)) (zi_list ?_)
      walk_at "zz"
      refine ⟨trivial, rfl, by simp, fun c hc => ?_, ?_⟩
      · refine zgw_name (by simp) ?_
        walk_at "zz"
        refine ⟨c, congrArg (fun d => [d]) (rowsD_old 2 true c), hcs c hc, rfl, rfl⟩
      refine zg_nameT ?_
      have on : OkR 2 ([] : Rws 2) := ⟨Nat.zero_le _, fun r hr => nomatch hr⟩
      let Rd : List Dt := [rowsD true 2 c0, rowsD true 2 c1, rowsD true 2 c2]
      refine zs_atM (ρ' := [.v (.adr sa), .v .strm, .v (.lst true [.str "start", .str "fixed", .str "r", .str "x"]), .v (.lst true Rd), .un, .o (.lst true Rd), .un, .un, .un, .un, .un, .un]) rfl ?_
      walk_at "zz"
      refine ⟨_, _, _, 0, _, rfl, .inl rfl, rfl, atI_k (k := 0) rfl, ?_⟩
      walk_at "zz"
      refine ⟨_, _, _, 1, _, rfl, .inl rfl, rfl, atI_k (k := 1) rfl, ?_⟩
      walk_at "zz"
      refine ⟨c0, c1, olds2M c0 c1 _ _, o0, o1, ?_⟩
      walk_at "zz"
      refine ⟨_, _, _, 0, _, rfl, .inr (.inl rfl), rfl, atI_k (k := 0) rfl, ?_⟩
      walk_at "zz"
      refine ⟨_, _, _, 1, _, rfl, .inr (.inl rfl), rfl, atI_k (k := 1) rfl, ?_⟩
      walk_at "zz"
      refine ⟨c0, c1, olds2M c0 c1 _ _, o0, o1, ?_⟩
      refine zg_nameT ?_
      have o10 : OkR 2 (norm 2 (c1 ++ c0)) := ok_norm o1 o0
      generalize hdu : norm 2 (c1 ++ c0) = du at o10
      refine zs_atM (ρ' := [.v (.adr sa), .v .strm, .v (.lst true [.str "start", .str "fixed", .str "r", .str "x"]), .v (.lst true Rd), .un, .o (.lst true Rd), .un, .o (rowsD true 2 du), .o (.lst true (du.map (rowD (loD true 2)))), .un, .un, .un]) rfl ?_
      walk_at "zz"
      refine ⟨_, _, .lst _ _, of_decide_eq_true T.x_kit_t_list_t_list, ?_⟩
      walk_at "zz"
      refine ze_neZv rfl rfl ?_
      walk_at "zz"
      refine ⟨_, _, rfl, eqd_rows 2 9 true true du (by decide), ?_⟩
      walk_at "zz"
      refine ze_neZ rfl ?_
      walk_at "zz"
      have eqR : EqD 9 (.lst true Rd) (.lst true Rd) := .lst (.cons (eqd_rows 2 8 true true c0 (by decide)) (.cons (eqd_rows 2 8 true true c1 (by decide)) (.cons (eqd_rows 2 8 true true c2 (by decide)) .nil)))
      refine ⟨eqR, rfl, (fun _ _ q => nomatch q), ?_⟩
      walk_at "zz"
      refine ze_neZ rfl ?_
      walk_at "zz"
      refine ⟨_, _, _, 0, _, rfl, .inl rfl, rfl, atI_k (k := 0) rfl, ?_⟩
      walk_at "zz"
      refine ⟨[], c0, olds2N c0 _ _, on, o0, ?_⟩
      walk_at "zz"
      refine ⟨_, _, _, 0, _, rfl, .inl rfl, rfl, atI_k (k := 0) rfl, ?_⟩
      walk_at "zz"
      refine ⟨[], c0, olds2N c0 _ _, on, o0, ?_⟩
      refine ⟨eqd_rows 2 9 true true _ (by decide), rfl, (fun _ _ q => nomatch q), ?_⟩
      walk_at "zz"
      refine ze_neZ rfl ?_
      walk_at "zz"
      refine ⟨_, _, _, 0, _, rfl, .inl rfl, rfl, atI_k (k := 0) rfl, ?_⟩
      walk_at "zz"
      refine ⟨c0, [], olds2P c0 _ _, o0, on, ?_⟩
      walk_at "zz"
      refine ⟨_, _, _, 0, _, rfl, .inl rfl, rfl, atI_k (k := 0) rfl, ?_⟩
      walk_at "zz"
      refine ⟨c0, [], olds2P c0 _ _, o0, on, ?_⟩
      refine ⟨eqd_rows 2 9 true true _ (by decide), rfl, (fun _ _ q => nomatch q), ?_⟩
      walk_at "zz"
      refine ⟨_, _, _, 2, _, rfl, .inl rfl, rfl, atI_k (k := 2) rfl, ?_⟩
      walk_at "zz"
      refine ⟨_, _, _, 0, _, rfl, .inl rfl, rfl, atI_k (k := 0) rfl, ?_⟩
      walk_at "zz"
      refine ⟨_, _, _, 1, _, rfl, .inl rfl, rfl, atI_k (k := 1) rfl, ?_⟩
      walk_at "zz"
      refine ⟨c0, c1, olds2M c0 c1 _ _, o0, o1, ?_⟩
      rw [hdu]
      walk_at "zz"
      refine ⟨c2, du, olds2M c2 du _ _, o2, o10, ?_⟩
      walk_at "zz"
      refine ⟨_, _, _, 2, _, rfl, .inl rfl, rfl, atI_k (k := 2) rfl, ?_⟩
      walk_at "zz"
      refine ⟨_, _, _, 0, _, rfl, .inl rfl, rfl, atI_k (k := 0) rfl, ?_⟩
      walk_at "zz"
      refine ⟨c2, c0, olds2M c2 c0 _ _, o2, o0, ?_⟩
      walk_at "zz"
      refine ⟨_, _, _, 1, _, rfl, .inl rfl, rfl, atI_k (k := 1) rfl, ?_⟩
      walk_at "zz"
      refine ⟨norm 2 (c0 ++ c2), c1, olds2M _ c1 _ _, ok_norm o0 o2, o1, ?_⟩
      have e2 : norm 2 (c1 ++ norm 2 (c0 ++ c2)) = norm 2 (du ++ c2) := by rw [← hdu]; exact (assoc 2 c1 c0 c2).symm
      rw [e2]
      refine zg_nameT ?_
      refine zs_atM (ρ' := [.v (.adr sa), .v .strm, .v (.lst true [.str "start", .str "fixed", .str "r", .str "x"]), .v (.lst true Rd), .un, .v (.lst true Rd), .un, .v (rowsD true 2 du), .o (.lst true (du.map (rowD (loD true 2)))), .o (rowsD true 2 (norm 2 (du ++ c2))), .o (rowsD true 2 (norm 2 (du ++ c2))), .un]) rfl ?_
      walk_at "zz"
      refine ze_neZ rfl ?_
      walk_at "zz"
      refine ⟨eqd_rows 2 9 true true _ (by decide), rfl, (fun _ _ q => nomatch q), ?_⟩
      walk_at "zz"
      refine ze_neZ rfl ?_
      walk_at "zz"
      refine ⟨_, _, _, 2, _, rfl, .inl rfl, rfl, atI_k (k := 2) rfl, ?_⟩
      walk_at "zz"
      refine ⟨c2, du, olds2M c2 du _ _, o2, o10, ?_⟩
      refine ⟨eqd_rows 2 9 true true _ (by decide), rfl, (fun _ _ q => nomatch q), ?_⟩
      walk_at "zz"
      refine ⟨by rw [List.length_map]; exact Nat.lt_of_le_of_lt o10.1 (by decide), ?_⟩
      refine zs_frzM (i := 8) (d := .lst true (du.map (rowD (loD true 2)) ++ [.int 0])) rfl ?_
      refine zs_atM (ρ' := [.v (.adr sa), .v .strm, .v (.lst true [.str "start", .str "fixed", .str "r", .str "x"]), .v (.lst true Rd), .un, .v (.lst true Rd), .un, .v (rowsD true 2 du), .v (.lst true (du.map (rowD (loD true 2)) ++ [.int 0])), .v (rowsD true 2 (norm 2 (du ++ c2))), .v (rowsD true 2 (norm 2 (du ++ c2))), .un]) rfl ?_
      refine zs_seq (zs_forApp (of_decide_eq_true T.x_kit_t_tuple_t_list) (of_decide_eq_true T.x_kit_t_list_t_list) ?_)
      walk_at "zz"
      refine ⟨_, _, _, 0, _, rfl, .inl rfl, rfl, atI_k (k := 0) rfl, ?_⟩
      walk_at "zz"
      refine ⟨_, _, _, 1, _, rfl, .inl rfl, rfl, atI_k (k := 1) rfl, ?_⟩
      walk_at "zz"
      refine ⟨vOn_of rfl, Nat.le_of_ble_eq_true rfl, c0, c1, olds2M c0 c1 _ _, o0, o1, ?_⟩
      rw [hdu]
      refine ⟨_, rfl, rfl, app_ok o10, by rw [List.length_map]; exact Nat.le_trans o10.1 (by decide), ?_⟩
      walk_at "zz"
      refine ze_eqZ rfl ?_
      walk_at "zz"
      refine ⟨eqR, rfl, (fun _ _ q => nomatch q), ?_⟩
      walk_at "zz"
      refine ze_eqZ rfl ?_
      walk_at "zz"
      refine ⟨_, _, _, 0, _, rfl, .inl rfl, rfl, atI_k (k := 0) rfl, ?_⟩
      walk_at "zz"
      refine ⟨_, _, _, 1, _, rfl, .inl rfl, rfl, atI_k (k := 1) rfl, ?_⟩
      walk_at "zz"
      refine ⟨c0, c1, olds2M c0 c1 _ _, o0, o1, ?_⟩
      rw [hdu]
      walk_at "zz"
      exact ⟨eqd_rows 2 9 true true du (by decide), rfl, (fun _ _ q => nomatch q), rfl, rfl⟩
end
theorem facts {P : Program} {w : World} {K : PySem.W.Frag} {h : Heap} {mg : Str → Option Value} {f : Addr} (X : K.In h) (G : h.Ns mainGlobals mg) (hfa : mg ("law" : Str) = some (.ref f)) (c : SaysS faL fnL exB K) :
    ∃ fd : FuncData, (∀ (s : Shared) (v : Value), BindsTo s fd ⟨[v], []⟩ [("script", v)]) ∧ ∀ base : Heap, K.In base → base.Ns mainGlobals mg → FnOk P w K mg base CX0 60 f fd ["script"] (spLaw K) := by
  have T : Top w K mg := ⟨h, X, G, c⟩
  have e := hfa.symm.trans T.g_law
  cases e
  have b := FunD.bindsA (ps := ["script"]) (show FunD K "law" "law" (defArgs s_law) (defBody s_law) (defScope s_law) [] (d_law.kws K) (He.ga K "law") (fdOf K d_law) from T.f_law) fun _ _ _ _ _ _ us hl => match us, hl with | [_], _ => rfl
  exact ⟨fdOf K d_law, fun s v => b s [v] rfl, fun base _ _ => ok_law T⟩
end Lk
open PySem PySem.W PySem.Calls PyProof.Rows
set_option maxRecDepth 100000 in
set_option maxHeartbeats 0 in
theorem PySem.Challenge.cw_linkwork_k30_modifications_holds : PySem.Challenge.rw_linkwork_k30_modifications.Holds := by
  w_on; o_law
  refine HeadRun.head_imp (r := OpenLaw.row PySem.Challenge.rw_linkwork_k30_modifications) (q := Lk.qv) (H := Lk.hk) (ob := Lk.ob) (M := 30000) (loose := Lk.looseL) (d := HandSHeadRun.topDef (OpenLaw.row PySem.Challenge.rw_linkwork_k30_modifications).prog 15) (kwd := []) Lk.ob_eq Lk.run (by kernel_rfl) (by kernel_rfl) (by kernel_rfl) (by rfl) (by first | assumption | decide +kernel) (by decide +kernel) ⟨rfl, rfl, rfl, rfl, rfl, by decide +kernel⟩ ?hw ?hc
  case hw => w_witness2
  case hc =>
    refine L2.walk_ofE (l := PySem.Challenge.rw_linkwork_k30_modifications) (n := 63) (k := 60) (x := "script") (CX := L2.CX0) rfl (by decide) (by kernel_rfl) ⟨rfl, by decide, by decide⟩ ?F (fun _ _ _ _ z => z)
    intro w mg fa h Y G hmg0
    obtain ⟨K, KX, c⟩ := Y
    have hmg : mg ("law" : PySem.Str) = some (.ref fa) := by
      have e : (HandSHeadRun.topDef (OpenLaw.row PySem.Challenge.rw_linkwork_k30_modifications).prog 15).name = ("law" : PySem.Str) := by kernel_rfl
      rw [← e]
      exact hmg0
    obtain ⟨fd, hb, hF⟩ := Lk.facts (P := (PySem.Challenge.rw_linkwork_k30_modifications).prog) (w := w) KX G hmg c
    exact ⟨K, fd, Lk.spLaw K, KX, hb, fun H a ns hl _ hS => ⟨a, ns, rfl, hS, hl, fun _ => rfl⟩, hF⟩

