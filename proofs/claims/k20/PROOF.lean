import PyProof.Rows.All
import Wide.All
import OpenK.AllK
import Wide.FinOn
import HandS.Codes
import HandS.ExcInit
import HandS.ExpandTabs0
import HandS.ForExc
import HandS.ForMost
import HandS.Gcd
import HandS.IsInst
import HandS.MakeKw
import HandS.More
import HandS.Replace
import HandS.ReplaceDef
import HandS.ReplaceList
import HandS.ReplaceLit
import HandS.StrMore
import HandS.Style
import HandS.Text
import HandS.TryMany
import HandS.TupAny
import HandS.Walk
import HandS.Wide
import HandS.WideBits
import HandS.Zip
import KE.DataCmp
import KE.GoesMore
import KE.IntBitsLaws
import KE.KBits
import KE.KRevSl
import KE.SortData
import PyProof.DictTable
import PyProof.MeetsSeq2
import PyProof.MeetsStr3
import PyProof.ReprRoads
import PyProof.StrLawsFrom
import PyProof.StrOps2
import PySem.Challenge.RW_patterndeeds_k20_whole_rewritten_pattern
set_option Elab.async false
set_option linter.all false
set_option maxRecDepth 100000
set_option maxHeartbeats 4000000
namespace Pd
open PySem PySem.Spec PyProof.Rows L2
open SX (S)
/-! ### the text -/
def topS (i : Nat) : Stmt := PySem.Challenge.pw_patterndeeds_k20_whole_rewritten_pattern.main.body.getD i (.Pass ⟨0, 0, 0, 0⟩)
def psOf (fd : FuncData) : List Str := fd.params.args.map (·.arg)
/-- a def of the text under its name -/
structure Dfn (K : PySem.W.Frag) (mg : Str → Option Value) (x : Str) (st : Stmt) (ps : List Str) : Prop where
  ex : ∃ (f : Addr) (fd : FuncData), Fun K x x st f fd ∧ mg x = some (.ref f) ∧ Binds K fd ps [] ∧ ps = psOf fd
def Rec (K : PySem.W.Frag) (f : Addr) (fd : FuncData) : Prop := ∃ (oc : Value) (od : Option Addr) (osl : Array (Option Value)), K.lookup f = some ⟨oc, od, .func fd, osl⟩
structure Cal (P : Program) (w : World) (K : PySem.W.Frag) (mg : Str → Option Value) (base : Heap) (k : Nat) (x : Str) (sp : Sp) : Prop where
  ex : ∃ (f : Addr) (fd : FuncData) (ps : List Str), FnOk P w K mg base CX0 k f fd ps sp ∧ mg x = some (.ref f) ∧ PySem.W.keepIn K (.ref f) = true ∧ Binds K fd ps [] ∧ Rec K f fd ∧ ps = psOf fd
/-- .. that may raise -/
structure CalX (P : Program) (w : World) (K : PySem.W.Frag) (mg : Str → Option Value) (base : Heap) (k : Nat) (x : Str) (sp : Sp) : Prop where
  ex : ∃ (f : Addr) (fd : FuncData) (ps : List Str), FnOk P w K mg base (L2.CX P w) k f fd ps sp ∧ mg x = some (.ref f) ∧ PySem.W.keepIn K (.ref f) = true ∧ Binds K fd ps [] ∧ Rec K f fd ∧ ps = psOf fd
section
variable {P : Program} {w : World} {K : PySem.W.Frag} {mg : Str → Option Value} {base : Heap}
theorem rec_of {x qual : Str} {st : Stmt} {f : Addr} {fd : FuncData} (F : Fun K x qual st f fd) : Rec K f fd := by
  obtain ⟨oc, od, kV, doc, pm, an, cdv, ct, osl, _, l, _⟩ := F.ex
  exact ⟨oc, od, osl, l⟩
theorem cal_of {x : Str} {st : Stmt} {N ps : List Str} {k : Nat} {sp : Sp} (D : Dfn K mg x st ps) (Sc : FnScope N ps (defScope st)) (len : ∀ vs H Q E, sp vs H Q E → vs.length = ps.length)
    (hbody : ∀ (f : Addr) (cdv : Value) (A : Around) (outer : List Env) (s : Shared) (H : Hp) (vs : List V) (Q : VK) (E : XK), Room k (A.deeper (envOfC x (defScope st) s.heap.objs.size f cdv)) → sp vs H Q E →
      ∃ t, PSs (cxOf CX0 P w K mg base N x (defScope st) f cdv A outer s H E).nox (defBody st) t ∧ t { nx := fun _ H' => Q .non H', rt := Q } (start N vs) H) : Cal P w K mg base (k + 1) x sp := by
  obtain ⟨f, fd, F, m, b, e⟩ := D.ex
  exact ⟨f, fd, ps, F.ok Sc len (fun cdv A outer s H vs Q E hr h => hbody f cdv A outer s H vs Q E hr h), m, F.kp, b, rec_of F, e⟩
theorem calx_of {x : Str} {st : Stmt} {N ps : List Str} {k : Nat} {sp : Sp} (D : Dfn K mg x st ps) (Sc : FnScope N ps (defScope st)) (len : ∀ vs H Q E, sp vs H Q E → vs.length = ps.length)
    (hbody : ∀ (f : Addr) (cdv : Value) (A : Around) (outer : List Env) (s : Shared) (H : Hp) (vs : List V) (Q : VK) (E : XK), Room k (A.deeper (envOfC x (defScope st) s.heap.objs.size f cdv)) → sp vs H Q E →
      ∃ t, PSs (cxOf (L2.CX P w) P w K mg base N x (defScope st) f cdv A outer s H E) (defBody st) t ∧ t { nx := fun _ H' => Q .non H', rt := Q } (start N vs) H) : CalX P w K mg base (k + 1) x sp := by
  obtain ⟨f, fd, F, m, b, e⟩ := D.ex
  exact ⟨f, fd, ps, F.okX Sc len (fun cdv A outer s H vs Q E hr h => hbody f cdv A outer s H vs Q E hr h), m, F.kp, b, rec_of F, e⟩
theorem Cal.toX {k : Nat} {x : Str} {sp : Sp} (c : Cal P w K mg base k x sp) : CalX P w K mg base k x sp := by
  obtain ⟨f, fd, ps, F, m, kp, b, r⟩ := c.ex
  refine ⟨f, fd, ps, ⟨F.len, fun A outer s H args us vs Q E hr e0 hb rv hs => codeAny_mono (F.run A outer s H args us vs Q E hr e0 hb rv hs) fun r s' h => ?_⟩, m, kp, b, r⟩
  cases r with
  | ok f => cases f <;> exact h
  | error e => exact False.elim h
theorem CalX.or {k : Nat} {x : Str} {sp sp' : Sp} (c : CalX P w K mg base k x sp) (c' : CalX P w K mg base k x sp') : CalX P w K mg base k x (fun vs H Q E => sp vs H Q E ∨ sp' vs H Q E) := by
  obtain ⟨f, fd, ps, F, m, kp, b, ⟨oc, od, osl, r⟩, e⟩ := c.ex
  obtain ⟨f', fd', ps', F', m', kp', b', ⟨oc', od', osl', r'⟩, e'⟩ := c'.ex
  have ef : f = f' := by
    rw [m] at m'
    cases m'
    rfl
  subst ef
  have efd : fd = fd' := by
    rw [r] at r'
    injection r' with h1
    injection h1 with h2 h3 h4 h5
    injection h4
  subst efd
  have eps : ps = ps' := e.trans e'.symm
  subst eps
  exact ⟨f, fd, ps, ⟨fun vs H Q E h => h.elim (F.len vs H Q E) (F'.len vs H Q E), fun A outer s H args us vs Q E hr e0 hb rv h => h.elim (F.run A outer s H args us vs Q E hr e0 hb rv) (F'.run A outer s H args us vs Q E hr e0 hb rv)⟩, m, kp, b, ⟨oc, od, osl, r⟩, e⟩
theorem CalX.imp {k : Nat} {x : Str} {sp sp' : Sp} (c : CalX P w K mg base k x sp) (h : ∀ vs H Q E, sp' vs H Q E → sp vs H Q E) : CalX P w K mg base k x sp' := by
  obtain ⟨f, fd, ps, F, r⟩ := c.ex
  exact ⟨f, fd, ps, F.imp h, r⟩
theorem CalX.mono {k j : Nat} {x : Str} {sp : Sp} (c : CalX P w K mg base k x sp) (h : k ≤ j) : CalX P w K mg base j x sp := by
  obtain ⟨f, fd, ps, F, r⟩ := c.ex
  exact ⟨f, fd, ps, F.mono h, r⟩
theorem Cal.imp {k : Nat} {x : Str} {sp sp' : Sp} (c : Cal P w K mg base k x sp) (h : ∀ vs H Q E, sp' vs H Q E → sp vs H Q E) : Cal P w K mg base k x sp' := by
  obtain ⟨f, fd, ps, F, m, kp, b, r0⟩ := c.ex
  exact ⟨f, fd, ps, ⟨fun vs H Q E e => F.len vs H Q E (h _ _ _ _ e), fun A outer s H args us vs Q E hr e0 hb r hs => F.run A outer s H args us vs Q E hr e0 hb r (h _ _ _ _ hs)⟩, m, kp, b, r0⟩
end
section
variable {X : Cx} {k j : Nat} {x : Str} {sp : Sp} {p pos : Pos} {e : Expr} {es : List Expr} {t : TA}
theorem pc (c : Cal X.prog X.w X.K X.mg X.base k x sp) (hr : Room j X.A) (hk : k ≤ j) (hg : Gl X x) (ha : PA X (e :: es) t)
    (hdb : (x == ("__debug__" : Str)) = false := by decide) (he : starEach (e :: es) X.env = (false, eval e X.env) :: starEach es X.env := by rfl) (hpl : (backTo pos (starEach es X.env)).any (·.1) = false := by rfl) :
    PE X (.Call (.Name x p) (e :: es) [] pos) (tCall sp [] E0 t) := by
  obtain ⟨f, fd, ps, F, hm, kp, b, _⟩ := c.ex
  exact pe_call F (hr.mono hk) hg hm kp b .nil pass0 ha hdb he hpl
theorem pc0 (c : Cal X.prog X.w X.K X.mg X.base k x sp) (hr : Room j X.A) (hk : k ≤ j) (hg : Gl X x)
    (hdb : (x == ("__debug__" : Str)) = false := by decide) :
    PE X (.Call (.Name x p) [] [] pos) (tCall sp [] E0 tNil) := by
  obtain ⟨f, fd, ps, F, hm, kp, b, _⟩ := c.ex
  exact pe_call0 F (hr.mono hk) hg hm kp b .nil pass0 hdb
theorem pcX {W : WX} (c : CalX X.prog X.w X.K X.mg X.base k x sp) (hr : Room j X.A) (hk : k ≤ j) (tk : Takes X W) (hg : Gl X x) (ha : PA X (e :: es) t)
    (hdb : (x == ("__debug__" : Str)) = false := by decide) (he : starEach (e :: es) X.env = (false, eval e X.env) :: starEach es X.env := by rfl) (hpl : (backTo pos (starEach es X.env)).any (·.1) = false := by rfl) :
    PE X (.Call (.Name x p) (e :: es) [] pos) (tCallS sp (WE W) t) := by
  obtain ⟨f, fd, ps, F, hm, kp, b, _⟩ := c.ex
  exact pe_callS F (hr.mono hk) hg hm kp b (fun σ => passAt tk σ) ha hdb he hpl
end
end Pd

namespace Pd
open PySem PySem.Spec PyProof.Rows L2
open SX (S)

/-! ### signs -/
def isSign (c : Nat) : Bool := ((decide (32 ≤ c) && decide (c ≤ 126)) && !decide (c = 37)) || (decide (c = 9) || decide (c = 10))
def isDig (c : Nat) : Bool := decide (48 ≤ c) && decide (c ≤ 57)
def isLet (c : Nat) : Bool := (decide (65 ≤ c) && decide (c ≤ 90)) || (decide (97 ≤ c) && decide (c ≤ 122))
def begN (c : Nat) : Bool := isLet c || decide (c = 95)
def goN (c : Nat) : Bool := (isLet c || isDig c) || decide (c = 95)
theorem isSign_iff {c : Nat} : isSign c = true ↔ (32 ≤ c ∧ c ≤ 126 ∧ c ≠ 37) ∨ c = 9 ∨ c = 10 := by
  unfold isSign
  simp only [Bool.or_eq_true, Bool.and_eq_true, Bool.not_eq_true', decide_eq_true_eq, decide_eq_false_iff_not]
  omega
theorem sign_lt {c : Nat} (h : isSign c = true) : c < 128 := by
  unfold isSign at h
  simp only [Bool.or_eq_true, Bool.and_eq_true, Bool.not_eq_true', decide_eq_true_eq, decide_eq_false_iff_not] at h
  omega
theorem sS {a b : List Nat} : (S a = S b) = (a = b) := propext ⟨SX.S_inj, fun e => by rw [e]⟩
theorem dS {a b : List Nat} : decide (S a = S b) = decide (a = b) := by
  by_cases e : a = b
  · subst e; rw [decide_eq_true rfl, decide_eq_true rfl]
  · rw [decide_eq_false e, decide_eq_false]
    intro q
    exact e (SX.S_inj q)
theorem sL {a : List Nat} : (S a).length = a.length := SX.S_len a
theorem d1 {a b : Nat} : decide ([a] = [b]) = decide (a = b) := by
  by_cases e : a = b
  · subst e; rw [decide_eq_true rfl, decide_eq_true rfl]
  · rw [decide_eq_false e, decide_eq_false fun q => e (List.cons.inj q).1]
theorem g0 {c : Nat} : (#[c] : Array Nat).getD 0 0 = c := id rfl
theorem mkS {c : Nat} : (⟨#[c]⟩ : Str) = S [c] := id rfl
theorem scSS {a b : Str} : scal (.str a) (.str b) = true := rfl
theorem scII {a b : Int} : scal (.int a) (.int b) = true := rfl
theorem scBB {a b : Bool} : scal (.bl a) (.bl b) = true := rfl
theorem nc1 {a : Nat} : (a : Int) + 1 = ((a + 1 : Nat) : Int) := by omega
theorem nc2 {a : Nat} : (a : Int) + 2 = ((a + 2 : Nat) : Int) := by omega

theorem uni_let : ∀ c : Nat, c < 128 → Unicode.isAlpha c = isLet c := by decide +kernel
theorem uni_aln : ∀ c : Nat, c < 128 → Unicode.isAlnum c = (isLet c || isDig c) := by decide +kernel
theorem uni_dig : ∀ c : Nat, c < 128 → Unicode.isDigit c = isDig c := by decide +kernel
theorem asc0 : Txt.isascii (S []) = true := by
  unfold Txt.isascii
  simp [S]
theorem asc1 {c : Nat} (h : c < 128) : Txt.isascii (S [c]) = true := by
  unfold Txt.isascii
  simp [S, h]
theorem alpha1 {c : Nat} (h : c < 128) : Txt.isalpha (S [c]) = isLet c := by
  unfold Txt.isalpha
  simp [S, Str.length, uni_let c h]
theorem alnum1 {c : Nat} (h : c < 128) : Txt.isalnum (S [c]) = (isLet c || isDig c) := by
  unfold Txt.isalnum
  simp [S, Str.length, uni_aln c h]
theorem digit1 {c : Nat} (h : c < 128) : Txt.isdigit (S [c]) = isDig c := by
  unfold Txt.isdigit
  simp [S, Str.length, uni_dig c h]

/-! ### texts -/
theorem tlS {l : List Nat} : (S l).cps.toList = l := by simp [S]
theorem cut_ab {s : List Nat} {a b : Nat} (h : a ≤ b) (ha : a ≤ s.length) : cutS (S s) (some (a : Int)) (some (b : Int)) = S ((s.drop a).take (b - a)) := by
  rw [C8.cutS_slice]
  by_cases hb : b ≤ s.length
  · have e := beq_iff_eq.mp (PyProof.Rows.slice_closesL (x := S s) (i := (a : Int)) (j := (b : Int)) (by omega) (by omega) (by rw [sL]; omega))
    rw [e, tlS]
    show S _ = S _
    congr 2
    omega
  · have e2 : Txt.slice (S s) (some (a : Int)) (some (b : Int)) = Txt.slice (S s) (some (a : Int)) (some (s.length : Int)) := by
      unfold Txt.slice
      rw [sL, SX.idx_hi (by omega)]
    have e := beq_iff_eq.mp (PyProof.Rows.slice_closesL (x := S s) (i := (a : Int)) (j := (s.length : Int)) (by omega) (by omega) (by rw [sL]; omega))
    rw [e2, e, tlS]
    show S _ = S _
    congr 1
    rw [List.take_of_length_le (by rw [List.length_drop]; omega), List.take_of_length_le (by rw [List.length_drop]; omega)]
    rfl
theorem cut_to {s : List Nat} {b : Nat} : cutS (S s) none (some (b : Int)) = S (s.take b) := by
  rw [C8.cutS_slice, SX.slice_to (by omega)]
  rfl
theorem cut_from {s : List Nat} {b : Nat} : cutS (S s) (some (b : Int)) none = S (s.drop b) := by
  rw [C8.cutS_slice, SX.slice_from (by omega)]
  rfl
theorem getD_drop {s r : List Nat} {a i c : Nat} (h : s.drop a = r) (hi : r[i]? = some c) : (S s).cps.getD (a + i) 0 = c := by
  subst h
  rw [List.getElem?_drop] at hi
  simp [S, Array.getD, hi]
  obtain ⟨h1, h2⟩ := List.getElem?_eq_some_iff.mp hi
  simp [h1, h2]
theorem at_drop {s r : List Nat} {a c : Nat} (h : s.drop a = c :: r) : atI s ((a : Nat) : Int) = some c := by
  apply atI_nat
  have : (s.drop a)[0]? = some c := by rw [h]; rfl
  rw [List.getElem?_drop] at this
  simpa using this
theorem drop_len {s m r : List Nat} {a : Nat} (h : s.drop a = m ++ r) (hm : m ++ r ≠ []) : a + m.length + r.length = s.length := by
  have e := congrArg List.length h
  rw [List.length_drop, List.length_append] at e
  have : m.length + r.length ≠ 0 := by
    intro z
    exact hm (List.eq_nil_of_length_eq_zero (by rw [List.length_append]; exact z))
  omega
theorem drop_add {s m r : List Nat} {a : Nat} (h : s.drop a = m ++ r) : s.drop (a + m.length) = r := by
  rw [← List.drop_drop, h, List.drop_left]
theorem find_nl {s m r : List Nat} {a : Nat} (ha : a ≤ s.length) (h : s.drop a = m ++ r) (hm : ∀ c ∈ m, c ≠ 10) : (r = [] → Txt.find3 (S s) (S [10]) (a : Int) = -1) ∧ (∀ t, r = 10 :: t → Txt.find3 (S s) (S [10]) (a : Int) = ((a + m.length : Nat) : Int)) := by
  have hf : fromIndex (S s).length (a : Int) = a := by
    unfold fromIndex
    rw [if_neg (by omega)]
    omega
  have el : s.length - a = m.length + r.length := by
    have e := congrArg List.length h
    rw [List.length_drop, List.length_append] at e
    exact e
  rcases StrLaws.find3_spec (S s) 10 (a : Int) with ⟨h1, h2⟩ | ⟨k, h1, h2, h3, h4, h5⟩
  · refine ⟨fun _ => h1, fun t e => ?_⟩
    exfalso
    subst e
    have g : (S s).cps.getD (a + m.length) 0 = 10 := getD_drop h (by rw [List.getElem?_append_right (Nat.le_refl _), Nat.sub_self] <;> rfl)
    refine h2 (a + m.length) (by rw [hf]; omega) ?_ g
    rw [sL]
    simp only [List.length_cons] at el
    omega
  · rw [hf] at h2 h5
    rw [sL] at h3
    refine ⟨fun e => ?_, fun t e => ?_⟩
    · exfalso
      subst e
      simp only [List.length_nil] at el
      have hk : k - a < m.length := by omega
      have g : (S s).cps.getD (a + (k - a)) 0 = m[k - a] := getD_drop h (by rw [List.getElem?_append_left hk, List.getElem?_eq_getElem hk])
      rw [show a + (k - a) = k by omega, h4] at g
      exact hm _ (List.getElem_mem hk) g.symm
    · subst e
      simp only [List.length_cons] at el
      refine h1.trans (congrArg Int.ofNat (?_ : k = a + m.length))
      by_cases c1 : k < a + m.length
      · exfalso
        have hk : k - a < m.length := by omega
        have g : (S s).cps.getD (a + (k - a)) 0 = m[k - a] := getD_drop h (by rw [List.getElem?_append_left hk, List.getElem?_eq_getElem hk])
        rw [show a + (k - a) = k by omega, h4] at g
        exact hm _ (List.getElem_mem hk) g.symm
      · by_cases c2 : a + m.length < k
        · exfalso
          have g : (S s).cps.getD (a + m.length) 0 = 10 := getD_drop h (by rw [List.getElem?_append_right (Nat.le_refl _), Nat.sub_self] <;> rfl)
          exact h5 _ (by omega) c2 g
        · omega
/-! ### loops over the signs of a text -/
theorem for_str {x : List Nat} {g : TG} {tb : TS} {D : Ends} {σ : L2.St} {H : Hp} (Pv : Nat → L2.St → Hp → Prop) (h0 : Pv 0 σ H)
    (hs : ∀ i c σ H, x[i]? = some c → Pv i σ H → g (.str (S [c])) σ H fun σ2 H2 => tb { D with nx := Pv (i + 1), ct := Pv (i + 1), bk := D.nx } σ2 H2) (hd : ∀ σ H, Pv x.length σ H → D.nx σ H) :
    ∃ W : Nat → Nat → L2.St → Hp → Prop, (∃ m, W 0 m σ H) ∧ ∀ i m σ H, W i m σ H →
      ((Its (S x)).stop i H ∧ D.nx σ H) ∨ ((Its (S x)).go i H ∧ ∃ N : L2.St → Hp → Prop, (∀ σ' H', N σ' H' → ∃ m', m' < m ∧ W (i + 1) m' σ' H') ∧ ∀ y H', (Its (S x)).yld i H y H' → g y σ H' fun σ2 H2 => tb { D with nx := N, ct := N, bk := D.nx } σ2 H2) := by
  have sz : (S x).cps.size = x.length := by simp [S]
  refine ⟨fun i m σ H => m = x.length - i ∧ i ≤ x.length ∧ Pv i σ H, ⟨x.length, by simp, Nat.zero_le _, h0⟩, ?_⟩
  rintro i m σ H ⟨rfl, hi, p⟩
  by_cases hlt : i < x.length
  · refine .inr ⟨by show i < (S x).cps.size; omega, Pv (i + 1), fun σ' H' p' => ⟨x.length - (i + 1), by omega, rfl, hlt, p'⟩, fun y H' hy => ?_⟩
    obtain ⟨rfl, c, hc, rfl⟩ := hy
    exact hs i c σ _ (by simpa [S] using hc) p
  · have e : i = x.length := by omega
    subst e
    exact .inl ⟨by show (S x).cps.size ≤ x.length; omega, hd σ H p⟩

theorem l_0 : Str.ofString "" = S [] := by decide +kernel
theorem l_1 : Str.ofString "\t\n !\"#$&'()*+,-./0123456789:;<=>?@ABCDEFGHIJKLMNOPQRSTUVWXYZ[\\]^_`abcdefghijklmnopqrstuvwxyz{|}~" = S [9, 10, 32, 33, 34, 35, 36, 38, 39, 40, 41, 42, 43, 44, 45, 46, 47, 48, 49, 50, 51, 52, 53, 54, 55, 56, 57, 58, 59, 60, 61, 62, 63, 64, 65, 66, 67, 68, 69, 70, 71, 72, 73, 74, 75, 76, 77, 78, 79, 80, 81, 82, 83, 84, 85, 86, 87, 88, 89, 90, 91, 92, 93, 94, 95, 96, 97, 98, 99, 100, 101, 102, 103, 104, 105, 106, 107, 108, 109, 110, 111, 112, 113, 114, 115, 116, 117, 118, 119, 120, 121, 122, 123, 124, 125, 126] := by decide +kernel
theorem l_2 : Str.ofString "-^" = S [45, 94] := by decide +kernel
theorem l_3 : Str.ofString "\\\n" = S [92, 10] := by decide +kernel
theorem l_4 : Str.ofString "a" = S [97] := by decide +kernel
theorem l_5 : Str.ofString "ab" = S [97, 98] := by decide +kernel
theorem l_6 : Str.ofString "abc" = S [97, 98, 99] := by decide +kernel
theorem l_7 : Str.ofString "abcabac" = S [97, 98, 99, 97, 98, 97, 99] := by decide +kernel
theorem l_8 : Str.ofString "ac" = S [97, 99] := by decide +kernel
theorem l_9 : Str.ofString "any" = S [97, 110, 121] := by decide +kernel
theorem l_10 : Str.ofString "b" = S [98] := by decide +kernel
theorem l_11 : Str.ofString "begin" = S [98, 101, 103, 105, 110] := by decide +kernel
theorem l_12 : Str.ofString "c]" = S [99, 93] := by decide +kernel
theorem l_13 : Str.ofString "class" = S [99, 108, 97, 115, 115] := by decide +kernel
theorem l_14 : Str.ofString "end" = S [101, 110, 100] := by decide +kernel
theorem l_15 : Str.ofString "law_patterndeeds_k20_whole_rewritten_pattern" = S [108, 97, 119, 95, 112, 97, 116, 116, 101, 114, 110, 100, 101, 101, 100, 115, 95, 107, 50, 48, 95, 119, 104, 111, 108, 101, 95, 114, 101, 119, 114, 105, 116, 116, 101, 110, 95, 112, 97, 116, 116, 101, 114, 110] := by decide +kernel
theorem l_16 : Str.ofString "or" = S [111, 114] := by decide +kernel
theorem l_17 : Str.ofString "patterndeeds.automata" = S [112, 97, 116, 116, 101, 114, 110, 100, 101, 101, 100, 115, 46, 97, 117, 116, 111, 109, 97, 116, 97] := by decide +kernel
theorem l_18 : Str.ofString "patterndeeds.matching" = S [112, 97, 116, 116, 101, 114, 110, 100, 101, 101, 100, 115, 46, 109, 97, 116, 99, 104, 105, 110, 103] := by decide +kernel
theorem l_19 : Str.ofString "patterndeeds.patterns" = S [112, 97, 116, 116, 101, 114, 110, 100, 101, 101, 100, 115, 46, 112, 97, 116, 116, 101, 114, 110, 115] := by decide +kernel
theorem l_20 : Str.ofString "patterndeeds.searching" = S [112, 97, 116, 116, 101, 114, 110, 100, 101, 101, 100, 115, 46, 115, 101, 97, 114, 99, 104, 105, 110, 103] := by decide +kernel
theorem l_21 : Str.ofString "repeat" = S [114, 101, 112, 101, 97, 116] := by decide +kernel
theorem l_22 : Str.ofString "row" = S [114, 111, 119] := by decide +kernel
theorem l_23 : Str.ofString "sign" = S [115, 105, 103, 110] := by decide +kernel

theorem szS {s : List Nat} (h : s.length ≤ 100000) : (S s).length ≤ sizeLine := by
  rw [sL]
  exact Nat.le_trans h (by decide)
theorem sz5 {n : Nat} (h : n ≤ 100000) : n ≤ sizeLine := Nat.le_trans h (by decide)

theorem app_st {K : PySem.W.Frag} {p : Addr} {xs : List V} {y : V} {H : Hp} {Q : VK} (h : H p = some (.lst xs)) (hl : xs.length < 100000) (q : Q .non (upd H p (.lst (xs ++ [y])))) : tyV K "list" (.ref p) H ∧ rAppend (.ref p) [y] H Q :=
  ⟨Or.inl ⟨rfl, _, Or.inl (Or.inl h)⟩, p, xs, y, rfl, rfl, h, Nat.lt_of_lt_of_le hl (by decide), q⟩

theorem same_mut {H H' : Hp} {p : Addr} {o : HO} (e : Same H H') (h : H p = none) : Same H (upd H' p o) := fun a u ha => by
  rw [upd_ne (ne_of_none ha h)]
  exact e a u ha

/-- item by item -/
inductive All2 {α β : Type} (R : α → β → Prop) : List α → List β → Prop where
  | nil : All2 R [] []
  | cons {a b as bs} : R a b → All2 R as bs → All2 R (a :: as) (b :: bs)
theorem All2.imp {α β : Type} {R R' : α → β → Prop} (h : ∀ a b, R a b → R' a b) : ∀ {as : List α} {bs : List β}, All2 R as bs → All2 R' as bs
  | _, _, .nil => .nil
  | _, _, .cons x y => .cons (h _ _ x) (y.imp h)
theorem All2.snoc {α β : Type} {R : α → β → Prop} {a : α} {b : β} (h : R a b) : ∀ {as : List α} {bs : List β}, All2 R as bs → All2 R (as ++ [a]) (bs ++ [b])
  | _, _, .nil => .cons h .nil
  | _, _, .cons x y => .cons x (y.snoc h)
theorem All2.len {α β : Type} {R : α → β → Prop} : ∀ {as : List α} {bs : List β}, All2 R as bs → as.length = bs.length
  | _, _, .nil => rfl
  | _, _, .cons _ y => by rw [List.length_cons, List.length_cons, y.len]
theorem All2.get {α β : Type} {R : α → β → Prop} : ∀ {as : List α} {bs : List β}, All2 R as bs → ∀ {i : Nat} {a : α}, as[i]? = some a → ∃ b, bs[i]? = some b ∧ R a b
  | _, _, .nil, i, a, h => by simp at h
  | _, _, .cons x y, 0, a, h => ⟨_, rfl, by rw [List.getElem?_cons_zero] at h; cases h; exact x⟩
  | _, _, .cons x y, i + 1, a, h => by
    rw [List.getElem?_cons_succ] at h
    obtain ⟨b, e, r⟩ := y.get h
    exact ⟨b, by rw [List.getElem?_cons_succ]; exact e, r⟩

theorem none_of {H H' : Hp} {p : Addr} (s : Same H H') (h : H' p = none) : H p = none := by
  cases q : H p with
  | none => rfl
  | some o =>
    rw [s _ _ q] at h
    cases h

theorem for_enum {K : PySem.W.Frag} {a : Addr} {xs : List V} {g : TG} {tb : TS} {D : Ends} {σ : L2.St} {H : Hp} (Pv : Nat → L2.St → Hp → Prop) (h0 : Pv 0 σ H) (hl : ∀ i σ H, i ≤ xs.length → Pv i σ H → SqL K H a xs)
    (hs : ∀ i x T σ H, xs[i]? = some x → Pv i σ H → H T = none → g (.ref T) σ (upd H T (.tup [.int (i : Nat), x])) fun σ2 H2 => tb { D with nx := Pv (i + 1), ct := Pv (i + 1), bk := D.nx } σ2 H2) (hd : ∀ σ H, Pv xs.length σ H → D.nx σ H) :
    ∃ W : Nat → Nat → L2.St → Hp → Prop, (∃ m, W 0 m σ H) ∧ ∀ i m σ H, W i m σ H →
      ((Ite K a).stop i H ∧ D.nx σ H) ∨ ((Ite K a).go i H ∧ ∃ N : L2.St → Hp → Prop, (∀ σ' H', N σ' H' → ∃ m', m' < m ∧ W (i + 1) m' σ' H') ∧ ∀ x H', (Ite K a).yld i H x H' → g x σ H' fun σ2 H2 => tb { D with nx := N, ct := N, bk := D.nx } σ2 H2) := by
  refine ⟨fun i m σ H => m = xs.length - i ∧ i ≤ xs.length ∧ Pv i σ H, ⟨xs.length, by simp, Nat.zero_le _, h0⟩, ?_⟩
  rintro i m σ H ⟨rfl, hi, p⟩
  have q := hl i σ H hi p
  by_cases hlt : i < xs.length
  · refine .inr ⟨⟨xs, xs[i], q, by simp [hlt]⟩, Pv (i + 1), fun σ' H' p' => ⟨xs.length - (i + 1), by omega, rfl, hlt, p'⟩, fun x H' y => ?_⟩
    obtain ⟨T, z, rfl, hT, rfl, y⟩ := y
    exact hs i z T σ _ (y xs q) p hT
  · have e : i = xs.length := by omega
    subst e
    exact .inl ⟨⟨xs, q, Nat.le_refl _⟩, hd σ H p⟩
theorem mulW_small {n m B : Int} (h0 : 0 ≤ n) (h1 : n < B) (hB : B.natAbs < 2 ^ 200 * 2 ^ 200 * 2 ^ 200) (h2 : 0 ≤ m) (h3 : m < 1099511627776) : CMulW n m := by
  have e : 2 ^ 200 * 2 ^ 200 * 2 ^ 200 = (2 : Nat) ^ 600 := by decide +kernel
  rw [e] at hB
  refine wide_mul (a := 600) (b := 40) (Nat.lt_of_le_of_lt (by omega) hB) ?_ (by decide) (by decide) (by decide)
  show m.natAbs < 1099511627776
  omega
theorem big180 : ((10 : Int) ^ (60 : Int).toNat * 10 ^ (60 : Int).toNat * 10 ^ (60 : Int).toNat).natAbs < 2 ^ 200 * 2 ^ 200 * 2 ^ 200 := by decide +kernel
theorem big180p : 0 < (10 : Int) ^ (60 : Int).toNat * 10 ^ (60 : Int).toNat * 10 ^ (60 : Int).toNat := by decide +kernel
theorem fmod_lo {n m : Int} (h : 0 < m) : 0 ≤ n.fmod m ∧ n.fmod m < m := by
  rw [Int.fmod_eq_emod_of_nonneg n (by omega)]
  exact ⟨Int.emod_nonneg _ (by omega), Int.emod_lt_of_pos _ h⟩

theorem All2.app {α β : Type} {R : α → β → Prop} : ∀ {as : List α} {bs : List β} {cs : List α} {ds : List β}, All2 R as bs → All2 R cs ds → All2 R (as ++ cs) (bs ++ ds)
  | _, _, _, _, .nil, h => h
  | _, _, _, _, .cons x y, h => .cons x (y.app h)
theorem lz {xs : List V} (n : Nat) (h : xs.length = n) (hn : n ≤ 100) : xs.length ≤ sizeLine := by
  rw [h]
  exact Nat.le_trans hn (by decide)

theorem tyS {K : PySem.W.Frag} {s : Str} {H : Hp} : tyV K "str" (.str s) H := by
  first | exact Or.inr ⟨rfl, s, rfl⟩ | simp [tyV]

theorem ite_both {c : Bool} {A : Prop} (h : A) : if c = true then A else A := by
  cases c <;> exact h

theorem All2.take {α β : Type} {R : α → β → Prop} : ∀ {as : List α} {bs : List β} (n : Nat), All2 R as bs → All2 R (as.take n) (bs.take n)
  | _, _, 0, _ => .nil
  | _, _, n + 1, .nil => .nil
  | _, _, n + 1, .cons x y => .cons x (y.take n)
theorem All2.drop {α β : Type} {R : α → β → Prop} : ∀ {as : List α} {bs : List β} (n : Nat), All2 R as bs → All2 R (as.drop n) (bs.drop n)
  | _, _, 0, h => h
  | _, _, n + 1, .nil => .nil
  | _, _, n + 1, .cons x y => y.drop n

theorem cutV_to {xs : List V} {r : Nat} : cutV xs none (some (r : Int)) = xs.take r := by
  unfold cutV
  rw [HT.sIx_none, HT.sIx_nat, Nat.sub_zero, List.drop_zero]
  by_cases h : r ≤ xs.length
  · rw [Nat.min_eq_left h]
  · rw [Nat.min_eq_right (by omega), List.take_of_length_le (Nat.le_refl _), List.take_of_length_le (by omega)]
theorem cutV_from {xs : List V} {r : Nat} : cutV xs (some (r : Int)) none = xs.drop r := by
  unfold cutV
  rw [HT.sIx_none, HT.sIx_nat]
  by_cases h : r ≤ xs.length
  · rw [Nat.min_eq_left h, List.take_of_length_le (by rw [List.length_drop]; omega)]
  · rw [Nat.min_eq_right (by omega), Nat.sub_self, List.take_zero, List.drop_eq_nil_of_le (by omega)]

end Pd

set_option maxHeartbeats 1000000
namespace Pd
/-! ## reading a number -/
def blk (c : Nat) : Bool := decide (c = 32) || (decide (c = 9) || decide (c = 10))
/-- digits read on -/
def vl : Nat → List Nat → Nat
  | n, [] => n
  | n, c :: r => vl (n * 10 + (c - 48)) r
theorem vl_app : ∀ (a b : List Nat) (n : Nat), vl n (a ++ b) = vl (vl n a) b
  | [], _, _ => rfl
  | c :: a, b, n => by
    show vl (n * 10 + (c - 48)) (a ++ b) = _
    rw [vl_app a b]
    rfl
theorem vl_mul : ∀ (a : List Nat) (n : Nat), vl n a = n * 10 ^ a.length + vl 0 a
  | [], n => by show n = n * 1 + 0; omega
  | c :: a, n => by
    show vl (n * 10 + (c - 48)) a = n * 10 ^ (a.length + 1) + vl (0 * 10 + (c - 48)) a
    rw [vl_mul a (n * 10 + (c - 48)), vl_mul a (0 * 10 + (c - 48)), Nat.pow_succ]
    have e : (n * 10 + (c - 48)) * 10 ^ a.length = n * (10 ^ a.length * 10) + (0 * 10 + (c - 48)) * 10 ^ a.length := by
      rw [Nat.add_mul, Nat.zero_mul, Nat.zero_add, Nat.mul_assoc, Nat.mul_comm 10]
    omega
theorem vl_lt : ∀ (a : List Nat), a.all isDig = true → vl 0 a < 10 ^ a.length
  | [], _ => by show 0 < 1; omega
  | c :: a, h => by
    rw [List.all_cons, Bool.and_eq_true] at h
    show vl (0 * 10 + (c - 48)) a < 10 ^ (a.length + 1)
    rw [vl_mul a, Nat.pow_succ]
    have h2 := vl_lt a h.2
    have hc : c - 48 ≤ 9 := by
      have := h.1
      unfold isDig at this
      simp only [Bool.and_eq_true, decide_eq_true_eq] at this
      omega
    have h3 : (0 * 10 + (c - 48)) * 10 ^ a.length ≤ 9 * 10 ^ a.length := Nat.mul_le_mul_right _ (by omega)
    omega
/-- as the law goes along -/
def scanN : Nat → Nat → Nat → Bool → List Nat → (Nat × Nat × Nat × List Nat)
  | t, b, n, _, [] => (t, b, n, [])
  | t, b, n, p, c :: r => if isDig c = true then scanN (t * 10 + (c - 48)) (if p = true then b * 10 else b) (n + 1) p r
      else if c = 46 ∧ p = false then scanN t b n true r else (t, b, n, c :: r)
def sgn : List Nat → Bool × List Nat
  | [] => (false, [])
  | c :: t => if c = 45 then (true, t) else if c = 43 then (false, t) else (false, c :: t)
def bodyN (s : List Nat) : List Nat := (sgn (s.dropWhile blk)).2
def belowN (s : List Nat) : Bool := (sgn (s.dropWhile blk)).1
def ptN : List Nat → List Nat
  | c :: z => if c = 46 then z else []
  | [] => []
def rsN : List Nat → List Nat
  | c :: z => if c = 46 then z.dropWhile isDig else c :: z
  | [] => []
def digN (s : List Nat) : List Nat := (bodyN s).takeWhile isDig
def plcN (s : List Nat) : List Nat := (ptN ((bodyN s).dropWhile isDig)).takeWhile isDig
def rstN (s : List Nat) : List Nat := rsN ((bodyN s).dropWhile isDig)
def topN (s : List Nat) : Int := if belowN s = true then -((vl 0 (digN s ++ plcN s) : Nat) : Int) else ((vl 0 (digN s ++ plcN s) : Nat) : Int)
def botN (s : List Nat) : Nat := 10 ^ (plcN s).length
def formN (s : List Nat) : Bool := !decide (digN s ++ plcN s = []) && (rstN s).all blk
def redT (t : Int) (b : Nat) : Int := t / ((Nat.gcd t.natAbs b : Nat) : Int)
def redB (t : Int) (b : Nat) : Nat := b / Nat.gcd t.natAbs b
theorem scanN_dig {t b n : Nat} {p : Bool} {c : Nat} {r : List Nat} (h : isDig c = true) : scanN t b n p (c :: r) = scanN (t * 10 + (c - 48)) (if p = true then b * 10 else b) (n + 1) p r := by
  rw [scanN, if_pos h]
theorem scanN_pt {t b n : Nat} {r : List Nat} : scanN t b n false (46 :: r) = scanN t b n true r := by
  rw [scanN, if_neg (by decide), if_pos ⟨rfl, rfl⟩]
theorem scanN_end {t b n : Nat} {p : Bool} {c : Nat} {r : List Nat} (h : isDig c = false) (h2 : c = 46 → p = true) : scanN t b n p (c :: r) = (t, b, n, c :: r) := by
  rw [scanN, if_neg (by rw [h]; decide), if_neg]
  intro e
  rw [h2 e.1] at e
  exact absurd e.2 (by decide)
theorem q4 {a a' b b' c c' : Nat} {d d' : List Nat} (h1 : a = a') (h2 : b = b') (h3 : c = c') (h4 : d = d') : (a, b, c, d) = (a', b', c', d') := by
  subst h1 h2 h3 h4
  rfl
theorem bneg {b : Bool} (h : ¬ b = true) : b = false := by
  cases b with
  | true => exact absurd rfl h
  | false => rfl
theorem scan1 : ∀ (y : List Nat) (t b n : Nat), scanN t b n true y = (vl t (y.takeWhile isDig), b * 10 ^ (y.takeWhile isDig).length, n + (y.takeWhile isDig).length, y.dropWhile isDig)
  | [], t, b, n => q4 rfl (Nat.mul_one b).symm rfl rfl
  | c :: y, t, b, n => by
    by_cases h : isDig c = true
    · rw [scanN_dig h, if_pos rfl, scan1 y, List.takeWhile_cons_of_pos h, List.dropWhile_cons_of_pos h]
      refine q4 rfl ?_ ?_ rfl
      · rw [List.length_cons, Nat.pow_succ, Nat.mul_assoc, Nat.mul_comm 10]
      · rw [List.length_cons]; omega
    · rw [scanN_end (bneg h) (fun _ => rfl), List.takeWhile_cons_of_neg h, List.dropWhile_cons_of_neg h]
      exact q4 rfl (Nat.mul_one b).symm rfl rfl
theorem scan0 : ∀ (y : List Nat) (t n : Nat), scanN t 1 n false y =
    (vl t (y.takeWhile isDig ++ (ptN (y.dropWhile isDig)).takeWhile isDig), 10 ^ ((ptN (y.dropWhile isDig)).takeWhile isDig).length, n + (y.takeWhile isDig).length + ((ptN (y.dropWhile isDig)).takeWhile isDig).length, rsN (y.dropWhile isDig))
  | [], t, n => q4 rfl rfl rfl rfl
  | c :: y, t, n => by
    by_cases h : isDig c = true
    · rw [scanN_dig h, if_neg (by decide), scan0 y, List.takeWhile_cons_of_pos h, List.dropWhile_cons_of_pos h]
      refine q4 rfl rfl ?_ rfl
      rw [List.length_cons]
      omega
    · rw [List.takeWhile_cons_of_neg h, List.dropWhile_cons_of_neg h]
      by_cases h2 : c = 46
      · subst h2
        rw [scanN_pt, scan1]
        show _ = (vl t ([] ++ (if 46 = 46 then y else []).takeWhile isDig), 10 ^ ((if 46 = 46 then y else []).takeWhile isDig).length, n + 0 + ((if 46 = 46 then y else []).takeWhile isDig).length, if 46 = 46 then y.dropWhile isDig else 46 :: y)
        rw [if_pos rfl, if_pos rfl]
        exact q4 rfl (Nat.one_mul _) rfl rfl
      · rw [scanN_end (bneg h) (fun e => absurd e h2)]
        show _ = (vl t ([] ++ (if c = 46 then y else []).takeWhile isDig), 10 ^ ((if c = 46 then y else []).takeWhile isDig).length, n + 0 + ((if c = 46 then y else []).takeWhile isDig).length, if c = 46 then y.dropWhile isDig else c :: y)
        rw [if_neg h2, if_neg h2]
        exact q4 rfl rfl rfl rfl
theorem scan_all (s : List Nat) : scanN 0 1 0 false (bodyN s) = (vl 0 (digN s ++ plcN s), botN s, (digN s ++ plcN s).length, rstN s) := by
  rw [scan0]
  refine q4 rfl rfl ?_ rfl
  rw [List.length_append]
  unfold digN plcN
  omega
theorem read_none {s : List Nat} (h : (digN s ++ plcN s).length = 0) : formN s = false ∧ redT (topN s) (botN s) = 0 ∧ redB (topN s) (botN s) = 1 := by
  have e := List.eq_nil_of_length_eq_zero h
  have e2 : plcN s = [] := (List.append_eq_nil_iff.mp e).2
  refine ⟨?_, ?_, ?_⟩
  · unfold formN
    rw [e]
    rfl
  · unfold redT topN
    rw [e]
    have : vl 0 [] = 0 := rfl
    rw [this]
    have z : ∀ b : Nat, ((0 : Int) / ((Nat.gcd (0 : Int).natAbs b : Nat) : Int)) = 0 := fun b => Int.zero_ediv _
    split <;> exact z _
  · unfold redB topN botN
    rw [e, e2]
    have : vl 0 [] = 0 := rfl
    rw [this]
    split <;> rfl
/-! ### the form, as the program asks it -/
theorem dw_nil {p : Nat → Bool} : ∀ {l : List Nat}, (∀ x ∈ l, p x = true) → l.dropWhile p = []
  | [], _ => rfl
  | c :: l, h => by
    rw [List.dropWhile_cons_of_pos (h c (List.mem_cons_self ..))]
    exact dw_nil fun x hx => h x (List.mem_cons_of_mem _ hx)
theorem dw_all {p : Nat → Bool} : ∀ {l : List Nat}, l.dropWhile p = [] → ∀ x ∈ l, p x = true
  | [], _, x, hx => by cases hx
  | c :: l, h, x, hx => by
    by_cases e : p c = true
    · rw [List.dropWhile_cons_of_pos e] at h
      rcases List.mem_cons.1 hx with rfl | hx
      · exact e
      · exact dw_all h x hx
    · rw [List.dropWhile_cons_of_neg e] at h
      cases h
def rtr (l : List Nat) : List Nat := (l.reverse.dropWhile blk).reverse
theorem rtr_all : ∀ {l : List Nat}, l.all blk = true → rtr l = [] := by
  intro l h
  unfold rtr
  have : l.reverse.dropWhile blk = [] := dw_nil fun x hx => List.all_eq_true.mp h x (List.mem_reverse.mp hx)
  rw [this]
  rfl
theorem rtr_app {a b : List Nat} (h : b.all blk = false) : rtr (a ++ b) = a ++ rtr b := by
  unfold rtr
  rw [List.reverse_append, List.dropWhile_append, if_neg, List.reverse_append, List.reverse_reverse]
  intro e
  have e2 : b.reverse.dropWhile blk = [] := List.isEmpty_iff.mp e
  have : b.all blk = true := List.all_eq_true.mpr fun x hx => dw_all e2 x (List.mem_reverse.mpr hx)
  rw [this] at h
  cases h
theorem rtr_app2 {a b : List Nat} (h : b.all blk = true) : rtr (a ++ b) = rtr a := by
  unfold rtr
  rw [List.reverse_append, List.dropWhile_append, if_pos]
  rw [List.isEmpty_iff]
  exact dw_nil fun x hx => List.all_eq_true.mp h x (List.mem_reverse.mp hx)
theorem rtr_non : ∀ {l : List Nat}, (∀ c ∈ l, blk c = false) → rtr l = l := by
  intro l h
  unfold rtr
  cases e : l.reverse with
  | nil =>
    have := List.reverse_eq_nil_iff.mp e
    rw [this]
    rfl
  | cons c t =>
    rw [List.dropWhile_cons_of_neg, ← e, List.reverse_reverse]
    rw [h c (List.mem_reverse.mp (by rw [e]; exact List.mem_cons_self ..))]
    decide
theorem rtr_head {c : Nat} {t : List Nat} (h : (c :: t).all blk = false) : ∃ u, rtr (c :: t) = c :: u := by
  by_cases h2 : t.all blk = true
  · refine ⟨[], ?_⟩
    have : rtr ([c] ++ t) = rtr [c] := rtr_app2 h2
    have e : c :: t = [c] ++ t := rfl
    rw [e, this]
    refine rtr_non fun d hd => ?_
    rw [List.mem_singleton] at hd
    subst hd
    rw [List.all_cons, h2, Bool.and_true] at h
    exact h
  · have h2 : t.all blk = false := by
      cases e : t.all blk with
      | true => exact absurd e h2
      | false => rfl
    exact ⟨rtr t, rtr_app (a := [c]) h2⟩
def rem46 : List Nat → List Nat
  | [] => []
  | c :: t => if c = 46 then t else c :: rem46 t
theorem rem46_app {a b : List Nat} (h : 46 ∉ a) : rem46 (a ++ b) = a ++ rem46 b := by
  induction a with
  | nil => rfl
  | cons c a ih =>
    show (if c = 46 then a ++ b else c :: rem46 (a ++ b)) = c :: (a ++ rem46 b)
    rw [if_neg (fun e => h (by rw [e]; exact List.mem_cons_self ..)), ih fun e => h (List.mem_cons_of_mem _ e)]
theorem dig_ne {c : Nat} (h : isDig c = true) : c ≠ 46 ∧ blk c = false := by
  unfold isDig at h
  simp only [Bool.and_eq_true, decide_eq_true_eq] at h
  refine ⟨by omega, ?_⟩
  unfold blk
  simp only [Bool.or_eq_false_iff, decide_eq_false_iff_not]
  omega
theorem digs_free {d : List Nat} (h : d.all isDig = true) : 46 ∉ d := fun e => (dig_ne (List.all_eq_true.mp h 46 e)).1 rfl
/-- strip, a sign less, the first point less: digits alone? -/
def hnf (s : List Nat) : Bool :=
  let b := rem46 (sgn (rtr (s.dropWhile blk))).2
  !decide (b = []) && b.all isDig
theorem sgn_rtr {x : List Nat} (h : ∀ c t, x = c :: t → blk c = false) : (sgn (rtr x)).2 = rtr (sgn x).2 := by
  cases x with
  | nil => rfl
  | cons c t =>
    have hc := h c t rfl
    have key : rtr (c :: t) = c :: rtr t := by
      by_cases h2 : t.all blk = true
      · have : rtr ([c] ++ t) = rtr [c] := rtr_app2 h2
        have e : c :: t = [c] ++ t := rfl
        rw [rtr_all h2, e, this]
        exact rtr_non fun d hd => by rw [List.mem_singleton] at hd; subst hd; exact hc
      · have h2 : t.all blk = false := by
          cases e : t.all blk with
          | true => exact absurd e h2
          | false => rfl
        exact rtr_app (a := [c]) h2
    rw [key]
    show (if c = 45 then (true, rtr t) else if c = 43 then (false, rtr t) else (false, c :: rtr t)).2 = rtr (if c = 45 then (true, t) else if c = 43 then (false, t) else (false, c :: t)).2
    split
    · rfl
    · split
      · rfl
      · exact key.symm
theorem dropWhile_head {p : Nat → Bool} : ∀ (l : List Nat) (c : Nat) (t : List Nat), l.dropWhile p = c :: t → p c = false
  | [], c, t, h => by cases h
  | a :: l, c, t, h => by
    by_cases e : p a = true
    · rw [List.dropWhile_cons_of_pos e] at h
      exact dropWhile_head l c t h
    · rw [List.dropWhile_cons_of_neg e] at h
      obtain ⟨rfl, _⟩ := List.cons.inj h
      cases q : p a with
      | true => exact absurd q e
      | false => rfl
theorem all_mid {a b : List Nat} {c : Nat} (h : isDig c = false) : (a ++ c :: b).all isDig = false := by
  rw [List.all_append, List.all_cons, h, Bool.false_and, Bool.and_false]
theorem take_all {p : Nat → Bool} : ∀ l : List Nat, (l.takeWhile p).all p = true
  | [] => rfl
  | c :: l => by
    by_cases e : p c = true
    · rw [List.takeWhile_cons_of_pos e, List.all_cons, e, take_all l]
      rfl
    · rw [List.takeWhile_cons_of_neg e]
      rfl
theorem hnf_form (s : List Nat) : hnf s = formN s := by
  have hx : ∀ c t, s.dropWhile blk = c :: t → blk c = false := fun c t e => dropWhile_head s c t e
  unfold hnf
  rw [sgn_rtr hx]
  show (!decide (rem46 (rtr (bodyN s)) = []) && (rem46 (rtr (bodyN s))).all isDig) = formN s
  obtain ⟨d, hd⟩ : ∃ d, d = digN s := ⟨_, rfl⟩
  obtain ⟨r, hr⟩ : ∃ r, r = (bodyN s).dropWhile isDig := ⟨_, rfl⟩
  have hy : bodyN s = d ++ r := by rw [hd, hr]; exact (List.takeWhile_append_dropWhile ..).symm
  have hdd : d.all isDig = true := by rw [hd]; exact take_all _
  have h46 := digs_free hdd
  have hdb : ∀ c ∈ d, blk c = false := fun c hc => (dig_ne (List.all_eq_true.mp hdd c hc)).2
  have hh : ∀ c t, r = c :: t → isDig c = false := fun c t e => dropWhile_head (bodyN s) c t (by rw [← hr]; exact e)
  have hform : formN s = (!decide (d ++ (ptN r).takeWhile isDig = []) && (rsN r).all blk) := by
    unfold formN plcN rstN
    rw [← hr, ← hd]
  rw [hform, hy]
  have case2 : ∀ r : List Nat, (∀ c t, r = c :: t → isDig c = false ∧ c ≠ 46) → (!decide (rem46 (rtr (d ++ r)) = []) && (rem46 (rtr (d ++ r))).all isDig) = (!decide (d = []) && r.all blk) := by
    intro r hh
    cases e : r.all blk with
    | true =>
      rw [rtr_app2 e, rtr_non hdb]
      have : rem46 d = d := by
        have := rem46_app (b := []) h46
        rw [List.append_nil] at this
        rw [this]
        exact List.append_nil d
      rw [this, hdd]
    | false =>
      rw [rtr_app e, Bool.and_false]
      cases r with
      | nil => cases e
      | cons c t =>
        obtain ⟨u, hu⟩ := rtr_head e
        obtain ⟨h1, h2⟩ := hh c t rfl
        have e3 : rem46 (c :: u) = c :: rem46 u := if_neg h2
        rw [hu, rem46_app h46, e3, all_mid h1, Bool.and_false]
  by_cases h0 : ∃ z, r = 46 :: z
  · obtain ⟨z, rfl⟩ := h0
    have z1 : ptN (46 :: z) = z := by rw [ptN, if_pos rfl]
    have z2 : rsN (46 :: z) = z.dropWhile isDig := by rw [rsN, if_pos rfl]
    rw [z1, z2]
    obtain ⟨p, hp⟩ : ∃ p, p = z.takeWhile isDig := ⟨_, rfl⟩
    obtain ⟨q, hq⟩ : ∃ q, q = z.dropWhile isDig := ⟨_, rfl⟩
    have hz : z = p ++ q := by rw [hp, hq]; exact (List.takeWhile_append_dropWhile ..).symm
    have hpp : p.all isDig = true := by rw [hp]; exact take_all _
    have hqh : ∀ c t, q = c :: t → isDig c = false := fun c t e => dropWhile_head z c t (by rw [← hq]; exact e)
    rw [← hp, ← hq, hz]
    have e1 : d ++ 46 :: (p ++ q) = (d ++ 46 :: p) ++ q := by simp
    rw [e1]
    cases e : q.all blk with
    | true =>
      rw [rtr_app2 e, rtr_non]
      · rw [rem46_app h46]
        show (!decide (d ++ (if 46 = 46 then p else 46 :: rem46 p) = []) && (d ++ (if 46 = 46 then p else 46 :: rem46 p)).all isDig) = _
        rw [if_pos rfl, List.all_append, hdd, hpp]
        rfl
      · intro c hc
        rcases List.mem_append.1 hc with hc | hc
        · exact hdb c hc
        · rcases List.mem_cons.1 hc with rfl | hc
          · decide
          · exact (dig_ne (List.all_eq_true.mp hpp c hc)).2
    | false =>
      rw [rtr_app e, Bool.and_false]
      cases q with
      | nil => cases e
      | cons c t =>
        obtain ⟨u, hu⟩ := rtr_head e
        have h1 := hqh c t rfl
        rw [hu, List.append_assoc, rem46_app h46]
        show (_ && (d ++ (if 46 = 46 then p ++ c :: u else _)).all isDig) = false
        rw [if_pos rfl, ← List.append_assoc, all_mid h1, Bool.and_false]
  · have hn : ∀ z, r ≠ 46 :: z := fun z e => h0 ⟨z, e⟩
    have e12 : ptN r = [] ∧ rsN r = r := by
      cases r with
      | nil => exact ⟨rfl, rfl⟩
      | cons c z =>
        have hc : c ≠ 46 := fun e => hn z (by rw [e])
        exact ⟨if_neg hc, if_neg hc⟩
    obtain ⟨e1, e2⟩ := e12
    rw [e1, e2, case2 r fun c t e => ⟨hh c t e, fun e2 => hn t (by rw [e, e2])⟩]
    simp
end Pd

set_option maxHeartbeats 1000000
namespace Pd
open PySem
/-! ## the text of a number -/
/-- k digits of n -/
def dL : Nat → Nat → List Nat
  | 0, _ => []
  | k + 1, n => dL k (n / 10) ++ [48 + n % 10]
theorem dL_len : ∀ k n, (dL k n).length = k
  | 0, _ => rfl
  | k + 1, n => by rw [dL, List.length_append, dL_len k]; rfl
theorem dL_zero : ∀ k, dL k 0 = List.replicate k 48
  | 0 => rfl
  | k + 1 => by
    rw [dL, Nat.zero_div, dL_zero k, List.replicate_succ']
theorem pad_dL : ∀ (k n : Nat), n < 10 ^ k → 0 < k → List.replicate (k - (TL.numL n).length) 48 ++ TL.numL n = dL k n
  | 0, n, h, h0 => absurd h0 (by omega)
  | k + 1, n, h, _ => by
    by_cases hn : n < 10
    · rw [TL.numL_lt hn, dL, show n / 10 = 0 by omega, dL_zero, show n % 10 = n by omega]
      rfl
    · have h10 : 10 ≤ n := by omega
      have hk : 0 < k := by
        cases k with
        | zero => exact absurd h (by show ¬ n < 10 ^ 1; omega)
        | succ k => omega
      have hlt : n / 10 < 10 ^ k := by
        rw [Nat.pow_succ] at h
        omega
      have ih := pad_dL k (n / 10) hlt hk
      rw [TL.numL_step h10, dL, ← ih, List.length_append, List.append_assoc]
      congr 2
      show k + 1 - ((TL.numL (n / 10)).length + 1) = _
      omega
/-- the value of decimal digits -/
def dv : List Nat → Nat → Nat
  | [], n => n
  | d :: l, n => dv l (n * 10 + d)
theorem dv_mul : ∀ (l : List Nat) (n : Nat), dv l n = n * 10 ^ l.length + dv l 0
  | [], n => by show n = n * 1 + 0; omega
  | d :: l, n => by
    show dv l (n * 10 + d) = n * 10 ^ (l.length + 1) + dv l (0 * 10 + d)
    rw [dv_mul l (n * 10 + d), dv_mul l (0 * 10 + d), Nat.pow_succ]
    have e : (n * 10 + d) * 10 ^ l.length = n * (10 ^ l.length * 10) + (0 * 10 + d) * 10 ^ l.length := by
      rw [Nat.add_mul, Nat.zero_mul, Nat.zero_add, Nat.mul_assoc, Nat.mul_comm 10]
    omega
theorem dv_app : ∀ (a b : List Nat) (n : Nat), dv (a ++ b) n = dv b (dv a n)
  | [], _, _ => rfl
  | d :: a, b, n => by
    show dv (a ++ b) (n * 10 + d) = _
    rw [dv_app a b]
    rfl
theorem dv_lt : ∀ (l : List Nat), (∀ d ∈ l, d < 10) → dv l 0 < 10 ^ l.length
  | [], _ => by show 0 < 1; omega
  | d :: l, h => by
    show dv l (0 * 10 + d) < 10 ^ (l.length + 1)
    rw [dv_mul l, Nat.pow_succ]
    have h2 := dv_lt l fun x hx => h x (List.mem_cons_of_mem _ hx)
    have hd := h d (List.mem_cons_self ..)
    have h3 : (0 * 10 + d) * 10 ^ l.length ≤ 9 * 10 ^ l.length := Nat.mul_le_mul_right _ (by omega)
    omega
theorem snoc_ind {P : List Nat → Prop} (h0 : P []) (hs : ∀ l d, P l → P (l ++ [d])) : ∀ l, P l := by
  intro l
  have : ∀ r : List Nat, P r.reverse := by
    intro r
    induction r with
    | nil => exact h0
    | cons d r ih => rw [List.reverse_cons]; exact hs _ _ ih
  have := this l.reverse
  rwa [List.reverse_reverse] at this
theorem dL_dv : ∀ (l : List Nat), (∀ d ∈ l, d < 10) → dL l.length (dv l 0) = l.map (48 + ·) := by
  refine snoc_ind (fun _ => rfl) fun l d ih h => ?_
  rw [List.length_append]
  show dL (l.length + 1) (dv (l ++ [d]) 0) = _
  rw [dv_app]
  show dL (l.length + 1) (dv l 0 * 10 + d) = _
  have hd := h d (List.mem_append_right _ (List.mem_singleton.2 rfl))
  rw [dL, show (dv l 0 * 10 + d) / 10 = dv l 0 by omega, show (dv l 0 * 10 + d) % 10 = d by omega, ih fun x hx => h x (List.mem_append_left _ hx), List.map_append]
  rfl
theorem dv_vl : ∀ (l : List Nat) (n : Nat), vl n (l.map (48 + ·)) = dv l n
  | [], _ => rfl
  | d :: l, n => by
    show vl (n * 10 + (48 + d - 48)) (l.map (48 + ·)) = dv l (n * 10 + d)
    rw [show 48 + d - 48 = d by omega]
    exact dv_vl l _
theorem map_dig : ∀ {l : List Nat}, (∀ d ∈ l, d < 10) → (l.map (48 + ·)).all isDig = true
  | [], _ => rfl
  | d :: l, h => by
    have hd := h d (List.mem_cons_self ..)
    rw [List.map_cons, List.all_cons, map_dig fun x hx => h x (List.mem_cons_of_mem _ hx)]
    unfold isDig
    rw [Bool.and_true, Bool.and_eq_true, decide_eq_true_eq, decide_eq_true_eq]
    omega
theorem numL_dig (n : Nat) : (TL.numL n).all isDig = true := by
  rw [List.all_eq_true]
  intro c hc
  have := TL.numL_digits n c hc
  unfold isDig
  rw [Bool.and_eq_true, decide_eq_true_eq, decide_eq_true_eq]
  omega
theorem vl_digits : ∀ (l : List Nat) (n : Nat), l.foldl (fun a c => a * 10 + (c - 48)) n = vl n l
  | [], _ => rfl
  | c :: l, n => vl_digits l _
theorem vl_num (n : Nat) : vl 0 (TL.numL n) = n := by
  rw [← vl_digits]
  exact TL.numL_val n
/-- zeros at the end put away -/
def tz (l : List Nat) : List Nat := (l.reverse.dropWhile (fun d => decide (d = 0))).reverse
def tz48 (l : List Nat) : List Nat := (l.reverse.dropWhile (fun d => decide (d = 48))).reverse
theorem tz_map (l : List Nat) : tz48 (l.map (48 + ·)) = (tz l).map (48 + ·) := by
  unfold tz tz48
  rw [← List.map_reverse, List.map_reverse, ← List.map_reverse]
  generalize l.reverse = r
  have : ∀ r : List Nat, (r.map (48 + ·)).dropWhile (fun d => decide (d = 48)) = (r.dropWhile (fun d => decide (d = 0))).map (48 + ·) := by
    intro r
    induction r with
    | nil => rfl
    | cons d r ih =>
      by_cases e : d = 0
      · subst e
        rw [List.map_cons, List.dropWhile_cons_of_pos (by simp), List.dropWhile_cons_of_pos (by simp), ih]
      · rw [List.map_cons, List.dropWhile_cons_of_neg (by simp; omega), List.dropWhile_cons_of_neg (by simpa using e), List.map_cons]
  rw [this, List.map_reverse]
theorem tz_snoc (l : List Nat) (d : Nat) : tz (l ++ [d]) = if d = 0 then tz l else l ++ [d] := by
  unfold tz
  rw [List.reverse_append]
  show ((d :: l.reverse).dropWhile _).reverse = _
  by_cases e : d = 0
  · rw [if_pos e, List.dropWhile_cons_of_pos (by simpa using e)]
  · rw [if_neg e, List.dropWhile_cons_of_neg (by simpa using e), List.reverse_cons, List.reverse_reverse]
theorem tz_val : ∀ (l : List Nat), dv l 0 = dv (tz l) 0 * 10 ^ (l.length - (tz l).length) ∧ (tz l).length ≤ l.length ∧ (∀ d ∈ tz l, d ∈ l) := by
  refine snoc_ind ⟨rfl, Nat.le_refl _, fun d h => h⟩ fun l d ih => ?_
  obtain ⟨h1, h2, h3⟩ := ih
  rw [tz_snoc, dv_app]
  show dv l 0 * 10 + d = _ ∧ _
  rw [List.length_append, List.length_singleton]
  by_cases e : d = 0
  · rw [if_pos e]
    refine ⟨?_, by omega, fun x hx => List.mem_append_left _ (h3 x hx)⟩
    rw [show l.length + 1 - (tz l).length = (l.length - (tz l).length) + 1 by omega, Nat.pow_succ, ← Nat.mul_assoc, ← h1, e]
    rfl
  · rw [if_neg e, List.length_append, List.length_singleton, Nat.sub_self, dv_app]
    refine ⟨?_, Nat.le_refl _, fun x hx => hx⟩
    show dv l 0 * 10 + d = (dv l 0 * 10 + d) * 1
    omega
theorem tz_nil {l : List Nat} (h : ∀ d ∈ l, d < 10) : tz l = [] ↔ dv l 0 = 0 := by
  constructor
  · intro e
    rw [(tz_val l).1, e]
    exact Nat.zero_mul _
  · intro e
    clear h
    revert e
    refine snoc_ind (P := fun l => dv l 0 = 0 → tz l = []) (fun _ => rfl) (fun l d ih e => ?_) l
    rw [dv_app] at e
    have e : dv l 0 * 10 + d = 0 := e
    rw [tz_snoc, if_pos (by omega)]
    exact ih (by omega)
/-! ### the sixth place -/
def rnd (top : Int) (bot : Nat) : Nat := (2 * (top.natAbs * 1000000) + bot) / (2 * bot)
def intL (t : Int) : List Nat := if t < 0 then 45 :: TL.numL t.natAbs else TL.numL t.natAbs
/-- the text of a fraction -/
def txN (top : Int) (bot : Nat) : List Nat :=
  if bot = 1 then intL top
  else if rnd top bot = 0 then [48]
  else (if top < 0 then [45] else []) ++ (TL.numL (rnd top bot / 1000000) ++ (if rnd top bot % 1000000 = 0 then [] else 46 :: tz48 (dL 6 (rnd top bot % 1000000))))
end Pd

set_option maxHeartbeats 1000000
namespace Pd
open PySem
def dD : Nat → Nat → List Nat
  | 0, _ => []
  | k + 1, n => dD k (n / 10) ++ [n % 10]
theorem dD_len : ∀ k n, (dD k n).length = k
  | 0, _ => rfl
  | k + 1, n => by rw [dD, List.length_append, dD_len k]; rfl
theorem dD_lt : ∀ k n, ∀ d ∈ dD k n, d < 10
  | 0, _, d, h => by cases h
  | k + 1, n, d, h => by
    rw [dD] at h
    rcases List.mem_append.1 h with h | h
    · exact dD_lt k _ d h
    · rw [List.mem_singleton] at h
      omega
theorem dD_dL : ∀ k n, dL k n = (dD k n).map (48 + ·)
  | 0, _ => rfl
  | k + 1, n => by rw [dL, dD, List.map_append, dD_dL k]; rfl
theorem dD_val : ∀ k n, n < 10 ^ k → dv (dD k n) 0 = n
  | 0, n, h => by
    have h : n < 1 := h
    show 0 = n
    omega
  | k + 1, n, h => by
    rw [dD, dv_app, dD_val k (n / 10) (by rw [Nat.pow_succ] at h; omega)]
    show n / 10 * 10 + n % 10 = n
    omega
theorem tw_all {p : Nat → Bool} : ∀ {a : List Nat}, a.all p = true → a.takeWhile p = a ∧ a.dropWhile p = []
  | [], _ => ⟨rfl, rfl⟩
  | c :: a, h => by
    rw [List.all_cons, Bool.and_eq_true] at h
    obtain ⟨h1, h2⟩ := tw_all h.2
    rw [List.takeWhile_cons_of_pos h.1, List.dropWhile_cons_of_pos h.1, h1, h2]
    exact ⟨rfl, rfl⟩
theorem tw_stop {p : Nat → Bool} {c : Nat} {b : List Nat} (hc : p c = false) : ∀ {a : List Nat}, a.all p = true → (a ++ c :: b).takeWhile p = a ∧ (a ++ c :: b).dropWhile p = c :: b
  | [], _ => by
    rw [List.nil_append, List.takeWhile_cons_of_neg (by rw [hc]; decide), List.dropWhile_cons_of_neg (by rw [hc]; decide)]
    exact ⟨rfl, rfl⟩
  | d :: a, h => by
    rw [List.all_cons, Bool.and_eq_true] at h
    obtain ⟨h1, h2⟩ := tw_stop (b := b) hc h.2
    rw [List.cons_append, List.takeWhile_cons_of_pos h.1, List.dropWhile_cons_of_pos h.1, h1, h2]
    exact ⟨rfl, rfl⟩
/-- a sign or none, digits, perhaps a point and digits -/
def ptL (p : List Nat) : List Nat := if p = [] then [] else 46 :: p
theorem read_parts {ng : Bool} {d p : List Nat} (hd : d.all isDig = true) (hn : d ≠ []) (hp : p.all isDig = true) (s : List Nat) (hs : s = (if ng = true then [45] else []) ++ (d ++ ptL p)) :
    belowN s = ng ∧ digN s = d ∧ plcN s = p ∧ rstN s = [] := by
  have hcore : ∀ x : List Nat, x = d ++ ptL p → x.takeWhile isDig = d ∧ (ptN (x.dropWhile isDig)).takeWhile isDig = p ∧ rsN (x.dropWhile isDig) = [] := by
    intro x hx
    subst hx
    unfold ptL
    by_cases e : p = []
    · subst e
      rw [if_pos rfl, List.append_nil, (tw_all hd).1, (tw_all hd).2]
      exact ⟨rfl, rfl, rfl⟩
    · rw [if_neg e, (tw_stop (by decide) hd).1, (tw_stop (by decide) hd).2]
      refine ⟨rfl, ?_, ?_⟩
      · rw [ptN, if_pos rfl, (tw_all hp).1]
      · rw [rsN, if_pos rfl, (tw_all hp).2]
  obtain ⟨c, t, hc⟩ : ∃ c t, d = c :: t := by
    cases d with
    | nil => exact absurd rfl hn
    | cons c t => exact ⟨c, t, rfl⟩
  have hcd : isDig c = true := by
    rw [hc, List.all_cons, Bool.and_eq_true] at hd
    exact hd.1
  have hcb := (dig_ne hcd).2
  have hc45 : c ≠ 45 ∧ c ≠ 43 := by
    unfold isDig at hcd
    simp only [Bool.and_eq_true, decide_eq_true_eq] at hcd
    omega
  have hbody : sgn (s.dropWhile blk) = (ng, d ++ ptL p) := by
    subst hs
    cases ng with
    | true =>
      show sgn ((45 :: (d ++ ptL p)).dropWhile blk) = _
      rw [List.dropWhile_cons_of_neg (by decide), sgn, if_pos rfl]
    | false =>
      show sgn ((d ++ ptL p).dropWhile blk) = _
      rw [hc, List.cons_append, List.dropWhile_cons_of_neg (by rw [hcb]; decide), sgn, if_neg hc45.1, if_neg hc45.2]
  obtain ⟨h1, h2, h3⟩ := hcore _ rfl
  have hb : bodyN s = d ++ ptL p := by unfold bodyN; rw [hbody]
  refine ⟨by unfold belowN; rw [hbody], ?_, ?_, ?_⟩
  · unfold digN; rw [hb, h1]
  · unfold plcN; rw [hb, h2]
  · unfold rstN; rw [hb, h3]
/-! ### fractions in lowest terms -/
theorem red_mul {t : Int} {b m : Nat} (hm : 0 < m) : redT (t * (m : Int)) (b * m) = redT t b ∧ redB (t * (m : Int)) (b * m) = redB t b := by
  unfold redT redB
  have e : (t * (m : Int)).natAbs = t.natAbs * m := by
    rw [Int.natAbs_mul, Int.natAbs_natCast]
  rw [e, Nat.gcd_mul_right]
  refine ⟨?_, Nat.mul_div_mul_right _ _ hm⟩
  rw [Int.natCast_mul]
  exact Int.mul_ediv_mul_of_pos_left _ _ (by omega)
def sg (ng : Bool) (n : Nat) : Int := if ng = true then -(n : Int) else (n : Int)
theorem sg_mul {ng : Bool} {n m : Nat} : sg ng n * (m : Int) = sg ng (n * m) := by
  unfold sg
  cases ng with
  | true => rw [if_pos rfl, if_pos rfl, Int.natCast_mul, Int.neg_mul]
  | false => rw [if_neg (by decide), if_neg (by decide), Int.natCast_mul]
theorem intL_eq (t : Int) : intL t = (if decide (t < 0) = true then [45] else []) ++ (TL.numL t.natAbs ++ ptL []) := by
  unfold intL ptL
  rw [if_pos rfl, List.append_nil]
  by_cases e : t < 0
  · rw [if_pos e, if_pos (decide_eq_true e)]
    rfl
  · rw [if_neg e, if_neg (by rw [decide_eq_true_eq]; exact e)]
    rfl
theorem sg_abs (t : Int) : sg (decide (t < 0)) t.natAbs = t := by
  unfold sg
  by_cases e : t < 0
  · rw [if_pos (decide_eq_true e)]; omega
  · rw [if_neg (by rw [decide_eq_true_eq]; exact e)]; omega
theorem read_text {top : Int} {bot : Nat} (hb : 1 ≤ bot) : formN (txN top bot) = true ∧ redT (topN (txN top bot)) (botN (txN top bot)) = redT (sg (decide (top < 0)) (rnd top bot)) 1000000 ∧ redB (topN (txN top bot)) (botN (txN top bot)) = redB (sg (decide (top < 0)) (rnd top bot)) 1000000 := by
  have form : ∀ s d, digN s = d → d ≠ [] → rstN s = [] → formN s = true := by
    intro s d h1 h2 h3
    unfold formN
    rw [h3, h1, decide_eq_false (fun e => h2 (List.append_eq_nil_iff.mp e).1)]
    rfl
  have key : ∀ (ng : Bool) (d p : List Nat) (m : Nat) (s : List Nat), d.all isDig = true → d ≠ [] → p.all isDig = true → s = (if ng = true then [45] else []) ++ (d ++ ptL p) → 0 < m → sg ng (vl 0 (d ++ p) * m) = sg (decide (top < 0)) (rnd top bot) → 10 ^ p.length * m = 1000000 →
      formN s = true ∧ redT (topN s) (botN s) = redT (sg (decide (top < 0)) (rnd top bot)) 1000000 ∧ redB (topN s) (botN s) = redB (sg (decide (top < 0)) (rnd top bot)) 1000000 := by
    intro ng d p m s hd hn hp hs hm h1 h2
    obtain ⟨k1, k2, k3, k4⟩ := read_parts hd hn hp s hs
    refine ⟨form s d k2 hn k4, ?_⟩
    have e1 : topN s = sg ng (vl 0 (d ++ p)) := by
      unfold topN sg
      rw [k1, k2, k3]
    have e2 : botN s = 10 ^ p.length := by
      unfold botN
      rw [k3]
    rw [e1, e2, ← h1, ← h2, ← sg_mul]
    exact ⟨(red_mul hm).1.symm, (red_mul hm).2.symm⟩
  unfold txN
  by_cases h1 : bot = 1
  · rw [if_pos h1]
    refine key (decide (top < 0)) (TL.numL top.natAbs) [] 1000000 _ (numL_dig _) (TL.numL_ne _) rfl (intL_eq top) (by decide) ?_ rfl
    rw [List.append_nil, vl_num]
    have : rnd top bot = top.natAbs * 1000000 := by
      unfold rnd
      rw [h1]
      omega
    rw [this]
  · rw [if_neg h1]
    by_cases h2 : rnd top bot = 0
    · rw [if_pos h2]
      refine key false [48] [] 1000000 _ (by decide) (by decide) rfl (by decide) (by decide) ?_ rfl
      rw [h2]
      show sg false 0 = sg _ 0
      cases decide (top < 0) <;> rfl
    · rw [if_neg h2]
      obtain ⟨P, hP⟩ : ∃ P, P = rnd top bot % 1000000 := ⟨_, rfl⟩
      obtain ⟨I, hI⟩ : ∃ I, I = rnd top bot / 1000000 := ⟨_, rfl⟩
      have hU : rnd top bot = I * 1000000 + P := by omega
      have hPl : P < 10 ^ 6 := by
        show P < 1000000
        omega
      rw [← hP, ← hI]
      obtain ⟨v1, v2, v3⟩ := tz_val (dD 6 P)
      rw [dD_val 6 P hPl, dD_len] at v1
      rw [dD_len] at v2
      have hz := tz_nil (dD_lt 6 P)
      rw [dD_val 6 P hPl] at hz
      have hp : (if P = 0 then [] else 46 :: tz48 (dL 6 P)) = ptL ((tz (dD 6 P)).map (48 + ·)) := by
        rw [dD_dL, tz_map]
        unfold ptL
        by_cases e : P = 0
        · rw [if_pos e, hz.mpr e]
          rfl
        · rw [if_neg e, if_neg]
          intro e2
          exact e (hz.mp (List.map_eq_nil_iff.mp e2))
      rw [hp]
      have hs : (if top < 0 then [45] else []) = (if decide (top < 0) = true then [45] else ([] : List Nat)) := by
        by_cases e : top < 0
        · rw [if_pos e, if_pos (decide_eq_true e)]
        · rw [if_neg e, if_neg (by rw [decide_eq_true_eq]; exact e)]
      rw [hs]
      refine key (decide (top < 0)) (TL.numL I) ((tz (dD 6 P)).map (48 + ·)) (10 ^ (6 - (tz (dD 6 P)).length)) _ (numL_dig _) (TL.numL_ne _) (map_dig fun d hd => dD_lt 6 P d (v3 d hd)) rfl (Nat.pow_pos (by decide)) ?_ ?_
      · congr 1
        rw [vl_app, vl_num, vl_mul, List.length_map, dv_vl, Nat.add_mul, ← v1, Nat.mul_assoc, ← Nat.pow_add, show (tz (dD 6 P)).length + (6 - (tz (dD 6 P)).length) = 6 by omega, hU]
      · rw [List.length_map, ← Nat.pow_add, show (tz (dD 6 P)).length + (6 - (tz (dD 6 P)).length) = 6 by omega]
end Pd

/-! ## x.translate(TABLE) of a text all of whose signs the table drops -/
namespace PySem
namespace PdT
open Builtin Builtin.Str
section
variable {prog : Program} {w : World} {A : Around} {E : Value → Shared → Prop} {s : Shared} {d : Addr} {c : Nat}
theorem mapKeepsI {h h' : Heap} {a : Addr} {f : Int → Option Value} (m : h.MapOf (intKind prog w) a f) (k : ∀ b o, h.get? b = some o → h'.get? b = some o) : h'.MapOf (intKind prog w) a f := by
  obtain ⟨o, es, ep, ho, r⟩ := m
  exact ⟨o, es, ep, k _ _ ho, r⟩
theorem dropped {f : Int → Option Value} {Q : Mapped → Shared → Prop} (hm : s.heap.MapOf (intKind prog w) d f) (hf : f (c : Int) = some .none) (z : ∀ k, Q .drop { s with toks := k }) : wpAny (model prog w) A (tableLookup (.ref d) c) Q E s := by
  unfold tableLookup
  refine wpAny_bind (wpAny_attempt (wpAny_bind (wpAny_mkInt ?_)))
  refine wpAny_getItem_of (knd := intKind prog w) (k := (c : Int)) (by simp [PySem.intKind, Value.isInt]) hm hf ?_
  exact wpAny_pure (z _)
end
/-- while the signs are walked -/
def DrI (x : List Nat) (s : Shared) (rest : List Nat) (st : List Str × Nat × Bool × List (Nat × Option Nat) × Bool) (s' : Shared) : Prop :=
  ∃ (past : List Nat) (kn : List (Nat × Option Nat)) (k : Nat), x = past ++ rest ∧ st = ([], 0, true, kn, false) ∧ (∀ c a, kn.lookup c = some a → a = none) ∧ s' = { s with toks := k }
theorem DrI.on {x : List Nat} {s : Shared} {rest past : List Nat} {c : Nat} {kn : List (Nat × Option Nat)} {k : Nat} (e1 : x = past ++ c :: rest) (e3 : ∀ c a, kn.lookup c = some a → a = none) : DrI x s rest ([], 0, true, kn, false) { s with toks := k } :=
  ⟨past ++ [c], kn, k, by rw [e1, List.append_assoc] <;> rfl, rfl, e3, rfl⟩
theorem drMeets {prog : Program} {w : World} (x : List Nat) (t : Tok) (d : Addr) (h128 : ∀ c ∈ x, c < 128) : MeetsIn prog w («str.translate» ⟨[.str (SX.S x) t, .ref d], []⟩) (fun A R s =>
    (∃ f, s.heap.MapOf (intKind prog w) d f ∧ ∀ c ∈ x, f (c : Int) = some .none) ∧ ∀ (v : Value) (k : Nat), (∃ t', v = .str (SX.S []) t') → R (.ok (.ret v)) { s with toks := k }) := by
  refine .of_wp fun A R s h => ?_
  obtain ⟨⟨f, hm, hk⟩, h⟩ := h
  show wpAny _ _ (if ((SX.S x).length == 0) = true then (do rule "str.translate.empty"; ret (.str (SX.S x) t)) else (do
    let st ← forIn (SX.S x).cps (([], 0, (SX.S x).cps.all fun y => decide (y < 128), [], false) : List Str × Nat × Bool × List (Nat × Option Nat) × Bool) _
    _)) _ _ s
  by_cases h0 : ((SX.S x).length == 0) = true
  · rw [if_pos h0]
    have hx : x = [] := by
      rw [beq_iff_eq, SX.S_len] at h0
      exact List.eq_nil_of_length_eq_zero h0
    subst hx
    exact wpAny_bind (wpAny_rule (wpAny_pure ⟨_, rfl, h _ s.toks ⟨t, rfl⟩⟩))
  · rw [if_neg h0]
    have fa : ((SX.S x).cps.all fun y => decide (y < 128)) = true := by
      rw [← Array.all_toList]
      show x.all _ = true
      rw [List.all_eq_true]
      exact fun c hc => decide_eq_true (h128 c hc)
    rw [fa]
    refine wpAny_bind (MeetsSeq2.wpAny_forIn_array _ (DrI x s) _ (fun c rest st s' hI => ?turn) (fun st s' hI => ?fin) (SX.S x).cps ([], 0, true, [], false) ?h0)
    case h0 =>
      refine ⟨[], [], s.toks, ?_, rfl, fun c a z => ?_, rfl⟩
      · show x = [] ++ x.toArray.toList
        rw [List.toList_toArray, List.nil_append]
      · rw [List.lookup_nil] at z
        cases z
    case turn =>
      obtain ⟨past, kn, k, e1, e2, e4, e5⟩ := hI
      subst e2
      subst e5
      have hc : c ∈ x := by
        rw [e1]
        exact List.mem_append_right _ (List.mem_cons_self ..)
      have hm' : ({ s with toks := k } : Shared).heap.MapOf (intKind prog w) d f := hm
      show wpAny _ _ (if tooLong 0 = true then _ else (if true = true then _ else _)) _ _ _
      rw [show tooLong 0 = false from PyProof.Rows.short24 (by decide), if_neg Bool.false_ne_true, if_pos rfl]
      cases hl : List.lookup c kn with
      | some a =>
        have ha := e4 c a hl
        subst ha
        refine wpAny_bind (wpAny_pure ?_)
        exact wpAny_pure (DrI.on e1 e4)
      | none =>
        have new : ∀ c' a, List.lookup c' ((c, none) :: kn) = some a → a = none := fun c' a z => by
          rw [List.lookup_cons] at z
          by_cases q : c' = c
          · rw [q, beq_self_eq_true] at z
            exact (Option.some.inj z).symm
          · rw [beq_eq_false_iff_ne.mpr q] at z
            exact e4 c' a z
        refine wpAny_bind (dropped hm' (hk c hc) fun k2 => ?_)
        refine wpAny_bind (wpAny_pure ?_)
        refine wpAny_pure ?_
        exact DrI.on (k := k2) e1 new
    case fin =>
      obtain ⟨past, kn, k, e1, e2, e4, e5⟩ := hI
      subst e2
      subst e5
      show wpAny _ _ (if tooLong 0 = true then _ else retStr { cps := List.foldl (fun acc (p : Str) => acc ++ p.cps) #[] [] }) _ _ _
      rw [show tooLong 0 = false from PyProof.Rows.short24 (by decide), if_neg Bool.false_ne_true]
      exact wpAny_bind (wpAny_mkStr (wpAny_pure ⟨_, rfl, h _ _ ⟨_, rfl⟩⟩) (by decide))
end PdT
end PySem
namespace Pd
open PySem PySem.Spec PyProof.Rows L2
open SX (S)
/-- a table of the top that drops each sign for which p holds -/
structure TabD (K : PySem.W.Frag) (P : Program) (w : World) (mg : Str → Option Value) (x : Str) (d : Addr) (p : Nat → Bool) : Prop where
  gl : mg x = some (.ref d)
  map : ∀ h : Heap, K.In h → ∃ f, h.MapOf (intKind P w) d f ∧ ∀ c : Nat, p c = true → f (c : Int) = some .none
section
variable {X : Cx} {x : Str} {d : Addr} {p : Nat → Bool}
theorem pe_tbD (T : TabD X.K X.prog X.w X.mg x d p) {pos : Pos} (hg : Gl X x) (hdb : (x == ("__debug__" : Str)) = false := by decide) : PE X (.Name x pos) (tC (.ref d)) :=
  pe_glob hg T.gl rfl hdb
def rTrd (d : Addr) (p : Nat → Bool) : V → List V → Hp → VK → Prop := fun x xs H Q => ∃ t : List Nat, x = .str (S t) ∧ xs = [.ref d] ∧ (∀ c ∈ t, c < 128) ∧ (∀ c ∈ t, p c = true) ∧ Q (.str (S [])) H
theorem mt_trd (T : TabD X.K X.prog X.w X.mg x d p) : MtR X "str.translate" (rTrd d p) := by
  intro pins s σ H x xs v us Q I rx rs h
  obtain ⟨a, rfl, rfl, h4, h5, h⟩ := h
  obtain ⟨t, rfl⟩ := rx
  cases rs with
  | cons r1 rs =>
    cases rs
    cases r1
    obtain ⟨f, m, g⟩ := T.map _ I.kIn
    refine call_meetsIn F.slot_str_translate (typeIs_str _ _ _) F.entry_str_translate (F.args_str_translate_2 _ _) (PySem.PdT.drMeets a t d h4) ⟨⟨f, m, fun c hc => g c (h5 c hc)⟩, ?_⟩
    intro v k ⟨t', e⟩
    subst e
    exact ⟨.str _, H, I.tok _, ⟨t', rfl⟩, h⟩
end
/-! ### the table as the top has written it -/
def iKey (e : DictEntry) : Option Int := match e.key, e.val with
  | .int k _, .none => if e.hash = hashInt k then some k else none
  | _, _ => none
theorem iKey_is {e : DictEntry} {k : Int} (h : iKey e = some k) : (∃ t, e.key = .int k t) ∧ e.val = .none ∧ e.hash = hashInt k := by
  unfold iKey at h
  split at h
  · rename_i k' t q1 q2
    split at h
    · rename_i q3
      cases h
      exact ⟨⟨t, q1⟩, q2, q3⟩
    · cases h
  · cases h
theorem tabD_mk {P : Program} {w : World} {K : PySem.W.Frag} {h : Heap} {mg : Str → Option Value} {x : Str} {d : Addr} {es : Array DictEntry} {n : Nat} {p : Nat → Bool} (X : K.In h) (G : h.Ns mainGlobals mg)
    (a : PySem.W.nsIn K mainGlobals x = some (some (.ref d))) (l : K.lookup d = some ⟨.type "dict", none, .dict es n, #[]⟩) (ks : List Int) (hk : es.toList.map iKey = ks.map some) (hp : ∀ c : Nat, p c = true → (c : Int) ∈ ks) : TabD K P w mg x d p := by
  refine ⟨PySem.W.mg_of X G a, fun h' X' => ⟨findBy (intKind P w).is es, ⟨_, es, n, X' _ _ l, ⟨rfl, rfl, rfl⟩, rfl, fun e he => ?_, fun _ => rfl⟩, fun c hc => ?_⟩⟩
  · have hm : iKey e ∈ es.toList.map iKey := List.mem_map_of_mem (by simpa using he)
    rw [hk] at hm
    obtain ⟨k, _, e1⟩ := List.mem_map.mp hm
    obtain ⟨⟨t, e2⟩, _, e3⟩ := iKey_is e1.symm
    exact ⟨k, by rw [e2]; simp [PySem.intKind, Value.isInt], e3⟩
  · have hc2 := hp c hc
    show (es.find? fun e => Value.isInt (c : Int) e.key).map (·.val) = some .none
    obtain ⟨es⟩ := es
    rw [List.find?_toArray]
    have hk : es.map iKey = ks.map some := hk
    cases q : es.find? fun e => Value.isInt (c : Int) e.key with
    | none =>
      exfalso
      rw [List.find?_eq_none] at q
      have : some (c : Int) ∈ es.map iKey := by rw [hk]; exact List.mem_map_of_mem hc2
      obtain ⟨e, h1, h2⟩ := List.mem_map.mp this
      obtain ⟨⟨t, e2⟩, _⟩ := iKey_is h2
      exact q e h1 (by rw [e2]; simp [Value.isInt])
    | some e =>
      have he := List.mem_of_find?_eq_some q
      have hm : iKey e ∈ es.map iKey := List.mem_map_of_mem he
      rw [hk] at hm
      obtain ⟨k, _, e1⟩ := List.mem_map.mp hm
      obtain ⟨_, e2, _⟩ := iKey_is e1.symm
      show some e.val = some .none
      rw [e2]
section
variable {X : Cx} {o : Expr} {to : TE} {apos pos : Pos}
/-- x.m(), where x's own reading wants a token -/
theorem pet_m0 {id : String} {name : Str} {r : V → List V → Hp → VK → Prop} (slot : Slot "str" name id) (ty : typeOf (.builtin id) = pure (.type "method_descriptor")) (rule : MtR X id r) (ho : PET X o to) (hbase : attributeBase o name X.env (eval o X.env) = eval o X.env := by rfl)
    (hline : (apos.endLine == pos.line) = true := by rfl) : PET X (.Call (.Attribute o name apos) [] [] pos) (tM0 r to) := fun pins s σ H Q h0 I h => by
  refine PySem.Call_method0 hbase hline (thn (ho pins s σ H _ h0 I h) fun v s1 hh => ?_)
  obtain ⟨x, H1, I1, r1, ⟨a, rfl⟩, q1⟩ := hh
  obtain ⟨t, rfl⟩ := _root_.id r1
  exact ⟨"str", _, F.plainAttrs_str, slot, ty, typeIs_str _ _ _, (fun _ e => nomatch e), Calls.callWith_builtin rfl (PySem.evalArgs_none (rule pins s1 σ H1 _ [] _ [] Q I1 r1 .nil q1))⟩
end
section
variable {P : Program} {w : World} {K : PySem.W.Frag} {mg : Str → Option Value} {base : Heap}
/-- a def with a parameter, whose body wants a token -/
theorem calt_of {x : Str} {st : Stmt} {N ps : List Str} {k : Nat} {sp : Sp} (D : Dfn K mg x st ps) (Sc : FnScope N ps (defScope st)) (hnc : ∀ y ∈ (defScope st).names, y.2 ≠ .cell) (hps : 1 ≤ ps.length) (len : ∀ vs H Q E, sp vs H Q E → vs.length = ps.length)
    (hbody : ∀ (f : Addr) (cdv : Value) (A : Around) (outer : List Env) (s : Shared) (H : Hp) (vs : List V) (Q : VK) (E : XK), Room k (A.deeper (envOfC x (defScope st) s.heap.objs.size f cdv)) → sp vs H Q E →
      ∃ t, PSsT (cxOf CX0 P w K mg base N x (defScope st) f cdv A outer s H E) (defBody st) t ∧ t { nx := fun _ H' => Q .non H', rt := Q } (start N vs) H) : Cal P w K mg base (k + 1) x sp := by
  obtain ⟨f, fd, F, m, b, e⟩ := D.ex
  obtain ⟨oc, od, kV, doc, pm, an, cdv, ct, osl, rfl, lk, hcd⟩ := F.ex
  have R := fn_ofT (CX := CX0) (P := P) (w := w) (mg := mg) (base := base) lk hcd Sc hnc hps len fun A outer s H vs Q E hr h => hbody f cdv A outer s H vs Q E hr h
  exact ⟨f, _, ps, R, m, F.kp, b, rec_of F, e⟩
end
theorem repl_out {c : Nat} : ∀ s : List Nat, PySem.StrLaws.replL [c] [] s = s.filter (· ≠ c)
  | [] => PySem.StrLaws.replL_nil
  | a :: s => by
    by_cases e : a = c
    · subst e
      rw [PySem.StrLaws.replL_hit (List.cons_ne_nil _ _) rfl, List.filter_cons_of_neg (by simp)]
      show [] ++ PySem.StrLaws.replL [a] [] s = _
      rw [List.nil_append, repl_out s]
    · rw [PySem.StrLaws.replL_miss (by intro z; exact e (List.cons.inj z).1), repl_out s, List.filter_cons_of_pos (by simpa using e)]
theorem repl_S {c : Nat} {s : List Nat} : Txt.replace (S s) (S [c]) (S []) = S (s.filter (· ≠ c)) := by
  have h := PySem.StrLaws.replace_list (x := S s) (y := S [c]) (z := S []) (by rw [SX.S_len]; exact Nat.le_refl 1)
  have e : ∀ l : List Nat, (S l).cps.toList = l := fun l => by simp [S]
  rw [e, e, e, repl_out] at h
  have h2 := SX.S_tl (Txt.replace (S s) (S [c]) (S []))
  rw [h] at h2
  exact h2.symm
theorem uni_prt : ∀ c : Nat, c < 127 → 32 ≤ c → Unicode.isPrintable c = true := by decide +kernel
theorem prt_S {l : List Nat} (h : ∀ c ∈ l, 32 ≤ c ∧ c < 127) : Txt.isprintable (S l) = true := by
  unfold Txt.isprintable
  rw [← Array.all_toList]
  show l.all _ = true
  rw [List.all_eq_true]
  exact fun c hc => uni_prt c (h c hc).2 (h c hc).1
end Pd

namespace Pd
open PySem PySem.Spec PyProof.Rows L2
open SX (S)
structure BiN (mg : Str → Option Value) : Prop where
  b_len : mg "len" = none
  b_int : mg "int" = none
  b_str : mg "str" = none
  b_abs : mg "abs" = none
  b_range : mg "range" = none
  b_isinstance : mg "isinstance" = none
  b_bool : mg "bool" = none
  b_tuple : mg "tuple" = none
  b_divmod : mg "divmod" = none
theorem same_upd {H : Hp} {p : Addr} {o : HO} (h : H p = none) : Same H (upd H p o) := fun b x e => by
  rw [upd_ne (ne_of_none e h)]
  exact e
theorem catS {a b : List Nat} : S a ++ S b = S (a ++ b) := by
  show Str.mk ((S a).cps ++ (S b).cps) = S (a ++ b)
  simp [S]
theorem pe_ci {X : Cx} {x : Str} {i : Int} {pos : Pos} (h : ∃ t, X.mg x = some (.int i t)) (hg : Gl X x) (hd : (x == ("__debug__" : Str)) = false := by decide) : PE X (.Name x pos) (tC (.int i)) := by
  obtain ⟨t, e⟩ := h
  exact pe_glob hg e ⟨t, rfl⟩ hd
theorem pe_cst {X : Cx} {x : Str} {i : Str} {pos : Pos} (h : ∃ t, X.mg x = some (.str i t)) (hg : Gl X x) (hd : (x == ("__debug__" : Str)) = false := by decide) : PE X (.Name x pos) (tC (.str i)) := by
  obtain ⟨t, e⟩ := h
  exact pe_glob hg e ⟨t, rfl⟩ hd
theorem vl_zeros : ∀ (n m : Nat), vl m (List.replicate n 48) = m * 10 ^ n
  | 0, m => (Nat.mul_one m).symm
  | n + 1, m => by
    show vl (m * 10) (List.replicate n 48) = _
    rw [vl_zeros n, Nat.pow_succ, Nat.mul_assoc, Nat.mul_comm 10]
theorem zfill_S {s : List Nat} {k : Nat} (h : s.head? ≠ some 43 ∧ s.head? ≠ some 45) : Txt.zfill (S s) (k : Int) = S (List.replicate (k - s.length) 48 ++ s) := by
  unfold Txt.zfill
  rw [sL]
  by_cases e : (k : Int) ≤ (s.length : Int)
  · rw [if_pos e, show k - s.length = 0 by omega]
    rfl
  · rw [if_neg e, Int.toNat_natCast]
    unfold zfilled
    have hp : Builtin.Str.padded (S s) (k - s.length) 0 48 = S (List.replicate (k - s.length) 48 ++ s) := by
      unfold Builtin.Str.padded
      show Str.mk (Array.replicate _ 48 ++ (S s).cps ++ Array.replicate 0 48) = _
      simp [S]
    split
    · rename_i q
      exfalso
      cases s with
      | nil => simp [S] at q
      | cons c t =>
        have : c = 43 := by simpa [S] using q
        exact h.1 (by rw [this]; rfl)
    · rename_i q
      exfalso
      cases s with
      | nil => simp [S] at q
      | cons c t =>
        have : c = 45 := by simpa [S] using q
        exact h.2 (by rw [this]; rfl)
    · exact hp
theorem int_dig {l : List Nat} (h : l.all isDig = true) (hn : l ≠ []) (hl : l.length ≤ 640) : intText? (S l) = some ((vl 0 l : Nat) : Int) := by
  rw [← vl_digits]
  exact SX.int_S h hn (by omega)
theorem pad_ok {n : Nat} (h : n ≤ 100000) : PadOk (n : Int) = true := by
  unfold PadOk fitsSsize
  rw [Int.toNat_natCast]
  have h1 : decide ((n : Int) < -(2 ^ 63 : Int)) = false := decide_eq_false (by omega)
  have h2 : decide ((n : Int) ≥ 2 ^ 63) = false := decide_eq_false (by omega)
  have h3 : Builtin.Str.tooLong n = false := decide_eq_false (by have := sz5 h; omega)
  rw [h1, h2, h3]
  rfl
section
variable {P : Program} {w : World} {K : PySem.W.Frag} {mg : Str → Option Value} {base : Heap}
def sp_power : Sp := fun vs H Q _ => ∃ n : Nat, vs = [.int (n : Int)] ∧ n ≤ 300 ∧ Q (.int ((10 ^ n : Nat) : Int)) H
def sp_integer : Sp := fun vs H Q _ => ∃ l : List Nat, vs = [.str (S l)] ∧ l.all isDig = true ∧ l.length ≤ 600 ∧ Q (.int ((vl 0 l : Nat) : Int)) H
def sp_digits : Sp := fun vs H Q _ => ∃ n : Nat, vs = [.int (n : Int)] ∧ n.log2 < 1900 ∧ Q (.str (S (TL.numL n))) H
/-! ### end_of_digits -/
def sp_eod : Sp := fun vs H Q _ => ∃ (s : List Nat) (a : Nat), vs = [.str (S s), .int (a : Int)] ∧ a ≤ s.length ∧ s.length ≤ 1000 ∧ Q (.int ((a + ((s.drop a).takeWhile isDig).length : Nat) : Int)) H
end
end Pd

namespace PySem
open Builtin Builtin.Str PySem.Spec PyProof.Rows
/-! ### x.replace(y, z, 1) -/
theorem gives_str_replaceN (x y z : Str) (t u v : Tok) (k : Tok) 
    (hf : ((occurrences x y 0 x.length 1).isEmpty || (y.length == 0 && z.length == 0)) = false →
      (u == 0 || v == 0) = false ∧ (u == v) = false ∧ (y == z) = false ∧ tooLong (x.length + (occurrences x y 0 x.length 1).length * z.length) = false) :
    Gives («str.replace» ⟨[.str x t, .str y u, .str z v, .int 1 k], []⟩) (if ((occurrences x y 0 x.length 1).isEmpty || (y.length == 0 && z.length == 0)) = true then .val (.str x t) else .str (glued z (partsBetween x (occurrences x y 0 x.length 1) y.length))) := by
  have hc : countLimit "str.replace" (some (.int 1 k)) (x.length + 1) = pure 1 := countLimit_int "str.replace" 1 k (x.length + 1) (by decide)
  show Gives (do let limit ← countLimit "str.replace" (some (.int 1 k)) (x.length + 1)
                 let cuts := occurrences x y 0 x.length limit
                 if (cuts.isEmpty || (y.length == 0 && z.length == 0)) = true then (do rule "str.replace.nothing"; ret (.str x t)) else
                  (do let same ← isSame (.str y u) (.str z v)
                      if same = true then (do rule "str.replace.old-is-new"; ret (.str x t)) else
                      if tooLong (x.length + cuts.length * z.length) = true then unsupported "str.replace:memory" else
                      retStr (glued z (partsBetween x cuts y.length)))) _
  rw [hc]
  show Gives (if ((occurrences x y 0 x.length 1).isEmpty || (y.length == 0 && z.length == 0)) = true then (do rule "str.replace.nothing"; ret (.str x t)) else
          (do let same ← isSame (.str y u) (.str z v)
              if same = true then (do rule "str.replace.old-is-new"; ret (.str x t)) else
              if tooLong (x.length + (occurrences x y 0 x.length 1).length * z.length) = true then unsupported "str.replace:memory" else
              retStr (glued z (partsBetween x (occurrences x y 0 x.length 1) y.length)))) _
  cases hc : ((occurrences x y 0 x.length 1).isEmpty || (y.length == 0 && z.length == 0))
  · obtain ⟨h0, huv, hyz, hl⟩ := hf hc
    rw [isSame_str_other y z u v h0 huv hyz, hl]
    exact .of_eq rfl
  · exact .rule (.of_eq rfl)
theorem Call_method3 {prog : Program} {w : World} {A : Around} {E : Value → Shared → Prop} {s : Shared} {env : Env} {o e₁ e₂ e₃ : Expr} {name : Str} {apos pos : Pos} {Q : Value → Shared → Prop}
    (hbase : attributeBase o name env (eval o env) = eval o env) (hs : starEach [e₁, e₂, e₃] env = [(false, eval e₁ env), (false, eval e₂ env), (false, eval e₃ env)]) (hline : (apos.endLine == pos.line) = true)
    (h : wpAny (model prog w) A (eval o env) (fun ov s₁ => MethodOnS prog w A E name ov pos [(false, eval e₁ env), (false, eval e₂ env), (false, eval e₃ env)] Q s₁) E s) :
    wpAny (model prog w) A (eval (.Call (.Attribute o name apos) [e₁, e₂, e₃] [] pos) env) Q E s := by
  refine wpAny_Call_method_lateS hbase (by rw [hs]; rfl) hline ?_
  rw [hs]; exact h
theorem rep1_call {prog : Program} {w : World} {A : Around} {E : Value → Shared → Prop} {s : Shared} {x y z : Str} {t u v k : Tok} {Q : Value → Shared → Prop} (hu : u ≠ 0) (hv : v ≠ 0) (huv : u ≠ v) (hyz : (y == z) = false) (hl : tooLong (x.length + (occurrences x y 0 x.length 1).length * z.length) = false) (hfit : (glued z (partsBetween x (occurrences x y 0 x.length 1) y.length)).length ≤ sizeLine)
    (hq : ∀ t' k', Q (.str (if ((occurrences x y 0 x.length 1).isEmpty || (y.length == 0 && z.length == 0)) = true then x else glued z (partsBetween x (occurrences x y 0 x.length 1) y.length)) t') { s with toks := k' }) :
    wpAny (model prog w) A (call (.builtin "str.replace") [.str x t, .str y u, .str z v, .int 1 k]) Q E s := by
  refine call_gives F.slot_str_replace (typeIs_str _ _ _) F.entry_str_replace (F.args_str_replace_4 _ _ _ _)
    (gives_str_replaceN x y z t u v k fun _ => ⟨by simp [hu, hv], by simp [huv], hyz, hl⟩) ?_
  cases hc : ((occurrences x y 0 x.length 1).isEmpty || (y.length == 0 && z.length == 0))
  · rw [hc] at hq
    simp only [Bool.false_eq_true, if_false] at hq ⊢
    exact ⟨hfit, hq _ _⟩
  · rw [hc] at hq
    simp only [if_true] at hq ⊢
    exact hq t s.toks
end PySem
namespace Pd
open PySem PySem.Spec PyProof.Rows L2
open SX (S)
open Builtin.Str in
theorem occ_one_len (s sub : Str) (hi : Nat) : ∀ (l : List Nat) (st : Array Nat × Nat), st.fst.size ≤ 1 → (forIn l st (StrLaws.occBody s sub hi 1)).run.fst.size ≤ 1 := by
  intro l
  induction l with
  | nil => intro st h; exact h
  | cons a l ih =>
    intro st h
    rw [List.forIn_cons]
    unfold StrLaws.occBody
    split
    · rename_i hc
      refine ih _ ?_
      show (st.fst.push a).size ≤ 1
      rw [Array.size_push]
      omega
    · exact ih _ h
theorem rem46_split : ∀ (s : List Nat) (i : Nat), s[i]? = some 46 → (∀ k, k < i → s[k]? ≠ some 46) → rem46 s = s.take i ++ s.drop (i + 1)
  | [], i, h, _ => by simp at h
  | c :: s, 0, h, _ => by
    have : c = 46 := by simpa using h
    show (if c = 46 then s else c :: rem46 s) = [] ++ s
    rw [if_pos this]
    rfl
  | c :: s, i + 1, h, hn => by
    have hc : c ≠ 46 := fun e => hn 0 (by omega) (by rw [e]; rfl)
    show (if c = 46 then s else c :: rem46 s) = c :: (s.take i ++ s.drop (i + 1))
    rw [if_neg hc, rem46_split s i h fun k hk => hn (k + 1) (by omega)]
theorem rem46_no : ∀ (s : List Nat), 46 ∉ s → rem46 s = s
  | [], _ => rfl
  | c :: s, h => by
    show (if c = 46 then s else c :: rem46 s) = c :: s
    rw [if_neg (fun e => h (by rw [e]; exact List.mem_cons_self ..)), rem46_no s fun e => h (List.mem_cons_of_mem _ e)]
theorem rem46_len : ∀ (s : List Nat), (rem46 s).length ≤ s.length
  | [] => Nat.le_refl _
  | c :: s => by
    show (if c = 46 then s else c :: rem46 s).length ≤ s.length + 1
    have := rem46_len s
    split
    · omega
    · rw [List.length_cons]; omega
/-- what x.replace('.', '', 1) hands back -/
theorem cut_one (s : List Nat) : (if ((Builtin.Str.occurrences (S s) (S [46]) 0 (S s).length 1).isEmpty || ((S [46]).length == 0 && (S []).length == 0)) = true then S s else Builtin.Str.glued (S []) (Builtin.Str.partsBetween (S s) (Builtin.Str.occurrences (S s) (S [46]) 0 (S s).length 1) (S [46]).length)) = S (rem46 s) := by
  have h46 : (S [46]).length = 1 := rfl
  rw [h46]
  have hl1 : (Builtin.Str.occurrences (S s) (S [46]) 0 (S s).length 1).length ≤ 1 := by
    rw [StrLaws.occ_eq]
    have := occ_one_len (S s) (S [46]) (S s).length (List.range' 0 ((S s).length + 1 - 0)) (#[], 0) (by simp)
    simpa using this
  rcases StrLaws.occ_head_from (S s) (S [46]) 0 1 (Nat.le_refl 1) with ⟨h0, hn⟩ | ⟨i, r, h0, hlo, hi, hn⟩
  · rw [h0]
    have : rem46 s = s := rem46_no s fun e => by
      obtain ⟨i, hi⟩ := List.getElem?_of_mem e
      exact hn i (Nat.zero_le _) ((StrLaws.subAt_one (S s) 46 i).mpr (by rw [tlS]; exact hi))
    rw [this]
    rfl
  · rw [h0] at hl1 ⊢
    have hr : r = [] := by
      cases r with
      | nil => rfl
      | cons a b => simp at hl1
    subst hr
    have hm := (StrLaws.subAt_one (S s) 46 i).mp hi
    rw [tlS] at hm
    have hmin : ∀ k, k < i → s[k]? ≠ some 46 := fun k hk e => hn k (Nat.zero_le _) hk ((StrLaws.subAt_one (S s) 46 k).mpr (by rw [tlS]; exact e))
    rw [rem46_split s i hm hmin]
    show Builtin.Str.glued (S []) [Builtin.Str.strSub (S s) 0 i, Builtin.Str.strSub (S s) (i + 1) (S s).length] = _
    have e := PySem.StrLaws.glued_list (S []) (Builtin.Str.strSub (S s) 0 i) [Builtin.Str.strSub (S s) (i + 1) (S s).length]
    have e1 : (Builtin.Str.strSub (S s) 0 i).cps.toList = s.take i := by rw [StrLaws.strSub_toList, tlS]; simp
    have e2 : (Builtin.Str.strSub (S s) (i + 1) (S s).length).cps.toList = s.drop (i + 1) := by
      rw [StrLaws.strSub_toList, tlS, sL]
      exact List.take_of_length_le (by rw [List.length_drop]; omega)
    have h2 := SX.S_tl (Builtin.Str.glued (S []) [Builtin.Str.strSub (S s) 0 i, Builtin.Str.strSub (S s) (i + 1) (S s).length])
    rw [e] at h2
    rw [← h2]
    congr 1
    show (Builtin.Str.strSub (S s) 0 i).cps.toList ++ ((S []).cps.toList ++ ((Builtin.Str.strSub (S s) (i + 1) (S s).length).cps.toList ++ [])) = _
    rw [e1, e2, tlS, List.append_nil]
    rfl
open CwR in
def tRepl1 (to : TE) : TE := fun σ H Q => to σ H fun v H1 => ∃ s : List Nat, v = .str (S s) ∧ s.length ≤ 100000 ∧ Q (.str (S (rem46 s))) H1
section
variable {X : Cx} {o : Expr} {to : TE} {y z : Str} {j k l : Nat} {c0 c1 c2 apos pos : Pos}
theorem pet_repl1 (ho : PE X o to) (hy : y = S [46] := by decide +kernel) (hz : z = S [] := by decide +kernel)
    (hst : starEach [.Constant (.str y) j c0, .Constant (.str z) k c1, .Constant (.int 1) l c2] X.env = [(false, eval (.Constant (.str y) j c0) X.env), (false, eval (.Constant (.str z) k c1) X.env), (false, eval (.Constant (.int 1) l c2) X.env)] := by rfl)
    (hbase : attributeBase o "replace" X.env (eval o X.env) = eval o X.env := by rfl) (hline : (apos.endLine == pos.line) = true := by rfl) :
    PET X (.Call (.Attribute o "replace" apos) [.Constant (.str y) j c0, .Constant (.str z) k c1, .Constant (.int 1) l c2] [] pos) (tRepl1 to) := by
  intro pins s σ H Q h0 I h
  refine PySem.Call_method3 hbase hst hline (wpAny_mono (PySem.wpAny_toks (ho.run pins s σ H _ I h)) (fun v s1 q => ?_) fun _ _ z => z.2)
  obtain ⟨hk, v', H1, I1, r1, x, e1, hb, q⟩ := q
  subst e1
  obtain ⟨tx, e2⟩ := r1
  subst e2
  have key : (if ((Builtin.Str.occurrences (S x) y 0 (S x).length 1).isEmpty || (y.length == 0 && z.length == 0)) = true then S x else Builtin.Str.glued z (Builtin.Str.partsBetween (S x) (Builtin.Str.occurrences (S x) y 0 (S x).length 1) y.length)) = S (rem46 x) := by
    rw [hy, hz]
    exact cut_one x
  have hyz : (y == z) = false := by
    rw [hy, hz]
    decide +kernel
  have hl : Builtin.Str.tooLong ((S x).length + (Builtin.Str.occurrences (S x) y 0 (S x).length 1).length * z.length) = false := by
    have : z.length = 0 := by rw [hz]; rfl
    rw [this, Nat.mul_zero, Nat.add_zero, sL]
    exact decide_eq_false (by have := sz5 hb; omega)
  refine ⟨"str", _, PySem.F.plainAttrs_str, PySem.F.slot_str_replace, PySem.F.type_str_replace, typeIs_str _ _ _, (fun _ e => nomatch e), Calls.callWith_builtin rfl (Calls.evalArgs_plain (Calls.spliced_cons ?_))⟩
  refine Calls.Constant_str (Calls.spliced_cons (Calls.Constant_str (Calls.spliced_cons (wpAny_Constant_int (Calls.spliced_nil ?_)))))
  refine rep1_call (by show s1.toks ≠ 0; omega) (by show s1.toks + 1 ≠ 0; omega) (by show s1.toks ≠ s1.toks + 1; omega) hyz hl ?_ ?_
  · cases hc : ((Builtin.Str.occurrences (S x) y 0 (S x).length 1).isEmpty || (y.length == 0 && z.length == 0)) with
    | false =>
      rw [hc, if_neg (by decide)] at key
      rw [key, sL]
      exact Nat.le_trans (rem46_len x) (sz5 hb)
    | true =>
      have hy1 : (y.length == 0) = false := by rw [hy]; decide +kernel
      rw [hy1, Bool.false_and, Bool.or_false] at hc
      have h0 := List.isEmpty_iff.mp hc
      rw [h0]
      show (Builtin.Str.strSub (S x) 0 (S x).length).cps.size ≤ _
      rw [← Array.length_toList, StrLaws.strSub_toList, tlS, List.length_take, List.length_drop]
      have := sz5 hb
      omega
  intro t' k'
  rw [key]
  exact ⟨.str (S (rem46 x)), H1, I1.tok _, ⟨t', rfl⟩, q⟩
end
/-! ### strips -/
theorem cont3 : (S [32, 9, 10]).cps.contains = blk := by
  funext c
  unfold blk
  rw [← Array.contains_toList, tlS]
  simp [List.contains_cons, Bool.beq_eq_decide_eq]
theorem cont48 : (S [48]).cps.contains = (fun d => decide (d = 48)) := by
  funext c
  rw [← Array.contains_toList, tlS]
  simp [List.contains_cons, Bool.beq_eq_decide_eq]
theorem dw_drop {p : Nat → Bool} : ∀ s : List Nat, s.drop (s.takeWhile p).length = s.dropWhile p
  | [] => rfl
  | c :: s => by
    by_cases e : p c = true
    · rw [List.takeWhile_cons_of_pos e, List.dropWhile_cons_of_pos e, List.length_cons, List.drop_succ_cons]
      exact dw_drop s
    · rw [List.takeWhile_cons_of_neg e, List.dropWhile_cons_of_neg e]
      rfl
theorem dw_take {p : Nat → Bool} (x : List Nat) : x.take (x.length - (x.reverse.takeWhile p).length) = (x.reverse.dropWhile p).reverse := by
  have h : x = (x.reverse.dropWhile p).reverse ++ (x.reverse.takeWhile p).reverse := by
    rw [← List.reverse_append, List.takeWhile_append_dropWhile, List.reverse_reverse]
  have hl : x.length - (x.reverse.takeWhile p).length = (x.reverse.dropWhile p).reverse.length := by
    have := congrArg List.length h
    rw [List.length_append, List.length_reverse, List.length_reverse] at this
    rw [List.length_reverse]
    omega
  rw [hl]
  conv => lhs; arg 2; rw [h]
  exact List.take_left
theorem sub_S {s : List Nat} {i j : Nat} : Builtin.Str.strSub (S s) i j = S ((s.drop i).take (j - i)) := by
  have h := SX.S_tl (Builtin.Str.strSub (S s) i j)
  rw [StrLaws.strSub_toList, tlS] at h
  exact h.symm
theorem lstrip_S (s : List Nat) : Txt.lstripChars (S s) (S [32, 9, 10]) = S (s.dropWhile blk) := by
  unfold Txt.lstripChars
  rw [PySem.W.stripBy_eq, cont3]
  show Builtin.Str.strSub (S s) ((S s).cps.toList.takeWhile blk).length (S s).length = _
  rw [sub_S, tlS, sL, dw_drop, List.take_of_length_le]
  have := congrArg List.length (dw_drop (p := blk) s)
  rw [List.length_drop] at this
  omega
theorem strip_S (s : List Nat) : Txt.stripChars (S s) (S [32, 9, 10]) = S (rtr (s.dropWhile blk)) := by
  unfold Txt.stripChars
  rw [PySem.W.stripBy_eq, cont3]
  show Builtin.Str.strSub (S s) ((S s).cps.toList.takeWhile blk).length ((S s).length - (((S s).cps.toList.drop ((S s).cps.toList.takeWhile blk).length).reverse.takeWhile blk).length) = _
  rw [sub_S, tlS, sL, dw_drop]
  unfold rtr
  rw [← dw_take]
  congr 2
  have := congrArg List.length (dw_drop (p := blk) s)
  rw [List.length_drop] at this
  omega
theorem rstrip48 (s : List Nat) : Txt.rstripChars (S s) (S [48]) = S (tz48 s) := by
  unfold Txt.rstripChars
  rw [PySem.W.stripBy_eq, cont48]
  show Builtin.Str.strSub (S s) 0 ((S s).length - (((S s).cps.toList.drop 0).reverse.takeWhile (fun d => decide (d = 48))).length) = _
  rw [sub_S, tlS, sL, List.drop_zero, Nat.sub_zero, dw_take]
  rfl
theorem isdigit_S {s : List Nat} (h : ∀ c ∈ s, c < 128) : Txt.isdigit (S s) = (!decide (s = []) && s.all isDig) := by
  unfold Txt.isdigit
  rw [sL, ← Array.all_toList, tlS]
  congr 1
  · cases s with
    | nil => rfl
    | cons c t => rfl
  · induction s with
    | nil => rfl
    | cons c t ih =>
      rw [List.all_cons, List.all_cons, uni_dig c (h c (List.mem_cons_self ..)), ih fun d hd => h d (List.mem_cons_of_mem _ hd)]
end Pd

namespace Pd
open PySem PySem.Spec PyProof.Rows L2
open SX (S)
theorem rem46_mem : ∀ {s : List Nat} {c : Nat}, c ∈ rem46 s → c ∈ s
  | [], c, h => h
  | d :: s, c, h => by
    have h : c ∈ (if d = 46 then s else d :: rem46 s) := h
    by_cases e : d = 46
    · rw [if_pos e] at h
      exact List.mem_cons_of_mem _ h
    · rw [if_neg e] at h
      rcases List.mem_cons.1 h with rfl | h
      · exact List.mem_cons_self ..
      · exact List.mem_cons_of_mem _ (rem46_mem h)
theorem rtr_mem {s : List Nat} {c : Nat} (h : c ∈ rtr s) : c ∈ s := by
  unfold rtr at h
  exact List.mem_reverse.mp ((List.dropWhile_suffix _).subset (List.mem_reverse.mp h))
theorem rtr_le (s : List Nat) : (rtr s).length ≤ s.length := by
  unfold rtr
  rw [List.length_reverse]
  have := (List.dropWhile_suffix (l := s.reverse) blk).length_le
  rw [List.length_reverse] at this
  exact this
theorem dw_le {p : Nat → Bool} (s : List Nat) : (s.dropWhile p).length ≤ s.length := (List.dropWhile_suffix (l := s) p).length_le
theorem dw_mem {p : Nat → Bool} {s : List Nat} {c : Nat} (h : c ∈ s.dropWhile p) : c ∈ s := (List.dropWhile_suffix _).subset h
theorem pst_set {X : Cx} {i : Nat} {x : Str} {e : Expr} {te : TE} {pos' pos : Pos} (hN : X.N.Nodup) (hi : X.N[i]? = some x) (hx : Loc X.env.scope x) (he : PET X e te) (hs : swapsWith e (some (.Name x pos')) pos.line X.env = pure false := by rfl) (hf : X.fn x = true ∨ X.env.scope.names.lookup x = some .local := by first | exact .inl rfl | exact .inr rfl | assumption) :
    PST X (.Assign [.Name x pos'] e pos) (tAsg te (gName i)) := by
  intro pins s σ H D h0 I h
  refine wpAny_Assign_Name (thn (he pins s σ H _ h0 I h) fun v s1 ⟨y, H1, I1, r1, q1⟩ => ?_) hs
  exact store_ok I1 hN hi hx r1 (fun s2 I2 => ⟨_, H1, I2, q1⟩) hf
theorem sgn_cons (c : Nat) (t : List Nat) : sgn (c :: t) = if c = 45 then (true, t) else if c = 43 then (false, t) else (false, c :: t) := rfl
/-- a sign at the beginning is put away -/
theorem sign_off (x : List Nat) : x.take 1 = [45] ∧ (sgn x) = (true, x.drop 1) ∨ x.take 1 ≠ [45] ∧ x.take 1 = [43] ∧ sgn x = (false, x.drop 1) ∨ x.take 1 ≠ [45] ∧ x.take 1 ≠ [43] ∧ sgn x = (false, x) := by
  cases x with
  | nil => exact .inr (.inr ⟨by simp, by simp, rfl⟩)
  | cons c t =>
    by_cases h1 : c = 45
    · subst h1
      exact .inl ⟨rfl, by rw [sgn_cons, if_pos rfl]; rfl⟩
    · by_cases h2 : c = 43
      · subst h2
        refine .inr (.inl ⟨by simp, rfl, ?_⟩)
        rw [sgn_cons, if_neg (by decide), if_pos rfl]
        rfl
      · refine .inr (.inr ⟨by simpa using h1, by simpa using h2, ?_⟩)
        rw [sgn_cons, if_neg h1, if_neg h2]
theorem sgn_mem {s : List Nat} {c : Nat} (h : c ∈ (sgn s).2) : c ∈ s := by
  rcases sign_off s with ⟨_, e⟩ | ⟨_, _, e⟩ | ⟨_, _, e⟩ <;> rw [e] at h
  · exact List.mem_of_mem_drop h
  · exact List.mem_of_mem_drop h
  · exact h
theorem sgn_le (s : List Nat) : (sgn s).2.length ≤ s.length := by
  rcases sign_off s with ⟨_, e⟩ | ⟨_, _, e⟩ | ⟨_, _, e⟩ <;> rw [e]
  · show (s.drop 1).length ≤ _; rw [List.length_drop]; omega
  · show (s.drop 1).length ≤ _; rw [List.length_drop]; omega
  · exact Nat.le_refl _
theorem cut_to1 {s : List Nat} : cutS (S s) none (some 1) = S (s.take 1) := cut_to (b := 1)
theorem cut_from1 {s : List Nat} : cutS (S s) (some 1) none = S (s.drop 1) := cut_from (b := 1)
section
variable {P : Program} {w : World} {K : PySem.W.Frag} {mg : Str → Option Value} {base : Heap}
def sp_hnf : Sp := fun vs H Q _ => ∃ s : List Nat, vs = [.str (S s)] ∧ (∀ c ∈ s, c < 128) ∧ s.length ≤ 600 ∧ Q (.bl (formN s)) H
end
end Pd

namespace Pd
open PySem PySem.Spec PyProof.Rows L2
open SX (S)
/-! ### sizes of numbers -/
def BB : Nat := 10 ^ 400
theorem bb_pow : BB < 2 ^ 1400 := by decide +kernel
def AA : Nat := 10 ^ 200
theorem aa_bb : 1000000000000 * AA < BB := by decide +kernel
theorem aa_big : 1000000000000 < AA := by decide +kernel
theorem mulw {i j : Int} (hi : i.natAbs < BB) (hj : j.natAbs < BB) : CMulW i j :=
  wide_mul (a := 1400) (b := 1400) (Nat.lt_trans hi bb_pow) (Nat.lt_trans hj bb_pow) (by decide) (by decide) (by decide)
theorem divw {i j : Int} (h : 0 < j) (hj : j.natAbs < BB) : CDivW i j := wide_div h (b := 1400) (Nat.lt_trans hj bb_pow) (by decide) (by decide)
theorem log_bb {n : Nat} (h : n < BB) : n.log2 < 1400 := by
  by_cases e : n = 0
  · subst e; decide
  · exact (Nat.log2_lt e).mpr (Nat.lt_trans h bb_pow)
theorem bb_small {n : Nat} (h : n ≤ 1000000000000) : n < BB := Nat.lt_of_le_of_lt h (by decide +kernel)
def GivesN (t : Int) (b : Nat) (H : Hp) (Q : VK) : Prop := ∀ H' p, Same H H' → H' p = some (.tup [.int t, .int (b : Int)]) → Q (.ref p) H'
theorem GivesN.mono {t : Int} {b : Nat} {H H' : Hp} {Q : VK} (s : Same H H') (g : GivesN t b H Q) : GivesN t b H' Q := fun H2 p s2 e => g H2 p (s.trans s2) e
theorem gives_new {t : Int} {b : Nat} {H : Hp} {Q : VK} (g : GivesN t b H Q) : 0 + 1 + 1 ≤ sizeLine ∧ ∀ p, H p = none → Q (.ref p) (upd H p (.tup [.int t, .int (b : Int)])) := ⟨by show 2 ≤ sizeLine; decide, fun p n => g _ p (same_upd n) upd_same⟩
theorem dVS {a b : List Nat} : decide (V.str (S a) = V.str (S b)) = decide (a = b) := decide_eq_decide.mpr ⟨fun e => SX.S_inj (V.str.inj e), fun e => by rw [e]⟩
theorem parts_le (s : List Nat) : (digN s).length + (plcN s).length ≤ (bodyN s).length := by
  have h1 := congrArg List.length (List.takeWhile_append_dropWhile (p := isDig) (l := bodyN s))
  rw [List.length_append] at h1
  have h2 : (plcN s).length ≤ (ptN ((bodyN s).dropWhile isDig)).length := (List.takeWhile_prefix (l := ptN ((bodyN s).dropWhile isDig)) isDig).length_le
  have h3 : (ptN ((bodyN s).dropWhile isDig)).length ≤ ((bodyN s).dropWhile isDig).length := by
    cases (bodyN s).dropWhile isDig with
    | nil => exact Nat.le_refl _
    | cons c z =>
      rw [ptN]
      split
      · rw [List.length_cons]; omega
      · exact Nat.zero_le _
  unfold digN
  omega
section
variable {P : Program} {w : World} {K : PySem.W.Frag} {mg : Str → Option Value} {base : Heap}
def sp_lowest : Sp := fun vs H Q _ => ∃ (t : Int) (b : Nat), vs = [.int t, .int (b : Int)] ∧ 0 < b ∧ b < BB ∧ GivesN (redT t b) (redB t b) H Q
def sp_rounded : Sp := fun vs H Q _ => ∃ n b : Nat, vs = [.int (n : Int), .int (b : Int)] ∧ 0 < b ∧ b < AA ∧ n < 1000000000 * AA ∧ Q (.int (((2 * n + b) / (2 * b) : Nat) : Int)) H
def sp_begin : Sp := fun vs H Q _ => ∃ s : List Nat, vs = [.str (S s)] ∧ s.length ≤ 250 ∧ GivesN (redT (topN s) (botN s)) (redB (topN s) (botN s)) H Q
/-! ### values -/
/-- a value of the program: unset, a number, a text (kind k) -/
inductive Vl where
  | unset
  | num (t : Int) (b : Nat)
  | txt (seen : Bool) (s : List Nat)
def kindL : Vl → List Nat
  | .unset => [117, 110, 115, 101, 116]
  | .num .. => [110, 117, 109, 98, 101, 114]
  | .txt true _ => [115, 101, 101, 110]
  | .txt false _ => [116, 101, 120, 116]
def VlV : Vl → List V
  | .unset => [.str (S (kindL .unset))]
  | .num t b => [.str (S (kindL (.num t b))), .int t, .int (b : Int)]
  | .txt k s => [.str (S (kindL (.txt k s))), .str (S s)]
def VlIs (H : Hp) (a : Addr) (v : Vl) : Prop := H a = some (.tup (VlV v))
def VlOk : Vl → Prop
  | .unset => True
  | .num t b => 0 < b ∧ b < AA ∧ t.natAbs < AA
  | .txt _ s => s.length ≤ 250 ∧ ∀ c ∈ s, c < 128
def numV : Vl → Int × Nat
  | .unset => (0, 1)
  | .num t b => (t, b)
  | .txt _ s => (redT (topN s) (botN s), redB (topN s) (botN s))
def likeV : Vl → Bool
  | .txt true s => formN s
  | .txt false _ => false
  | _ => true
def textV : Vl → List Nat
  | .unset => []
  | .num t b => txN t b
  | .txt _ s => s
end
end Pd

namespace Pd
open PySem PySem.Spec PyProof.Rows L2
open SX (S)
theorem kl_num {t : Int} {b : Nat} : kindL (.num t b) = [110, 117, 109, 98, 101, 114] := rfl
theorem kl_uns : kindL .unset = [117, 110, 115, 101, 116] := rfl
theorem kl_see {s : List Nat} : kindL (.txt true s) = [115, 101, 101, 110] := rfl
theorem kl_txt {s : List Nat} : kindL (.txt false s) = [116, 101, 120, 116] := rfl
theorem kl_t {k : Bool} {s : List Nat} : kindL (.txt k s) = [115, 101, 101, 110] ∨ kindL (.txt k s) = [116, 101, 120, 116] := by
  cases k
  · exact .inr rfl
  · exact .inl rfl
section
variable {P : Program} {w : World} {K : PySem.W.Frag} {mg : Str → Option Value} {base : Heap}
def sp_number_of : Sp := fun vs H Q _ => ∃ (a : Addr) (v : Vl), vs = [.ref a] ∧ VlIs H a v ∧ VlOk v ∧ GivesN (numV v).1 (numV v).2 H Q
def sp_like : Sp := fun vs H Q _ => ∃ (a : Addr) (v : Vl), vs = [.ref a] ∧ VlIs H a v ∧ VlOk v ∧ Q (.bl (likeV v)) H
/-! ### number_text -/
def sp_ntext : Sp := fun vs H Q _ => ∃ (t : Int) (b : Nat), vs = [.int t, .int (b : Int)] ∧ 0 < b ∧ b < AA ∧ t.natAbs < AA ∧ ∀ H', Same H H' → Q (.str (S (txN t b))) H'
/-! ### text_of -/
def sp_text_of : Sp := fun vs H Q _ => ∃ (a : Addr) (v : Vl), vs = [.ref a] ∧ VlIs H a v ∧ VlOk v ∧ ∀ H', Same H H' → Q (.str (S (textV v))) H'
end
end Pd

namespace Pd
open PySem PySem.Spec PyProof.Rows L2
open SX (S)
theorem pe_typ {X : Cx} {x : Str} {pos : Pos} {T : String} (hg : Gl X x) (hm : X.mg x = none) (hv : bootBuiltins x = some (.type T)) (hn : x ≠ "__name__" := by decide) (hd : (x == ("__debug__" : Str)) = false := by decide) : PE X (.Name x pos) (tC (.ty T)) :=
  ⟨fun pins s σ H Q I h => ld_blt I hg hm hv ⟨.ty T, H, I, rfl, h⟩ hn hd⟩
theorem kit_xx {K : PySem.W.Frag} {a b : String} {r : Bool} (h : PySem.W.kitOne K (.type a) (.type b) = some r := by first | rfl | decide | decide +kernel) : PySem.W.kitOne K (.type a) (.type b) = some r := h
theorem fmod_nat {a b : Nat} (h : 0 < b) : ((a : Int)).fmod (b : Int) = ((a % b : Nat) : Int) := by
  rw [Int.fmod_eq_emod_of_nonneg _ (by omega)]
  exact (Int.natCast_emod a b).symm
section
variable {P : Program} {w : World} {K : PySem.W.Frag} {mg : Str → Option Value} {base : Heap}
def sp_llow : Sp := fun vs H Q _ => ∃ (t : Int) (b : Nat), vs = [.int t, .int (b : Int)] ∧ 0 < b ∧ b < BB ∧ GivesN (redT t b) (redB t b) H Q
def sgZ (b : Int) : Int := if b < 0 then -1 else 1
def CDivZ (_ j : Int) : Prop := j ≠ 0 ∧ j.natAbs.log2 < 9000
theorem op_fdivZ {X : Cx} : OpR X (binaryOp .FloorDiv) (rI CDivZ fun i j => .int (i.fdiv j)) := opI fun i j _ _ _ _ _ hc q => floordiv_int hc.1 q (.inl (PyProof.noPylong_of_log2 hc.2))
theorem divz {i j : Int} (h : j ≠ 0) (hj : j.natAbs < BB) : CDivZ i j := ⟨h, Nat.lt_trans (log_bb hj) (by decide)⟩
theorem fdiv_dvd {t : Int} {g : Nat} (hg : 0 < g) (h : g ∣ t.natAbs) : t.fdiv (-(g : Int)) = (-t) / (g : Int) ∧ t.fdiv (g : Int) = t / (g : Int) := by
  obtain ⟨k, hk⟩ := Int.ofNat_dvd_left.mpr h
  have h0 : (g : Int) ≠ 0 := by omega
  refine ⟨?_, Int.fdiv_eq_ediv_of_nonneg _ (by omega)⟩
  rw [hk, show (g : Int) * k = -(g : Int) * -k by rw [Int.neg_mul_neg], Int.mul_fdiv_cancel_left _ (by omega), Int.neg_mul_neg, ← Int.mul_neg, Int.mul_ediv_cancel_left _ h0]
def sp_llowZ : Sp := fun vs H Q _ => ∃ t b : Int, vs = [.int t, .int b] ∧ b ≠ 0 ∧ b.natAbs < BB ∧ GivesN (redT (sgZ b * t) b.natAbs) (redB (sgZ b * t) b.natAbs) H Q
theorem ok_llow (c_law_lowest : Cal P w K mg base 1 "_law_lowest" sp_llowZ) : Cal P w K mg base 1 "_law_lowest" sp_llow := c_law_lowest.imp fun vs H Q E ⟨t, b, h1, h2, h3, h4⟩ => ⟨t, b, h1, by omega, by omega, by rw [Int.natAbs_natCast, show sgZ (b : Int) * t = t by unfold sgZ; rw [if_neg (by omega)]; omega]; exact h4⟩
def sp_says : Sp := fun vs H Q _ => ∃ a b : Bool, vs = [.bl a, .bl b] ∧ Q (.bl (decide (a = b))) H
def sp_whole : Sp := fun vs H Q _ => ∃ a : Int, vs = [.int a] ∧ Q (.bl true) H
theorem index10 : ∀ d < 10, Builtin.Str.occurrences (S [48, 49, 50, 51, 52, 53, 54, 55, 56, 57]) (S [48 + d]) 0 10 1 = [d] := by decide +kernel
theorem drop_cons {s : List Nat} {a : Nat} (h : a < s.length) : ∃ c, s.drop a = c :: s.drop (a + 1) := ⟨s[a], (List.getElem_cons_drop ..).symm⟩
theorem drop_nil_of {s : List Nat} {a : Nat} (h : ¬ a < s.length) : s.drop a = [] := List.drop_eq_nil_of_le (by omega)
theorem blk_mem (c : Nat) : decide (c ∈ [32, 9, 10]) = blk c := by
  unfold blk
  by_cases h1 : c = 32 <;> by_cases h2 : c = 9 <;> by_cases h3 : c = 10 <;> simp [h1, h2, h3]
theorem dig_mem (c : Nat) : decide (c ∈ [48, 49, 50, 51, 52, 53, 54, 55, 56, 57]) = isDig c := by
  unfold isDig
  rw [Bool.eq_iff_iff]
  simp
  omega
theorem blk_iff {c : Nat} : c ∈ [32, 9, 10] ↔ blk c = true := by rw [← blk_mem, decide_eq_true_eq]
theorem dig_iff {c : Nat} : c ∈ [48, 49, 50, 51, 52, 53, 54, 55, 56, 57] ↔ isDig c = true := by rw [← dig_mem, decide_eq_true_eq]
def sp_lread : Sp := fun vs H Q _ => ∃ s : List Nat, vs = [.str (S s)] ∧ s.length ≤ 250 ∧ ∀ H' p, Same H H' → H' p = some (.tup [.bl (formN s), .int (redT (topN s) (botN s)), .int (redB (topN s) (botN s) : Nat)]) → Q (.ref p) H'
end
end Pd

namespace Pd
open PySem PySem.Spec PyProof.Rows L2
open SX (S)
theorem dD_dv : ∀ (l : List Nat), (∀ d ∈ l, d < 10) → dD l.length (dv l 0) = l := by
  refine snoc_ind (fun _ => rfl) fun l d ih h => ?_
  rw [List.length_append]
  show dD (l.length + 1) (dv (l ++ [d]) 0) = _
  rw [dv_app]
  show dD (l.length + 1) (dv l 0 * 10 + d) = _
  have hd := h d (List.mem_append_right _ (List.mem_singleton.2 rfl))
  rw [dD, show (dv l 0 * 10 + d) / 10 = dv l 0 by omega, show (dv l 0 * 10 + d) % 10 = d by omega, ih fun x hx => h x (List.mem_append_left _ hx)]
def rndP (top : Int) (bot pl : Nat) : Nat := (2 * (top.natAbs * 10 ^ pl) + bot) / (2 * bot)
theorem rnd_of {t : Int} {b v r pl : Nat} (hb : 0 < b) (h : t.natAbs * 10 ^ pl = v * b + r) (hr : r < b) : rndP t b pl = v + (if b ≤ 2 * r then 1 else 0) := by
  unfold rndP
  rw [h]
  have e : 2 * (v * b + r) + b = 2 * b * v + (2 * r + b) := by
    rw [Nat.mul_add, Nat.mul_comm v b, Nat.mul_assoc]
    omega
  rw [e, Nat.mul_add_div (by omega)]
  congr 1
  by_cases h2 : b ≤ 2 * r
  · rw [if_pos h2]
    have : (2 * r + b) / (2 * b) = 1 := by
      refine Nat.div_eq_of_lt_le ?_ ?_ <;> omega
    exact this
  · rw [if_neg h2]
    exact Nat.div_eq_of_lt (by omega)
theorem step1 {Z X A v b r : Nat} (h : Z * X = (A * X + v) * b + r) : Z * (X * 10) = (A * (X * 10) + (v * 10 + r * 10 / b)) * b + r * 10 % b := by
  have hd := Nat.div_add_mod (r * 10) b
  generalize r * 10 / b = d at *
  generalize r * 10 % b = r' at *
  have e1 : Z * (X * 10) = (Z * X) * 10 := (Nat.mul_assoc ..).symm
  have e2 : (A * (X * 10) + (v * 10 + d)) * b = (A * X + v) * b * 10 + d * b := by
    simp only [Nat.add_mul, Nat.mul_add, Nat.mul_assoc, Nat.mul_comm, Nat.mul_left_comm]
    omega
  have e3 : b * d = d * b := Nat.mul_comm ..
  rw [e1, e2, h]
  omega
theorem step2 {p x X s c W : Nat} (h : (p * 10 + x) * X + s + c * X = W) : p * (X * 10) + ((x + c) % 10 * X + s) + (x + c) / 10 * (X * 10) = W := by
  have hd := Nat.div_add_mod (x + c) 10
  generalize (x + c) / 10 = d at *
  generalize (x + c) % 10 = r at *
  have e1 : (p * 10 + x) * X + s + c * X = p * (X * 10) + (x + c) * X + s := by
    simp only [Nat.add_mul, Nat.mul_add, Nat.mul_assoc, Nat.mul_comm, Nat.mul_left_comm]
    omega
  have e2 : (x + c) * X = d * (X * 10) + r * X := by
    rw [← hd]
    simp only [Nat.add_mul, Nat.mul_add, Nat.mul_assoc, Nat.mul_comm, Nat.mul_left_comm]
  rw [← h, e1, e2]
  omega
def nV (ns : List Nat) : List V := ns.map fun (n : Nat) => V.int (n : Int)
theorem nV_len {ns : List Nat} : (nV ns).length = ns.length := List.length_map ..
theorem nV_app {a b : List Nat} : nV (a ++ b) = nV a ++ nV b := List.map_append
theorem nV_get {ns : List Nat} {i n : Nat} (h : ns[i]? = some n) : (nV ns)[i]? = some (.int (n : Int)) := by
  unfold nV
  rw [List.getElem?_map, h]
  rfl
theorem ixN_nat {n : Nat} {i : Nat} (h : i < n) : ixN n (i : Int) = some i := by
  unfold ixN
  rw [if_pos (by omega), if_pos (by omega), Int.toNat_natCast]
theorem mid_get {a b : List Nat} {x : Nat} : (a ++ x :: b)[a.length]? = some x := by
  rw [List.getElem?_append_right (Nat.le_refl _), Nat.sub_self]
  rfl
theorem mid_set {a b : List Nat} {x y : Nat} : (nV (a ++ x :: b)).set a.length (.int (y : Int)) = nV (a ++ y :: b) := by
  rw [nV_app, nV_app]
  have : a.length = (nV a).length := nV_len.symm
  rw [List.set_append_right _ _ (by omega), this, Nat.sub_self]
  rfl
section
variable {P : Program} {w : World} {K : PySem.W.Frag} {mg : Str → Option Value} {base : Heap}
def sp_decP : Sp := fun vs H Q _ => ∃ (t : Int) (b pl : Nat), vs = [.int t, .int (b : Int), .int (pl : Int)] ∧ pl ≤ 60 ∧ 0 < b ∧ b < AA ∧ t.natAbs < AA ∧
  ∀ H' p q, H q = none → Same H H' → H' p = some (.tup [.int (rndP t b pl / 10 ^ pl : Nat), .ref q]) → H' q = some (.lst (nV (dD pl (rndP t b pl % 10 ^ pl)))) → Q (.ref p) H'
def sp_dec : Sp := fun vs H Q _ => ∃ (t : Int) (b : Nat), vs = [.int t, .int (b : Int), .int 6] ∧ 0 < b ∧ b < AA ∧ t.natAbs < AA ∧
  ∀ H' p q, H q = none → Same H H' → H' p = some (.tup [.int (rnd t b / 1000000 : Nat), .ref q]) → H' q = some (.lst (nV (dD 6 (rnd t b % 1000000)))) → Q (.ref p) H'
theorem ok_dec (c_law_decimal : Cal P w K mg base 1 "_law_decimal" sp_decP) : Cal P w K mg base 1 "_law_decimal" sp_dec := c_law_decimal.imp fun vs H Q E ⟨t, b, h1, h2, h3, h4, h5⟩ => ⟨t, b, 6, h1, by decide, h2, h3, h4, h5⟩
end
end Pd

namespace Pd
open PySem PySem.Spec PyProof.Rows L2
open SX (S)
theorem atI_last {α : Type} {l : List α} {x : α} : atI (l ++ [x]) (-1) = some x := by
  unfold atI ixN
  rw [if_neg (by decide), if_pos (by rw [List.length_append, List.length_singleton]; omega)]
  show (l ++ [x])[(((-1 : Int) + ((l ++ [x]).length : Nat))).toNat]? = some x
  rw [List.length_append, List.length_singleton, show ((-1 : Int) + ((l.length + 1 : Nat) : Int)).toNat = l.length by omega, List.getElem?_append_right (Nat.le_refl _), Nat.sub_self]
  rfl
def nD (ns : List Nat) : PyData := .list (ns.map fun (n : Nat) => .int (n : Int))
theorem nD_all {K : PySem.W.Frag} {H : Hp} : ∀ ns : List Nat, DpAll K H (nV ns) (ns.map fun (n : Nat) => .int (n : Int))
  | [] => .nil
  | n :: ns => .cons (.int _) (nD_all ns)
theorem nD_dp {K : PySem.W.Frag} {H : Hp} {p : Addr} {ns : List Nat} (h : H p = some (.lst (nV ns))) : Dp K H (.ref p) (nD ns) := .lst (SqL.of h) (nD_all ns)
theorem nD_can : ∀ ns : List Nat, PyData.canLayAll0 (ns.map fun (n : Nat) => .int (n : Int)) = true ∧ PyData.depthAll (ns.map fun (n : Nat) => .int (n : Int)) = 0
  | [] => ⟨by simp [PyData.canLayAll0], by simp [PyData.depthAll]⟩
  | n :: ns => ⟨by simp [PyData.canLayAll0, PyData.canLay0]; exact (nD_can ns).1, by simp [PyData.depthAll, PyData.depth]; exact (nD_can ns).2⟩
theorem nD_ok (ns : List Nat) : SeqAt.shaped (nD ns) = true := by
  unfold SeqAt.shaped nD
  rw [Bool.and_eq_true]
  refine ⟨?_, ?_⟩
  · rw [PyData.canLay0]
    exact (nD_can ns).1
  · rw [PyData.depth, (nD_can ns).2]
    decide
theorem nD_nil (ns : List Nat) : PyData.eqv (nD ns) (nD []) = decide (ns = []) := by
  cases ns with
  | nil => simp [nD, PyData.eqv, PyData.eqvAll]
  | cons x ws => simp [nD, PyData.eqv, PyData.eqvAll]
theorem joinL_nil : ∀ ls : List (List Nat), TL.joinL [] ls = ls.flatten
  | [] => rfl
  | [p] => by simp [TL.joinL]
  | p :: q :: r => by
    show p ++ ([] ++ TL.joinL [] (q :: r)) = _
    rw [joinL_nil (q :: r), List.nil_append]
    rfl
theorem join_nil {ls : List (List Nat)} : Txt.join (S []) (ls.map S) = S ls.flatten := by
  rw [SX.join_S, joinL_nil]
theorem sum_lens (ls : List (List Nat)) : ((ls.map S).map (·.length)).sum = ls.flatten.length := by
  rw [SX.lens, List.length_flatten]
theorem flat48 : ∀ l : List Nat, (l.map fun d => [48 + d]).flatten = l.map (48 + ·)
  | [] => rfl
  | c :: l => by rw [List.map_cons, List.flatten_cons, flat48 l] <;> rfl
def sV (ns : List Nat) : List V := ns.map fun d => .str (S [48 + d])
theorem lc_digs {K : PySem.W.Frag} {a D : Addr} {ns : List Nat} {i : Nat} {te : TE} {σ : L2.St} {H : Hp} {Qd : Hp → Prop} (h : H a = some (.lst (nV ns))) (hD : H D = none) (hn : ns.length ≤ 100)
    (hw : ∀ x, wipe ((wipe σ [i]).set i (some x)) [i] = wipe σ [i])
    (step : ∀ (d : Nat) H1 (Q1 : VK), d ∈ ns → Q1 (.str (S [48 + d])) H1 → te ((wipe σ [i]).set i (some (.int (d : Int)))) H1 Q1)
    (q : ∀ H', Same H H' → H' D = some (.lst (sV ns)) → Qd H') :
    ∃ W : Nat → Nat → Hp → Prop, (∃ m, W 0 m (upd H D (.lst []))) ∧ ∀ j m H, W j m H →
      ((Itl K a).stop j H ∧ Qd H) ∨ ((Itl K a).go j H ∧ ∃ Nx : Hp → Prop, (∀ H', Nx H' → ∃ m', m' < m ∧ W (j + 1) m' H') ∧ ∀ x H', (Itl K a).yld j H x H' → gName i x (wipe σ [i]) H' fun σ2 H2 => wipe σ2 [i] = wipe σ [i] ∧ tYes σ2 H2 fun b H3 =>
        if b = true then te σ2 H3 fun y H4 => ∃ acc, H4 D = some (.lst acc) ∧ acc.length < sizeLine ∧ Nx (upd H4 D (.lst (acc ++ [y]))) else Nx H3) := by
  refine lc_list (xs := nV ns) (fun j H' => Same H H' ∧ H' D = some (.lst (sV (ns.take j)))) ⟨same_upd hD, upd_same⟩ (fun j H' _ hp => SqL.of (hp.1 _ _ h)) (fun j x H' hx hp => ?_) (fun H' hp => ?_)
  · obtain ⟨s1, e1⟩ := hp
    obtain ⟨d, hd, rfl⟩ : ∃ d : Nat, ns[j]? = some d ∧ x = .int (d : Int) := by
      unfold nV at hx
      rw [List.getElem?_map] at hx
      cases e : ns[j]? with
      | none => rw [e] at hx; cases hx
      | some d => rw [e] at hx; exact ⟨d, rfl, (Option.some.inj hx).symm⟩
    refine ⟨hw _, ?_⟩
    simp only [tYes, if_true]
    refine step d H' _ (List.mem_of_getElem? hd) ⟨_, e1, ?_, same_mut s1 hD, ?_⟩
    · unfold sV
      rw [List.length_map, List.length_take]
      exact Nat.lt_of_le_of_lt (show min j ns.length ≤ 100 by omega) (by decide)
    · rw [upd_same, List.take_add_one, hd]
      unfold sV
      rw [List.map_append]
      rfl
  · obtain ⟨s1, e1⟩ := hp
    refine q H' s1 ?_
    rw [e1, nV_len, List.take_length]
theorem intL_S (t : Int) : Str.ofString (toString t) = S (intL t) := by
  unfold intL
  by_cases h : t < 0
  · rw [if_pos h]
    obtain ⟨n, hn⟩ : ∃ n, t = -((n + 1 : Nat) : Int) := ⟨t.natAbs - 1, by omega⟩
    subst hn
    have e1 : toString (-((n + 1 : Nat) : Int)) = "-" ++ toString ((n + 1 : Nat) : Int) := rfl
    have e2 := SX.num_S (n + 1)
    rw [Str.ofString_eq_toList] at e2
    have e3 : (toString ((n + 1 : Nat) : Int)).toList.map Char.toNat = TL.numL (n + 1) := congrArg (fun x : Str => x.cps.toList) e2
    rw [e1, Str.ofString_eq_toList, String.toList_append, List.map_append, e3, show (-((n + 1 : Nat) : Int)).natAbs = n + 1 by omega]
    rfl
  · rw [if_neg h]
    obtain ⟨n, hn⟩ : ∃ n : Nat, t = (n : Int) := ⟨t.natAbs, by omega⟩
    subst hn
    rw [SX.num_S]
    rfl
theorem log_of {t : Int} (h : t.natAbs < BB) : t.natAbs.log2 < 1920 := Nat.lt_trans (log_bb h) (by decide)
section
variable {P : Program} {w : World} {K : PySem.W.Frag} {mg : Str → Option Value} {base : Heap}
theorem cxK {N : List Str} {x : Str} {sc : Scope} {f : Addr} {cdv : Value} {A : Around} {outer : List Env} {s : Shared} {H : Hp} {E : XK} : (cxOf CX0 P w K mg base N x sc f cdv A outer s H E).K = K := rfl
def sp_ltext : Sp := fun vs H Q _ => ∃ (a : Addr) (t : Int) (b : Nat), vs = [.ref a] ∧ VlIs H a (.num t b) ∧ VlOk (.num t b) ∧ ∀ H', Same H H' → Q (.str (S (txN t b))) H'
end
end Pd

namespace Pd
open PySem PySem.Spec PyProof.Rows L2
open SX (S)
theorem fmod_pos {i : Int} {m : Nat} (h : 0 < m) : ∃ n : Nat, i.fmod (m : Int) = (n : Int) ∧ n < m := by
  have h1 := Int.fmod_nonneg_of_pos i (b := (m : Int)) (by omega)
  have h2 := Int.fmod_lt_of_pos i (b := (m : Int)) (by omega)
  exact ⟨(i.fmod (m : Int)).toNat, by omega, by omega⟩
def sgsL : List Nat := [9, 10, 32, 33, 34, 35, 36, 38, 39, 40, 41, 42, 43, 44, 45, 46, 47, 48, 49, 50, 51, 52, 53, 54, 55, 56, 57, 58, 59, 60, 61, 62, 63, 64, 65, 66, 67, 68, 69, 70, 71, 72, 73, 74, 75, 76, 77, 78, 79, 80, 81, 82, 83, 84, 85, 86, 87, 88, 89, 90, 91, 92, 93, 94, 95, 96, 97, 98, 99, 100, 101, 102, 103, 104, 105, 106, 107, 108, 109, 110, 111, 112, 113, 114, 115, 116, 117, 118, 119, 120, 121, 122, 123, 124, 125, 126]
theorem sgsL_len : sgsL.length = 96 := by decide
theorem sgsL_lt : ∀ c ∈ sgsL, isSign c = true := by decide
theorem sg96 (r : Nat) (h : r < 96) : ∃ c, atI sgsL (r : Int) = some c ∧ isSign c = true :=
  ⟨_, atI_nat (List.getElem?_eq_getElem (by rw [sgsL_len]; exact h)), sgsL_lt _ (List.getElem_mem ..)⟩
theorem dig10 : ∀ r : Nat, r < 10 → atI [48, 49, 50, 51, 52, 53, 54, 55, 56, 57] (r : Int) = some (48 + r) := by decide
theorem isDig48 {r : Nat} (h : r < 10) : isDig (48 + r) = true := by
  unfold isDig
  simp only [Bool.and_eq_true, decide_eq_true_eq]
  omega
theorem bb61 {n : Nat} (h : n ≤ 10 ^ 70) : n < BB := Nat.lt_of_le_of_lt h (by decide +kernel)
section
variable {P : Program} {w : World} {K : PySem.W.Frag} {mg : Str → Option Value} {base : Heap}
def sp_lsign : Sp := fun vs H Q _ => ∃ n : Nat, vs = [.int (n : Int)] ∧ ∀ c, isSign c = true → Q (.str (S [c])) H
def sp_lrow : Sp := fun vs H Q _ => ∃ (z : Int) (m : Nat), vs = [.int z, .int (m : Int)] ∧ m ≤ 110 ∧ ∀ H' p ns, H p = none → Same H H' → H' p = some (.lst (nV ns)) → ns.length = m → (∀ n ∈ ns, n < 720720) → Q (.ref p) H'
def sp_lgreat : Sp := fun vs H Q _ => ∃ n o : Nat, vs = [.int (n : Int), .int (o : Int)] ∧ n < 720720 ∧ o < 720720 ∧ ∀ g : Nat, g ≤ 10 ^ 60 → Q (.int (g : Int)) H
end
end Pd

namespace Pd
open PySem PySem.Spec PyProof.Rows L2
open SX (S)
theorem dig_lt {d : List Nat} (h : d.all isDig = true) : ∀ c ∈ d, c < 128 := fun c hc => by
  have := List.all_eq_true.mp h c hc
  unfold isDig at this
  simp only [Bool.and_eq_true, decide_eq_true_eq] at this
  omega
theorem cutV_nV {ns : List Nat} {lo hi : Option Int} : cutV (nV ns) lo hi = nV ((ns.drop (HT.sIx ns.length 0 lo)).take (HT.sIx ns.length ns.length hi - HT.sIx ns.length 0 lo)) := by
  unfold cutV nV
  rw [List.length_map, List.map_take, List.map_drop]
theorem bl3 (r : Nat) (h : r < 3) : ∃ c, atI [32, 9, 10] (r : Int) = some c ∧ c < 128 :=
  ⟨_, atI_nat (List.getElem?_eq_getElem h), (by decide : ∀ c ∈ [32, 9, 10], c < 128) _ (List.getElem_mem ..)⟩
theorem pick {ns : List Nat} {r : Nat} (h : r < ns.length) : ∃ m ∈ ns, atI (nV ns) (r : Int) = some (.int (m : Int)) := ⟨ns[r], List.getElem_mem .., atI_nat (nV_get (List.getElem?_eq_getElem h))⟩
def tV (ls : List (List Nat)) : List V := ls.map fun l => .str (S l)
theorem pickT {ls : List (List Nat)} {r : Nat} (h : r < ls.length) : ∃ l ∈ ls, atI (tV ls) (r : Int) = some (.str (S l)) := ⟨ls[r], List.getElem_mem .., atI_nat (by unfold tV; rw [List.getElem?_map, List.getElem?_eq_getElem h]; rfl)⟩
def CC : Nat := 10 ^ 61
theorem cc_aa : CC < AA := by decide +kernel
theorem cc_bb : CC < BB := by decide +kernel
theorem cc_60 : 10 ^ 60 + 1 ≤ CC := by decide +kernel
theorem cc_big : 1000000000000000000 ≤ CC := by decide +kernel
theorem red_core {t : Int} {b : Nat} (hb : 0 < b) : ∃ (k : Int) (g : Nat), 0 < g ∧ g = Nat.gcd t.natAbs b ∧ redT t b = k ∧ t = (g : Int) * k ∧ t.natAbs = g * k.natAbs ∧ Nat.gcd k.natAbs (redB t b) = 1 ∧ redB t b * g = b := by
  have hg : 0 < Nat.gcd t.natAbs b := Nat.gcd_pos_of_pos_right _ hb
  obtain ⟨k, hk⟩ : ((Nat.gcd t.natAbs b : Nat) : Int) ∣ t := Int.dvd_natAbs.mp (Int.natCast_dvd_natCast.mpr (Nat.gcd_dvd_left _ _))
  have hc := Nat.coprime_div_gcd_div_gcd hg
  have hd : b / Nat.gcd t.natAbs b * Nat.gcd t.natAbs b = b := Nat.div_mul_cancel (Nat.gcd_dvd_right _ _)
  unfold redT redB
  generalize Nat.gcd t.natAbs b = g at *
  have hn : t.natAbs = g * k.natAbs := by
    rw [hk, Int.natAbs_mul, Int.natAbs_natCast]
  refine ⟨k, g, hg, rfl, ?_, hk, hn, ?_, hd⟩
  · rw [hk]
    exact Int.mul_ediv_cancel_left _ (by omega)
  · rw [hn, Nat.mul_div_cancel_left _ hg] at hc
    exact hc
theorem red_id {t : Int} {b : Nat} (hb : 0 < b) : redT (redT t b) (redB t b) = redT t b ∧ redB (redT t b) (redB t b) = redB t b := by
  obtain ⟨k, g, hg, h0, h1, h2, h3, h4, h5⟩ := red_core (t := t) hb
  rw [h1]
  generalize redB t b = m at *
  unfold redT redB
  rw [h4]
  exact ⟨Int.ediv_one _, Nat.div_one _⟩
theorem red_le {t : Int} {b : Nat} (hb : 0 < b) : (redT t b).natAbs ≤ t.natAbs ∧ 0 < redB t b ∧ redB t b ≤ b := by
  obtain ⟨k, g, hg, h0, h1, h2, h3, h4, h5⟩ := red_core (t := t) hb
  rw [h1]
  generalize redB t b = m at *
  refine ⟨by rw [h3]; exact Nat.le_mul_of_pos_left _ hg, ?_, by rw [← h5]; exact Nat.le_mul_of_pos_right _ hg⟩
  rcases Nat.eq_zero_or_pos m with e | e
  · rw [e, Nat.zero_mul] at h5
    omega
  · exact e
theorem red_gcd {t : Int} {b : Nat} (hb : 0 < b) : Nat.gcd (redT t b).natAbs (redB t b) = 1 := by
  obtain ⟨k, g, hg, eg, e1, e2, e3, e4, e5⟩ := red_core (t := t) hb
  rw [e1]
  exact e4
def GT : Nat := 10 ^ 60
theorem gt_aa : GT * GT < AA := by decide +kernel
theorem gt_bb : GT * GT * GT < BB := by decide +kernel
theorem gt_pos : 0 < GT := by decide +kernel
theorem gt_cc : GT ≤ CC := by decide +kernel
theorem gt_big : 1000000000000000000 ≤ GT := by decide +kernel
theorem gt_60 : 10 ^ 60 ≤ GT := by decide +kernel
/-- values of the check: within the limits, in lowest terms -/
def VlP : Vl → Prop
  | .num t b => 0 < b ∧ b ≤ GT ∧ t.natAbs ≤ GT ∧ Nat.gcd t.natAbs b = 1
  | .unset => True
  | .txt _ s => s.length ≤ 130 ∧ ∀ c ∈ s, isSign c = true
theorem sgn128 {c : Nat} (h : isSign c = true) : c < 128 := by
  unfold isSign at h
  simp at h
  omega
theorem dig_sg {c : Nat} (h : isDig c = true) : isSign c = true := by
  unfold isDig at h
  unfold isSign
  simp at h ⊢
  omega
theorem numL_sg (n : Nat) : ∀ c ∈ TL.numL n, isSign c = true := fun c hc => dig_sg (List.all_eq_true.mp (numL_dig n) c hc)
theorem keepu {H : Hp} {p q : Addr} {o x : HO} (n : H p = none) (e : H q = some x) : upd H p o q = some x := by
  rw [upd_ne (fun h => by subst h; rw [n] at e; cases e), e]
theorem numL_lt128 (n : Nat) : ∀ c ∈ TL.numL n, c < 128 := dig_lt (numL_dig n)
theorem txN_lt (t : Int) (b : Nat) : ∀ c ∈ txN t b, c < 128 := by
  intro c hc
  unfold txN at hc
  split at hc
  · unfold intL at hc
    split at hc
    · rcases List.mem_cons.1 hc with h | h
      · omega
      · exact numL_lt128 _ c h
    · exact numL_lt128 _ c hc
  · split at hc
    · rw [List.mem_singleton] at hc
      omega
    · rcases List.mem_append.1 hc with h | h
      · split at h
        · rw [List.mem_singleton] at h
          omega
        · cases h
      · rcases List.mem_append.1 h with h | h
        · exact numL_lt128 _ c h
        · split at h
          · cases h
          · rcases List.mem_cons.1 h with h | h
            · omega
            · rw [dD_dL, tz_map] at h
              obtain ⟨d, hd, rfl⟩ := List.mem_map.1 h
              have := dD_lt 6 _ d ((tz_val _).2.2 d hd)
              omega
theorem txN_len {t : Int} {b : Nat} (ht : t.natAbs < AA) (hb : b < AA) : (txN t b).length ≤ 250 := by
  have nl : ∀ n : Nat, n < 10 ^ 202 → (TL.numL n).length ≤ 202 := fun n h => TL.numL_len (by decide) h
  have ha : AA * 100 = 10 ^ 202 := by decide +kernel
  have hr : rnd t b ≤ 2 * (t.natAbs * 1000000) + b := Nat.div_le_self _ _
  have h1 := nl t.natAbs (by omega)
  have h2 := nl (rnd t b / 1000000) (by omega)
  unfold txN intL
  split
  · split
    · rw [List.length_cons]; omega
    · omega
  · split
    · decide
    · rw [List.length_append, List.length_append]
      have h3 : (if t < 0 then [45] else ([] : List Nat)).length ≤ 1 := by split <;> decide
      have h4 : (if rnd t b % 1000000 = 0 then ([] : List Nat) else 46 :: tz48 (dL 6 (rnd t b % 1000000))).length ≤ 7 := by
        split
        · decide
        · rw [List.length_cons, dD_dL, tz_map, List.length_map]
          have := (tz_val (dD 6 (rnd t b % 1000000))).2.1
          rw [dD_len] at this
          omega
      omega
end Pd

set_option maxHeartbeats 1000000
namespace Pd
open PySem PySem.Spec PyProof.Rows L2
open SX (S)
theorem vals_app {vs : List V} {us : List Value} {zs : List V} {ws : List Value} (r : Vals vs us) (rz : Vals zs ws) : Vals (vs ++ zs) (us ++ ws) := by
  induction r with
  | nil => exact rz
  | cons h _ ih => exact .cons h ih
/-! ### a def of one parameter called by its keyword -/
structure KB (K : PySem.W.Frag) (mg : Str → Option Value) (x q : Str) : Prop where
  ex : ∃ (f : Addr) (fd : FuncData), mg x = some (.ref f) ∧ Rec K f fd ∧ [q] = psOf fd ∧ KBinds K fd [q] [q] (· ++ ·) (· ++ ·)
theorem kb_of {K : PySem.W.Frag} {mg : Str → Option Value} {x q : Str} {st : Stmt} (D : Dfn K mg x st [q]) (h1 : ∀ (fd : FuncData) (f : Addr), Fun K x x st f fd → ∀ (s : Shared) (w : Value), BindsTo s fd ⟨[], [(q, w)]⟩ [(q, w)]) (h2 : ∀ (fd : FuncData) (f : Addr), Fun K x x st f fd → ∀ (s : Shared) (w : Value), BindsTo s fd ⟨[w], []⟩ [(q, w)]) : KB K mg x q := by
  obtain ⟨f, fd, F, m, b, e⟩ := D.ex
  refine ⟨f, fd, m, rec_of F, e, fun s us ws hK hl => ?_, fun r rz => vals_app r rz⟩
  match us, ws, hl with
  | [], [w], _ => exact h1 fd f F s w
  | [u], [], _ => exact h2 fd f F s u
section
variable {K : PySem.W.Frag} {mg : Str → Option Value}
end
section
variable {X : Cx} {CX : CXT} {k j : Nat} {f : Addr} {fd : FuncData} {ps ks : List Str} {sp : Sp} {E : L2.St → XK} {x q : Str} {p pos kpos : Pos} {e : Expr} {te : TE}
def tCallK1 (sp : Sp) (E : L2.St → XK) (te : TE) : TE := fun σ H Q => te σ H fun v H1 => sp [v] H1 Q (E σ)
theorem run_fnkS {pins : List (Addr × Obj)} {σ : L2.St} {H : Hp} {s : Shared} {Q : VK} {us ws : List Value} {vs zs : List V} {g : List Value → List Value → List Value} {gV : List V → List V → List V} (F : FnOk X.prog X.w X.K X.mg X.base CX k f fd ps sp) (hr : Room k X.A) (hb : KBinds X.K fd ps ks g gV) (hx : PassesAt CX X σ (E σ))
    (I : Inv X pins σ H s) (r : Vals vs us) (rz : Vals zs ws) (h : sp (gV vs zs) H Q (E σ)) : wpAny (model X.prog X.w) X.A (call (.ref f) us (ks.zip ws)) (EP X pins σ Q) X.xe s := by
  have r2 := hb.rel r rz
  have hl : (g us ws).length = ps.length := by rw [← r2.length]; exact F.len _ _ _ _ h
  refine wpAny_call (codeAny_mono (F.run X.A X.stack s H ⟨us, ks.zip ws⟩ (g us ws) (gV vs zs) Q (E σ) hr I.env0 (hb.to s us ws I.kIn hl) r2 h) fun r s' hq => ?_)
  cases r with
  | error e => exact hx pins H s e s' I hq
  | ok fl =>
    cases fl with
    | ret u => exact I.after hq
    | next => exact False.elim hq
    | brk => exact False.elim hq
    | cont => exact False.elim hq
theorem pe_callK1 (F : FnOk X.prog X.w X.K X.mg X.base CX k f fd [q] sp) (hr : Room k X.A) (hg : Gl X x) (hm : X.mg x = some (.ref f)) (hk : PySem.W.keepIn X.K (.ref f) = true) (hb : KBinds X.K fd [q] [q] (· ++ ·) (· ++ ·)) (hx : ∀ σ, PassesAt CX X σ (E σ))
    (he : PE X e te) (hall : (backToKw pos (keywordEach [⟨some q, e, kpos⟩] X.env)).all (·.1.isSome) = true := by rfl) (hks : (backToKw pos (keywordEach [⟨some q, e, kpos⟩] X.env)).filterMap (·.1) = [q] := by rfl)
    (hdb : (x == ("__debug__" : Str)) = false := by decide)
    (hpl : ((backTo pos (starEach [] X.env)).any (·.1) || (backToKw pos (keywordEach [⟨some q, e, kpos⟩] X.env)).any (·.1.isNone)) = false := by rfl) :
    PE X (.Call (.Name x p) [] [⟨some q, e, kpos⟩] pos) (tCallK1 sp E te) := by
  refine ⟨fun pins s σ H Q I h => ?_⟩
  refine wpAny_Call_Name_kw (ld_glob I hg hm ?_ hdb)
  refine PySem.W.callWith_KW0 (h₀ := X.base) I.ok.mod.kin hk hall (thn ((pk_cons (nm := some q) (kpos := kpos) he pk_nil).run pos pins s σ H (fun zs H2 => sp zs H2 Q (E σ)) I h) fun ws s2 ⟨zs, H2, I2, rz, q2⟩ => ⟨I2.kIn, ?_⟩) hpl
  rw [hks]
  exact run_fnkS (us := []) (vs := []) F hr hb (hx σ) I2 .nil rz q2
/-- f(q = v) of a def that may raise -/
theorem pkX {W : WX} (c : CalX X.prog X.w X.K X.mg X.base k x sp) (b : KB X.K X.mg x q) (hr : Room j X.A) (hk : k ≤ j) (tk : Takes X W) (hg : Gl X x) (he : PE X e te)
    (hall : (backToKw pos (keywordEach [⟨some q, e, kpos⟩] X.env)).all (·.1.isSome) = true := by rfl) (hks : (backToKw pos (keywordEach [⟨some q, e, kpos⟩] X.env)).filterMap (·.1) = [q] := by rfl)
    (hdb : (x == ("__debug__" : Str)) = false := by decide)
    (hpl : ((backTo pos (starEach [] X.env)).any (·.1) || (backToKw pos (keywordEach [⟨some q, e, kpos⟩] X.env)).any (·.1.isNone)) = false := by rfl) :
    PE X (.Call (.Name x p) [] [⟨some q, e, kpos⟩] pos) (tCallK1 sp (WE W) te) := by
  obtain ⟨f, fd, ps, F, hm, kp, bi, ⟨oc, od, osl, r⟩, eps⟩ := c.ex
  obtain ⟨f', fd', hm', ⟨oc', od', osl', r'⟩, eq, B⟩ := b.ex
  obtain rfl : f = f' := by
    rw [hm] at hm'
    cases hm'
    rfl
  obtain rfl : fd = fd' := by
    rw [r] at r'
    injection r' with h1
    injection h1 with h2 h3 h4 h5
    injection h4
  have ep : ps = [q] := eps.trans eq.symm
  subst ep
  exact pe_callK1 F (hr.mono hk) hg hm kp B (fun σ => passAt tk σ) he hall hks hdb hpl
/-- .. of a def that raises nothing -/
theorem pkC (c : Cal X.prog X.w X.K X.mg X.base k x sp) (b : KB X.K X.mg x q) (hr : Room j X.A) (hk : k ≤ j) (hg : Gl X x) (he : PE X e te)
    (hall : (backToKw pos (keywordEach [⟨some q, e, kpos⟩] X.env)).all (·.1.isSome) = true := by rfl) (hks : (backToKw pos (keywordEach [⟨some q, e, kpos⟩] X.env)).filterMap (·.1) = [q] := by rfl)
    (hdb : (x == ("__debug__" : Str)) = false := by decide)
    (hpl : ((backTo pos (starEach [] X.env)).any (·.1) || (backToKw pos (keywordEach [⟨some q, e, kpos⟩] X.env)).any (·.1.isNone)) = false := by rfl) :
    PE X (.Call (.Name x p) [] [⟨some q, e, kpos⟩] pos) (tCallK1 sp (fun _ => E0) te) := by
  obtain ⟨f, fd, ps, F, hm, kp, bi, ⟨oc, od, osl, r⟩, eps⟩ := c.ex
  obtain ⟨f', fd', hm', ⟨oc', od', osl', r'⟩, eq, B⟩ := b.ex
  obtain rfl : f = f' := by
    rw [hm] at hm'
    cases hm'
    rfl
  obtain rfl : fd = fd' := by
    rw [r] at r'
    injection r' with h1
    injection h1 with h2 h3 h4 h5
    injection h4
  have ep : ps = [q] := eps.trans eq.symm
  subst ep
  exact pe_callK1 F (hr.mono hk) hg hm kp B (fun σ pins H s e s' I c => c.elim) he hall hks hdb hpl
end
end Pd

namespace Pd
open PySem PySem.Spec PyProof.Rows L2
open SX (S)
theorem opr_or {X : Cx} {f : Value → Value → Sem Value} {r1 r2 : R2} (a : OpR X f r1) (b : OpR X f r2) : OpR X f (fun x y H Q => r1 x y H Q ∨ r2 x y H Q) := fun pins s σ H x y v u Q I rx ry h => h.elim (a pins s σ H x y v u Q I rx ry) (b pins s σ H x y v u Q I rx ry)
def rLtM : R2 := fun x y H Q => (∃ i j, x = .int i ∧ y = .int j ∧ Q (.bl (decide (i < j))) H) ∨ (∃ i j, x = .str i ∧ y = .str j ∧ Q (.bl (decide (i.cps.toList < j.cps.toList))) H)
def rGtM : R2 := fun x y H Q => (∃ i j, x = .int i ∧ y = .int j ∧ Q (.bl (decide (j < i))) H) ∨ (∃ i j, x = .str i ∧ y = .str j ∧ Q (.bl (decide (j.cps.toList < i.cps.toList))) H)
theorem op_ltM {X : Cx} : OpR X (compareOp .Lt) rLtM := opr_or op_lt op_lt_str
theorem op_gtM {X : Cx} : OpR X (compareOp .Gt) rGtM := opr_or op_gt op_gt_str
def ordI (i j : Int) : Int := if i < j then -1 else if j < i then 1 else 0
def ordT (s t : List Nat) : Int := if s < t then -1 else if t < s then 1 else 0
def isTrue : Vl → Bool
  | .unset => false
  | .num t _ => !decide (t = 0)
  | .txt true s => if formN s = true then !decide (redT (topN s) (botN s) = 0) else !decide (s = [])
  | .txt false s => !decide (s = [])
def cmpV (v u : Vl) : Int := if (likeV v && likeV u) = true then ordI ((numV v).1 * ((numV u).2 : Int)) ((numV u).1 * ((numV v).2 : Int)) else ordT (textV v) (textV u)
theorem numV_bb {v : Vl} (h : VlOk v) : (numV v).1.natAbs < BB ∧ (numV v).2 < BB ∧ 0 < (numV v).2 := by
  have ab := aa_bb
  have ag := aa_big
  cases v with
  | unset => exact ⟨by show 0 < BB; omega, by show 1 < BB; omega, Nat.one_pos⟩
  | num t b => exact ⟨by have := h.2.2; show t.natAbs < BB; omega, by have := h.2.1; show b < BB; omega, h.1⟩
  | txt k s =>
    have hb : 0 < botN s := Nat.pow_pos (by decide)
    obtain ⟨r1, r2, r3⟩ := red_le (t := topN s) hb
    have hl := parts_le s
    have hbl : (bodyN s).length ≤ s.length := Nat.le_trans (sgn_le _) (dw_le _)
    have h250 := h.1
    have hp : 10 ^ ((digN s).length + (plcN s).length) < BB := Nat.lt_of_le_of_lt (Nat.pow_le_pow_right (by decide) (show _ ≤ 250 by omega)) (by decide +kernel)
    have hq : botN s < BB := Nat.lt_of_le_of_lt (Nat.pow_le_pow_right (by decide) (show (plcN s).length ≤ 250 by omega)) (by decide +kernel)
    have ht : (topN s).natAbs < BB := by
      have hv := vl_lt (digN s ++ plcN s) (by rw [List.all_append]; unfold digN plcN; rw [take_all, take_all]; rfl)
      rw [List.length_append] at hv
      unfold topN
      split <;> omega
    exact ⟨by show (redT _ _).natAbs < BB; omega, by show redB _ _ < BB; omega, r2⟩
section
variable {P : Program} {w : World} {K : PySem.W.Frag} {mg : Str → Option Value} {base : Heap}
def sp_order : Sp := fun vs H Q _ => (∃ i j, vs = [.int i, .int j] ∧ Q (.int (ordI i j)) H) ∨ ∃ s t, vs = [.str (S s), .str (S t)] ∧ Q (.int (ordT s t)) H
def sp_true : Sp := fun vs H Q _ => ∃ (a : Addr) (v : Vl), vs = [.ref a] ∧ VlIs H a v ∧ VlOk v ∧ ∀ H', Same H H' → Q (.bl (isTrue v)) H'
def sp_cmp : Sp := fun vs H Q _ => ∃ (a b : Addr) (v u : Vl), vs = [.ref a, .ref b] ∧ VlIs H a v ∧ VlOk v ∧ VlIs H b u ∧ VlOk u ∧ ∀ H', Same H H' → Q (.int (cmpV v u)) H'
def sp_cmpn : Sp := fun vs H Q _ => ∃ (a b : Addr) (v u : Vl), vs = [.ref a, .ref b] ∧ VlIs H a v ∧ VlOk v ∧ VlIs H b u ∧ VlOk u ∧ ∀ H', Same H H' → Q (.int (ordI ((numV v).1 * ((numV u).2 : Int)) ((numV u).1 * ((numV v).2 : Int)))) H'
end
end Pd

namespace Pd
open PySem PySem.Spec PyProof.Rows L2
open SX (S)
theorem ok128 {l : List Nat} (h : ∀ c ∈ l, c < 128) : PyData.canLay0 (.str (S l)) = true := by
  unfold PyData.canLay0 PyData.strOk
  rw [← Array.all_toList]
  show l.all _ = true
  rw [List.all_eq_true]
  intro c hc
  exact decide_eq_true (Nat.lt_trans (h c hc) (by decide))
theorem ordI_eq (i j : Int) : ordI i j = if i = j then 0 else if i < j then -1 else 1 := by
  unfold ordI
  by_cases h1 : i < j
  · rw [if_pos h1, if_neg (by omega), if_pos h1]
  · rw [if_neg h1]
    by_cases h2 : j < i
    · rw [if_pos h2, if_neg (by omega), if_neg h1]
    · rw [if_neg h2, if_pos (by omega)]
theorem list_tri : ∀ s t : List Nat, s < t ∨ s = t ∨ t < s
  | [], [] => .inr (.inl rfl)
  | [], _ :: _ => .inl List.Lex.nil
  | _ :: _, [] => .inr (.inr List.Lex.nil)
  | a :: s, b :: t => by
    rcases Nat.lt_trichotomy a b with h | h | h
    · exact .inl (List.Lex.rel h)
    · subst h
      rcases list_tri s t with h | h | h
      · exact .inl (List.Lex.cons h)
      · exact .inr (.inl (by rw [h]))
      · exact .inr (.inr (List.Lex.cons h))
    · exact .inr (.inr (List.Lex.rel h))
theorem list_irr (s : List Nat) : ¬ s < s := List.lt_irrefl s
theorem ordT_eq (s t : List Nat) : ordT s t = if s = t then 0 else if s < t then -1 else 1 := by
  unfold ordT
  rcases list_tri s t with h | h | h
  · rw [if_pos h, if_neg (fun e => by subst e; exact list_irr s h), if_pos h]
  · subst h
    rw [if_neg (list_irr s), if_neg (list_irr s), if_pos rfl]
  · have h2 : ¬ s < t := fun e => list_irr s (List.lt_trans e h)
    rw [if_neg h2, if_pos h, if_neg (fun e => by subst e; exact list_irr s h), if_neg h2]
theorem textV_lt {v : Vl} (h : VlOk v) : ∀ c ∈ textV v, c < 128 := by
  cases v with
  | unset => intro c hc; cases hc
  | num t b => exact txN_lt t b
  | txt k s => exact h.2
theorem str_shaped {l : List Nat} (h : ∀ c ∈ l, c < 128) : SeqAt.shaped (.str (S l)) = true := by
  unfold SeqAt.shaped
  rw [Bool.and_eq_true]
  exact ⟨ok128 h, by simp [PyData.depth]⟩
theorem int_shaped {i : Int} : SeqAt.shaped (.int i) = true := by
  unfold SeqAt.shaped
  rw [Bool.and_eq_true]
  exact ⟨by simp [PyData.canLay0], by simp [PyData.depth]⟩
section
variable {P : Program} {w : World} {K : PySem.W.Frag} {mg : Str → Option Value} {base : Heap}
theorem Cal.or {k : Nat} {x : Str} {sp sp' : Sp} (c : Cal P w K mg base k x sp) (c' : Cal P w K mg base k x sp') : Cal P w K mg base k x (fun vs H Q E => sp vs H Q E ∨ sp' vs H Q E) := by
  obtain ⟨f, fd, ps, F, m, kp, b, ⟨oc, od, osl, r⟩, e⟩ := c.ex
  obtain ⟨f', fd', ps', F', m', kp', b', ⟨oc', od', osl', r'⟩, e'⟩ := c'.ex
  have ef : f = f' := by
    rw [m] at m'
    cases m'
    rfl
  subst ef
  have efd : fd = fd' := by
    rw [r] at r'
    injection r' with h1
    injection h1 with h2 h3 h4 h5
    injection h4
  subst efd
  have eps : ps = ps' := e.trans e'.symm
  subst eps
  exact ⟨f, fd, ps, ⟨fun vs H Q E h => h.elim (F.len vs H Q E) (F'.len vs H Q E), fun A outer s H args us vs Q E hr e0 hb rv h => h.elim (F.run A outer s H args us vs Q E hr e0 hb rv) (F'.run A outer s H args us vs Q E hr e0 hb rv)⟩, m, kp, b, ⟨oc, od, osl, r⟩, e⟩
def sp_ltextO : Sp := fun vs H Q _ => ∃ (a : Addr) (v : Vl), vs = [.ref a] ∧ VlIs H a v ∧ VlOk v ∧ (∀ t b, v ≠ .num t b) ∧ ∀ H', Same H H' → Q (.str (S (textV v))) H'
def sp_lnum : Sp := fun vs H Q _ => ∃ (a : Addr) (v : Vl), vs = [.ref a] ∧ VlIs H a v ∧ VlOk v ∧ GivesN (numV v).1 (numV v).2 H Q
def sp_llike : Sp := fun vs H Q _ => ∃ (a : Addr) (v : Vl), vs = [.ref a] ∧ VlIs H a v ∧ VlOk v ∧ ∀ H', Same H H' → Q (.bl (likeV v)) H'
end
end Pd

namespace Pd
open PySem PySem.Spec PyProof.Rows L2
open SX (S)
section
variable {P : Program} {w : World} {K : PySem.W.Frag} {mg : Str → Option Value} {base : Heap}
def sp_lvalue : Sp := fun vs H Q _ => ∃ (a : Addr) (ns : List Nat), vs = [.ref a] ∧ H a = some (.lst (nV ns)) ∧ 5 ≤ ns.length ∧ (∀ n ∈ ns, n < 720720) ∧ ∀ v H' p, VlIs H' p v → VlOk v → VlP v → Same H H' → Q (.ref p) H'
def sp_lalone : Sp := fun vs H Q _ => ∃ (a : Addr) (v : Vl), vs = [.ref a] ∧ VlIs H a v ∧ VlOk v ∧ ∀ H', Same H H' → Q (.bl true) H'
end
end Pd

/-! loops and comprehensions, opened one at a time (nothing behind them is opened with them) -/
namespace Pd
open PySem PySem.Spec PyProof.Rows L2
def LcJ (J : L2.It) (g : TG) (tt : TT) (te : TE) (vs : List Nat) (σ : L2.St) (H1 : Hp) (Q : VK) : Prop := ∀ D, H1 D = none → ∃ W : Nat → Nat → Hp → Prop, (∃ m, W 0 m (upd H1 D (.lst []))) ∧ ∀ i m H, W i m H →
  (J.stop i H ∧ Q (.ref D) H) ∨ (J.go i H ∧ ∃ Nx : Hp → Prop, (∀ H', Nx H' → ∃ m', m' < m ∧ W (i + 1) m' H') ∧ ∀ x H', J.yld i H x H' → g x (wipe σ vs) H' fun σ2 H2 => wipe σ2 vs = wipe σ vs ∧ tt σ2 H2 fun b H3 =>
    if b = true then te σ2 H3 fun y H4 => ∃ acc, H4 D = some (.lst acc) ∧ acc.length < sizeLine ∧ Nx (upd H4 D (.lst (acc ++ [y]))) else Nx H3)
def ForJ (J : L2.It) (g : TG) (tb : TS) (D : Ends) (σ : L2.St) (H1 : Hp) : Prop := ∃ W : Nat → Nat → L2.St → Hp → Prop, (∃ m, W 0 m σ H1) ∧ ∀ i m σ H, W i m σ H →
  (J.stop i H ∧ D.nx σ H) ∨ (J.go i H ∧ ∃ N : L2.St → Hp → Prop, (∀ σ' H', N σ' H' → ∃ m', m' < m ∧ W (i + 1) m' σ' H') ∧ ∀ x H', J.yld i H x H' → g x σ H' fun σ2 H2 => tb { D with nx := N, ct := N, bk := D.nx } σ2 H2)
section
variable {K : PySem.W.Frag} {ta : TA} {tl : TE} {g : TG} {tt : TT} {te : TE} {tb : TS} {vs : List Nat} {σ : L2.St} {H : Hp} {Q : VK} {D : Ends}
theorem eLcR : tLc (iRng1 ta) g tt te vs σ H Q = ta σ H fun ws H1 => ∃ j : Int, ws = [.int j] ∧ -(2 ^ 62) ≤ j ∧ j < 2 ^ 62 ∧ LcJ (Itr 0 j.toNat) g tt te vs σ H1 Q := rfl
theorem eLcL : tLc (iList K tl) g tt te vs σ H Q = tl σ H fun x H1 => ∃ a, x = .ref a ∧ (∃ xs, SqL K H1 a xs) ∧ LcJ (Itl K a) g tt te vs σ H1 Q := rfl
theorem eLcT : tLc (iTup K tl) g tt te vs σ H Q = tl σ H fun x H1 => ∃ a, x = .ref a ∧ (∃ xs, SqT K H1 a xs) ∧ LcJ (Itt K a) g tt te vs σ H1 Q := rfl
theorem eFoR : tFor (iRng1 ta) g tb D σ H = ta σ H fun ws H1 => ∃ j : Int, ws = [.int j] ∧ -(2 ^ 62) ≤ j ∧ j < 2 ^ 62 ∧ ForJ (Itr 0 j.toNat) g tb D σ H1 := rfl
theorem eFoL : tFor (iList K tl) g tb D σ H = tl σ H fun x H1 => ∃ a, x = .ref a ∧ (∃ xs, SqL K H1 a xs) ∧ ForJ (Itl K a) g tb D σ H1 := rfl
theorem eFoT : tFor (iTup K tl) g tb D σ H = tl σ H fun x H1 => ∃ a, x = .ref a ∧ (∃ xs, SqT K H1 a xs) ∧ ForJ (Itt K a) g tb D σ H1 := rfl
end
section
variable {K : PySem.W.Frag} {lo : Int} {n : Nat} {a : Addr} {xs : List V} {g : TG} {tt : TT} {te : TE} {tb : TS} {vs : List Nat} {σ : L2.St} {H : Hp} {Q : VK} {D : Ends}
theorem lcR (h : ∀ D, H D = none → ∃ Pv : Nat → Hp → Prop, Pv 0 (upd H D (.lst [])) ∧ (∀ i H, i < n → Pv i H → g (.int (lo + i)) (wipe σ vs) H fun σ2 H2 => wipe σ2 vs = wipe σ vs ∧ tt σ2 H2 fun b H3 =>
      if b = true then te σ2 H3 fun y H4 => ∃ acc, H4 D = some (.lst acc) ∧ acc.length < sizeLine ∧ Pv (i + 1) (upd H4 D (.lst (acc ++ [y]))) else Pv (i + 1) H3) ∧ ∀ H, Pv n H → Q (.ref D) H) : LcJ (Itr lo n) g tt te vs σ H Q := fun D nD => by
  obtain ⟨Pv, h0, hs, hd⟩ := h D nD
  exact lc_range Pv h0 hs hd
theorem lcL (h : ∀ D, H D = none → ∃ (xs : List V) (Pv : Nat → Hp → Prop), Pv 0 (upd H D (.lst [])) ∧ (∀ i H, i ≤ xs.length → Pv i H → SqL K H a xs) ∧ (∀ i x H, xs[i]? = some x → Pv i H → g x (wipe σ vs) H fun σ2 H2 => wipe σ2 vs = wipe σ vs ∧ tt σ2 H2 fun b H3 =>
      if b = true then te σ2 H3 fun y H4 => ∃ acc, H4 D = some (.lst acc) ∧ acc.length < sizeLine ∧ Pv (i + 1) (upd H4 D (.lst (acc ++ [y]))) else Pv (i + 1) H3) ∧ ∀ H, Pv xs.length H → Q (.ref D) H) : LcJ (Itl K a) g tt te vs σ H Q := fun D nD => by
  obtain ⟨xs, Pv, h0, hl, hs, hd⟩ := h D nD
  exact lc_list Pv h0 hl hs hd
theorem lcT (h : ∀ D, H D = none → ∃ (xs : List V) (Pv : Nat → Hp → Prop), Pv 0 (upd H D (.lst [])) ∧ (∀ i H, i ≤ xs.length → Pv i H → SqT K H a xs) ∧ (∀ i x H, xs[i]? = some x → Pv i H → g x (wipe σ vs) H fun σ2 H2 => wipe σ2 vs = wipe σ vs ∧ tt σ2 H2 fun b H3 =>
      if b = true then te σ2 H3 fun y H4 => ∃ acc, H4 D = some (.lst acc) ∧ acc.length < sizeLine ∧ Pv (i + 1) (upd H4 D (.lst (acc ++ [y]))) else Pv (i + 1) H3) ∧ ∀ H, Pv xs.length H → Q (.ref D) H) : LcJ (Itt K a) g tt te vs σ H Q := fun D nD => by
  obtain ⟨xs, Pv, h0, hl, hs, hd⟩ := h D nD
  exact lc_tup Pv h0 hl hs hd
theorem foR (Pv : Nat → L2.St → Hp → Prop) (h0 : Pv 0 σ H)
    (hs : ∀ i σ H, i < n → Pv i σ H → g (.int (lo + i)) σ H fun σ2 H2 => tb { D with nx := Pv (i + 1), ct := Pv (i + 1), bk := D.nx } σ2 H2) (hd : ∀ σ H, Pv n σ H → D.nx σ H) : ForJ (Itr lo n) g tb D σ H := for_range Pv h0 hs hd
theorem foL (xs : List V) (Pv : Nat → L2.St → Hp → Prop) (h0 : Pv 0 σ H) (hl : ∀ i σ H, i ≤ xs.length → Pv i σ H → SqL K H a xs)
    (hs : ∀ i x σ H, xs[i]? = some x → Pv i σ H → g x σ H fun σ2 H2 => tb { D with nx := Pv (i + 1), ct := Pv (i + 1), bk := D.nx } σ2 H2) (hd : ∀ σ H, Pv xs.length σ H → D.nx σ H) : ForJ (Itl K a) g tb D σ H := for_list Pv h0 hl hs hd
end
end Pd

/-! promises of defs that are called where nothing is being shown (no repr under way): what repr wants to know -/
namespace Pd
open PySem PySem.Spec PyProof.Rows L2
/-- nothing is being shown -/
def Still (A : Around) : Prop := A.guards = some []
structure FnG (P : Program) (w : World) (K : PySem.W.Frag) (mg : Str → Option Value) (base : Heap) (k : Nat) (f : Addr) (fd : FuncData) (ps : List Str) (sp : Sp) : Prop where
  len : ∀ vs H Q E, sp vs H Q E → vs.length = ps.length
  run : ∀ (A : Around) (outer : List Env) (s : Shared) (H : Hp) (args : Args) (us : List Value) (vs : List V) (Q : VK) (E : XK), Room k A → Still A → Env0 P w K mg base A outer s H → BindsTo s fd args (ps.zip us) → Vals vs us → sp vs H Q E →
    codeAny (model P w) A (.call (.ref f) args) (CR CX0 outer P w H s Q E) s
theorem FnG.of {P : Program} {w : World} {K : PySem.W.Frag} {mg : Str → Option Value} {base : Heap} {k : Nat} {f : Addr} {fd : FuncData} {ps : List Str} {sp : Sp} (F : FnOk P w K mg base CX0 k f fd ps sp) : FnG P w K mg base k f fd ps sp :=
  ⟨F.len, fun A outer s H args us vs Q E hr _ => F.run A outer s H args us vs Q E hr⟩
theorem FnG.mono {P : Program} {w : World} {K : PySem.W.Frag} {mg : Str → Option Value} {base : Heap} {j k : Nat} {f : Addr} {fd : FuncData} {ps : List Str} {sp : Sp} (F : FnG P w K mg base j f fd ps sp) (h : j ≤ k) : FnG P w K mg base k f fd ps sp :=
  ⟨F.len, fun A outer s H args us vs Q E hr => F.run A outer s H args us vs Q E (hr.mono h)⟩
structure CalG (P : Program) (w : World) (K : PySem.W.Frag) (mg : Str → Option Value) (base : Heap) (k : Nat) (x : Str) (sp : Sp) : Prop where
  ex : ∃ (f : Addr) (fd : FuncData) (ps : List Str), FnG P w K mg base k f fd ps sp ∧ mg x = some (.ref f) ∧ PySem.W.keepIn K (.ref f) = true ∧ Binds K fd ps []
section
variable {P : Program} {w : World} {K : PySem.W.Frag} {mg : Str → Option Value} {base : Heap}
/-- a def, from its body's reading -/
theorem okG {x qual : Str} {st : Stmt} {f : Addr} {fd : FuncData} {N ps : List Str} {k : Nat} {sp : Sp} (F : Fun K x qual st f fd) (Sc : FnScope N ps (defScope st)) (len : ∀ vs H Q E, sp vs H Q E → vs.length = ps.length)
    (hb : ∀ (cdv : Value) (A : Around) (outer : List Env) (s : Shared) (H : Hp) (vs : List V) (Q : VK) (E : XK), Room k (A.deeper (envOfC qual (defScope st) s.heap.objs.size f cdv)) → Still (A.deeper (envOfC qual (defScope st) s.heap.objs.size f cdv)) → sp vs H Q E →
      ∃ t, PSs (cxOf CX0 P w K mg base N qual (defScope st) f cdv A outer s H E).nox (defBody st) t ∧ t { nx := fun _ H' => Q .non H', rt := Q } (start N vs) H) : FnG P w K mg base (k + 1) f fd ps sp := by
  obtain ⟨oc, od, kV, doc, pm, an, cdv, ct, osl, rfl, lk, hcd⟩ := F.ex
  refine ⟨len, fun A out s H args us vs Q E room still en bnd rv want => ?_⟩
  have n := len _ _ _ _ want
  have stays := fun {m : Prop} (z : m) => z
  have kin : K.In s.heap := en.mod.kin.keeps fun b o e => (en.bs b o e).1
  have nolim : s.heap.NoLimit := en.mod.nolimit.keeps fun b o e => (en.bs b o e).1
  have locs : ∀ y ∈ ps.zip us, (defScope st).names.lookup y.1 = some .local ∨ ((defScope st).names.lookup y.1 = some .cell ∧ ((cellsFrom (s.heap.objs.size + 1) (defScope st).names []).lookup y.1).isSome = true) := fun y hy =>
    (Sc.par y.1 (List.of_mem_zip (show (y.1, y.2) ∈ ps.zip us from hy)).1).elim .inl fun z => .inr ⟨z, PySem.W.cellsFrom_some _ _ _ (.inl z)⟩
  refine codeAny_call_function room.depth (kin _ _ lk) rfl Sc.co Sc.gen rfl (PySem.W.codeRec_of kin hcd) (bnd _ _ _ _ (wpAny_newFunctionEnv_cells Sc.kind locs fun env he s1 made => ?_))
  subst he
  refine ⟨nolim.keeps made.toInCall.keep, codeAny_func ?_⟩
  obtain ⟨t, ht, hq⟩ := hb cdv A out s H vs Q E (room.deeper _) still want
  refine wpAny_mono (ht.nox.run [] s1 (start N vs) H _ (inv_start Sc room.hd en n rv made) hq) (fun fl s' hs => ?_) fun _ _ hs => hs
  match fl, hs with
  | .ret u, ⟨v, σ', H', J, r, q⟩ => exact ⟨v, H', J.os, J.bare, J.base, J.hok, r, q⟩
  | .next, ⟨σ', H', J, q⟩ => exact ⟨V.non, H', J.os, J.bare, J.base, J.hok, rfl, q⟩
  | .brk, ⟨_, _, _, q⟩ => exact q.elim
  | .cont, ⟨_, _, _, q⟩ => exact q.elim
theorem calG_of {x : Str} {st : Stmt} {N ps : List Str} {k : Nat} {sp : Sp} (D : Dfn K mg x st ps) (Sc : FnScope N ps (defScope st)) (len : ∀ vs H Q E, sp vs H Q E → vs.length = ps.length)
    (hb : ∀ (f : Addr) (cdv : Value) (A : Around) (outer : List Env) (s : Shared) (H : Hp) (vs : List V) (Q : VK) (E : XK), Room k (A.deeper (envOfC x (defScope st) s.heap.objs.size f cdv)) → Still (A.deeper (envOfC x (defScope st) s.heap.objs.size f cdv)) → sp vs H Q E →
      ∃ t, PSs (cxOf CX0 P w K mg base N x (defScope st) f cdv A outer s H E).nox (defBody st) t ∧ t { nx := fun _ H' => Q .non H', rt := Q } (start N vs) H) : CalG P w K mg base (k + 1) x sp := by
  obtain ⟨f, fd, F, m, b, _⟩ := D.ex
  exact ⟨f, fd, ps, okG F Sc len fun cdv A outer s H vs Q E hr hg h => hb f cdv A outer s H vs Q E hr hg h, m, F.kp, b⟩
end
section
variable {X : Cx} {x : Str} {k j : Nat} {sp : Sp} {p pos : Pos} {e : Expr} {es : List Expr} {t : TA}
theorem runG {pins : List (Addr × Obj)} {σ : L2.St} {H : Hp} {s : Shared} {Q : VK} {us : List Value} {vs : List V} {f : Addr} {fd : FuncData} {ps : List Str} (F : FnG X.prog X.w X.K X.mg X.base k f fd ps sp) (hr : Room k X.A) (hg : Still X.A) (hb : Binds X.K fd ps [])
    (I : L2.Inv X pins σ H s) (r : Vals vs us) (h : sp vs H Q E0) : wpAny (model X.prog X.w) X.A (call (.ref f) us) (EP X pins σ Q) X.xe s := by
  have n : (us ++ []).length = ps.length := by rw [List.append_nil, ← r.length]; exact F.len _ _ _ _ h
  have bb := hb s us I.kIn n
  rw [List.append_nil] at bb
  refine wpAny_call (codeAny_mono (F.run X.A X.stack s H ⟨us, []⟩ us vs Q E0 hr hg I.env0 bb r h) fun res s' hq => ?_)
  match res, hq with
  | .ok (.ret u), hq => exact I.after hq
  | .ok .next, hq => exact False.elim hq
  | .ok .brk, hq => exact False.elim hq
  | .ok .cont, hq => exact False.elim hq
  | .error e, hq => exact False.elim hq
/-- a call of a def that is promised so -/
theorem pcG (c : CalG X.prog X.w X.K X.mg X.base k x sp) (hr : Room j X.A) (hg0 : Still X.A) (hk : k ≤ j) (hg : Gl X x) (ha : PA X (e :: es) t)
    (hdb : (x == ("__debug__" : Str)) = false := by decide) (he : starEach (e :: es) X.env = (false, eval e X.env) :: starEach es X.env := by rfl) (hpl : (backTo pos (starEach es X.env)).any (·.1) = false := by rfl) :
    PE X (.Call (.Name x p) (e :: es) [] pos) (tCall sp [] E0 t) := by
  obtain ⟨f, fd, ps, F, hm, kp, b⟩ := c.ex
  refine ⟨fun pins s σ H Q I h => wpAny_Call_Name_kw (ld_glob I hg hm ?_ hdb)⟩
  refine PySem.W.callWith_K (h₀ := X.base) I.ok.mod.kin kp (thn (ha.run pos pins s σ H _ I h) fun us s1 ⟨vs, H1, I1, r, q⟩ => ⟨I1.kIn, ?_⟩) he hpl
  have q : sp (vs ++ []) H1 Q E0 := q
  rw [List.append_nil] at q
  exact runG F (hr.mono hk) hg0 b I1 r q
/-- repr(x), x made of lists, tuples, texts and what is flat -/
def rRepr (K : PySem.W.Frag) : List V → Hp → VK → Prop := fun xs H Q => ∃ (v : V) (d : PyData), xs = [v] ∧ Dp K H v d ∧ d.showable = true ∧ d.hasDict = false ∧ d.depth ≤ 60 ∧ d.shown.length ≤ sizeLine ∧ Q (.str d.shown) H
theorem cr_repr (hu : X.A.units + 64 < cLine) (hg : Still X.A) : CallR X (.builtin "repr") (rRepr X.K) := by
  intro pins s σ H xs us Q I r h
  obtain ⟨v, d, rfl, hd, h1, h2, h3, h4, q⟩ := h
  match us, r with
  | [u], .cons rv .nil =>
    have kept : ∀ (h' : Heap) (tk : Tok), (∀ b o, s.heap.get? b = some o → h'.get? b = some o) → L2.Inv X pins σ H { s with heap := h', toks := tk } := fun h' tk hk => I.kept hk
    match d, hd with
    | .none, .non =>
      obtain rfl : u = Value.none := rv
      exact PySem.P.repr_of_none ⟨.str _, H, I.tok _, ⟨_, rfl⟩, q⟩
    | .bool b, .bl _ =>
      obtain rfl : u = Value.bool b := rv
      exact PySem.P.repr_of_bool ⟨.str _, H, I.tok _, ⟨_, rfl⟩, q⟩
    | .int i, .int _ =>
      obtain ⟨t, rfl⟩ := rv
      exact PySem.P.repr_of_int (of_decide_eq_true h1) ⟨.str _, H, I.tok _, ⟨_, rfl⟩, q⟩
    | .str x, .str _ =>
      obtain ⟨t, rfl⟩ := rv
      exact PySem.P.repr_of_str ⟨.str _, H, I.tok _, ⟨_, rfl⟩, q⟩ h4
    | .list ds, .lst (a := a) hs ha =>
      obtain rfl : u = Value.ref a := rv
      obtain ⟨as, rd⟩ := Dp.reads I _ _ _ (.lst hs ha) (show RelV (V.ref a) (Value.ref a) from rfl)
      exact repr_of_reads' rd h1 (PyData.noDict_hsm h2) hg (by omega) (fun b o e => e) (fun h' u tk hk => ⟨.str _, H, kept h' tk hk, ⟨u, rfl⟩, q⟩) h4
    | .tuple ds, .tup (a := a) hs ha =>
      obtain rfl : u = Value.ref a := rv
      obtain ⟨as, rd⟩ := Dp.reads I _ _ _ (.tup hs ha) (show RelV (V.ref a) (Value.ref a) from rfl)
      exact repr_of_reads' rd h1 (PyData.noDict_hsm h2) hg (by omega) (fun b o e => e) (fun h' u tk hk => ⟨.str _, H, kept h' tk hk, ⟨u, rfl⟩, q⟩) h4
end
end Pd

/-! the end of a law whose promise is a FnG -/
namespace Pd
open PySem PySem.Spec PyProof.Rows L2
/-- what the law's call has to come to -/
def Comes (st : Shared) : Result → Shared → Prop := fun r en => r = .ok (.ret (.bool true)) ∧ OldK st.heap en.heap ∧ en.os = st.os ∧ AllBare en.gens
theorem lawG_from {P : Program} {w : World} {K : PySem.W.Frag} {mg mb : Str → Option Value} {k : Nat} {fa a : Addr} {fd : FuncData} {x : Str} {sp : Sp} {st : Shared} {vs : List Value} {T : Hp}
    (inK : K.In st.heap) (nsG : st.heap.Ns mainGlobals mg) (nsB : st.heap.Ns builtinsNs mb) (isB : ∀ x : Str, x ≠ "__name__" → mb x = bootBuiltins x) (lim : st.heap.NoLimit) (gens : st.gens = #[])
    (obj : st.heap.get? a = some { cls := .type "list", data := .seq vs.toArray }) (room : Room k callerA)
    (F : ∀ base : Heap, K.In base → base.Ns mainGlobals mg → FnG P w K mg base k fa fd [x] sp) (bnd : ∀ (s : Shared) (u : Value), BindsTo s fd ⟨[u], []⟩ [(x, u)])
    (only : Only T) (say : sp [.ref a] T (fun v _ => v = .bl true) fun _ _ _ => False) (hok : HOk P w T st.heap) (just : ∀ b, T b ≠ none → b = a) (noK : T a ≠ none → K.lookup a = none) :
    codeAny (model P w) callerA (.call (.ref fa) ⟨[.ref a], []⟩) (Comes st) st := by
  have away : ∀ {b : Addr}, b ≠ a → T b = none := fun {b} ne => Classical.byContradiction fun z => ne (just b z)
  have see : ∀ {b : Addr} {o : Obj}, st.heap.get? b = some o → T b = none → (hidT st.heap T).get? b = some o := fun e n => hidT_get e n
  have nsAll : ∀ {b : Addr} {m : Str → Option Value}, st.heap.Ns b m → (hidT st.heap T).Ns b m := fun {b m} z => by
    obtain ⟨o, es, ep, e, d, r⟩ := z
    refine ⟨o, es, ep, see e (Classical.byContradiction fun nz => ?_), d, r⟩
    have ba := just b nz
    rw [ba, obj] at e
    injection e with e
    rw [← e] at d
    have d : Data.seq vs.toArray _ = Data.dict es ep := d
    cases d
  have inT : K.In (hidT st.heap T) := fun b o e => see (inK b o e) (Classical.byContradiction fun nz => by
    have ba := just b nz
    subst ba
    rw [noK nz] at e
    cases e)
  have mods : Mod K mg (hidT st.heap T) := by
    obtain ⟨mc, l1, l2⟩ := lim
    exact ⟨inT, nsAll nsG, ⟨mb, nsAll nsB, isB⟩, mc, nsAll l1, l2⟩
  have en : Env0 P w K mg (hidT st.heap T) callerA [] st T := ⟨rfl, mods, fun b o e => of_hidT e, Nat.le_of_eq (hidT_size _ _), trivial, (fun b hb => nomatch hb), hok, .of_eq gens⟩
  refine codeAny_mono ((F _ inT (nsAll nsG)).run callerA [] st T ⟨[.ref a], []⟩ [.ref a] [.ref a] _ _ room rfl en (bnd st (.ref a)) (.cons rfl .nil) say) fun r s' h => ?_
  match r, h with
  | .error e, h => exact False.elim h
  | .ok .next, h => exact False.elim h
  | .ok .brk, h => exact False.elim h
  | .ok .cont, h => exact False.elim h
  | .ok (.ret u), ⟨v, T', os, bare, un, hok', r', q⟩ =>
    have q : v = .bl true := q
    subst q
    obtain rfl : u = Value.bool true := r'
    refine ⟨rfl, OldK.of_keep fun b o e => ?_, os, bare⟩
    cases q : T b with
    | none => exact un.keep b o e q (fun z => nomatch z) (by simp)
    | some y =>
      rcases only b with z | ⟨ob, xs, z⟩
      · rw [q] at z; cases z
      · obtain ⟨f1, _⟩ := hok b _ z
        obtain ⟨f2, _⟩ := hok' b _ (un.frzs b ob _ z)
        rw [e] at f1
        cases f1
        exact f2
theorem lawG {P : Program} {w : World} {K : PySem.W.Frag} {mg mb : Str → Option Value} {k : Nat} {fa a : Addr} {fd : FuncData} {x : Str} {sp : Sp} {st : Shared} {vs : List Value} {ns : List Int}
    (inK : K.In st.heap) (nsG : st.heap.Ns mainGlobals mg) (nsB : st.heap.Ns builtinsNs mb) (isB : ∀ x : Str, x ≠ "__name__" → mb x = bootBuiltins x) (lim : st.heap.NoLimit) (gens : st.gens = #[])
    (obj : st.heap.get? a = some { cls := .type "list", data := .seq vs.toArray }) (its0 : IntsAre vs ns) (len : ns.length ≤ sizeLine) (room : Room k callerA)
    (F : ∀ base : Heap, K.In base → base.Ns mainGlobals mg → FnG P w K mg base k fa fd [x] sp) (bnd : ∀ (s : Shared) (u : Value), BindsTo s fd ⟨[u], []⟩ [(x, u)])
    (say : ∀ T : Hp, Only T → SqL K T a (ns.map V.int) → sp [.ref a] T (fun v _ => v = .bl true) fun _ _ _ => False) :
    codeAny (model P w) callerA (.call (.ref fa) ⟨[.ref a], []⟩) (Comes st) st := by
  have rv := vals_ints its0
  have lv := its0.length
  cases hk : K.lookup a with
  | some o =>
    have e := inK a o hk
    rw [obj] at e
    injection e with e
    rw [← e] at hk
    have o1 : Only fun _ => none := fun _ => .inl rfl
    exact lawG_from (T := fun _ => none) inK nsG nsB isB lim gens obj room F bnd o1 (say _ o1 (.inr ⟨_, vs.toArray, _, hk, rfl, rfl, rfl, by rw [List.size_toArray, lv]; exact len, by simpa using rv⟩)) (fun b u z => nomatch (show (none : Option HO) = some u from z)) (fun b z => absurd rfl z) fun z => absurd rfl z
  | none =>
    obtain ⟨T, hT⟩ : ∃ T : Hp, T = fun b => if b = a then some (.frz { cls := .type "list", data := .seq vs.toArray } (.lst (ns.map V.int))) else none := ⟨_, rfl⟩
    have ta : T a = some (.frz { cls := .type "list", data := .seq vs.toArray } (.lst (ns.map V.int))) := by rw [hT]; exact if_pos rfl
    have tb : ∀ {b}, b ≠ a → T b = none := fun {b} ne => by rw [hT]; exact if_neg ne
    have o1 : Only T := fun b => by
      by_cases hb : b = a
      · rw [hb]; exact .inr ⟨_, _, ta⟩
      · exact .inl (tb hb)
    refine lawG_from (T := T) inK nsG nsB isB lim gens obj room F bnd o1 (say _ o1 (.inl (.inr ⟨_, ta⟩))) (fun b u z => ?_) (fun b z => Classical.byContradiction fun ne => z (tb ne)) fun _ => hk
    by_cases hb : b = a
    · subst hb
      rw [ta] at z
      injection z with z
      subst z
      exact ⟨obj, by rw [List.length_map]; exact len, vs, _, rv, obj⟩
    · rw [tb hb] at z
      cases z
theorem walkG {l : PySem.W.OpenLaw} {n k : Nat} {q : Program} {loose : List Str} {XP : (Str → Option Value) → Heap → Prop} {YP : World → Heap → Prop} {d : DefRec} {K : Params → PySem.W.Frag} {sp : World → Sp} {x : Str}
    (most : l.most = some n) (n2 : n ≤ sizeLine) (nod : d.params.defaults = []) (room : Room k callerA) (hY : ∀ (w : World) (h : Heap), YP w h → (K w.params).In h)
    (F : ∀ (w : World) (mg : Str → Option Value) (fa : Addr) (h : Heap), (K w.params).In h → h.Ns mainGlobals mg → mg d.name = some (.ref fa) →
      ∃ fd : FuncData, (∀ (s : Shared) (u : Value), BindsTo s fd ⟨[u], []⟩ [(x, u)]) ∧ ∀ base : Heap, (K w.params).In base → base.Ns mainGlobals mg → FnG l.prog w (K w.params) mg base k fa fd [x] (sp w))
    (say : ∀ (w : World) (T : Hp) (a : Addr) (ns : List Int), ns.length ≤ n → Only T → SqL (K w.params) T a (ns.map V.int) → sp w [.ref a] T (fun v _ => v = .bl true) fun _ _ _ => False) :
    PySem.W.WalkO q loose XP YP l.row.toRowW d [] (fun f vs => PySem.call f vs) := by
  refine Att.attach_call most nod fun w z0 z1 mg mb fa o pm cd doc a vs ns G Y ho hd hcd hmg hobj hints hlen hg => ?_
  have inK := hY w _ Y
  obtain ⟨fd, hb, hF⟩ := F w mg fa _ inK G.T.g hmg
  exact lawG inK G.T.g G.T.b G.T.builtins G.T.nolimit hg hobj hints (Nat.le_trans hlen n2) room hF hb fun T o1 s1 => say w T a ns hlen o1 s1
end Pd

/-! the order of data, and data sorted -/
namespace Pd
open PySem PySem.Spec PyProof.Rows L2
section
variable {X : Cx}
def rLtD (K : PySem.W.Frag) : R2 := fun x y H Q => ∃ d e, Dp K H x d ∧ Dp K H y e ∧ PySem.W.alike d e = true ∧ d ≠ .none ∧ d.depth ≤ 60 ∧ Q (.bl (PySem.W.dataLt d e)) H
def rGeD (K : PySem.W.Frag) : R2 := fun x y H Q => ∃ d e, Dp K H x d ∧ Dp K H y e ∧ PySem.W.alike d e = true ∧ d ≠ .none ∧ d.depth ≤ 60 ∧ Q (.bl (!PySem.W.dataLt d e)) H
theorem op_ltD (hu : X.A.units + 64 < cLine) : OpR X (compareOp .Lt) (rLtD X.K) := by
  intro pins s σ H x y v u Q I rx ry h
  obtain ⟨d, e, hd, he, ha, hn, hz, q⟩ := h
  obtain ⟨as, r1⟩ := Dp.reads I d x v hd rx
  obtain ⟨bs, r2⟩ := Dp.reads I e y u he ry
  exact PySem.W.lt_data r1 r2 ha hn (by have := Nat.min_le_left d.depth e.depth; omega) ⟨.bl _, H, I, rfl, q⟩
theorem op_geD (hu : X.A.units + 64 < cLine) : OpR X (compareOp .GtE) (rGeD X.K) := by
  intro pins s σ H x y v u Q I rx ry h
  obtain ⟨d, e, hd, he, ha, hn, hz, q⟩ := h
  obtain ⟨as, r1⟩ := Dp.reads I d x v hd rx
  obtain ⟨bs, r2⟩ := Dp.reads I e y u he ry
  exact PySem.W.ge_data r1 r2 ha hn (by have := Nat.min_le_left d.depth e.depth; omega) ⟨.bl _, H, I, rfl, q⟩
/-- sorted(xs), data that are alike -/
def rSortD (K : PySem.W.Frag) : List V → Hp → VK → Prop := fun vs H Q => ∃ (a : Addr) (bs : List (V × PyData)), vs = [.ref a] ∧ SqL K H a (bs.map (·.1)) ∧ (∀ b ∈ bs, Dp K H b.1 b.2 ∧ b.2.depth ≤ 60) ∧ PySem.W.AllAlike (bs.map (·.2)) ∧ PySem.W.Sortable (bs.map (·.2)) ∧
  ∀ p, H p = none → Q (.ref p) (upd H p (.lst ((bs.mergeSort (PySem.W.dataLe false fun b => b.2)).map (·.1))))
theorem each_of : ∀ {bs : List (V × PyData)} {us : List Value}, Vals (bs.map (·.1)) us → PySem.W.EachIs (fun u b => RelV b.1 u ∧ b ∈ bs) us bs := by
  have gen : ∀ (bs all : List (V × PyData)) (us : List Value), (∀ b ∈ bs, b ∈ all) → Vals (bs.map (·.1)) us → PySem.W.EachIs (fun u b => RelV b.1 u ∧ b ∈ all) us bs := by
    intro bs
    induction bs with
    | nil =>
      intro all us _ h
      cases h
      exact .nil
    | cons b bs ih =>
      intro all us hm h
      cases h with
      | cons r h => exact .cons ⟨r, hm b (List.mem_cons_self ..)⟩ (ih all _ (fun x hx => hm x (List.mem_cons_of_mem _ hx)) h)
  exact fun {bs us} h => gen bs bs us (fun b hb => hb) h
theorem vals_each : ∀ {bs : List (V × PyData)} {us : List Value}, PySem.W.EachIs (fun u b => RelV b.1 u) us bs → Vals (bs.map (·.1)) us
  | _, _, .nil => .nil
  | _, _, .cons r h => .cons r (vals_each h)
theorem cr_sortedD (hu : X.A.units + 64 < cLine) : CallR X (.builtin "sorted") (rSortD X.K) := by
  intro pins s σ H vs us Q I r h
  obtain ⟨a, bs, rfl, hs, hd, hal, hk, q⟩ := h
  obtain ⟨its, rv, hl, hz⟩ := I.list hs
  rw [Vals.ref1 r]
  have e0 := each_of rv
  have hz' : bs.length ≤ sizeLine := by simpa using hz
  refine PySem.W.sorted_data (R := fun u b => RelV b.1 u) (enc := fun b => b.2) hl.isList (e0.mono fun _ _ z => z.1) (e0.mono fun u b z => Dp.reads I _ _ _ (hd b z.2).1 z.1) hal hk hz' (fun b hb => by have := (hd b hb).2; omega) fun out ho eo => ?_
  obtain ⟨ep, he'⟩ := PyProof.Rows.sortedAll_at s.heap its out.toArray
  have hlen : ((bs.mergeSort (PySem.W.dataLe false fun b : V × PyData => b.2)).map (·.1)).length ≤ sizeLine := by rw [List.length_map, List.length_mergeSort]; exact hz'
  exact ⟨.ref _, upd H (s.heap.objs.size + 1) (.lst ((bs.mergeSort (PySem.W.dataLe false fun b : V × PyData => b.2)).map (·.1))), I.laid (t' := s.toks) (fun _ _ => PyProof.Rows.sortedAll_old) (Nat.le_succ _) ⟨hlen, out, ep, vals_each eo, he'⟩, rfl, q _ (I.hok.fresh (Nat.le_succ _))⟩
end
end Pd

namespace Pd
open PySem PySem.Spec PyProof.Rows L2
open SX (S)
/-! ### data -/
theorem sqT_same {K : PySem.W.Frag} {H H' : Hp} {a : Addr} {xs : List V} (e : Same H H') (h : SqT K H a xs) : SqT K H' a xs := by
  rcases h with (h | ⟨o, h⟩) | h
  · exact .inl (.inl (e _ _ h))
  · exact .inl (.inr ⟨o, e _ _ h⟩)
  · exact .inr h
mutual
theorem dp_same {K : PySem.W.Frag} {H H' : Hp} (e : Same H H') : ∀ (d : PyData) (v : V), Dp K H v d → Dp K H' v d
  | .none, _, h => by cases h; exact .non
  | .bool _, _, h => by cases h; exact .bl _
  | .int _, _, h => by cases h; exact .int _
  | .str _, _, h => by cases h; exact .str _
  | .list ds, _, h => by
    cases h with
    | lst hs ha => exact .lst (e.seq hs) (dp_sameAll e ds _ ha)
  | .tuple ds, _, h => by
    cases h with
    | tup hs ha => exact .tup (sqT_same e hs) (dp_sameAll e ds _ ha)
  | .dict _, _, h => by cases h
theorem dp_sameAll {K : PySem.W.Frag} {H H' : Hp} (e : Same H H') : ∀ (ds : List PyData) (vs : List V), DpAll K H vs ds → DpAll K H' vs ds
  | [], _, h => by cases h; exact .nil
  | d :: ds, _, h => by
    cases h with
    | cons h hs => exact .cons (dp_same e d _ h) (dp_sameAll e ds _ hs)
end
mutual
/-- no list in it -/
def noL : PyData → Bool
  | .list _ => false
  | .tuple ds => noLs ds
  | _ => true
def noLs : List PyData → Bool
  | [] => true
  | d :: ds => noL d && noLs ds
end
theorem sqT_mut {K : PySem.W.Frag} {H : Hp} {a D : Addr} {xs ys : List V} {o : HO} (e : H D = some (.lst ys)) (h : SqT K H a xs) : SqT K (upd H D o) a xs := by
  rcases h with (h | ⟨ob, h⟩) | h
  · exact .inl (.inl (by rw [upd_ne (fun z => by subst z; rw [e] at h; cases h)]; exact h))
  · exact .inl (.inr ⟨ob, by rw [upd_ne (fun z => by subst z; rw [e] at h; cases h)]; exact h⟩)
  · exact .inr h
mutual
theorem dp_mut {K : PySem.W.Frag} {H : Hp} {D : Addr} {ys : List V} {o : HO} (e : H D = some (.lst ys)) : ∀ (d : PyData) (v : V), noL d = true → Dp K H v d → Dp K (upd H D o) v d
  | .none, _, _, h => by cases h; exact .non
  | .bool _, _, _, h => by cases h; exact .bl _
  | .int _, _, _, h => by cases h; exact .int _
  | .str _, _, _, h => by cases h; exact .str _
  | .list ds, _, n, h => by simp [noL] at n
  | .tuple ds, _, n, h => by
    cases h with
    | tup hs ha => exact .tup (sqT_mut e hs) (dp_mutAll e ds _ (by simpa [noL] using n) ha)
  | .dict _, _, _, h => by cases h
theorem dp_mutAll {K : PySem.W.Frag} {H : Hp} {D : Addr} {ys : List V} {o : HO} (e : H D = some (.lst ys)) : ∀ (ds : List PyData) (vs : List V), noLs ds = true → DpAll K H vs ds → DpAll K (upd H D o) vs ds
  | [], _, _, h => by cases h; exact .nil
  | d :: ds, _, n, h => by
    cases h with
    | cons h hs =>
      have n : (noL d && noLs ds) = true := n
      rw [Bool.and_eq_true] at n
      exact .cons (dp_mut e d _ n.1 h) (dp_mutAll e ds _ n.2 hs)
end
section
variable {K : PySem.W.Frag} {H : Hp} {v : V} {vs : List V} {d : PyData} {ds : List PyData}
theorem _root_.L2.DpAll.len : ∀ {vs : List V} {ds : List PyData}, DpAll K H vs ds → vs.length = ds.length
  | _, _, .nil => rfl
  | _, _, .cons _ h => congrArg (· + 1) h.len
theorem dpa_get : ∀ {vs : List V} {ds : List PyData} {i : Nat} {d : PyData}, DpAll K H vs ds → ds[i]? = some d → ∃ v, vs[i]? = some v ∧ Dp K H v d
  | _, _, _, _, .nil, e => by cases e
  | _, _, 0, _, .cons h _, e => by
    cases e
    exact ⟨_, rfl, h⟩
  | _, _, i + 1, _, .cons _ h, e => dpa_get (i := i) h e
theorem _root_.L2.DpAll.at {i : Nat} {v : V} (h : DpAll K H vs ds) (e : vs[i]? = some v) : ∃ d, ds[i]? = some d ∧ Dp K H v d := by
  have hi : i < ds.length := by rw [← h.len]; exact (List.getElem?_eq_some_iff.mp e).1
  obtain ⟨v', e', hd⟩ := dpa_get h (List.getElem?_eq_getElem hi)
  rw [e] at e'
  cases e'
  exact ⟨_, List.getElem?_eq_getElem hi, hd⟩
theorem _root_.L2.DpAll.app : ∀ {vs us : List V} {ds es : List PyData}, DpAll K H vs ds → DpAll K H us es → DpAll K H (vs ++ us) (ds ++ es)
  | _, _, _, _, .nil, h => h
  | _, _, _, _, .cons h hs, h2 => .cons h (hs.app h2)
theorem _root_.L2.DpAll.take : ∀ {vs : List V} {ds : List PyData} (n : Nat), DpAll K H vs ds → DpAll K H (vs.take n) (ds.take n)
  | _, _, 0, _ => .nil
  | _, _, _ + 1, .nil => .nil
  | _, _, n + 1, .cons h hs => .cons h (hs.take n)
theorem _root_.L2.DpAll.drop : ∀ {vs : List V} {ds : List PyData} (n : Nat), DpAll K H vs ds → DpAll K H (vs.drop n) (ds.drop n)
  | _, _, 0, h => h
  | _, _, _ + 1, .nil => .nil
  | _, _, n + 1, .cons _ hs => hs.drop n
theorem _root_.L2.Dp.tupI (h : Dp K H v (.tuple ds)) : ∃ a xs, v = .ref a ∧ SqT K H a xs ∧ DpAll K H xs ds := by
  cases h with
  | tup hs ha => exact ⟨_, _, rfl, hs, ha⟩
theorem _root_.L2.Dp.strI {t : Str} (h : Dp K H v (.str t)) : v = .str t := by cases h; rfl
theorem _root_.L2.Dp.blI {b : Bool} (h : Dp K H v (.bool b)) : v = .bl b := by cases h; rfl
theorem _root_.L2.DpAll.c0 (h : DpAll K H vs []) : vs = [] := by cases h; rfl
theorem _root_.L2.DpAll.c1 (h : DpAll K H vs (d :: ds)) : ∃ x xs, vs = x :: xs ∧ Dp K H x d ∧ DpAll K H xs ds := by
  cases h with
  | cons h hs => exact ⟨_, _, rfl, h, hs⟩
/-- the name of a datum's type -/
def tyN : PyData → String
  | .none => "NoneType"
  | .bool _ => "bool"
  | .int _ => "int"
  | .str _ => "str"
  | .list _ => "list"
  | .tuple _ => "tuple"
  | .dict _ => "dict"
theorem _root_.L2.Dp.ty (h : Dp K H v d) : TyB K H v (tyN d) := by
  cases h with
  | non => exact .non
  | bl b => exact .bl b
  | int i => exact .int i
  | str t => exact .str t
  | lst h _ => exact .lst h
  | tup h _ => exact .tup h
end
/-! ### a tuple of the top -/
structure GTup (K : PySem.W.Frag) (mg : Str → Option Value) (x : Str) (a : Addr) (xs : List V) : Prop where
  gl : mg x = some (.ref a)
  kt : ∃ (o : Obj) (its : Array Value) (n : Nat), K.lookup a = some o ∧ o.cls = .type "tuple" ∧ o.data = .seq its n ∧ its.size ≤ sizeLine ∧ Vals xs its.toList
theorem GTup.sq {K : PySem.W.Frag} {mg : Str → Option Value} {x : Str} {a : Addr} {xs : List V} {H : Hp} (T : GTup K mg x a xs) : SqT K H a xs := .inr T.kt
theorem pe_gT {X : Cx} {x : Str} {a : Addr} {xs : List V} (T : GTup X.K X.mg x a xs) {pos : Pos} (hg : Gl X x) (hd : (x == ("__debug__" : Str)) = false := by decide) : PE X (.Name x pos) (tC (.ref a)) := pe_glob hg T.gl rfl hd
/-! ### the judges, on data -/
mutual
/-- all texts in it are of signs -/
def sgD : PyData → Prop
  | .str t => ∃ s : List Nat, t = S s ∧ s.all isSign = true ∧ s.length ≤ 100000
  | .list ds => sgDs ds
  | .tuple ds => sgDs ds
  | _ => True
def sgDs : List PyData → Prop
  | [] => True
  | d :: ds => sgD d ∧ sgDs ds
end
theorem sgDs_get : ∀ {ds : List PyData} {i : Nat} {d : PyData}, sgDs ds → ds[i]? = some d → sgD d
  | [], _, _, _, e => by cases e
  | d :: ds, 0, _, h, e => by
    cases e
    exact h.1
  | d :: ds, i + 1, _, h, e => sgDs_get (i := i) h.2 e
def txB : PyData → Bool
  | .str _ => true
  | _ => false
def mB : PyData → Bool
  | .tuple [n, t, .bool _] => txB n && txB t
  | _ => false
def kV : List V := [.str (S [60]), .str (S [124])]
def aB : PyData → Bool
  | .tuple [.str k, n, t, .bool w] => inV (.str k) kV && mB (.tuple [n, t, .bool w])
  | _ => false
/-- the first two of a row -/
def keyD : PyData → PyData
  | .tuple (a :: b :: _) => .tuple [a, b]
  | d => d
def incB : List PyData → Bool
  | a :: b :: r => PySem.W.dataLt a b && incB (b :: r)
  | _ => true
def wB : PyData → Bool
  | .tuple [.tuple ms, .tuple as] => ms.all mB && as.all aB && incB (as.map keyD)
  | _ => false
end Pd

/-! zip of two sequences, each a list (false) or a tuple (true) -/
namespace Pd
open PySem PySem.Spec PyProof.Rows L2
def SqB (K : PySem.W.Frag) (H : Hp) (t : Bool) (a : Addr) (xs : List V) : Prop := if t = true then SqT K H a xs else SqL K H a xs
/-- a sequence of the heap -/
def hSq (t : Bool) (h : Heap) (a : Addr) (us : Array Value) : Prop := if t = true then h.IsTuple a us else h.IsList a us
/-- its iterator, at place i -/
def hIt (t : Bool) (h : Heap) (it a : Addr) (i : Nat) : Prop := if t = true then h.IsTupleIter it a i else h.IsListIter it a i
def hItO (t : Bool) (a : Addr) : Obj := if t = true then { cls := .type "tuple_iterator", data := .fields #[.ref a, .int 0 0] } else { cls := .type "list_iterator", data := .fields #[.ref a, .int 0 0] }
theorem hIt_obj {t : Bool} {h : Heap} {it a : Addr} {i : Nat} (q : hIt t h it a i) : ∃ o, h.get? it = some o ∧ o.data = .fields #[.ref a, .int i 0] := by
  cases t with
  | true => obtain ⟨o, e, _, d⟩ := (show h.IsTupleIter it a i from q); exact ⟨o, e, d⟩
  | false => obtain ⟨o, e, _, d⟩ := (show h.IsListIter it a i from q); exact ⟨o, e, d⟩
theorem hIt_mv {t : Bool} {h h' : Heap} {it a : Addr} {i : Nat} (q : hIt t h it a i) (k : ∀ o, h.get? it = some o → h'.get? it = some o) : hIt t h' it a i := by
  cases t with
  | true => exact (show h.IsTupleIter it a i from q).at k
  | false => exact (show h.IsListIter it a i from q).at k
theorem draws_b {prog : Program} {w : World} {A : Around} (hh : A.handled = none) (t : Bool) (it a : Addr) (hne : a ≠ it) (us : Array Value) :
    Draws prog w A it [it, a] us.size (fun i v => us[i]? = some v) (fun i h => hIt t h it a i ∧ hSq t h a us) := by
  cases t with
  | true => exact Draws.tuple hh it a hne us
  | false => exact Draws.list hh it a hne us
theorem begins_b (t : Bool) (a : Addr) (us : Array Value) : Begins (.ref a) (hItO t a) fun h => hSq t h a us := by
  cases t with
  | true => exact begins_tuple a us
  | false => exact begins_list a us
theorem hIt_new {t : Bool} {h : Heap} {it a : Addr} (e : h.get? it = some (hItO t a)) : hIt t h it a 0 := by
  cases t with
  | true => exact ⟨_, e, rfl, rfl⟩
  | false => exact ⟨_, e, rfl, rfl⟩
theorem inv_sq {X : Cx} {pins : List (Addr × Obj)} {σ : L2.St} {H : Hp} {s : Shared} {t : Bool} {a : Addr} {xs : List V} (I : L2.Inv X pins σ H s) (q : SqB X.K H t a xs) : ∃ us : List Value, Vals xs us ∧ hSq t s.heap a us.toArray ∧ a < s.heap.objs.size := by
  cases t with
  | true =>
    obtain ⟨us, r, p, _⟩ := I.tuple q
    obtain ⟨o, e, c⟩ := id p
    exact ⟨us, r, ⟨o, e, c⟩, Heap.lt_size e⟩
  | false =>
    obtain ⟨us, r, p, _⟩ := I.list q
    exact ⟨us, r, p.isList, p.lt⟩
theorem inv_sq_inj {X : Cx} {pins : List (Addr × Obj)} {σ : L2.St} {H : Hp} {s : Shared} {t : Bool} {a : Addr} {xs ys : List V} (I : L2.Inv X pins σ H s) (q : SqB X.K H t a xs) (q' : SqB X.K H t a ys) : xs = ys := by
  cases t with
  | true => exact I.tuple_inj q q'
  | false => exact I.list_inj q q'
/-- what zip tells, turn by turn -/
def ItB (K : PySem.W.Frag) (t u : Bool) (a b : Addr) : It where
  go i H := ∃ xs ys, SqB K H t a xs ∧ SqB K H u b ys ∧ i < xs.length ∧ i < ys.length
  yld i H v H' := ∃ T x y, v = .ref T ∧ H T = none ∧ H' = upd H T (.tup [x, y]) ∧ (∀ xs, SqB K H t a xs → xs[i]? = some x) ∧ ∀ ys, SqB K H u b ys → ys[i]? = some y
  stop i H := ∃ xs ys, SqB K H t a xs ∧ SqB K H u b ys ∧ i ≤ xs.length ∧ i ≤ ys.length ∧ (i = xs.length ∨ i = ys.length)
/-- the iterator's own objects -/
def zSt (t u : Bool) (z TI TO i1 i2 a b : Addr) (i : Nat) (h : Heap) : Prop := IsZip h z TI TO .none ∧ IsPair h TI (.ref i1) (.ref i2) ∧ (∃ x y, IsPair h TO x y) ∧ hIt t h i1 a i ∧ hIt u h i2 b i
theorem zSt_all {t u : Bool} {z TI TO i1 i2 a b : Addr} {i : Nat} {h : Heap} (q : zSt t u z TI TO i1 i2 a b i h) {c : Addr} (m : c ∈ [z, TI, TO, i1, i2]) : ∃ o, h.get? c = some o ∧ ∀ v, o.data ≠ .cell v := by
  obtain ⟨q1, q2, ⟨x, y, q3⟩, q4, q5⟩ := q
  obtain ⟨o4, e4, d4⟩ := hIt_obj q4
  obtain ⟨o5, e5, d5⟩ := hIt_obj q5
  simp only [List.mem_cons, List.not_mem_nil, or_false] at m
  rcases m with rfl | rfl | rfl | rfl | rfl
  · exact ⟨_, q1, fun v => by simp⟩
  · exact ⟨_, q2, fun v => by simp⟩
  · exact ⟨_, q3, fun v => by simp⟩
  · exact ⟨_, e4, fun v => by rw [d4]; simp⟩
  · exact ⟨_, e5, fun v => by rw [d5]; simp⟩
theorem zSep {z TI TO i1 i2 a b : Addr} (D : ZipApart z TI TO i1 i2 a b) (h1 : a ≠ i2 := D.l1i2) : ZipSep2 z TI TO i1 i2 [i1, a] [i2, b] where
  TIz := D.TIz
  TOz := D.TOz
  TITO := D.TITO
  TIi1 := D.TIi1
  mem1 := List.mem_cons_self ..
  zf1 := by simp [D.i1z.symm, D.l1z.symm]
  Tf1 := by simp [D.TOi1, D.l1TO.symm]
  TIi2 := D.TIi2
  mem2 := List.mem_cons_self ..
  zf2 := by simp [D.i2z.symm, D.l2z.symm]
  Tf2 := by simp [D.TOi2, D.l2TO.symm]
  sep1_2 := by simp [D.i12, D.l2i1.symm]
  sep2_1 := by simp [D.i12.symm, D.l1i2.symm]
theorem turn_b {P : Program} {w : World} {K : PySem.W.Frag} {elts : List Expr} {kk : Nat} {tpos : Pos} {t u : Bool} {a b z TI TO i1 i2 : Addr} (D : ZipApart z TI TO i1 i2 a b) :
    Turn P w K (.Tuple elts kk tpos) (ItB K t u a b) [z, TI, TO, i1, i2] z (zSt t u z TI TO i1 i2 a b) where
  mem := List.mem_cons_self ..
  obj := fun _ _ q _ m => zSt_all q m
  keep := fun _ _ _ q k => by
    obtain ⟨q1, q2, ⟨x, y, q3⟩, q4, q5⟩ := q
    refine ⟨k z (by simp) _ q1, k TI (by simp) _ q2, ⟨x, y, k TO (by simp) _ q3⟩, hIt_mv q4 (k i1 (by simp)), hIt_mv q5 (k i2 (by simp))⟩
  self := fun _ _ _ _ _ q h => wpAny_pyIter_zip q.1 h
  done := fun X hP hw hK hc i pins s σ H E I hf q hg => by
    subst hP hw hK
    obtain ⟨q1, q2, ⟨x0, y0, q3⟩, q4, q5⟩ := q
    obtain ⟨xs, ys, sx, sy, l1, l2, l3⟩ := hg
    obtain ⟨us, r1, p1, _⟩ := inv_sq I sx
    obtain ⟨ws, r2, p2, _⟩ := inv_sq I sy
    have n1 := r1.length
    have n2 := r2.length
    have hd : X.A.in1.handled = none := I.ok.hd hc
    refine wpAny_pyNext_zipD2_end (zSep D) (draws_b hd t i1 a D.l1i1 us.toArray) (draws_b hd u i2 b D.l2i2 ws.toArray) q1 q2 q3 ⟨q4, p1⟩ ⟨q5, p2⟩ (by simp; omega) (by simp; omega) (by simp; omega) fun h' tk k => ⟨rfl, ?_⟩
    refine I.turnedL (t' := tk) (ch := [z, TI, TO, i1, i2]) (fun c o m e => ?_) hf
    simp only [List.mem_cons, List.not_mem_nil, or_false, not_or] at m
    exact k c o m.1 m.2.2.1 m.2.2.2.1 m.2.2.2.2 e
  item := fun X hP hw hK hc i pins s σ H E I hf q hg => by
    subst hP hw hK
    obtain ⟨q1, q2, ⟨x0, y0, q3⟩, q4, q5⟩ := id q
    obtain ⟨xs, ys, sx, sy, l1, l2⟩ := hg
    obtain ⟨us, r1, p1, _⟩ := inv_sq I sx
    obtain ⟨ws, r2, p2, _⟩ := inv_sq I sy
    have n1 := r1.length
    have n2 := r2.length
    obtain ⟨v1, e1, g1⟩ := r1.get (List.getElem?_eq_getElem l1)
    obtain ⟨v2, e2, g2⟩ := r2.get (List.getElem?_eq_getElem l2)
    have hd : X.A.in1.handled = none := I.ok.hd hc
    have zl : z < s.heap.objs.size := Heap.lt_size q1
    refine wpAny_pyNext_zipD2_item (zSep D) (draws_b hd t i1 a D.l1i1 us.toArray) (draws_b hd u i2 b D.l2i2 ws.toArray) q1 q2 q3 ⟨q4, p1⟩ ⟨q5, p2⟩ (by simp; omega) (by simp; omega) fun w1 w2 h' tk f1 f2 z1 z2 z3 z4 z5 z6 z7 => ?_
    obtain rfl : v1 = w1 := by
      have f1 : us.toArray[i]? = some w1 := f1
      rw [List.getElem?_toArray, e1] at f1
      exact Option.some.inj f1
    obtain rfl : v2 = w2 := by
      have f2 : ws.toArray[i]? = some w2 := f2
      rw [List.getElem?_toArray, e2] at f2
      exact Option.some.inj f2
    refine ⟨_, rfl, wpAny_letOwnedTupleGo_zip (s := { s with heap := h', toks := tk }) z1 fun h2 y1 sb => ?_⟩
    have far : ∀ c, c ≠ z → h2.get? c = h'.get? c := fun c n => sb.2 c n
    have tp : h2.get? s.heap.objs.size = some { cls := .type "tuple", data := .seq #[v1, v2] } := by rw [far _ (Nat.ne_of_gt zl)]; exact z5
    have J : L2.Inv X pins σ (upd H s.heap.objs.size (.tup [xs[i], ys[i]])) { s with heap := h2, toks := tk } := by
      refine I.turnedNew (t' := tk) (ch := [z, TI, TO, i1, i2]) (fun c o m e => ?_) hf (Nat.le_refl _) ⟨by show 2 ≤ sizeLine; decide, [v1, v2], .cons g1 (.cons g2 .nil), _, tp, rfl, _, rfl⟩
      simp only [List.mem_cons, List.not_mem_nil, or_false, not_or] at m
      rw [far c m.1]
      exact z7 c o m.1 m.2.2.1 m.2.2.2.1 m.2.2.2.2 e
    refine ⟨.ref s.heap.objs.size, _, J, rfl, ⟨_, _, _, rfl, I.hok.fresh (Nat.le_refl _), rfl, fun l hl => ?_, fun l hl => ?_⟩, ⟨y1, ?_, ⟨v1, v2, ?_⟩, ?_, ?_⟩, fun c m => ?_⟩
    · rw [inv_sq_inj I hl sx]; exact List.getElem?_eq_getElem l1
    · rw [inv_sq_inj I hl sy]; exact List.getElem?_eq_getElem l2
    · show h2.get? TI = _
      rw [far _ D.TIz]
      exact z7 _ _ D.TIz D.TITO D.TIi1 D.TIi2 q2
    · show h2.get? TO = _
      rw [far _ D.TOz]
      exact z2
    · exact hIt_mv z3.1 fun o e => by rw [far _ D.i1z]; exact e
    · exact hIt_mv z4.1 fun o e => by rw [far _ D.i2z]; exact e
    · obtain ⟨o, e, _⟩ := zSt_all q m
      rw [upd_ne (Nat.ne_of_lt (Heap.lt_size e))]
      exact (hf c m).1
/-- zip(x, y), the kinds given -/
def iZipB (K : PySem.W.Frag) (t u : Bool) (ta : TA) : TI := fun σ H R => ta σ H fun vs H1 => ∃ a b xs ys, vs = [.ref a, .ref b] ∧ SqB K H1 t a xs ∧ SqB K H1 u b ys ∧ R (ItB K t u a b) H1
theorem pi_zipB (t u : Bool) {X : Cx} {e e2 : Expr} {ta : TA} {p pos tpos : Pos} {elts : List Expr} {kk : Nat} (hg : Gl X "zip") (hm : X.mg "zip" = none) (ha : PA X [e, e2] ta)
    (hs : starEach [e, e2] X.env = (false, eval e X.env) :: starEach [e2] X.env := by rfl) (hpl : (backTo pos (starEach [e2] X.env)).any (·.1) = false := by rfl) :
    PI X (.Tuple elts kk tpos) (.Call (.Name "zip" p) [e, e2] [] pos) (iZipB X.K t u ta) := by
  constructor
  intro pins s σ H R I h
  refine Call_ (ld_blt I hg hm PyProof.Rows.boot_zip (PyProof.Rows.callWith_type1 (thn (ha.run pos pins s σ H _ I h) fun us s1 ⟨vs, H1, I1, r1, a, b, xs, ys, ex, sx, sy, q⟩ => ?_) hs hpl))
  subst ex
  obtain ⟨u1, u2, rfl, rfl, rfl⟩ : ∃ u1 u2, us = [u1, u2] ∧ u1 = Value.ref a ∧ u2 = Value.ref b := by
    obtain ⟨u1, u2, e, ra, rb⟩ := vals2 r1
    exact ⟨u1, u2, e, ra, rb⟩
  obtain ⟨us, _, p1, la⟩ := inv_sq I1 sx
  obtain ⟨ws, _, p2, lb⟩ := inv_sq I1 sy
  refine zip_begins2 (begins_b t a us.toArray) (begins_b u b ws.toArray) p1 p2 fun h' z1 z2 z3 z4 z5 z6 z7 => wpAny_pyIter_zip z1 ?_
  refine ⟨s1.heap.objs.size + 4, [s1.heap.objs.size + 4, s1.heap.objs.size + 2, s1.heap.objs.size + 3, s1.heap.objs.size, s1.heap.objs.size + 1], zSt t u _ _ _ _ _ a b, _, H1, rfl, I1.kept (t' := s1.toks) z7, turn_b (PySem.W.ktu_apart s1.heap.objs.size a b la lb), ⟨z1, z2, ⟨_, _, z3⟩, hIt_new z4, hIt_new z5⟩, fun c m => ?_, q⟩
  have le : s1.heap.objs.size ≤ c := by
    simp only [List.mem_cons, List.not_mem_nil, or_false] at m
    rcases m with rfl | rfl | rfl | rfl | rfl <;> first | exact Nat.le_add_right _ _ | exact Nat.le_refl _
  exact (I1.fpOk le (I1.hok.fresh le))
section
variable {K : PySem.W.Frag} {ta : TA} {t u : Bool} {a b : Addr} {xs ys : List V} {g : TG} {tb : TS} {tt : TT} {te : TE} {vs : List Nat} {σ : L2.St} {H : Hp} {Q : VK} {D : Ends}
theorem eFoB : tFor (iZipB K t u ta) g tb D σ H = ta σ H fun vs H1 => ∃ a b xs ys, vs = [V.ref a, V.ref b] ∧ SqB K H1 t a xs ∧ SqB K H1 u b ys ∧ ForJ (ItB K t u a b) g tb D σ H1 := rfl
theorem eLcB : tLc (iZipB K t u ta) g tt te vs σ H Q = ta σ H fun ws H1 => ∃ a b xs ys, ws = [V.ref a, V.ref b] ∧ SqB K H1 t a xs ∧ SqB K H1 u b ys ∧ LcJ (ItB K t u a b) g tt te vs σ H1 Q := rfl
theorem walk_b : L2.Walk (ItB K t u a b) (min xs.length ys.length) (fun H => SqB K H t a xs ∧ SqB K H u b ys) (YPair (fun i => xs[i]?) fun i => ys[i]?) :=
  ⟨fun i H hi q => ⟨xs, ys, q.1, q.2, by omega, by omega⟩, fun H q => ⟨xs, ys, q.1, q.2, by omega, by omega, by omega⟩, fun i H v H' hi q y => by
    obtain ⟨T, x, y', h1, h2, h3, h4, h5⟩ := y
    exact ⟨T, x, y', h1, h2, h3, h4 _ q.1, h5 _ q.2⟩⟩
theorem foB (xs ys : List V) (Pv : Nat → L2.St → Hp → Prop) (h0 : Pv 0 σ H) (hG : ∀ i σ H, i ≤ min xs.length ys.length → Pv i σ H → SqB K H t a xs ∧ SqB K H u b ys)
    (hs : ∀ i x y T σ H, xs[i]? = some x → ys[i]? = some y → Pv i σ H → H T = none → g (.ref T) σ (upd H T (.tup [x, y])) fun σ2 H2 => tb { D with nx := Pv (i + 1), ct := Pv (i + 1), bk := D.nx } σ2 H2)
    (hd : ∀ σ H, Pv (min xs.length ys.length) σ H → D.nx σ H) : ForJ (ItB K t u a b) g tb D σ H :=
  for_it walk_b Pv h0 hG (fun i v σ H H' hi p y => by
    obtain ⟨T, x, y', rfl, h2, rfl, h4, h5⟩ := y
    exact hs i x y' T σ H h4 h5 p h2) hd
theorem lcB (h : ∀ D, H D = none → ∃ (xs ys : List V) (Pv : Nat → Hp → Prop), Pv 0 (upd H D (.lst [])) ∧ (∀ i H, i ≤ min xs.length ys.length → Pv i H → SqB K H t a xs ∧ SqB K H u b ys) ∧
    (∀ i x y T H, xs[i]? = some x → ys[i]? = some y → Pv i H → H T = none → g (.ref T) (wipe σ vs) (upd H T (.tup [x, y])) fun σ2 H2 => wipe σ2 vs = wipe σ vs ∧ tt σ2 H2 fun b H3 =>
      if b = true then te σ2 H3 fun y H4 => ∃ acc, H4 D = some (.lst acc) ∧ acc.length < sizeLine ∧ Pv (i + 1) (upd H4 D (.lst (acc ++ [y]))) else Pv (i + 1) H3) ∧ ∀ H, Pv (min xs.length ys.length) H → Q (.ref D) H) : LcJ (ItB K t u a b) g tt te vs σ H Q := fun D nD => by
  obtain ⟨xs, ys, Pv, h0, hG, hs, hd⟩ := h D nD
  exact lc_it walk_b Pv h0 hG (fun i v H H' hi p y => by
    obtain ⟨T, x, y', rfl, h2, rfl, h4, h5⟩ := y
    exact hs i x y' T H h4 h5 p h2) hd
theorem foT (xs : List V) (Pv : Nat → L2.St → Hp → Prop) (h0 : Pv 0 σ H) (hl : ∀ i σ H, i ≤ xs.length → Pv i σ H → SqT K H a xs)
    (hs : ∀ i x σ H, xs[i]? = some x → Pv i σ H → g x σ H fun σ2 H2 => tb { D with nx := Pv (i + 1), ct := Pv (i + 1), bk := D.nx } σ2 H2) (hd : ∀ σ H, Pv xs.length σ H → D.nx σ H) : ForJ (Itt K a) g tb D σ H := for_tup Pv h0 hl hs hd
end
end Pd


namespace Pd
/-! ### runs of an automaton whose positions stand for signs -/
abbrev Rl := Nat → Nat → Prop
inductive Run (X F : Rl) : Nat → Nat → Nat → Nat → Prop
  | one {q i : Nat} (h : X q i) : Run X F q i q i
  | step {q i r j r' : Nat} (h : Run X F q i r j) (f : F r r') (x : X r' (j + 1)) : Run X F q i r' (j + 1)
theorem Run.le {X F : Rl} {q i r j : Nat} (h : Run X F q i r j) : i ≤ j := by
  induction h with
  | one => exact Nat.le_refl _
  | step _ _ _ ih => omega
theorem Run.endX {X F : Rl} {q i r j : Nat} (h : Run X F q i r j) : X r j := by
  cases h with
  | one h => exact h
  | step _ _ x => exact x
theorem Run.mono {X F G : Rl} (k : ∀ a b, F a b → G a b) {q i r j : Nat} (h : Run X F q i r j) : Run X G q i r j := by
  induction h with
  | one h => exact .one h
  | step _ f x ih => exact .step ih (k _ _ f) x
theorem Run.trans {X F : Rl} {q i r j r' k z : Nat} (h : Run X F q i r j) (f : F r r') (g : Run X F r' (j + 1) z k) : Run X F q i z k := by
  induction g with
  | one x => exact .step h f x
  | step _ f' x ih => exact .step ih f' x
/-- an automaton by what it says: which positions come first (at 0 or not), last (at the end or not), where the empty stretch is taken, what follows what -/
structure Au where
  fi : Bool → Nat → Prop
  la : Bool → Nat → Prop
  nu : Bool → Bool → Prop
  F : Rl
  lo : Nat
  hi : Nat
structure Au.Ok (A : Au) : Prop where
  le : A.lo ≤ A.hi
  fi : ∀ b q, A.fi b q → A.lo ≤ q ∧ q < A.hi
  la : ∀ b q, A.la b q → A.lo ≤ q ∧ q < A.hi
  F : ∀ q r, A.F q r → (A.lo ≤ q ∧ q < A.hi) ∧ (A.lo ≤ r ∧ r < A.hi)
def Au.L (A : Au) (X : Rl) (n s e : Nat) : Prop := (s = e ∧ A.nu (decide (s = 0)) (decide (s = n))) ∨ (s < e ∧ ∃ q r, A.fi (decide (s = 0)) q ∧ Run X A.F q s r (e - 1) ∧ A.la (decide (e = n)) r)
/-- the automaton takes just what the relation says -/
structure Tk (A : Au) (X : Rl) (n : Nat) (R : Rl) : Prop where
  ok : A.Ok
  iff : ∀ s e, s ≤ e → e ≤ n → (R s e ↔ A.L X n s e)
/-- relations between places that go forwards within the text -/
structure Fw (n : Nat) (R : Rl) : Prop where
  le : ∀ s e, R s e → s ≤ e
  in_ : ∀ s e, s ≤ n → R s e → e ≤ n
def seqR (R S : Rl) : Rl := fun s e => ∃ j, R s j ∧ S j e
theorem Fw.seq {n : Nat} {R S : Rl} (a : Fw n R) (b : Fw n S) : Fw n (seqR R S) :=
  ⟨fun s e ⟨j, x, y⟩ => Nat.le_trans (a.le _ _ x) (b.le _ _ y), fun s e h ⟨j, x, y⟩ => b.in_ _ _ (a.in_ _ _ h x) y⟩
def Au.seq (A B : Au) : Au := ⟨fun b q => A.fi b q ∨ (A.nu b false ∧ B.fi b q), fun c q => B.la c q ∨ (B.nu false c ∧ A.la c q), fun b c => A.nu b c ∧ B.nu b c, fun q r => A.F q r ∨ B.F q r ∨ (A.la false q ∧ B.fi false r), A.lo, B.hi⟩
theorem seq_right {A B : Au} {X : Rl} (a : A.Ok) (b : B.Ok) (m : A.hi ≤ B.lo) {q i r j : Nat} (h : Run X (A.seq B).F q i r j) (hq : B.lo ≤ q) : Run X B.F q i r j ∧ B.lo ≤ r := by
  induction h with
  | one x => exact ⟨.one x, hq⟩
  | step _ f x ih =>
    obtain ⟨h1, h2⟩ := ih
    rcases f with f | f | ⟨f, g⟩
    · have := (a.F _ _ f).1.2; omega
    · exact ⟨.step h1 f x, (b.F _ _ f).2.1⟩
    · have := (a.la _ _ f).2; omega
theorem seq_left {A B : Au} {X : Rl} (a : A.Ok) (b : B.Ok) (m : A.hi ≤ B.lo) {q i r j : Nat} (h : Run X (A.seq B).F q i r j) (hq : q < A.hi) :
    (r < A.hi ∧ Run X A.F q i r j) ∨ ∃ r1 q2 k, i ≤ k ∧ k < j ∧ Run X A.F q i r1 k ∧ A.la false r1 ∧ B.fi false q2 ∧ Run X B.F q2 (k + 1) r j ∧ B.lo ≤ r := by
  induction h with
  | one x => exact .inl ⟨hq, .one x⟩
  | @step r j r' h f x ih =>
    rcases ih with ⟨h1, h2⟩ | ⟨r1, q2, k, k1, k2, h1, h2, h3, h4, h5⟩
    · rcases f with f | f | ⟨f, g⟩
      · exact .inl ⟨(a.F _ _ f).2.2, .step h2 f x⟩
      · have := (b.F _ _ f).1.1; omega
      · exact .inr ⟨_, _, j, h2.le, Nat.lt_succ_self _, h2, f, g, .one x, (b.fi _ _ g).1⟩
    · refine .inr ⟨r1, q2, k, k1, by omega, h1, h2, h3, ?_⟩
      rcases f with f | f | ⟨f, g⟩
      · have := (a.F _ _ f).1.2; omega
      · exact ⟨.step h4 f x, (b.F _ _ f).2.1⟩
      · have := (a.la _ _ f).2; omega
theorem Au.Ok.seq {A B : Au} (a : A.Ok) (b : B.Ok) (m : A.hi = B.lo) : (A.seq B).Ok := by
  have := a.le; have := b.le
  refine ⟨by show A.lo ≤ B.hi; omega, fun c q h => ?_, fun c q h => ?_, fun q r h => ?_⟩ <;> show _ <;> simp only [Au.seq] at h ⊢
  · rcases h with h | ⟨_, h⟩
    · have := a.fi _ _ h; omega
    · have := b.fi _ _ h; omega
  · rcases h with h | ⟨_, h⟩
    · have := b.la _ _ h; omega
    · have := a.la _ _ h; omega
  · rcases h with h | h | ⟨h, g⟩
    · have := a.F _ _ h; omega
    · have := b.F _ _ h; omega
    · have := a.la _ _ h; have := b.fi _ _ g; omega
theorem Tk.seq {A B : Au} {X : Rl} {n : Nat} {R S : Rl} (a : Tk A X n R) (b : Tk B X n S) (fr : Fw n R) (fs : Fw n S) (hX : ∀ q i, X q i → i < n) (m : A.hi = B.lo) : Tk (A.seq B) X n (seqR R S) := by
  refine ⟨a.ok.seq b.ok m, fun s e hse hen => ⟨fun ⟨j, h1, h2⟩ => ?_, fun h => ?_⟩⟩
  · have l1 := fr.le _ _ h1
    have l2 := fs.le _ _ h2
    rcases (a.iff s j l1 (by omega)).mp h1 with ⟨e1, n1⟩ | ⟨s1, q, r, f1, r1, la1⟩
    · subst e1
      rcases (b.iff s e l2 hen).mp h2 with ⟨e2, n2⟩ | ⟨s2, q, r, f2, r2, la2⟩
      · exact .inl ⟨e2, n1, n2⟩
      · have : decide (s = n) = false := decide_eq_false (by omega)
        rw [this] at n1
        exact .inr ⟨s2, q, r, .inr ⟨n1, f2⟩, r2.mono fun _ _ z => .inr (.inl z), .inl la2⟩
    · rcases (b.iff j e l2 hen).mp h2 with ⟨e2, n2⟩ | ⟨s2, q', r', f2, r2, la2⟩
      · subst e2
        have : decide (j = 0) = false := decide_eq_false (by omega)
        rw [this] at n2
        exact .inr ⟨s1, q, r, .inl f1, r1.mono fun _ _ z => .inl z, .inr ⟨n2, la1⟩⟩
      · have e1 : decide (j = 0) = false := decide_eq_false (by omega)
        have e2 : decide (j = n) = false := decide_eq_false (by omega)
        rw [e1] at f2
        rw [e2] at la1
        refine .inr ⟨by omega, q, r', .inl f1, ?_, .inl la2⟩
        obtain ⟨k, rfl⟩ : ∃ k, j = k + 1 := ⟨j - 1, by omega⟩
        exact (r1.mono (G := (A.seq B).F) fun _ _ z => .inl z).trans (.inr (.inr ⟨la1, f2⟩)) (r2.mono fun _ _ z => .inr (.inl z))
  · rcases h with ⟨e1, n1, n2⟩ | ⟨s1, q, r, f1, r1, l1⟩
    · subst e1
      exact ⟨s, (a.iff s s (Nat.le_refl _) hen).mpr (.inl ⟨rfl, n1⟩), (b.iff s s (Nat.le_refl _) hen).mpr (.inl ⟨rfl, n2⟩)⟩
    · have hm : A.hi ≤ B.lo := by omega
      have en : decide (s = n) = false := decide_eq_false (by omega)
      have e0 : decide (e = 0) = false := decide_eq_false (by omega)
      rcases f1 with f1 | ⟨n1, f1⟩
      · rcases seq_left a.ok b.ok hm r1 (a.ok.fi _ _ f1).2 with ⟨h1, h2⟩ | ⟨z1, q2, k, k1, k2, h1, h2, h3, h4, h5⟩
        · rcases l1 with l1 | ⟨n2, l1⟩
          · have := (b.ok.la _ _ l1).1; omega
          · exact ⟨e, (a.iff s e hse hen).mpr (.inr ⟨s1, q, r, f1, h2, l1⟩), (b.iff e e (Nat.le_refl _) hen).mpr (.inl ⟨rfl, by rw [e0]; exact n2⟩)⟩
        · rcases l1 with l1 | ⟨n2, l1⟩
          · have c1 : decide (k + 1 = n) = false := decide_eq_false (by omega)
            have c2 : decide (k + 1 = 0) = false := decide_eq_false (by omega)
            exact ⟨k + 1, (a.iff s (k + 1) (by omega) (by omega)).mpr (.inr ⟨by omega, q, z1, f1, h1, by rw [c1]; exact h2⟩), (b.iff (k + 1) e (by omega) hen).mpr (.inr ⟨by omega, q2, r, by rw [c2]; exact h3, h4, l1⟩)⟩
          · have := (a.ok.la _ _ l1).2; omega
      · obtain ⟨h1, h2⟩ := seq_right a.ok b.ok hm r1 (b.ok.fi _ _ f1).1
        rcases l1 with l1 | ⟨n2, l1⟩
        · exact ⟨s, (a.iff s s (Nat.le_refl _) (by omega)).mpr (.inl ⟨rfl, by rw [en]; exact n1⟩), (b.iff s e hse hen).mpr (.inr ⟨s1, q, r, f1, h1, l1⟩)⟩
        · have := (a.ok.la _ _ l1).2; omega
/-! ### the empty stretch put to it -/
def optR (R : Rl) : Rl := fun s e => s = e ∨ R s e
def Au.opt (A : Au) : Au := { A with nu := fun _ _ => True }
theorem Tk.opt {A : Au} {X : Rl} {n : Nat} {R : Rl} (a : Tk A X n R) : Tk A.opt X n (optR R) := by
  refine ⟨⟨a.ok.le, a.ok.fi, a.ok.la, a.ok.F⟩, fun s e hse hen => ⟨fun h => ?_, fun h => ?_⟩⟩
  · rcases h with h | h
    · exact .inl ⟨h, trivial⟩
    · rcases (a.iff s e hse hen).mp h with ⟨h, _⟩ | h
      · exact .inl ⟨h, trivial⟩
      · exact .inr h
  · rcases h with ⟨h, _⟩ | h
    · exact .inl h
    · exact .inr ((a.iff s e hse hen).mpr (.inr h))
theorem Fw.opt {n : Nat} {R : Rl} (a : Fw n R) : Fw n (optR R) := ⟨fun s e h => h.elim (fun z => by omega) (a.le _ _), fun s e hs h => h.elim (fun z => by omega) (a.in_ _ _ hs)⟩
/-! ### one or more of them -/
inductive PlusR (R : Rl) : Rl
  | one {s e : Nat} (h : R s e) : PlusR R s e
  | snoc {s j e : Nat} (h : PlusR R s j) (g : R j e) : PlusR R s e
theorem Fw.plus {n : Nat} {R : Rl} (a : Fw n R) : Fw n (PlusR R) := by
  refine ⟨fun s e h => ?_, fun s e hs h => ?_⟩
  · induction h with
    | one h => exact a.le _ _ h
    | snoc _ g ih => exact Nat.le_trans ih (a.le _ _ g)
  · induction h with
    | one h => exact a.in_ _ _ hs h
    | snoc _ g ih => exact a.in_ _ _ (ih hs) g
def Au.plus (A : Au) : Au := { A with F := fun q r => A.F q r ∨ (A.la false q ∧ A.fi false r) }
theorem plus_split {A : Au} {X : Rl} {q i r j : Nat} (h : Run X A.plus.F q i r j) : Run X A.F q i r j ∨ ∃ r1 q2 k, i ≤ k ∧ k < j ∧ Run X A.plus.F q i r1 k ∧ A.la false r1 ∧ A.fi false q2 ∧ Run X A.F q2 (k + 1) r j := by
  induction h with
  | one x => exact .inl (.one x)
  | @step r j r' h f x ih =>
    rcases f with f | ⟨f, g⟩
    · rcases ih with ih | ⟨r1, q2, k, k1, k2, h1, h2, h3, h4⟩
      · exact .inl (.step ih f x)
      · exact .inr ⟨r1, q2, k, k1, by omega, h1, h2, h3, .step h4 f x⟩
    · exact .inr ⟨r, r', j, h.le, Nat.lt_succ_self _, h, f, g, .one x⟩
theorem Tk.plus {A : Au} {X : Rl} {n : Nat} {R : Rl} (a : Tk A X n R) (fr : Fw n R) (hX : ∀ q i, X q i → i < n) : Tk A.plus X n (PlusR R) := by
  refine ⟨⟨a.ok.le, a.ok.fi, a.ok.la, fun q r h => h.elim (a.ok.F _ _) fun ⟨f, g⟩ => ⟨a.ok.la _ _ f, a.ok.fi _ _ g⟩⟩, fun s e hse hen => ⟨fun h => ?_, fun h => ?_⟩⟩
  · clear hse
    induction h with
    | @one s e h =>
      rcases (a.iff s e (fr.le _ _ h) hen).mp h with h | ⟨h, q, r, h1, h2, h3⟩
      · exact .inl h
      · exact .inr ⟨h, q, r, h1, h2.mono fun _ _ z => .inl z, h3⟩
    | @snoc s j e h g ih =>
      have l2 := fr.le _ _ g
      have l1 := fr.plus.le _ _ h
      have ih := ih (by omega)
      rcases (a.iff j e l2 hen).mp g with ⟨h, h1⟩ | ⟨h, q, r, h1, h2, h3⟩
      · subst h; exact ih
      · rcases ih with ⟨i1, i2⟩ | ⟨i0, q', r', i1, i2, i3⟩
        · subst i1
          exact .inr ⟨h, q, r, h1, h2.mono fun _ _ z => .inl z, h3⟩
        · have e1 : decide (j = 0) = false := decide_eq_false (by omega)
          have e2 : decide (j = n) = false := decide_eq_false (by omega)
          rw [e1] at h1
          rw [e2] at i3
          obtain ⟨k, rfl⟩ : ∃ k, j = k + 1 := ⟨j - 1, by omega⟩
          exact .inr ⟨by omega, q', r, i1, i2.trans (.inr ⟨i3, h1⟩) (h2.mono fun _ _ z => .inl z), h3⟩
  · rcases h with ⟨h, h1⟩ | ⟨h, q, r, h1, h2, h3⟩
    · exact .one ((a.iff s e hse hen).mpr (.inl ⟨h, h1⟩))
    · obtain ⟨d, hd⟩ : ∃ d, e - s = d := ⟨_, rfl⟩
      induction d using Nat.strongRecOn generalizing e r with
      | ind d ih =>
        rcases plus_split h2 with h2 | ⟨r1, q2, k, k1, k2, g1, g2, g3, g4⟩
        · exact .one ((a.iff s e hse hen).mpr (.inr ⟨h, q, r, h1, h2, h3⟩))
        · have c1 : decide (k + 1 = n) = false := decide_eq_false (by omega)
          have c2 : decide (k + 1 = 0) = false := decide_eq_false (by omega)
          refine .snoc (ih (k + 1 - s) (by omega) (k + 1) (by omega) (by omega) (by omega) r1 g1 (by rw [c1]; exact g2) rfl) ((a.iff (k + 1) e (by omega) hen).mpr (.inr ⟨by omega, q2, r, by rw [c2]; exact g3, g4, h3⟩))
/-! ### one of two -/
def orR (R S : Rl) : Rl := fun s e => R s e ∨ S s e
theorem Fw.or {n : Nat} {R S : Rl} (a : Fw n R) (b : Fw n S) : Fw n (orR R S) := ⟨fun s e h => h.elim (a.le _ _) (b.le _ _), fun s e hs h => h.elim (a.in_ _ _ hs) (b.in_ _ _ hs)⟩
def Au.or (A B : Au) : Au := ⟨fun b q => A.fi b q ∨ B.fi b q, fun c q => A.la c q ∨ B.la c q, fun b c => A.nu b c ∨ B.nu b c, fun q r => A.F q r ∨ B.F q r, A.lo, B.hi⟩
theorem or_side {A B : Au} {X : Rl} (a : A.Ok) (b : B.Ok) (m : A.hi ≤ B.lo) {q i r j : Nat} (h : Run X (A.or B).F q i r j) : (q < A.hi → r < A.hi ∧ Run X A.F q i r j) ∧ (B.lo ≤ q → B.lo ≤ r ∧ Run X B.F q i r j) := by
  induction h with
  | one x => exact ⟨fun z => ⟨z, .one x⟩, fun z => ⟨z, .one x⟩⟩
  | step h f x ih =>
    refine ⟨fun z => ?_, fun z => ?_⟩
    · obtain ⟨h1, h2⟩ := ih.1 z
      rcases f with f | f
      · exact ⟨(a.F _ _ f).2.2, .step h2 f x⟩
      · have := (b.F _ _ f).1.1; omega
    · obtain ⟨h1, h2⟩ := ih.2 z
      rcases f with f | f
      · have := (a.F _ _ f).1.2; omega
      · exact ⟨(b.F _ _ f).2.1, .step h2 f x⟩
theorem Tk.or {A B : Au} {X : Rl} {n : Nat} {R S : Rl} (a : Tk A X n R) (b : Tk B X n S) (m : A.hi = B.lo) : Tk (A.or B) X n (orR R S) := by
  have := a.ok.le; have := b.ok.le
  refine ⟨⟨by show A.lo ≤ B.hi; omega, fun c q h => ?_, fun c q h => ?_, fun q r h => ?_⟩, fun s e hse hen => ⟨fun h => ?_, fun h => ?_⟩⟩
  · rcases h with h | h
    · have := a.ok.fi _ _ h; simp only [Au.or]; omega
    · have := b.ok.fi _ _ h; simp only [Au.or]; omega
  · rcases h with h | h
    · have := a.ok.la _ _ h; simp only [Au.or]; omega
    · have := b.ok.la _ _ h; simp only [Au.or]; omega
  · rcases h with h | h
    · have := a.ok.F _ _ h; simp only [Au.or]; omega
    · have := b.ok.F _ _ h; simp only [Au.or]; omega
  · rcases h with h | h
    · rcases (a.iff s e hse hen).mp h with ⟨h1, h2⟩ | ⟨h0, q, r, h1, h2, h3⟩
      · exact .inl ⟨h1, .inl h2⟩
      · exact .inr ⟨h0, q, r, .inl h1, h2.mono fun _ _ z => .inl z, .inl h3⟩
    · rcases (b.iff s e hse hen).mp h with ⟨h1, h2⟩ | ⟨h0, q, r, h1, h2, h3⟩
      · exact .inl ⟨h1, .inr h2⟩
      · exact .inr ⟨h0, q, r, .inr h1, h2.mono fun _ _ z => .inr z, .inr h3⟩
  · have hm : A.hi ≤ B.lo := by omega
    rcases h with ⟨h1, h2⟩ | ⟨h0, q, r, h1, h2, h3⟩
    · rcases h2 with h2 | h2
      · exact .inl ((a.iff s e hse hen).mpr (.inl ⟨h1, h2⟩))
      · exact .inr ((b.iff s e hse hen).mpr (.inl ⟨h1, h2⟩))
    · rcases h1 with h1 | h1
      · obtain ⟨g1, g2⟩ := (or_side a.ok b.ok hm h2).1 (a.ok.fi _ _ h1).2
        rcases h3 with h3 | h3
        · exact .inl ((a.iff s e hse hen).mpr (.inr ⟨h0, q, r, h1, g2, h3⟩))
        · have := (b.ok.la _ _ h3).1; omega
      · obtain ⟨g1, g2⟩ := (or_side a.ok b.ok hm h2).2 (b.ok.fi _ _ h1).1
        rcases h3 with h3 | h3
        · have := (a.ok.la _ _ h3).2; omega
        · exact .inr ((b.iff s e hse hen).mpr (.inr ⟨h0, q, r, h1, g2, h3⟩))
/-! ### the simple ones -/
def Au.nil (k : Nat) (nu : Bool → Bool → Prop) : Au := ⟨fun _ _ => False, fun _ _ => False, nu, fun _ _ => False, k, k⟩
theorem Tk.nil {k n : Nat} {X : Rl} {nu : Bool → Bool → Prop} {R : Rl} (h : ∀ s e, s ≤ e → e ≤ n → (R s e ↔ s = e ∧ nu (decide (s = 0)) (decide (s = n)))) : Tk (Au.nil k nu) X n R :=
  ⟨⟨Nat.le_refl _, fun _ _ h => h.elim, fun _ _ h => h.elim, fun _ _ h => h.elim⟩, fun s e a b => (h s e a b).trans ⟨.inl, fun z => z.elim id fun ⟨_, _, _, f, _⟩ => f.elim⟩⟩
def Au.pos (k : Nat) : Au := ⟨fun _ q => q = k, fun _ q => q = k, fun _ _ => False, fun _ _ => False, k, k + 1⟩
theorem Tk.pos {k n : Nat} {X : Rl} {R : Rl} (h : ∀ s e, s ≤ e → e ≤ n → (R s e ↔ e = s + 1 ∧ X k s)) : Tk (Au.pos k) X n R := by
  refine ⟨⟨by simp only [Au.pos]; omega, fun _ q h => ?_, fun _ q h => ?_, fun _ _ h => h.elim⟩, fun s e a b => (h s e a b).trans ⟨fun ⟨h1, h2⟩ => ?_, fun z => ?_⟩⟩
  · have h : q = k := h
    simp only [Au.pos]; omega
  · have h : q = k := h
    simp only [Au.pos]; omega
  · subst h1
    exact .inr ⟨by omega, k, k, rfl, .one h2, rfl⟩
  · rcases z with ⟨_, z⟩ | ⟨h0, q, r, h1, h2, h3⟩
    · exact z.elim
    · have h1 : q = k := h1
      have h3 : r = k := h3
      subst h1
      generalize hj : e - 1 = j at h2
      cases h2 with
      | one x => exact ⟨by omega, x⟩
      | step _ f _ => exact f.elim
/-- what only looks at what the fields say may be exchanged -/
theorem Tk.of_eq {A B : Au} {X : Rl} {n : Nat} {R : Rl} (a : Tk A X n R) (h : A = B) : Tk B X n R := h ▸ a
theorem Tk.imp {A : Au} {X : Rl} {n : Nat} {R S : Rl} (a : Tk A X n R) (h : ∀ s e, s ≤ e → e ≤ n → (S s e ↔ R s e)) : Tk A X n S := ⟨a.ok, fun s e x y => (h s e x y).trans (a.iff s e x y)⟩
/-- the signs of the positions that stand in it are all that counts -/
theorem Run.congrX {X Y F : Rl} {lo hi : Nat} (hF : ∀ q r, F q r → lo ≤ r ∧ r < hi) (h : ∀ q i, lo ≤ q → q < hi → (X q i → Y q i)) {q i r j : Nat} (hq : lo ≤ q ∧ q < hi) (z : Run X F q i r j) : Run Y F q i r j := by
  induction z with
  | one x => exact .one (h _ _ hq.1 hq.2 x)
  | step _ f x ih => exact .step ih f (h _ _ (hF _ _ f).1 (hF _ _ f).2 x)
theorem Tk.congrX {A : Au} {X Y : Rl} {n : Nat} {R : Rl} (a : Tk A X n R) (h : ∀ q i, A.lo ≤ q → q < A.hi → (X q i ↔ Y q i)) : Tk A Y n R := by
  refine ⟨a.ok, fun s e x y => (a.iff s e x y).trans ⟨fun z => ?_, fun z => ?_⟩⟩
  · rcases z with z | ⟨h0, q, r, h1, h2, h3⟩
    · exact .inl z
    · exact .inr ⟨h0, q, r, h1, h2.congrX (fun _ _ f => (a.ok.F _ _ f).2) (fun q i l1 l2 => (h q i l1 l2).mp) (a.ok.fi _ _ h1), h3⟩
  · rcases z with z | ⟨h0, q, r, h1, h2, h3⟩
    · exact .inl z
    · exact .inr ⟨h0, q, r, h1, h2.congrX (fun _ _ f => (a.ok.F _ _ f).2) (fun q i l1 l2 => (h q i l1 l2).mpr) (a.ok.fi _ _ h1), h3⟩
end Pd

namespace Pd
/-! ### patterns and what they take -/
inductive Pat where
  | any
  | sign (c : Nat)
  | cls (cs : List Nat)
  | bg
  | en
  | row (ps : List Pat)
  | alt (ps : List Pat)
  | rep (p : Pat) (l : Nat) (m : Option Nat)
def powR (R : Rl) : Nat → Rl
  | 0 => fun s e => s = e
  | k + 1 => seqR (powR R k) R
def repR (R : Rl) (l : Nat) (m : Option Nat) : Rl := fun s e => ∃ k, l ≤ k ∧ (∀ x, m = some x → k ≤ x) ∧ powR R k s e
mutual
def M (t : List Nat) : Pat → Rl
  | .any => fun s e => s < t.length ∧ e = s + 1
  | .sign c => fun s e => t[s]? = some c ∧ e = s + 1
  | .cls cs => fun s e => (∃ c, t[s]? = some c ∧ c ∈ cs) ∧ e = s + 1
  | .bg => fun s e => s = 0 ∧ s = e
  | .en => fun s e => s = t.length ∧ s = e
  | .row ps => MRow t ps
  | .alt ps => MAlt t ps
  | .rep p l m => repR (M t p) l m
def MRow (t : List Nat) : List Pat → Rl
  | [] => fun s e => s = e
  | p :: ps => seqR (M t p) (MRow t ps)
def MAlt (t : List Nat) : List Pat → Rl
  | [] => fun _ _ => False
  | p :: ps => orR (M t p) (MAlt t ps)
end
theorem Fw.eq {n : Nat} : Fw n (fun s e => s = e) := ⟨fun s e h => Nat.le_of_eq h, fun s e hs h => h ▸ hs⟩
theorem Fw.pow {n : Nat} {R : Rl} (f : Fw n R) : ∀ k, Fw n (powR R k)
  | 0 => Fw.eq
  | k + 1 => (Fw.pow f k).seq f
theorem Fw.rep {n : Nat} {R : Rl} (f : Fw n R) (l : Nat) (m : Option Nat) : Fw n (repR R l m) := ⟨fun s e ⟨k, _, _, h⟩ => (f.pow k).le _ _ h, fun s e hs ⟨k, _, _, h⟩ => (f.pow k).in_ _ _ hs h⟩
mutual
theorem fw_M (t : List Nat) : ∀ p : Pat, Fw t.length (M t p)
  | .any => ⟨fun s e h => by rw [M] at h; omega, fun s e _ h => by rw [M] at h; omega⟩
  | .sign c => ⟨fun s e h => by rw [M] at h; omega, fun s e _ h => by
      rw [M] at h
      obtain ⟨h1, h2⟩ := h
      have := (List.getElem?_eq_some_iff.mp h1).1
      omega⟩
  | .cls cs => ⟨fun s e h => by rw [M] at h; omega, fun s e _ h => by
      rw [M] at h
      obtain ⟨⟨c, h1, _⟩, h2⟩ := h
      have := (List.getElem?_eq_some_iff.mp h1).1
      omega⟩
  | .bg => ⟨fun s e h => by rw [M] at h; omega, fun s e _ h => by rw [M] at h; omega⟩
  | .en => ⟨fun s e h => by rw [M] at h; omega, fun s e _ h => by rw [M] at h; omega⟩
  | .row ps => by rw [M]; exact fw_MRow t ps
  | .alt ps => by rw [M]; exact fw_MAlt t ps
  | .rep p l m => by rw [M]; exact (fw_M t p).rep l m
theorem fw_MRow (t : List Nat) : ∀ ps : List Pat, Fw t.length (MRow t ps)
  | [] => by rw [MRow]; exact Fw.eq
  | p :: ps => by rw [MRow]; exact (fw_M t p).seq (fw_MRow t ps)
theorem fw_MAlt (t : List Nat) : ∀ ps : List Pat, Fw t.length (MAlt t ps)
  | [] => by rw [MAlt]; exact ⟨fun _ _ h => h.elim, fun _ _ _ h => h.elim⟩
  | p :: ps => by rw [MAlt]; exact (fw_M t p).or (fw_MAlt t ps)
end
/-! ### the program's automaton -/
structure Edg where
  nu : Nat
  fi : Nat
  bg : Nat
  la : List Nat
  en : List Nat
structure Aut where
  se : List (List Nat)
  fo : List Nat
def leadL (fo : List Nat) (ps : List Nat) (m : Nat) : List Nat := ps.foldl (fun fo p => fo.set p (fo.getD p 0 ||| m)) fo
def rowE (a b : Edg) : Edg := ⟨a.nu &&& b.nu, if a.nu &&& 1 ≠ 0 then a.fi ||| b.fi else a.fi, if a.nu &&& 2 ≠ 0 then a.bg ||| b.bg else a.bg, if b.nu &&& 1 ≠ 0 then a.la ++ b.la else b.la, if b.nu &&& 4 ≠ 0 then a.en ++ b.en else b.en⟩
def eE : Edg := ⟨15, 0, 0, [], []⟩
def eN : Edg := ⟨0, 0, 0, [], []⟩
def unitE (a b : Edg) : Edg := ⟨a.nu ||| b.nu, a.fi ||| b.fi, a.bg ||| b.bg, a.la ++ b.la, a.en ++ b.en⟩
def posA (a : Aut) (cs : List Nat) : Aut × Edg := (⟨a.se ++ [cs], a.fo ++ [0]⟩, ⟨0, 1 <<< a.se.length, 1 <<< a.se.length, [a.se.length], [a.se.length]⟩)
/-- one copy of what is repeated -/
def copyA (f : Aut → Aut × Edg) (star : Bool) (l k : Nat) (a : Aut) (w : Edg) : Aut × Edg :=
  let r := f a
  let fo := if star then leadL r.1.fo r.2.la r.2.fi else r.1.fo
  let e : Edg := if l ≤ k then { r.2 with nu := 15 } else r.2
  (⟨r.1.se, leadL fo w.la e.fi⟩, rowE w e)
def repA (f : Aut → Aut × Edg) (star : Bool) (l : Nat) : Nat → Nat → Aut → Edg → Aut × Edg
  | 0, _, a, w => (a, w)
  | c + 1, k, a, w => let r := copyA f (star && c == 0) l k a w; repA f star l c (k + 1) r.1 r.2
def copiesOf (l : Nat) (m : Option Nat) : Nat := match m with
  | some x => x
  | none => max 1 l
def allSigns : List Nat := [9, 10, 32, 33, 34, 35, 36] ++ (List.range 89).map (· + 38)
mutual
def built : Pat → Aut → Aut × Edg
  | .any, a => posA a allSigns
  | .sign c, a => posA a [c]
  | .cls cs, a => posA a cs
  | .bg, a => (a, ⟨10, 0, 0, [], []⟩)
  | .en, a => (a, ⟨12, 0, 0, [], []⟩)
  | .row ps, a => builtRow ps a eE
  | .alt ps, a => let r := builtAll ps a; (r.1, r.2.foldl unitE eN)
  | .rep p l m, a => repA (built p) m.isNone l (copiesOf l m) 0 a eE
def builtRow : List Pat → Aut → Edg → Aut × Edg
  | [], a, w => (a, w)
  | p :: ps, a, w => let r := built p a; builtRow ps ⟨r.1.se, leadL r.1.fo w.la r.2.fi⟩ (rowE w r.2)
def builtAll : List Pat → Aut → Aut × List Edg
  | [], a => (a, [])
  | p :: ps, a => let r := built p a; let q := builtAll ps r.1; (q.1, r.2 :: q.2)
end
/-! ### what they say -/
def sayX (se : List (List Nat)) (t : List Nat) : Rl := fun q i => ∃ c, t[i]? = some c ∧ c ∈ se.getD q []
def auOf (fo : List Nat) (lo hi : Nat) (e : Edg) : Au :=
  ⟨fun b q => (if b then e.bg else e.fi).testBit q = true, fun c q => q ∈ (if c then e.en else e.la), fun b c => e.nu.testBit (b.toNat + 2 * c.toNat) = true, fun q r => (lo ≤ q ∧ q < hi) ∧ (fo.getD q 0).testBit r = true, lo, hi⟩
theorem sayX_lt {se : List (List Nat)} {t : List Nat} : ∀ q i, sayX se t q i → i < t.length := fun q i ⟨c, h, _⟩ => (List.getElem?_eq_some_iff.mp h).1
theorem leadL_length (ps : List Nat) (m : Nat) : ∀ fo : List Nat, (leadL fo ps m).length = fo.length := by
  unfold leadL
  induction ps with
  | nil => intro fo; rfl
  | cons p ps ih => intro fo; rw [List.foldl_cons, ih, List.length_set]
theorem leadL_bit (ps : List Nat) (m : Nat) : ∀ (fo : List Nat), (∀ p ∈ ps, p < fo.length) → ∀ q r, (((leadL fo ps m).getD q 0).testBit r = true ↔ (fo.getD q 0).testBit r = true ∨ (q ∈ ps ∧ m.testBit r = true)) := by
  unfold leadL
  induction ps with
  | nil => intro fo _ q r; simp
  | cons p ps ih =>
    intro fo h q r
    rw [List.foldl_cons, ih _ (fun x hx => by rw [List.length_set]; exact h x (.tail _ hx))]
    have hp : p < fo.length := h p (.head _)
    by_cases e : p = q
    · subst e
      rw [List.getD_eq_getElem?_getD, List.getElem?_set_self hp, Option.getD_some, Nat.testBit_or, Bool.or_eq_true]
      simp only [List.mem_cons, true_or, true_and]
      constructor
      · rintro ((h | h) | ⟨_, h⟩)
        · exact .inl h
        · exact .inr h
        · exact .inr h
      · rintro (h | h)
        · exact .inl (.inl h)
        · exact .inl (.inr h)
    · rw [List.getD_eq_getElem?_getD, List.getElem?_set_ne e, ← List.getD_eq_getElem?_getD]
      simp only [List.mem_cons]
      constructor
      · rintro (h | ⟨h, g⟩)
        · exact .inl h
        · exact .inr ⟨.inr h, g⟩
      · rintro (h | ⟨h | h, g⟩)
        · exact .inl h
        · exact absurd h.symm e
        · exact .inr ⟨h, g⟩
theorem and1 (n : Nat) : (n &&& 1 ≠ 0) ↔ n.testBit 0 = true := by
  rw [Nat.and_one_is_mod, Nat.testBit_zero]
  simp
theorem and_pow (n k : Nat) : (n &&& 2 ^ k ≠ 0) ↔ n.testBit k = true := by
  constructor
  · intro h
    cases e : n.testBit k with
    | true => rfl
    | false =>
      exfalso
      apply h
      apply Nat.eq_of_testBit_eq
      intro i
      rw [Nat.testBit_and, Nat.zero_testBit, Nat.testBit_two_pow]
      by_cases q : k = i
      · subst q; rw [e]; rfl
      · rw [decide_eq_false q, Bool.and_false]
  · intro h e
    have : (n &&& 2 ^ k).testBit k = true := by rw [Nat.testBit_and, h, Nat.testBit_two_pow]; simp
    rw [e, Nat.zero_testBit] at this
    cases this
theorem and2 (n : Nat) : (n &&& 2 ≠ 0) ↔ n.testBit 1 = true := and_pow n 1
theorem and4 (n : Nat) : (n &&& 4 ≠ 0) ↔ n.testBit 2 = true := and_pow n 2
theorem Au.eq {A B : Au} (h1 : ∀ b q, A.fi b q ↔ B.fi b q) (h2 : ∀ b q, A.la b q ↔ B.la b q) (h3 : ∀ b c, A.nu b c ↔ B.nu b c) (h4 : ∀ q r, A.F q r ↔ B.F q r) (h5 : A.lo = B.lo) (h6 : A.hi = B.hi) : A = B := by
  cases A; cases B
  simp only at h1 h2 h3 h4 h5 h6
  subst h5 h6
  congr
  · funext b q; exact propext (h1 b q)
  · funext b q; exact propext (h2 b q)
  · funext b q; exact propext (h3 b q)
  · funext b q; exact propext (h4 b q)
theorem testIf {c : Prop} [Decidable c] {a b q : Nat} : ((if c then a ||| b else a).testBit q = true) ↔ a.testBit q = true ∨ (c ∧ b.testBit q = true) := by
  by_cases h : c
  · rw [if_pos h, Nat.testBit_or, Bool.or_eq_true]; simp [h]
  · rw [if_neg h]; simp [h]
theorem memIf {c : Prop} [Decidable c] {a b : List Nat} {q : Nat} : (q ∈ (if c then a ++ b else b)) ↔ q ∈ b ∨ (c ∧ q ∈ a) := by
  by_cases h : c
  · rw [if_pos h, List.mem_append]; simp [h, Or.comm]
  · rw [if_neg h]; simp [h]
/-- a row's edges are the row of the automata -/
theorem auOf_row {fo : List Nat} {lo mid hi : Nat} {w e : Edg} (hw : (auOf fo lo mid w).Ok) (he : (auOf fo mid hi e).Ok) (hf : fo.length = hi) : auOf (leadL fo w.la e.fi) lo hi (rowE w e) = (auOf fo lo mid w).seq (auOf fo mid hi e) := by
  have l1 : lo ≤ mid := hw.le
  have l2 : mid ≤ hi := he.le
  have la : ∀ q ∈ w.la, lo ≤ q ∧ q < mid := fun q h => hw.la false q h
  refine Au.eq (fun b q => ?_) (fun c q => ?_) (fun b c => ?_) (fun q r => ?_) rfl rfl
  · cases b
    · show ((if w.nu &&& 1 ≠ 0 then w.fi ||| e.fi else w.fi).testBit q = true) ↔ _
      rw [testIf, and1]
      exact Iff.rfl
    · show ((if w.nu &&& 2 ≠ 0 then w.bg ||| e.bg else w.bg).testBit q = true) ↔ _
      rw [testIf, and2]
      exact Iff.rfl
  · cases c
    · show (q ∈ (if e.nu &&& 1 ≠ 0 then w.la ++ e.la else e.la)) ↔ _
      rw [memIf, and1]
      exact Iff.rfl
    · show (q ∈ (if e.nu &&& 4 ≠ 0 then w.en ++ e.en else e.en)) ↔ _
      rw [memIf, and4]
      exact Iff.rfl
  · show ((w.nu &&& e.nu).testBit _ = true) ↔ _
    rw [Nat.testBit_and, Bool.and_eq_true]
    exact Iff.rfl
  · show ((lo ≤ q ∧ q < hi) ∧ ((leadL fo w.la e.fi).getD q 0).testBit r = true) ↔ ((lo ≤ q ∧ q < mid) ∧ (fo.getD q 0).testBit r = true) ∨ ((mid ≤ q ∧ q < hi) ∧ (fo.getD q 0).testBit r = true) ∨ (q ∈ w.la ∧ e.fi.testBit r = true)
    rw [leadL_bit _ _ _ (fun p hp => by have := la p hp; omega)]
    constructor
    · rintro ⟨⟨h1, h2⟩, h | h⟩
      · by_cases z : q < mid
        · exact .inl ⟨⟨h1, z⟩, h⟩
        · exact .inr (.inl ⟨⟨by omega, h2⟩, h⟩)
      · exact .inr (.inr h)
    · rintro (⟨⟨h1, h2⟩, h⟩ | ⟨⟨h1, h2⟩, h⟩ | ⟨h, g⟩)
      · exact ⟨⟨h1, by omega⟩, .inl h⟩
      · exact ⟨⟨by omega, h2⟩, .inl h⟩
      · have := la q h
        exact ⟨⟨by omega, by omega⟩, .inr ⟨h, g⟩⟩
theorem auOf_plus {fo : List Nat} {lo hi : Nat} {e : Edg} (he : (auOf fo lo hi e).Ok) (hf : fo.length = hi) : auOf (leadL fo e.la e.fi) lo hi e = (auOf fo lo hi e).plus := by
  refine Au.eq (fun _ _ => Iff.rfl) (fun _ _ => Iff.rfl) (fun _ _ => Iff.rfl) (fun q r => ?_) rfl rfl
  have la : ∀ q ∈ e.la, lo ≤ q ∧ q < hi := fun q h => he.la false q h
  show ((lo ≤ q ∧ q < hi) ∧ ((leadL fo e.la e.fi).getD q 0).testBit r = true) ↔ ((lo ≤ q ∧ q < hi) ∧ (fo.getD q 0).testBit r = true) ∨ (q ∈ e.la ∧ e.fi.testBit r = true)
  rw [leadL_bit _ _ _ (fun p hp => by have := la p hp; omega)]
  constructor
  · rintro ⟨h1, h | h⟩
    · exact .inl ⟨h1, h⟩
    · exact .inr h
  · rintro (⟨h1, h⟩ | h)
    · exact ⟨h1, .inl h⟩
    · exact ⟨la q h.1, .inr h⟩
theorem auOf_opt {fo : List Nat} {lo hi : Nat} {e : Edg} : auOf fo lo hi { e with nu := 15 } = (auOf fo lo hi e).opt := by
  refine Au.eq (fun _ _ => Iff.rfl) (fun _ _ => Iff.rfl) (fun b c => ?_) (fun _ _ => Iff.rfl) rfl rfl
  cases b <;> cases c <;> simp [auOf, Au.opt] <;> decide
theorem auOf_unit {fo : List Nat} {lo mid hi : Nat} {w e : Edg} (l1 : lo ≤ mid) (l2 : mid ≤ hi) : auOf fo lo hi (unitE w e) = (auOf fo lo mid w).or (auOf fo mid hi e) := by
  refine Au.eq (fun b q => ?_) (fun c q => ?_) (fun b c => ?_) (fun q r => ?_) rfl rfl
  · cases b
    · show ((w.fi ||| e.fi).testBit q = true) ↔ _
      rw [Nat.testBit_or, Bool.or_eq_true]
      exact Iff.rfl
    · show ((w.bg ||| e.bg).testBit q = true) ↔ _
      rw [Nat.testBit_or, Bool.or_eq_true]
      exact Iff.rfl
  · cases c
    · show (q ∈ w.la ++ e.la) ↔ _
      rw [List.mem_append]
      exact Iff.rfl
    · show (q ∈ w.en ++ e.en) ↔ _
      rw [List.mem_append]
      exact Iff.rfl
  · show ((w.nu ||| e.nu).testBit _ = true) ↔ _
    rw [Nat.testBit_or, Bool.or_eq_true]
    exact Iff.rfl
  · show ((lo ≤ q ∧ q < hi) ∧ (fo.getD q 0).testBit r = true) ↔ ((lo ≤ q ∧ q < mid) ∧ (fo.getD q 0).testBit r = true) ∨ ((mid ≤ q ∧ q < hi) ∧ (fo.getD q 0).testBit r = true)
    constructor
    · rintro ⟨⟨h1, h2⟩, h⟩
      by_cases z : q < mid
      · exact .inl ⟨⟨h1, z⟩, h⟩
      · exact .inr ⟨⟨by omega, h2⟩, h⟩
    · rintro (⟨⟨h1, h2⟩, h⟩ | ⟨⟨h1, h2⟩, h⟩)
      · exact ⟨⟨h1, by omega⟩, h⟩
      · exact ⟨⟨by omega, h2⟩, h⟩
theorem auOf_congr {fo fo' : List Nat} {lo hi : Nat} {e : Edg} (h : ∀ q, lo ≤ q → q < hi → fo'.getD q 0 = fo.getD q 0) : auOf fo' lo hi e = auOf fo lo hi e := by
  refine Au.eq (fun _ _ => Iff.rfl) (fun _ _ => Iff.rfl) (fun _ _ => Iff.rfl) (fun q r => ?_) rfl rfl
  show ((lo ≤ q ∧ q < hi) ∧ (fo'.getD q 0).testBit r = true) ↔ ((lo ≤ q ∧ q < hi) ∧ (fo.getD q 0).testBit r = true)
  constructor
  · rintro ⟨h1, h2⟩; exact ⟨h1, by rw [← h q h1.1 h1.2]; exact h2⟩
  · rintro ⟨h1, h2⟩; exact ⟨h1, by rw [h q h1.1 h1.2]; exact h2⟩
end Pd

namespace Pd
/-! ### the automaton that is built takes what the pattern takes -/
/-- a piece of the building: what stood stays, the new positions stand behind it -/
structure Gr (a a' : Aut) : Prop where
  e0 : a.se.length = a.fo.length
  e1 : a'.se.length = a'.fo.length
  le : a.fo.length ≤ a'.fo.length
  se : ∀ q, q < a.fo.length → a'.se.getD q [] = a.se.getD q []
  fo : ∀ q, q < a.fo.length → a'.fo.getD q 0 = a.fo.getD q 0
theorem Gr.refl {a : Aut} (h : a.se.length = a.fo.length) : Gr a a := ⟨h, h, Nat.le_refl _, fun _ _ => rfl, fun _ _ => rfl⟩
theorem Gr.trans {a b c : Aut} (x : Gr a b) (y : Gr b c) : Gr a c :=
  ⟨x.e0, y.e1, Nat.le_trans x.le y.le, fun q h => (y.se q (Nat.lt_of_lt_of_le h x.le)).trans (x.se q h), fun q h => (y.fo q (Nat.lt_of_lt_of_le h x.le)).trans (x.fo q h)⟩
/-- .. and the edges say what R says -/
structure Bt (t : List Nat) (a a' : Aut) (e : Edg) (R : Rl) : Prop where
  gr : Gr a a'
  tk : Tk (auOf a'.fo a.fo.length a'.fo.length e) (sayX a'.se t) t.length R
/-- the same with what stood before -/
structure Bw (t : List Nat) (lo : Nat) (a : Aut) (w : Edg) (R : Rl) : Prop where
  eq : a.se.length = a.fo.length
  tk : Tk (auOf a.fo lo a.fo.length w) (sayX a.se t) t.length R
theorem Bw.grow {t : List Nat} {lo : Nat} {a a' : Aut} {w : Edg} {R : Rl} (b : Bw t lo a w R) (g : Gr a a') : Tk (auOf a'.fo lo a.fo.length w) (sayX a'.se t) t.length R := by
  rw [auOf_congr (fun q _ h2 => g.fo q h2)]
  refine b.tk.congrX fun q i _ h2 => ?_
  have h2 : q < a.fo.length := h2
  unfold sayX
  rw [g.se q h2]
theorem ledG {a b : Aut} (g : Gr a b) (ps : List Nat) (m : Nat) (h : ∀ p ∈ ps, a.fo.length ≤ p ∧ p < b.fo.length) : Gr a ⟨b.se, leadL b.fo ps m⟩ := by
  refine ⟨g.e0, by rw [leadL_length]; exact g.e1, by rw [leadL_length]; exact g.le, g.se, fun q hq => ?_⟩
  show (leadL b.fo ps m).getD q 0 = _
  rw [← g.fo q hq]
  apply Nat.eq_of_testBit_eq
  intro i
  have := leadL_bit ps m b.fo (fun p hp => (h p hp).2) q i
  have nq : q ∉ ps := fun z => by have := (h q z).1; omega
  cases e : (b.fo.getD q 0).testBit i with
  | true => exact this.mpr (.inl e)
  | false =>
    cases e2 : ((leadL b.fo ps m).getD q 0).testBit i with
    | false => rfl
    | true =>
      rcases this.mp e2 with h | h
      · rw [e] at h; cases h
      · exact absurd h.1 nq
/-- one more part in a row -/
theorem Bw.row {t : List Nat} {lo : Nat} {a a' : Aut} {w e : Edg} {R S : Rl} (b : Bw t lo a w R) (c : Bt t a a' e S) (fr : Fw t.length R) (fs : Fw t.length S) : Bw t lo ⟨a'.se, leadL a'.fo w.la e.fi⟩ (rowE w e) (seqR R S) := by
  refine ⟨by rw [leadL_length]; exact c.gr.e1, ?_⟩
  have k1 := b.grow c.gr
  have k2 := k1.seq c.tk fr fs sayX_lt rfl
  rw [← auOf_row k1.ok c.tk.ok rfl] at k2
  show Tk (auOf (leadL a'.fo w.la e.fi) lo (leadL a'.fo w.la e.fi).length (rowE w e)) _ _ _
  rw [leadL_length]
  exact k2
/-- the row's own growth: what stood before lo stays -/
theorem Bw.la {t : List Nat} {lo : Nat} {a : Aut} {w : Edg} {R : Rl} (b : Bw t lo a w R) : ∀ p ∈ w.la, lo ≤ p ∧ p < a.fo.length := fun p h => b.tk.ok.la false p h
theorem Bt.bw {t : List Nat} {a a' : Aut} {e : Edg} {R : Rl} (b : Bt t a a' e R) : Bw t a.fo.length a' e R := ⟨b.gr.e1, b.tk⟩
theorem Bw.bt {t : List Nat} {a a' : Aut} {e : Edg} {R : Rl} (b : Bw t a.fo.length a' e R) (g : Gr a a') : Bt t a a' e R := ⟨g, b.tk⟩
theorem Bw.imp {t : List Nat} {lo : Nat} {a : Aut} {w : Edg} {R S : Rl} (b : Bw t lo a w R) (h : ∀ s e, s ≤ e → e ≤ t.length → (S s e ↔ R s e)) : Bw t lo a w S := ⟨b.eq, b.tk.imp h⟩
theorem pos_bt {t : List Nat} {a : Aut} {cs : List Nat} {R : Rl} (h : a.se.length = a.fo.length) (hR : ∀ s e, R s e ↔ (∃ c, t[s]? = some c ∧ c ∈ cs) ∧ e = s + 1) : Bt t a (posA a cs).1 (posA a cs).2 R := by
  have gr : Gr a (posA a cs).1 := by
    refine ⟨h, by simp [posA, h], by simp [posA], fun q hq => ?_, fun q hq => ?_⟩
    · show (a.se ++ [cs]).getD q [] = _
      rw [List.getD_eq_getElem?_getD, List.getElem?_append_left (by omega), ← List.getD_eq_getElem?_getD]
    · show (a.fo ++ [0]).getD q 0 = _
      rw [List.getD_eq_getElem?_getD, List.getElem?_append_left hq, ← List.getD_eq_getElem?_getD]
  refine ⟨gr, ?_⟩
  have k : Tk (Au.pos a.fo.length) (sayX (a.se ++ [cs]) t) t.length R := by
    refine Tk.pos fun s e _ _ => ?_
    rw [hR]
    unfold sayX
    rw [List.getD_eq_getElem?_getD, ← h, List.getElem?_append_right (Nat.le_refl _), Nat.sub_self]
    simp only [List.getElem?_cons_zero, Option.getD_some]
    exact And.comm
  refine k.of_eq (Au.eq (fun b q => ?_) (fun c q => ?_) (fun b c => ?_) (fun q r => ?_) rfl (by simp [Au.pos, auOf, posA]))
  · have e : (if b then (1 <<< a.se.length) else (1 <<< a.se.length)) = 2 ^ a.fo.length := by rw [h]; cases b <;> simp [Nat.one_shiftLeft]
    show q = a.fo.length ↔ ((if b then (1 <<< a.se.length) else (1 <<< a.se.length)).testBit q = true)
    rw [e, Nat.testBit_two_pow, decide_eq_true_iff]
    exact eq_comm
  · show q = a.fo.length ↔ q ∈ (if c then [a.se.length] else [a.se.length])
    rw [h]; cases c <;> simp
  · show False ↔ ((0 : Nat).testBit _ = true)
    rw [Nat.zero_testBit]; simp
  · show False ↔ ((a.fo.length ≤ q ∧ q < (a.fo ++ [0]).length) ∧ ((a.fo ++ [0]).getD q 0).testBit r = true)
    refine ⟨False.elim, fun ⟨⟨h1, h2⟩, h3⟩ => ?_⟩
    rw [List.length_append] at h2
    simp only [List.length_singleton] at h2
    have : q = a.fo.length := by omega
    subst this
    rw [List.getD_eq_getElem?_getD, List.getElem?_append_right (Nat.le_refl _), Nat.sub_self] at h3
    simp at h3
theorem nil_bw {t : List Nat} {a : Aut} (h : a.se.length = a.fo.length) {nu : Nat} {R : Rl} (hR : ∀ s e, s ≤ e → e ≤ t.length → (R s e ↔ s = e ∧ nu.testBit ((decide (s = 0)).toNat + 2 * (decide (s = t.length)).toNat) = true)) : Bw t a.fo.length a ⟨nu, 0, 0, [], []⟩ R := by
  refine ⟨h, ?_⟩
  refine (Tk.nil (k := a.fo.length) (nu := fun b c => nu.testBit (b.toNat + 2 * c.toNat) = true) hR).of_eq (Au.eq (fun b q => ?_) (fun c q => ?_) (fun b c => Iff.rfl) (fun q r => ?_) rfl rfl)
  · show False ↔ ((if b then (0 : Nat) else 0).testBit q = true)
    cases b <;> simp
  · show False ↔ q ∈ (if c then ([] : List Nat) else [])
    cases c <;> simp
  · show False ↔ ((a.fo.length ≤ q ∧ q < a.fo.length) ∧ _)
    refine ⟨False.elim, fun ⟨⟨h1, h2⟩, _⟩ => by omega⟩
theorem eE_bw {t : List Nat} {a : Aut} (h : a.se.length = a.fo.length) : Bw t a.fo.length a eE (fun s e => s = e) :=
  nil_bw h fun s e _ _ => ⟨fun h => ⟨h, by cases decide (s = 0) <;> cases decide (s = t.length) <;> decide⟩, fun h => h.1⟩
/-- one or more unions -/
theorem Bw.unit {t : List Nat} {lo : Nat} {a a' : Aut} {w e : Edg} {R S : Rl} (b : Bw t lo a w R) (c : Bt t a a' e S) : Bw t lo a' (unitE w e) (orR R S) := by
  refine ⟨c.gr.e1, ?_⟩
  have k1 := b.grow c.gr
  have k2 := k1.or c.tk rfl
  exact k2.of_eq (auOf_unit (show lo ≤ a.fo.length from k1.ok.le) (show a.fo.length ≤ a'.fo.length from c.tk.ok.le)).symm
/-! ### copies -/
/-- what copy number k of so many takes -/
def partR (R : Rl) (star : Bool) (l k : Nat) : Rl := if l ≤ k then optR (if star then PlusR R else R) else (if star then PlusR R else R)
theorem Fw.part {n : Nat} {R : Rl} (f : Fw n R) (star : Bool) (l k : Nat) : Fw n (partR R star l k) := by
  unfold partR
  split <;> cases star
  · exact f.opt
  · exact f.plus.opt
  · exact f
  · exact f.plus
theorem copy_bw {t : List Nat} {f : Aut → Aut × Edg} {R : Rl} (hf : ∀ a, a.se.length = a.fo.length → Bt t a (f a).1 (f a).2 R) (fr : Fw t.length R) {star : Bool} {l k lo : Nat} {a : Aut} {w : Edg} {W : Rl} (b : Bw t lo a w W) (fw : Fw t.length W) :
    Bw t lo (copyA f star l k a w).1 (copyA f star l k a w).2 (seqR W (partR R star l k)) ∧ (∀ z : Aut, Gr z a → z.fo.length ≤ lo → Gr z (copyA f star l k a w).1) := by
  have c := hf a b.eq
  have la : ∀ p ∈ (f a).2.la, a.fo.length ≤ p ∧ p < (f a).1.fo.length := fun p h => c.tk.ok.la false p h
  obtain ⟨a1, ha1⟩ : ∃ a1 : Aut, a1 = ⟨(f a).1.se, if star then leadL (f a).1.fo (f a).2.la (f a).2.fi else (f a).1.fo⟩ := ⟨_, rfl⟩
  have c1 : Bt t a a1 (f a).2 (if star then PlusR R else R) := by
    subst ha1
    cases star with
    | false => exact c
    | true =>
      refine ⟨ledG c.gr _ _ la, ?_⟩
      show Tk (auOf (leadL (f a).1.fo (f a).2.la (f a).2.fi) a.fo.length (leadL (f a).1.fo (f a).2.la (f a).2.fi).length (f a).2) _ _ _
      rw [leadL_length, auOf_plus c.tk.ok rfl]
      exact c.tk.plus fr sayX_lt
  obtain ⟨e1, he1⟩ : ∃ e1 : Edg, e1 = if l ≤ k then { (f a).2 with nu := 15 } else (f a).2 := ⟨_, rfl⟩
  have c2 : Bt t a a1 e1 (partR R star l k) := by
    subst he1
    unfold partR
    by_cases h : l ≤ k
    · rw [if_pos h, if_pos h]
      exact ⟨c1.gr, c1.tk.opt.of_eq auOf_opt.symm⟩
    · rw [if_neg h, if_neg h]
      exact c1
  have c3 := b.row c2 fw (fr.part star l k)
  have e : copyA f star l k a w = (⟨a1.se, leadL a1.fo w.la e1.fi⟩, rowE w e1) := by
    subst ha1 he1
    rfl
  rw [e]
  refine ⟨c3, fun z g hz => ?_⟩
  refine ledG (g.trans c2.gr) _ _ fun p hp => ?_
  have h1 := b.la p hp
  have h2 := c2.gr.le
  exact ⟨by omega, by omega⟩
/-- what the copies from number k on take -/
def partsR (R : Rl) (star : Bool) (l : Nat) : Nat → Nat → Rl
  | 0, _ => fun s e => s = e
  | c + 1, k => seqR (partR R (star && c == 0) l k) (partsR R star l c (k + 1))
theorem rep_bw {t : List Nat} {f : Aut → Aut × Edg} {R : Rl} (hf : ∀ a, a.se.length = a.fo.length → Bt t a (f a).1 (f a).2 R) (fr : Fw t.length R) (star : Bool) (l : Nat) : ∀ (c k lo : Nat) (a : Aut) (w : Edg) (W : Rl), Bw t lo a w W → Fw t.length W →
    Bw t lo (repA f star l c k a w).1 (repA f star l c k a w).2 (seqR W (partsR R star l c k)) ∧ (∀ z : Aut, Gr z a → z.fo.length ≤ lo → Gr z (repA f star l c k a w).1)
  | 0, k, lo, a, w, W, b, fw => by
    refine ⟨b.imp fun s e _ _ => ?_, fun z g _ => g⟩
    unfold seqR partsR
    exact ⟨fun ⟨j, h1, h2⟩ => h2 ▸ h1, fun h => ⟨e, h, rfl⟩⟩
  | c + 1, k, lo, a, w, W, b, fw => by
    obtain ⟨h1, h2⟩ := copy_bw hf fr (star := star && c == 0) (l := l) (k := k) b fw
    obtain ⟨h3, h4⟩ := rep_bw hf fr star l c (k + 1) lo _ _ _ h1 (fw.seq (fr.part _ _ _))
    refine ⟨h3.imp fun s e _ _ => ?_, fun z g hz => h4 z (h2 z g hz) hz⟩
    rw [partsR]
    unfold seqR
    exact ⟨fun ⟨j, x, i, y, z⟩ => ⟨i, ⟨j, x, y⟩, z⟩, fun ⟨i, ⟨j, x, y⟩, z⟩ => ⟨j, x, i, y, z⟩⟩
/-! ### .. which is what the repetition says -/
theorem pow_add {R : Rl} : ∀ (b a : Nat) (s e : Nat), powR R (a + b) s e ↔ ∃ j, powR R a s j ∧ powR R b j e
  | 0, a, s, e => ⟨fun h => ⟨e, h, rfl⟩, fun ⟨j, h, g⟩ => by cases (show j = e from g); exact h⟩
  | b + 1, a, s, e => by
    show (seqR (powR R (a + b)) R s e) ↔ _
    constructor
    · rintro ⟨j, h, g⟩
      obtain ⟨i, h1, h2⟩ := (pow_add b a s j).mp h
      exact ⟨i, h1, j, h2, g⟩
    · rintro ⟨i, h1, j, h2, g⟩
      exact ⟨j, (pow_add b a s j).mpr ⟨i, h1, h2⟩, g⟩
theorem pow_one {R : Rl} {s e : Nat} : powR R 1 s e ↔ R s e := ⟨fun ⟨j, h, g⟩ => by cases (show s = j from h); exact g, fun h => ⟨s, rfl, h⟩⟩
theorem plus_pow {R : Rl} {s e : Nat} : PlusR R s e ↔ ∃ k, 1 ≤ k ∧ powR R k s e := by
  constructor
  · intro h
    induction h with
    | one h => exact ⟨1, Nat.le_refl _, pow_one.mpr h⟩
    | snoc _ g ih =>
      obtain ⟨k, h1, h2⟩ := ih
      exact ⟨k + 1, by omega, _, h2, g⟩
  · rintro ⟨k, h1, h2⟩
    induction k generalizing e with
    | zero => omega
    | succ k ih =>
      obtain ⟨j, h3, h4⟩ := h2
      by_cases z : k = 0
      · subst z
        cases (show s = j from h3)
        exact .one h4
      · exact .snoc (ih (by omega) h3) h4
/-- copies without a star: from number k on, c of them -/
theorem parts_some {R : Rl} {l : Nat} : ∀ (c k s e : Nat), partsR R false l c k s e ↔ ∃ j, l - k ≤ j + (l - (k + c)) ∧ j ≤ c ∧ powR R j s e
  | 0, k, s, e => ⟨fun h => ⟨0, by simp, Nat.le_refl _, h⟩, fun ⟨j, _, h1, h2⟩ => by
      have : j = 0 := by omega
      subst this; exact h2⟩
  | c + 1, k, s, e => by
    rw [partsR]
    unfold seqR
    constructor
    · rintro ⟨i, h1, h2⟩
      obtain ⟨j, g1, g2, g3⟩ := (parts_some c (k + 1) i e).mp h2
      have h1 : partR R false l k s i := h1
      unfold partR at h1
      by_cases z : l ≤ k
      · rw [if_pos z] at h1
        rcases h1 with h1 | h1
        · subst h1
          exact ⟨j, by omega, by omega, g3⟩
        · exact ⟨1 + j, by omega, by omega, (pow_add j 1 s e).mpr ⟨i, pow_one.mpr h1, g3⟩⟩
      · rw [if_neg z] at h1
        exact ⟨1 + j, by omega, by omega, (pow_add j 1 s e).mpr ⟨i, pow_one.mpr h1, g3⟩⟩
    · rintro ⟨j, g1, g2, g3⟩
      by_cases z0 : j = 0
      · subst z0
        have : l ≤ k := by omega
        refine ⟨s, ?_, (parts_some c (k + 1) s e).mpr ⟨0, by omega, by omega, g3⟩⟩
        show partR R false l k s s
        unfold partR
        rw [if_pos this]
        exact .inl rfl
      · by_cases z : j = c + 1 ∨ ¬ l ≤ k
        · obtain ⟨j', rfl⟩ : ∃ j', j = 1 + j' := ⟨j - 1, by omega⟩
          obtain ⟨i, h1, h2⟩ := (pow_add j' 1 s e).mp g3
          refine ⟨i, ?_, (parts_some c (k + 1) i e).mpr ⟨j', by omega, by omega, h2⟩⟩
          show partR R false l k s i
          unfold partR
          by_cases z : l ≤ k
          · rw [if_pos z]
            exact .inr (pow_one.mp h1)
          · rw [if_neg z]
            exact pow_one.mp h1
        · refine ⟨s, ?_, (parts_some c (k + 1) s e).mpr ⟨j, by omega, by omega, g3⟩⟩
          show partR R false l k s s
          unfold partR
          rw [if_pos (by omega)]
          exact .inl rfl
theorem parts_none {R : Rl} {l : Nat} : ∀ (c k s e : Nat), 1 ≤ c → k + c = max 1 l → (partsR R true l c k s e ↔ ∃ j, l - k ≤ j ∧ powR R j s e)
  | 0, _, _, _, h, _ => by omega
  | 1, k, s, e, _, hk => by
    rw [partsR]
    unfold seqR partsR
    have e1 : (true && (0 : Nat) == 0) = true := rfl
    rw [e1]
    constructor
    · rintro ⟨i, h1, h2⟩
      cases (show i = e from h2)
      unfold partR at h1
      by_cases z : l ≤ k
      · rw [if_pos z] at h1
        rcases h1 with h1 | h1
        · exact ⟨0, by omega, h1⟩
        · obtain ⟨j, g1, g2⟩ := plus_pow.mp h1
          exact ⟨j, by omega, g2⟩
      · rw [if_neg z] at h1
        obtain ⟨j, g1, g2⟩ := plus_pow.mp h1
        exact ⟨j, by omega, g2⟩
    · rintro ⟨j, h1, h2⟩
      refine ⟨e, ?_, rfl⟩
      unfold partR
      by_cases z : l ≤ k
      · rw [if_pos z]
        by_cases z0 : j = 0
        · subst z0; exact .inl h2
        · exact .inr (plus_pow.mpr ⟨j, by omega, h2⟩)
      · rw [if_neg z]
        exact plus_pow.mpr ⟨j, by omega, h2⟩
  | c + 2, k, s, e, _, hk => by
    rw [partsR]
    have e1 : (true && (c + 1 : Nat) == 0) = false := rfl
    rw [e1]
    unfold seqR
    have z : ¬ l ≤ k := by omega
    constructor
    · rintro ⟨i, h1, h2⟩
      obtain ⟨j, g1, g2⟩ := (parts_none (c + 1) (k + 1) i e (by omega) (by omega)).mp h2
      unfold partR at h1
      rw [if_neg z] at h1
      exact ⟨1 + j, by omega, (pow_add j 1 s e).mpr ⟨i, pow_one.mpr h1, g2⟩⟩
    · rintro ⟨j, h1, h2⟩
      obtain ⟨j', rfl⟩ : ∃ j', j = 1 + j' := ⟨j - 1, by omega⟩
      obtain ⟨i, h3, h4⟩ := (pow_add j' 1 s e).mp h2
      refine ⟨i, ?_, (parts_none (c + 1) (k + 1) i e (by omega) (by omega)).mpr ⟨j', by omega, h4⟩⟩
      unfold partR
      rw [if_neg z]
      exact pow_one.mp h3
theorem rep_is {R : Rl} {l : Nat} {m : Option Nat} (hm : ∀ x, m = some x → l ≤ x) (s e : Nat) : repR R l m s e ↔ partsR R m.isNone l (copiesOf l m) 0 s e := by
  cases m with
  | none =>
    rw [show (none : Option Nat).isNone = true from rfl, parts_none _ _ _ _ (by unfold copiesOf; simp only; omega) (by unfold copiesOf; simp)]
    unfold repR
    constructor
    · rintro ⟨k, h1, _, h2⟩; exact ⟨k, by omega, h2⟩
    · rintro ⟨k, h1, h2⟩; exact ⟨k, by omega, (fun _ h => by cases h), h2⟩
  | some x =>
    have := hm x rfl
    rw [show (some x).isNone = false from rfl, parts_some]
    unfold repR copiesOf
    simp only
    constructor
    · rintro ⟨k, h1, h3, h2⟩
      have := h3 x rfl
      exact ⟨k, by omega, by omega, h2⟩
    · rintro ⟨k, h1, h3, h2⟩
      exact ⟨k, by omega, (fun y h => by cases h; exact h3), h2⟩
/-! ### all patterns -/
mutual
/-- counts in order, signs in classes -/
def Pat.Wf : Pat → Prop
  | .row ps => WfL ps
  | .alt ps => WfL ps
  | .rep p l m => p.Wf ∧ ∀ x, m = some x → l ≤ x
  | _ => True
def WfL : List Pat → Prop
  | [] => True
  | p :: ps => p.Wf ∧ WfL ps
end
theorem or_assoc' {A B C : Rl} (s e : Nat) : orR (orR A B) C s e ↔ orR A (orR B C) s e := or_assoc
mutual
theorem built_ok (t : List Nat) (ht : ∀ c ∈ t, c ∈ allSigns) : ∀ (p : Pat), p.Wf → ∀ a : Aut, a.se.length = a.fo.length → Bt t a (built p a).1 (built p a).2 (M t p)
  | .any, _, a, h => by
    rw [built]
    refine pos_bt h fun s e => ?_
    rw [M]
    refine and_congr ⟨fun h => ?_, fun ⟨c, h, _⟩ => (List.getElem?_eq_some_iff.mp h).1⟩ Iff.rfl
    exact ⟨t[s], List.getElem?_eq_getElem h, ht _ (List.getElem_mem h)⟩
  | .sign c, _, a, h => by
    rw [built]
    refine pos_bt h fun s e => ?_
    rw [M]
    refine and_congr ⟨fun h => ⟨c, h, .head _⟩, fun ⟨d, h, g⟩ => ?_⟩ Iff.rfl
    cases List.mem_singleton.mp g
    exact h
  | .cls cs, _, a, h => by
    rw [built]
    exact pos_bt h fun s e => by rw [M]
  | .bg, _, a, h => by
    rw [built]
    refine (nil_bw h fun s e h1 h2 => ?_).bt (Gr.refl h)
    rw [M]
    constructor
    · rintro ⟨rfl, rfl⟩
      exact ⟨rfl, by cases decide (0 = t.length) <;> decide⟩
    · rintro ⟨rfl, g⟩
      refine ⟨?_, rfl⟩
      cases q : decide (s = 0) with
      | true => exact of_decide_eq_true q
      | false => rw [q] at g; cases q2 : decide (s = t.length) <;> rw [q2] at g <;> exact absurd g (by decide)
  | .en, _, a, h => by
    rw [built]
    refine (nil_bw h fun s e h1 h2 => ?_).bt (Gr.refl h)
    rw [M]
    constructor
    · rintro ⟨h3, rfl⟩
      exact ⟨rfl, by rw [decide_eq_true h3]; cases decide (s = 0) <;> decide⟩
    · rintro ⟨rfl, g⟩
      refine ⟨?_, rfl⟩
      cases q : decide (s = t.length) with
      | true => exact of_decide_eq_true q
      | false => rw [q] at g; cases q2 : decide (s = 0) <;> rw [q2] at g <;> exact absurd g (by decide)
  | .row ps, w, a, h => by
    rw [built]
    obtain ⟨h1, h2⟩ := row_ok t ht ps (by rw [Pat.Wf] at w; exact w) _ a eE _ (eE_bw h) Fw.eq
    refine (h1.imp fun s e _ _ => ?_).bt (h2 a (Gr.refl h) (Nat.le_refl _))
    rw [M]
    unfold seqR
    exact ⟨fun h => ⟨s, rfl, h⟩, fun ⟨j, h, g⟩ => h ▸ g⟩
  | .alt ps, w, a, h => by
    rw [built]
    have hn : Bw t a.fo.length a eN (fun _ _ => False) := nil_bw h fun s e _ _ => ⟨False.elim, fun ⟨_, g⟩ => by rw [Nat.zero_testBit] at g; cases g⟩
    obtain ⟨h1, h2⟩ := alt_ok t ht ps (by rw [Pat.Wf] at w; exact w) _ a eN _ hn
    refine (h1.imp fun s e _ _ => ?_).bt h2
    rw [M]
    exact ⟨.inr, fun z => z.elim False.elim id⟩
  | .rep p l m, w, a, h => by
    rw [Pat.Wf] at w
    rw [built]
    obtain ⟨h1, h2⟩ := rep_bw (fun a h => built_ok t ht p w.1 a h) (fw_M t p) m.isNone l (copiesOf l m) 0 _ a eE _ (eE_bw h) Fw.eq
    refine (h1.imp fun s e _ _ => ?_).bt (h2 a (Gr.refl h) (Nat.le_refl _))
    rw [M, rep_is w.2]
    unfold seqR
    exact ⟨fun h => ⟨s, rfl, h⟩, fun ⟨j, h, g⟩ => h ▸ g⟩
theorem row_ok (t : List Nat) (ht : ∀ c ∈ t, c ∈ allSigns) : ∀ (ps : List Pat), WfL ps → ∀ (lo : Nat) (a : Aut) (w : Edg) (W : Rl), Bw t lo a w W → Fw t.length W →
    Bw t lo (builtRow ps a w).1 (builtRow ps a w).2 (seqR W (MRow t ps)) ∧ (∀ z : Aut, Gr z a → z.fo.length ≤ lo → Gr z (builtRow ps a w).1)
  | [], _, lo, a, w, W, b, fw => by
    rw [builtRow, MRow]
    refine ⟨b.imp fun s e _ _ => ?_, fun z g _ => g⟩
    unfold seqR
    exact ⟨fun ⟨j, h1, h2⟩ => h2 ▸ h1, fun h => ⟨e, h, rfl⟩⟩
  | p :: ps, wf, lo, a, w, W, b, fw => by
    rw [WfL] at wf
    rw [builtRow, MRow]
    have c := built_ok t ht p wf.1 a b.eq
    have b2 := b.row c fw (fw_M t p)
    obtain ⟨h1, h2⟩ := row_ok t ht ps wf.2 lo _ _ _ b2 (fw.seq (fw_M t p))
    refine ⟨h1.imp fun s e _ _ => ?_, fun z g hz => h2 z (ledG (g.trans c.gr) _ _ fun q hq => ?_) hz⟩
    · unfold seqR
      exact ⟨fun ⟨j, x, i, y, z⟩ => ⟨i, ⟨j, x, y⟩, z⟩, fun ⟨i, ⟨j, x, y⟩, z⟩ => ⟨j, x, i, y, z⟩⟩
    · have g1 := b.la q hq
      have g2 := c.gr.le
      exact ⟨by omega, by omega⟩
theorem alt_ok (t : List Nat) (ht : ∀ c ∈ t, c ∈ allSigns) : ∀ (ps : List Pat), WfL ps → ∀ (lo : Nat) (a : Aut) (w : Edg) (W : Rl), Bw t lo a w W →
    Bw t lo (builtAll ps a).1 ((builtAll ps a).2.foldl unitE w) (orR W (MAlt t ps)) ∧ Gr a (builtAll ps a).1
  | [], _, lo, a, w, W, b => by
    rw [builtAll, MAlt]
    exact ⟨b.imp fun s e _ _ => ⟨fun z => z.elim id False.elim, .inl⟩, Gr.refl b.eq⟩
  | p :: ps, wf, lo, a, w, W, b => by
    rw [WfL] at wf
    rw [builtAll, MAlt]
    have c := built_ok t ht p wf.1 a b.eq
    obtain ⟨h1, h2⟩ := alt_ok t ht ps wf.2 lo _ _ _ (b.unit c)
    refine ⟨h1.imp fun s e _ _ => (or_assoc' s e).symm, c.gr.trans h2⟩
end
end Pd

namespace Pd
/-! ### the finished automaton and its masks -/
structure Mac where
  se : List (List Nat)
  fo : List Nat
  nu : Nat
  fi : Nat
  bg : Nat
  la : Nat
  en : Nat
def maskOf (ps : List Nat) : Nat := ps.foldl (fun m p => m ||| 1 <<< p) 0
theorem maskOf_go (ps : List Nat) : ∀ m q, (ps.foldl (fun m p => m ||| 1 <<< p) m).testBit q = true ↔ m.testBit q = true ∨ q ∈ ps := by
  induction ps with
  | nil => intro m q; simp
  | cons p ps ih =>
    intro m q
    rw [List.foldl_cons, ih, Nat.testBit_or, Bool.or_eq_true, Nat.one_shiftLeft, Nat.testBit_two_pow, decide_eq_true_iff, List.mem_cons, or_assoc, eq_comm (a := p)]
theorem maskOf_bit (ps : List Nat) (q : Nat) : (maskOf ps).testBit q = true ↔ q ∈ ps := by
  unfold maskOf
  rw [maskOf_go, Nat.zero_testBit]
  simp
def macOf (p : Pat) : Mac := let r := built p ⟨[], []⟩; ⟨r.1.se, r.1.fo, r.2.nu, r.2.fi, r.2.bg, maskOf r.2.la, maskOf r.2.en⟩
/-- the positions that stand for a sign, from position k on -/
def standM (se : List (List Nat)) (c : Nat) : Nat := (se.zipIdx).foldl (fun m q => if c ∈ q.1 then m ||| 1 <<< q.2 else m) 0
theorem standM_go (c : Nat) : ∀ (se : List (List Nat)) (k m q : Nat), ((se.zipIdx k).foldl (fun m q => if c ∈ q.1 then m ||| 1 <<< q.2 else m) m).testBit q = true ↔ m.testBit q = true ∨ ∃ i, q = k + i ∧ i < se.length ∧ c ∈ se.getD i []
  | [], k, m, q => by simp
  | s :: se, k, m, q => by
    rw [List.zipIdx_cons, List.foldl_cons, standM_go c se (k + 1)]
    have e : ((if c ∈ s then m ||| 1 <<< k else m).testBit q = true) ↔ m.testBit q = true ∨ (c ∈ s ∧ q = k) := by
      by_cases h : c ∈ s
      · rw [if_pos h, Nat.testBit_or, Bool.or_eq_true, Nat.one_shiftLeft, Nat.testBit_two_pow, decide_eq_true_iff]; simp only [h, true_and, eq_comm]
      · rw [if_neg h]; simp [h]
    show ((if c ∈ s then m ||| 1 <<< k else m).testBit q = true) ∨ _ ↔ _
    rw [e, or_assoc]
    refine or_congr Iff.rfl ⟨?_, ?_⟩
    · rintro (⟨h1, h2⟩ | ⟨i, h1, h2, h3⟩)
      · exact ⟨0, by omega, by simp, h1⟩
      · exact ⟨i + 1, by omega, by simp; omega, h3⟩
    · rintro ⟨i, h1, h2, h3⟩
      cases i with
      | zero => exact .inl ⟨h3, by omega⟩
      | succ i => exact .inr ⟨i, by omega, by simpa using h2, h3⟩
theorem standM_bit {se : List (List Nat)} {c q : Nat} : (standM se c).testBit q = true ↔ c ∈ se.getD q [] := by
  unfold standM
  rw [standM_go, Nat.zero_testBit]
  constructor
  · rintro (h | ⟨i, h1, h2, h3⟩)
    · cases h
    · rw [Nat.zero_add] at h1; subst h1; exact h3
  · intro h
    refine .inr ⟨q, by omega, ?_, h⟩
    by_cases z : q < se.length
    · exact z
    · rw [List.getD_eq_getElem?_getD, List.getElem?_eq_none (by omega)] at h
      simp at h
/-- what may follow the positions of a mask -/
def foldBits (f : Nat → Nat → Nat) (k : Nat) : Nat → Nat → Nat → Nat
  | 0, _, m => m
  | n + 1, tk, m => foldBits f k n tk (if tk.testBit (k - (n + 1)) then f m (k - (n + 1)) else m)
def afterM (fo : List Nat) (tk : Nat) : Nat := ((List.range fo.length).foldl (fun m q => if tk.testBit q then m ||| fo.getD q 0 else m) 0)
theorem afterM_go (fo : List Nat) (tk : Nat) : ∀ (qs : List Nat) (m r : Nat), (qs.foldl (fun m q => if tk.testBit q then m ||| fo.getD q 0 else m) m).testBit r = true ↔ m.testBit r = true ∨ ∃ q ∈ qs, tk.testBit q = true ∧ (fo.getD q 0).testBit r = true
  | [], m, r => by simp
  | q :: qs, m, r => by
    rw [List.foldl_cons, afterM_go fo tk qs]
    have e : ((if tk.testBit q then m ||| fo.getD q 0 else m).testBit r = true) ↔ m.testBit r = true ∨ (tk.testBit q = true ∧ (fo.getD q 0).testBit r = true) := by
      by_cases h : tk.testBit q = true
      · rw [if_pos h, Nat.testBit_or, Bool.or_eq_true]; simp [h]
      · rw [if_neg h]; simp [h]
    rw [e, or_assoc]
    refine or_congr Iff.rfl ⟨?_, ?_⟩
    · rintro (h | ⟨z, h1, h2⟩)
      · exact ⟨q, .head _, h⟩
      · exact ⟨z, .tail _ h1, h2⟩
    · rintro ⟨z, h1, h2⟩
      rcases List.mem_cons.mp h1 with h1 | h1
      · subst h1; exact .inl h2
      · exact .inr ⟨z, h1, h2⟩
theorem afterM_bit {fo : List Nat} {tk r : Nat} : (afterM fo tk).testBit r = true ↔ ∃ q, tk.testBit q = true ∧ (fo.getD q 0).testBit r = true := by
  unfold afterM
  rw [afterM_go, Nat.zero_testBit]
  constructor
  · rintro (h | ⟨q, _, h⟩)
    · cases h
    · exact ⟨q, h⟩
  · rintro ⟨q, h1, h2⟩
    refine .inr ⟨q, ?_, h1, h2⟩
    rw [List.mem_range]
    by_cases z : q < fo.length
    · exact z
    · rw [List.getD_eq_getElem?_getD, List.getElem?_eq_none (by omega)] at h2
      simp at h2
/-! ### what stands behind a start -/
def Mac.ini (m : Mac) (s : Nat) : Nat := if s = 0 then m.bg else m.fi
def Mac.lst (m : Mac) (b : Bool) : Nat := if b then m.en else m.la
def Mac.FR (m : Mac) : Rl := fun q r => (m.fo.getD q 0).testBit r = true
/-- the positions that are taken at place i by what began at s -/
def Mac.T (m : Mac) (t : List Nat) (s i r : Nat) : Prop := ∃ q, (m.ini s).testBit q = true ∧ Run (sayX m.se t) m.FR q s r i
/-- the positions that may come at place i of what began at s -/
def Mac.Fl (m : Mac) (t : List Nat) (s i r : Nat) : Prop := (s = i ∧ (m.ini s).testBit r = true) ∨ ∃ j, i = j + 1 ∧ ∃ q, m.T t s j q ∧ m.FR q r
theorem Mac.T_le {m : Mac} {t : List Nat} {s i r : Nat} (h : m.T t s i r) : s ≤ i ∧ i < t.length := by
  obtain ⟨q, _, h⟩ := h
  exact ⟨h.le, sayX_lt _ _ h.endX⟩
theorem Mac.T_iff {m : Mac} {t : List Nat} {s i r : Nat} : m.T t s i r ↔ m.Fl t s i r ∧ sayX m.se t r i := by
  constructor
  · rintro ⟨q, h1, h2⟩
    cases h2 with
    | one x => exact ⟨.inl ⟨rfl, h1⟩, x⟩
    | step h f x => exact ⟨.inr ⟨_, rfl, _, ⟨q, h1, h⟩, f⟩, x⟩
  · rintro ⟨⟨rfl, h⟩ | ⟨j, rfl, q, ⟨q0, h1, h2⟩, f⟩, x⟩
    · exact ⟨r, h, .one x⟩
    · exact ⟨q0, h1, .step h2 f x⟩
theorem Mac.Fl_succ {m : Mac} {t : List Nat} {s i r : Nat} (h : s ≤ i) : m.Fl t s (i + 1) r ↔ ∃ q, m.T t s i q ∧ m.FR q r := by
  constructor
  · rintro (⟨h1, _⟩ | ⟨j, h1, h2⟩)
    · omega
    · cases h1; exact h2
  · intro h; exact .inr ⟨i, rfl, h⟩
/-- the machine takes what the relation says -/
structure Mk (m : Mac) (t : List Nat) (R : Rl) : Prop where
  fw : Fw t.length R
  em : ∀ s, s ≤ t.length → (R s s ↔ m.nu.testBit ((decide (s = 0)).toNat + 2 * (decide (s = t.length)).toNat) = true)
  iff : ∀ s e, s ≤ e → e < t.length → (R s (e + 1) ↔ ∃ r, m.T t s e r ∧ (m.lst (decide (e + 1 = t.length))).testBit r = true)
  n0 : m.nu.testBit 0 = true → m.nu.testBit 1 = true ∧ m.nu.testBit 2 = true ∧ m.nu.testBit 3 = true
/-- an empty stretch within is one everywhere -/
def UpN (n : Nat) : Prop := n = 0 ∨ n = 8 ∨ n = 10 ∨ n = 12 ∨ n = 14 ∨ n = 15
theorem upN_and {a b : Nat} (h : UpN a) (g : UpN b) : UpN (a &&& b) := by
  unfold UpN at *
  rcases h with rfl | rfl | rfl | rfl | rfl | rfl <;> rcases g with rfl | rfl | rfl | rfl | rfl | rfl <;> decide
theorem upN_or {a b : Nat} (h : UpN a) (g : UpN b) : UpN (a ||| b) := by
  unfold UpN at *
  rcases h with rfl | rfl | rfl | rfl | rfl | rfl <;> rcases g with rfl | rfl | rfl | rfl | rfl | rfl <;> decide
theorem copy_up {f : Aut → Aut × Edg} (hf : ∀ a, UpN (f a).2.nu) {star : Bool} {l k : Nat} {a : Aut} {w : Edg} (h : UpN w.nu) : UpN (copyA f star l k a w).2.nu := by
  unfold copyA rowE
  simp only
  split
  · exact upN_and h (.inr (.inr (.inr (.inr (.inr rfl)))))
  · exact upN_and h (hf _)
theorem rep_up {f : Aut → Aut × Edg} (hf : ∀ a, UpN (f a).2.nu) {star : Bool} {l : Nat} : ∀ (c k : Nat) (a : Aut) (w : Edg), UpN w.nu → UpN (repA f star l c k a w).2.nu
  | 0, _, _, _, h => h
  | c + 1, k, a, w, h => rep_up hf c _ _ _ (copy_up hf h)
mutual
theorem built_up : ∀ (p : Pat) (a : Aut), UpN (built p a).2.nu
  | .any, a => by rw [built]; exact .inl rfl
  | .sign c, a => by rw [built]; exact .inl rfl
  | .cls cs, a => by rw [built]; exact .inl rfl
  | .bg, a => by rw [built]; exact .inr (.inr (.inl rfl))
  | .en, a => by rw [built]; exact .inr (.inr (.inr (.inl rfl)))
  | .row ps, a => by rw [built]; exact row_up ps a eE (by unfold UpN eE; decide)
  | .alt ps, a => by rw [built]; exact alt_up ps a eN (.inl rfl)
  | .rep p l m, a => by rw [built]; exact rep_up (built_up p) _ _ _ _ (by unfold UpN eE; decide)
theorem row_up : ∀ (ps : List Pat) (a : Aut) (w : Edg), UpN w.nu → UpN (builtRow ps a w).2.nu
  | [], a, w, h => by rw [builtRow]; exact h
  | p :: ps, a, w, h => by rw [builtRow]; exact row_up ps _ _ (upN_and h (built_up p a))
theorem alt_up : ∀ (ps : List Pat) (a : Aut) (w : Edg), UpN w.nu → UpN ((builtAll ps a).2.foldl unitE w).nu
  | [], a, w, h => by rw [builtAll]; exact h
  | p :: ps, a, w, h => by rw [builtAll]; exact alt_up ps _ _ (upN_or h (built_up p a))
end
theorem macOf_ok {t : List Nat} (ht : ∀ c ∈ t, c ∈ allSigns) {p : Pat} (w : p.Wf) : Mk (macOf p) t (M t p) := by
  have b := built_ok t ht p w ⟨[], []⟩ rfl
  have Fe : ∀ q r, (auOf (built p ⟨[], []⟩).1.fo 0 (built p ⟨[], []⟩).1.fo.length (built p ⟨[], []⟩).2).F q r ↔ (macOf p).FR q r := fun q r => by
    refine ⟨fun h => h.2, fun h => ⟨⟨Nat.zero_le _, ?_⟩, h⟩⟩
    by_cases z : q < (built p ⟨[], []⟩).1.fo.length
    · exact z
    · have h : ((built p ⟨[], []⟩).1.fo.getD q 0).testBit r = true := h
      rw [List.getD_eq_getElem?_getD, List.getElem?_eq_none (by omega)] at h
      simp at h
  refine ⟨fw_M t p, fun s h => ?_, fun s e h1 h2 => ?_, fun h => ?_⟩
  · refine (b.tk.iff s s (Nat.le_refl _) h).trans ⟨fun h => ?_, fun h => .inl ⟨rfl, h⟩⟩
    rcases h with ⟨_, h⟩ | ⟨h, _⟩
    · exact h
    · omega
  · refine (b.tk.iff s (e + 1) (by omega) (by omega)).trans ⟨fun h => ?_, fun h => ?_⟩
    · rcases h with ⟨h, _⟩ | ⟨_, q, r, g1, g2, g3⟩
      · omega
      · refine ⟨r, ⟨q, ?_, g2.mono fun a b z => (Fe a b).mp z⟩, ?_⟩
        · unfold Mac.ini
          by_cases z : s = 0
          · rw [if_pos z]; rw [decide_eq_true z] at g1; exact g1
          · rw [if_neg z]; rw [decide_eq_false z] at g1; exact g1
        · unfold Mac.lst
          by_cases z : e + 1 = t.length
          · rw [decide_eq_true z] at g3 ⊢; exact (maskOf_bit _ _).mpr g3
          · rw [decide_eq_false z] at g3 ⊢; exact (maskOf_bit _ _).mpr g3
    · obtain ⟨r, ⟨q, g1, g2⟩, g3⟩ := h
      refine .inr ⟨by omega, q, r, ?_, g2.mono fun a b z => (Fe a b).mpr z, ?_⟩
      · unfold Mac.ini at g1
        by_cases z : s = 0
        · rw [if_pos z] at g1; rw [decide_eq_true z]; exact g1
        · rw [if_neg z] at g1; rw [decide_eq_false z]; exact g1
      · unfold Mac.lst at g3
        by_cases z : e + 1 = t.length
        · rw [decide_eq_true z] at g3 ⊢; exact (maskOf_bit _ _).mp g3
        · rw [decide_eq_false z] at g3 ⊢; exact (maskOf_bit _ _).mp g3
  · have u := built_up p ⟨[], []⟩
    have h : (built p ⟨[], []⟩).2.nu.testBit 0 = true := h
    show (built p ⟨[], []⟩).2.nu.testBit 1 = true ∧ (built p ⟨[], []⟩).2.nu.testBit 2 = true ∧ (built p ⟨[], []⟩).2.nu.testBit 3 = true
    rcases u with u | u | u | u | u | u <;> rw [u] at h ⊢ <;> revert h <;> decide
/-! ### by masks, place by place -/
/-- a mask that holds just what a relation says -/
def Is (m : Nat) (P : Nat → Prop) : Prop := ∀ r, m.testBit r = true ↔ P r
theorem Is.zero {m : Nat} {P : Nat → Prop} (h : Is m P) : m = 0 ↔ ∀ r, ¬ P r := by
  constructor
  · intro z r hr
    have := (h r).mpr hr
    rw [z, Nat.zero_testBit] at this
    cases this
  · intro z
    apply Nat.eq_of_testBit_eq
    intro i
    rw [Nat.zero_testBit]
    cases e : m.testBit i with
    | false => rfl
    | true => exact absurd ((h i).mp e) (z i)
theorem Is.and {a b : Nat} {P Q : Nat → Prop} (h : Is a P) (g : Is b Q) : Is (a &&& b) (fun r => P r ∧ Q r) := fun r => by rw [Nat.testBit_and, Bool.and_eq_true, h r, g r]
theorem Is.or {a b : Nat} {P Q : Nat → Prop} (h : Is a P) (g : Is b Q) : Is (a ||| b) (fun r => P r ∨ Q r) := fun r => by rw [Nat.testBit_or, Bool.or_eq_true, h r, g r]
theorem Is.imp {a : Nat} {P Q : Nat → Prop} (h : Is a P) (e : ∀ r, P r ↔ Q r) : Is a Q := fun r => (h r).trans (e r)
theorem Is.self (m : Nat) : Is m (fun r => m.testBit r = true) := fun _ => Iff.rfl
theorem Is.stand {m : Mac} {t : List Nat} {i c : Nat} (h : t[i]? = some c) : Is (standM m.se c) (fun r => sayX m.se t r i) := fun r => by
  rw [standM_bit]
  unfold sayX
  constructor
  · intro z; exact ⟨c, h, z⟩
  · rintro ⟨d, h1, h2⟩
    rw [h] at h1
    cases h1
    exact h2
theorem Is.taken {m : Mac} {t : List Nat} {s i c f : Nat} (h : t[i]? = some c) (hf : Is f (m.Fl t s i)) : Is (f &&& standM m.se c) (m.T t s i) := (hf.and (Is.stand h)).imp fun r => Mac.T_iff.symm
theorem Is.after {m : Mac} {t : List Nat} {s i f : Nat} (hs : s ≤ i) (hf : Is f (m.T t s i)) : Is (afterM m.fo f) (m.Fl t s (i + 1)) := fun r => by
  rw [afterM_bit, Mac.Fl_succ hs]
  exact ⟨fun ⟨q, h1, h2⟩ => ⟨q, (hf q).mp h1, h2⟩, fun ⟨q, h1, h2⟩ => ⟨q, (hf q).mpr h1, h2⟩⟩
theorem Is.ini {m : Mac} {t : List Nat} {s : Nat} : Is (m.ini s) (m.Fl t s s) := fun r => by
  constructor
  · intro h; exact .inl ⟨rfl, h⟩
  · rintro (⟨_, h⟩ | ⟨j, h1, q, h2, _⟩)
    · exact h
    · have := (Mac.T_le h2).1; omega
theorem and_ne {a b : Nat} : (a &&& b ≠ 0) ↔ ∃ r, a.testBit r = true ∧ b.testBit r = true := by
  constructor
  · intro h
    apply Classical.byContradiction
    intro z
    apply h
    have : Is (a &&& b) (fun r => a.testBit r = true ∧ b.testBit r = true) := (Is.self a).and (Is.self b)
    exact this.zero.mpr fun r hr => z ⟨r, hr⟩
  · rintro ⟨r, h1, h2⟩ e
    have : (a &&& b).testBit r = true := by rw [Nat.testBit_and, h1, h2]; rfl
    rw [e, Nat.zero_testBit] at this
    cases this
theorem Mk.takes {m : Mac} {t : List Nat} {R : Rl} (k : Mk m t R) {s e tk : Nat} (h1 : s ≤ e) (h2 : e < t.length) (hf : Is tk (m.T t s e)) : R s (e + 1) ↔ tk &&& m.lst (decide (e + 1 = t.length)) ≠ 0 := by
  rw [k.iff s e h1 h2, and_ne]
  exact exists_congr fun r => and_congr (hf r).symm Iff.rfl
end Pd

namespace Pd
/-! ### the search for the first longest stretch: threads, one a start -/
/-- a stretch that is not empty; go: the text may go on -/
def Mac.Mat (m : Mac) (t : List Nat) (go : Bool) (s e : Nat) : Prop := ∃ j, e = j + 1 ∧ ∃ r, m.T t s j r ∧ (m.lst (decide (e = t.length) && !go)).testBit r = true
theorem Mac.Mat_lt {m : Mac} {t : List Nat} {go : Bool} {s e : Nat} (h : m.Mat t go s e) : s < e ∧ e ≤ t.length := by
  obtain ⟨j, rfl, r, h, _⟩ := h
  have := Mac.T_le h
  omega
theorem Mk.mat {m : Mac} {t : List Nat} {R : Rl} (k : Mk m t R) {s e : Nat} (h : s < e) (he : e ≤ t.length) : m.Mat t false s e ↔ R s e := by
  obtain ⟨j, rfl⟩ : ∃ j, e = j + 1 := ⟨e - 1, by omega⟩
  rw [k.iff s j (by omega) (by omega)]
  unfold Mac.Mat
  rw [Bool.not_false, Bool.and_true]
  exact ⟨fun ⟨j', e, h⟩ => by cases e; exact h, fun h => ⟨j, rfl, h⟩⟩
structure Sm (m : Mac) (t : List Nat) (go : Bool) (b i : Nat) (ths : List (Nat × Nat)) (st : Option (Nat × Nat)) : Prop where
  non : st = none → ∀ s e, b ≤ s → e ≤ i → ¬ m.Mat t go s e
  som : ∀ z, st = some z → b ≤ z.1 ∧ z.2 ≤ i ∧ m.Mat t go z.1 z.2 ∧ (∀ s e, b ≤ s → s < z.1 → e ≤ i → ¬ m.Mat t go s e) ∧ (∀ e, e ≤ i → m.Mat t go z.1 e → e ≤ z.2) ∧ ∀ x ∈ ths, x.1 ≤ z.1
/-- ahead of place i -/
structure SInv (m : Mac) (t : List Nat) (go : Bool) (b i : Nat) (ths : List (Nat × Nat)) (st : Option (Nat × Nat)) : Prop extends Sm m t go b i ths st where
  asc : ∀ x ∈ ths, b ≤ x.1 ∧ x.1 < i
  pair : ths.Pairwise (fun x y => x.1 < y.1)
  sub : ∀ x ∈ ths, ∀ r, x.2.testBit r = true → m.Fl t x.1 i r
  cov : ∀ s, b ≤ s → s < i → (∀ z, st = some z → s ≤ z.1) → ∀ r, m.Fl t s i r → ∃ x ∈ ths, x.1 ≤ s ∧ x.2.testBit r = true
/-- at place i, its start looked at -/
structure SMid (m : Mac) (t : List Nat) (go : Bool) (b i : Nat) (ths : List (Nat × Nat)) (st : Option (Nat × Nat)) : Prop extends Sm m t go b i ths st where
  asc : ∀ x ∈ ths, b ≤ x.1 ∧ x.1 ≤ i
  pair : ths.Pairwise (fun x y => x.1 < y.1)
  sub : ∀ x ∈ ths, ∀ r, x.2.testBit r = true → m.Fl t x.1 i r
  cov : ∀ s, b ≤ s → s ≤ i → (∀ z, st = some z → s ≤ z.1) → ∀ r, m.T t s i r → ∃ x ∈ ths, x.1 ≤ s ∧ x.2.testBit r = true
theorem SInv.start {m : Mac} {t : List Nat} {go : Bool} {b : Nat} : SInv m t go b b [] none :=
  ⟨⟨fun _ s e h1 h2 h3 => (by have := Mac.Mat_lt h3; omega), fun z h => (by cases h)⟩, fun x h => (by cases h), List.Pairwise.nil, fun x h => (by cases h), fun s h1 h2 => (by omega)⟩
theorem SInv.add {m : Mac} {t : List Nat} {go : Bool} {b i : Nat} {ths : List (Nat × Nat)} (h : SInv m t go b i ths none) (hb : b ≤ i) : SMid m t go b i (ths ++ [(i, m.ini i)]) none := by
  refine ⟨⟨h.non, fun z q => by cases q⟩, fun x hx => ?_, ?_, fun x hx r hr => ?_, fun s h1 h2 h3 r hr => ?_⟩
  · rcases List.mem_append.mp hx with hx | hx
    · have := h.asc x hx; omega
    · cases List.mem_singleton.mp hx; exact ⟨hb, Nat.le_refl _⟩
  · rw [List.pairwise_append]
    refine ⟨h.pair, List.pairwise_singleton _ _, fun x hx y hy => ?_⟩
    cases List.mem_singleton.mp hy
    exact (h.asc x hx).2
  · rcases List.mem_append.mp hx with hx | hx
    · exact h.sub x hx r hr
    · cases List.mem_singleton.mp hx
      exact (Is.ini r).mp hr
  · by_cases z : s = i
    · subst z
      exact ⟨(s, m.ini s), by simp, Nat.le_refl _, (Is.ini r).mpr (Mac.T_iff.mp hr).1⟩
    · obtain ⟨x, h4, h5, h6⟩ := h.cov s h1 (by omega) h3 r (Mac.T_iff.mp hr).1
      exact ⟨x, List.mem_append_left _ h4, h5, h6⟩
theorem SInv.noadd {m : Mac} {t : List Nat} {go : Bool} {b i c : Nat} {ths : List (Nat × Nat)} {st : Option (Nat × Nat)} (h : SInv m t go b i ths st) (hc : t[i]? = some c) (hn : st = none → m.ini i &&& standM m.se c = 0) : SMid m t go b i ths st := by
  refine ⟨h.toSm, fun x hx => by have := h.asc x hx; omega, h.pair, h.sub, fun s h1 h2 h3 r hr => ?_⟩
  by_cases z : s = i
  · subst z
    exfalso
    cases st with
    | none =>
      have k : Is (m.ini s &&& standM m.se c) (m.T t s s) := Is.taken hc Is.ini
      exact k.zero.mp (hn rfl) r hr
    | some z =>
      have h4 := h3 z rfl
      obtain ⟨_, h5, h6, _⟩ := h.som z rfl
      have := Mac.Mat_lt h6
      omega
  · exact h.cov s h1 (by omega) h3 r (Mac.T_iff.mp hr).1
/-- the threads one after another: d are done -/
structure TInv (m : Mac) (t : List Nat) (i la : Nat) (d : List (Nat × Nat)) (left : List (Nat × Nat)) (mask : Nat) : Prop where
  mask : Is mask (fun r => sayX m.se t r i ∧ ∀ x ∈ d, ¬ x.2.testBit r = true)
  low : ∀ y ∈ left, ∃ x ∈ d, x.1 = y.1
  pair : left.Pairwise (fun x y => x.1 < y.1)
  sub : ∀ y ∈ left, ∀ r, y.2.testBit r = true → m.Fl t y.1 (i + 1) r
  cov : ∀ x ∈ d, ∀ r, sayX m.se t r i → x.2.testBit r = true → ∃ y ∈ left, y.1 ≤ x.1 ∧ ∀ r', m.FR r r' → y.2.testBit r' = true
  no : ∀ x ∈ d, ∀ r, sayX m.se t r i → x.2.testBit r = true → ¬ la.testBit r = true
theorem TInv.start {m : Mac} {t : List Nat} {i la c : Nat} (hc : t[i]? = some c) : TInv m t i la [] [] (standM m.se c) :=
  ⟨(Is.stand hc).imp fun r => ⟨fun h => ⟨h, fun _ h => by cases h⟩, fun h => h.1⟩, fun _ h => (by cases h), .nil, fun _ h => (by cases h), fun _ h => (by cases h), fun _ h => (by cases h)⟩
/-- the thread that takes nothing more -/
theorem TInv.skip {m : Mac} {t : List Nat} {i la mask : Nat} {d left : List (Nat × Nat)} {x : Nat × Nat} (h : TInv m t i la d left mask) (hx : ∀ y ∈ d, y.1 < x.1) (z : x.2 &&& mask = 0) : TInv m t i la (d ++ [x]) left mask := by
  have k := ((Is.self x.2).and h.mask).zero.mp z
  have old : ∀ r, sayX m.se t r i → x.2.testBit r = true → ∃ y ∈ d, y.2.testBit r = true := fun r h1 h2 => by
    apply Classical.byContradiction
    intro q
    exact k r ⟨h2, h1, fun y hy hr => q ⟨y, hy, hr⟩⟩
  refine ⟨h.mask.imp fun r => ⟨fun ⟨h1, h2⟩ => ⟨h1, fun y hy hr => ?_⟩, fun ⟨h1, h2⟩ => ⟨h1, fun y hy => h2 y (List.mem_append_left _ hy)⟩⟩, fun y hy => ?_, h.pair, h.sub, fun y hy r h1 h2 => ?_, fun y hy r h1 h2 => ?_⟩
  · rcases List.mem_append.mp hy with hy | hy
    · exact h2 y hy hr
    · cases List.mem_singleton.mp hy
      obtain ⟨w, h3, h4⟩ := old r h1 hr
      exact h2 w h3 h4
  · obtain ⟨w, h1, h2⟩ := h.low y hy
    exact ⟨w, List.mem_append_left _ h1, h2⟩
  · rcases List.mem_append.mp hy with hy | hy
    · exact h.cov y hy r h1 h2
    · cases List.mem_singleton.mp hy
      obtain ⟨w, h3, h4⟩ := old r h1 h2
      obtain ⟨y, h5, h6, h7⟩ := h.cov w h3 r h1 h4
      have := hx w h3
      exact ⟨y, h5, by omega, h7⟩
  · rcases List.mem_append.mp hy with hy | hy
    · exact h.no y hy r h1 h2
    · cases List.mem_singleton.mp hy
      obtain ⟨w, h3, h4⟩ := old r h1 h2
      exact h.no w h3 r h1 h4
theorem xor_and_bit (a b r : Nat) : (a ^^^ (b &&& a)).testBit r = true ↔ a.testBit r = true ∧ ¬ b.testBit r = true := by
  rw [Nat.testBit_xor, Nat.testBit_and]
  cases a.testBit r <;> cases b.testBit r <;> simp
/-- what goes on, whether it ends here or not -/
structure TMid (m : Mac) (t : List Nat) (i : Nat) (d : List (Nat × Nat)) (left : List (Nat × Nat)) (mask : Nat) : Prop where
  mask : Is mask (fun r => sayX m.se t r i ∧ ∀ x ∈ d, ¬ x.2.testBit r = true)
  low : ∀ y ∈ left, ∃ x ∈ d, x.1 = y.1
  pair : left.Pairwise (fun x y => x.1 < y.1)
  sub : ∀ y ∈ left, ∀ r, y.2.testBit r = true → m.Fl t y.1 (i + 1) r
  cov : ∀ x ∈ d, ∀ r, sayX m.se t r i → x.2.testBit r = true → ∃ y ∈ left, y.1 ≤ x.1 ∧ ∀ r', m.FR r r' → y.2.testBit r' = true
theorem TInv.goes {m : Mac} {t : List Nat} {i la mask : Nat} {d left : List (Nat × Nat)} {x : Nat × Nat} (h : TInv m t i la d left mask) (hx : ∀ y ∈ d, y.1 < x.1) (hi : x.1 ≤ i) (hs : ∀ r, x.2.testBit r = true → m.Fl t x.1 i r) :
    TMid m t i (d ++ [x]) (left ++ [(x.1, afterM m.fo (x.2 &&& mask))]) (mask ^^^ (x.2 &&& mask)) := by
  have tk : ∀ r, (x.2 &&& mask).testBit r = true ↔ x.2.testBit r = true ∧ sayX m.se t r i ∧ ∀ y ∈ d, ¬ y.2.testBit r = true := (Is.self x.2).and h.mask
  refine ⟨fun r => ?_, fun y hy => ?_, ?_, fun y hy r hr => ?_, fun y hy r h1 h2 => ?_⟩
  · rw [xor_and_bit, h.mask r]
    constructor
    · rintro ⟨⟨h1, h2⟩, h3⟩
      refine ⟨h1, fun y hy => ?_⟩
      rcases List.mem_append.mp hy with hy | hy
      · exact h2 y hy
      · cases List.mem_singleton.mp hy; exact h3
    · rintro ⟨h1, h2⟩
      exact ⟨⟨h1, fun y hy => h2 y (List.mem_append_left _ hy)⟩, h2 x (by simp)⟩
  · rcases List.mem_append.mp hy with hy | hy
    · obtain ⟨w, h1, h2⟩ := h.low y hy
      exact ⟨w, List.mem_append_left _ h1, h2⟩
    · cases List.mem_singleton.mp hy
      exact ⟨x, by simp, rfl⟩
  · rw [List.pairwise_append]
    refine ⟨h.pair, List.pairwise_singleton _ _, fun y hy w hw => ?_⟩
    cases List.mem_singleton.mp hw
    obtain ⟨w, h1, h2⟩ := h.low y hy
    have := hx w h1
    show y.1 < x.1
    omega
  · rcases List.mem_append.mp hy with hy | hy
    · exact h.sub y hy r hr
    · cases List.mem_singleton.mp hy
      obtain ⟨q, h1, h2⟩ := afterM_bit.mp hr
      obtain ⟨h3, h4, _⟩ := (tk q).mp h1
      exact (Mac.Fl_succ hi).mpr ⟨q, Mac.T_iff.mpr ⟨hs q h3, h4⟩, h2⟩
  · have low : (∃ w ∈ d, w.2.testBit r = true ∧ w.1 ≤ y.1) ∨ (x = y ∧ ∀ w ∈ d, ¬ w.2.testBit r = true) := by
      rcases List.mem_append.mp hy with hy | hy
      · exact .inl ⟨y, hy, h2, Nat.le_refl _⟩
      · cases List.mem_singleton.mp hy
        by_cases z : ∃ w ∈ d, w.2.testBit r = true
        · obtain ⟨w, h3, h4⟩ := z
          exact .inl ⟨w, h3, h4, Nat.le_of_lt (hx w h3)⟩
        · exact .inr ⟨rfl, fun w h3 h4 => z ⟨w, h3, h4⟩⟩
    rcases low with ⟨w, h3, h4, h5⟩ | ⟨rfl, h3⟩
    · obtain ⟨y', h6, h7, h8⟩ := h.cov w h3 r h1 h4
      exact ⟨y', List.mem_append_left _ h6, by omega, h8⟩
    · exact ⟨(x.1, afterM m.fo (x.2 &&& mask)), by simp, Nat.le_refl _, fun r' hr' => afterM_bit.mpr ⟨r, (tk r).mpr ⟨h2, h1, h3⟩, hr'⟩⟩
/-- .. it ends nowhere here -/
theorem TInv.on {m : Mac} {t : List Nat} {i la mask : Nat} {d left : List (Nat × Nat)} {x : Nat × Nat} (h : TInv m t i la d left mask) (hx : ∀ y ∈ d, y.1 < x.1) (hi : x.1 ≤ i) (hs : ∀ r, x.2.testBit r = true → m.Fl t x.1 i r) (z : (x.2 &&& mask) &&& la = 0) :
    TInv m t i la (d ++ [x]) (left ++ [(x.1, afterM m.fo (x.2 &&& mask))]) (mask ^^^ (x.2 &&& mask)) := by
  have g := h.goes hx hi hs
  have k := ((((Is.self x.2).and h.mask)).and (Is.self la)).zero.mp z
  refine ⟨g.mask, g.low, g.pair, g.sub, g.cov, fun y hy r h1 h2 h3 => ?_⟩
  rcases List.mem_append.mp hy with hy | hy
  · exact h.no y hy r h1 h2 h3
  · cases List.mem_singleton.mp hy
    by_cases q : ∃ w ∈ d, w.2.testBit r = true
    · obtain ⟨w, h4, h5⟩ := q
      exact h.no w h4 r h1 h5 h3
    · exact k r ⟨⟨h2, h1, fun w h4 h5 => q ⟨w, h4, h5⟩⟩, h3⟩
theorem TMid.cov' {m : Mac} {t : List Nat} {i mask : Nat} {d left : List (Nat × Nat)} (h : TMid m t i d left mask) {x : Nat × Nat} {s r : Nat} (hx : x ∈ d) (hs : x.1 ≤ s) (X : sayX m.se t r i) (hr : x.2.testBit r = true) {r' : Nat} (f : m.FR r r') : ∃ y ∈ left, y.1 ≤ s ∧ y.2.testBit r' = true := by
  obtain ⟨y, h1, h2, h3⟩ := h.cov x hx r X hr
  exact ⟨y, h1, by omega, h3 r' f⟩
theorem TInv.mid {m : Mac} {t : List Nat} {i la mask : Nat} {d left : List (Nat × Nat)} (h : TInv m t i la d left mask) : TMid m t i d left mask := ⟨h.mask, h.low, h.pair, h.sub, h.cov⟩
/-- none ended here -/
theorem SMid.step {m : Mac} {t : List Nat} {go : Bool} {b i mask : Nat} {ths left : List (Nat × Nat)} {st : Option (Nat × Nat)} (h : SMid m t go b i ths st) (k : TInv m t i (m.lst (decide (i + 1 = t.length) && !go)) ths left mask) : SInv m t go b (i + 1) left st := by
  have hi : ∀ s, b ≤ s → (∀ z, st = some z → s ≤ z.1) → ¬ m.Mat t go s (i + 1) := fun s h1 h2 ⟨j, e, r, h3, h4⟩ => by
    cases e
    obtain ⟨x, h5, h6, h7⟩ := h.cov s h1 (Mac.T_le h3).1 h2 r h3
    exact k.no x h5 r (Mac.T_iff.mp h3).2 h7 h4
  have lo : ∀ y ∈ left, ∃ x ∈ ths, x.1 = y.1 := k.low
  refine ⟨⟨fun e s e' h1 h2 h3 => ?_, fun z hz => ?_⟩, fun y hy => ?_, k.pair, k.sub, fun s h1 h2 h3 r hr => ?_⟩
  · by_cases q : e' ≤ i
    · exact h.non e s e' h1 q h3
    · have : e' = i + 1 := by omega
      subst this
      exact hi s h1 (fun z hz => by rw [e] at hz; cases hz) h3
  · obtain ⟨h1, h2, h3, h4, h5, h6⟩ := h.som z hz
    refine ⟨h1, by omega, h3, fun s e g1 g2 g3 g4 => ?_, fun e g1 g2 => ?_, fun y hy => ?_⟩
    · by_cases q : e ≤ i
      · exact h4 s e g1 g2 q g4
      · have : e = i + 1 := by omega
        subst this
        exact hi s g1 (fun z' hz' => by rw [hz] at hz'; cases hz'; omega) g4
    · by_cases q : e ≤ i
      · exact h5 e q g2
      · have : e = i + 1 := by omega
        subst this
        exact absurd g2 (hi z.1 h1 (fun z' hz' => by rw [hz] at hz'; cases hz'; exact Nat.le_refl _))
    · obtain ⟨x, g1, g2⟩ := lo y hy
      have := h6 x g1; omega
  · obtain ⟨x, g1, g2⟩ := lo y hy
    have := h.asc x g1; omega
  · obtain ⟨q, g1, g2⟩ := (Mac.Fl_succ (by omega)).mp hr
    obtain ⟨x, g3, g4, g5⟩ := h.cov s h1 (by omega) h3 q g1
    exact k.mid.cov' g3 g4 (Mac.T_iff.mp g1).2 g5 g2
/-- thread x ends here: those behind it are dropped -/
theorem SMid.ends {m : Mac} {t : List Nat} {go : Bool} {b i mask : Nat} {d rest left : List (Nat × Nat)} {x : Nat × Nat} {st : Option (Nat × Nat)} (h : SMid m t go b i (d ++ x :: rest) st) (k : TInv m t i (m.lst (decide (i + 1 = t.length) && !go)) d left mask)
    (z : (x.2 &&& mask) &&& m.lst (decide (i + 1 = t.length) && !go) ≠ 0) : SInv m t go b (i + 1) (left ++ [(x.1, afterM m.fo (x.2 &&& mask))]) (some (x.1, i + 1)) := by
  have pr := h.pair
  rw [List.pairwise_append] at pr
  obtain ⟨_, pr2, pr3⟩ := pr
  have xm : x ∈ d ++ x :: rest := by simp
  have hx : ∀ y ∈ d, y.1 < x.1 := fun y hy => pr3 y hy x (by simp)
  have xr : ∀ y ∈ rest, x.1 < y.1 := fun y hy => (List.pairwise_cons.mp pr2).1 y hy
  have g := k.goes hx (h.asc x xm).2 (h.sub x xm)
  have st1 : ∀ z, st = some z → x.1 ≤ z.1 := fun z hz => (h.som z hz).2.2.2.2.2 x xm
  obtain ⟨r0, q1, q2⟩ := and_ne.mp z
  obtain ⟨q3, q4, q5⟩ := (((Is.self x.2).and k.mask) r0).mp q1
  have mt : m.Mat t go x.1 (i + 1) := ⟨i, rfl, r0, Mac.T_iff.mpr ⟨h.sub x xm r0 q3, q4⟩, q2⟩
  have old : ∀ s e, b ≤ s → s < x.1 → e ≤ i → ¬ m.Mat t go s e := fun s e h1 h2 h3 => by
    cases st with
    | none => exact h.non rfl s e h1 h3
    | some w => exact (h.som w rfl).2.2.2.1 s e h1 (by have := st1 w rfl; omega) h3
  have lo : ∀ y ∈ left ++ [(x.1, afterM m.fo (x.2 &&& mask))], y.1 ≤ x.1 ∧ b ≤ y.1 := fun y hy => by
    obtain ⟨w, h1, h2⟩ := g.low y hy
    rcases List.mem_append.mp h1 with h1 | h1
    · have := hx w h1
      have := (h.asc w (List.mem_append_left _ h1)).1
      omega
    · cases List.mem_singleton.mp h1
      have := (h.asc x xm).1
      omega
  refine ⟨⟨fun e => (by cases e), fun z hz => ?_⟩, fun y hy => ?_, g.pair, g.sub, fun s h1 h2 h3 r hr => ?_⟩
  · cases hz
    refine ⟨(h.asc x xm).1, Nat.le_refl _, mt, fun s e h1 h2 h3 h4 => ?_, fun e h1 _ => h1, fun y hy => (lo y hy).1⟩
    by_cases q : e ≤ i
    · exact old s e h1 h2 q h4
    · have : e = i + 1 := by omega
      subst this
      obtain ⟨j, e, r, h5, h6⟩ := h4
      cases e
      have h2' : s < x.1 := h2
      obtain ⟨y, h7, h8, h9⟩ := h.cov s h1 (Mac.T_le h5).1 (fun z hz => by have := st1 z hz; omega) r h5
      rcases List.mem_append.mp h7 with h7 | h7
      · exact k.no y h7 r (Mac.T_iff.mp h5).2 h9 h6
      · rcases List.mem_cons.mp h7 with h7 | h7
        · subst h7; omega
        · have := xr y h7; omega
  · have := lo y hy
    have := (h.asc x xm).2
    omega
  · have h3 : s ≤ x.1 := h3 (x.1, i + 1) rfl
    obtain ⟨q, g1, g2⟩ := (Mac.Fl_succ (by omega)).mp hr
    obtain ⟨y, g3, g4, g5⟩ := h.cov s h1 (by omega) (fun z hz => by have := st1 z hz; omega) q g1
    have yd : y ∈ d ++ [x] := by
      rcases List.mem_append.mp g3 with g3 | g3
      · exact List.mem_append_left _ g3
      · rcases List.mem_cons.mp g3 with g3 | g3
        · subst g3; simp
        · have := xr y g3; omega
    exact g.cov' yd g4 (Mac.T_iff.mp g1).2 g5 g2
/-- no thread is left -/
theorem SMid.empty {m : Mac} {t : List Nat} {go : Bool} {b i c : Nat} {st : Option (Nat × Nat)} (h : SMid m t go b i [] st) (hc : t[i]? = some c) : SInv m t go b (i + 1) [] st := h.step (TInv.start hc)
/-- what is found -/
structure Fin (m : Mac) (t : List Nat) (go : Bool) (b : Nat) (st : Option (Nat × Nat)) : Prop where
  non : st = none → ∀ s e, b ≤ s → ¬ m.Mat t go s e
  som : ∀ z, st = some z → b ≤ z.1 ∧ m.Mat t go z.1 z.2 ∧ (∀ s e, b ≤ s → s < z.1 → ¬ m.Mat t go s e) ∧ (∀ e, m.Mat t go z.1 e → e ≤ z.2)
theorem SInv.fin {m : Mac} {t : List Nat} {go : Bool} {b i : Nat} {ths : List (Nat × Nat)} {st : Option (Nat × Nat)} (h : SInv m t go b i ths st) (hi : t.length ≤ i) : Fin m t go b st := by
  refine ⟨fun e s e' h1 h2 => h.non e s e' h1 (by have := Mac.Mat_lt h2; omega) h2, fun z hz => ?_⟩
  obtain ⟨h1, _, h3, h4, h5, _⟩ := h.som z hz
  exact ⟨h1, h3, fun s e g1 g2 g3 => h4 s e g1 g2 (by have := Mac.Mat_lt g3; omega) g3, fun e g => h5 e (by have := Mac.Mat_lt g; omega) g⟩
theorem T_down {m : Mac} {t : List Nat} {s i : Nat} (hs : s ≤ i) (h : ∀ r, ¬ m.T t s i r) : ∀ j, i ≤ j → ∀ r, ¬ m.T t s j r := by
  intro j hj
  induction j with
  | zero => have : i = 0 := by omega
            subst this; exact h
  | succ j ih =>
    by_cases z : i = j + 1
    · subst z; exact h
    · intro r hr
      obtain ⟨q, h1, _⟩ := (Mac.Fl_succ (by omega)).mp (Mac.T_iff.mp hr).1
      exact ih (by omega) q h1
/-- no thread is left, a stretch is there: nothing longer comes -/
theorem SMid.stop {m : Mac} {t : List Nat} {go : Bool} {b i : Nat} {z : Nat × Nat} (h : SMid m t go b i [] (some z)) : Fin m t go b (some z) := by
  obtain ⟨h1, h2, h3, h4, h5, _⟩ := h.som z rfl
  have lt := Mac.Mat_lt h3
  have no : ∀ s e, b ≤ s → s ≤ z.1 → i < e → ¬ m.Mat t go s e := fun s e g1 g2 g3 ⟨j, e', r, g4, _⟩ => by
    subst e'
    refine T_down (s := s) (i := i) (by omega) (fun r hr => ?_) j (by omega) r g4
    obtain ⟨x, hx, _⟩ := h.cov s g1 (by omega) (fun w hw => by cases hw; exact g2) r hr
    cases hx
  refine ⟨fun e => (by cases e), fun w hw => ?_⟩
  cases hw
  refine ⟨h1, h3, fun s e g1 g2 g3 => ?_, fun e g => ?_⟩
  · by_cases q : e ≤ i
    · exact h4 s e g1 g2 q g3
    · exact no s e g1 (by omega) (by omega) g3
  · by_cases q : e ≤ i
    · exact h5 e q g
    · exact absurd g (no z.1 e h1 (Nat.le_refl _) (by omega))
end Pd

/-! objects of own classes, by the order of their fields -/
namespace Pd
open PySem PySem.Spec PyProof.Rows L2
/-- at a stands an instance of the class at C with these fields, in their order, as many as are stored yet -/
def InsL (C : Addr) (ns : List Str) (H : Hp) (a : Addr) (vs : List V) : Prop := ∃ dx, H a = some (.ins C dx (ns.zip vs)) ∧ vs.length ≤ ns.length
/-- the k-th is stored -/
def putAt : List V → Nat → V → List V
  | [], _, y => [y]
  | _ :: vs, 0, y => y :: vs
  | v :: vs, k + 1, y => v :: putAt vs k y
structure OCls (K : PySem.W.Frag) (C : Addr) (ns : List Str) : Prop where
  cl : Cls K C
  no : ∀ f ∈ ns, NoAttr K C f
  nd : ns.Nodup
  few : ns.length < 1000
theorem lk_zip : ∀ {ns : List Str} {vs : List V} {k : Nat} {f : Str} {v : V}, ns.Nodup → ns[k]? = some f → vs[k]? = some v → (ns.zip vs).lookup f = some v
  | [], _, _, _, _, _, h, _ => by cases h
  | _ :: _, [], _, _, _, _, _, h => by cases h
  | n :: ns, w :: vs, 0, f, v, nd, h, g => by
    cases h
    cases g
    rw [List.zip_cons_cons, List.lookup_cons, beq_self_eq_true]
  | n :: ns, w :: vs, k + 1, f, v, nd, h, g => by
    have nd' := List.nodup_cons.mp nd
    have hne : f ≠ n := fun e => nd'.1 (e ▸ List.mem_of_getElem? (show ns[k]? = some f from h))
    rw [List.zip_cons_cons, List.lookup_cons, beq_false_of_ne hne]
    exact lk_zip nd'.2 h g
theorem lk_none : ∀ {ns : List Str} {vs : List V} {f : Str}, f ∉ ns → (ns.zip vs).lookup f = none
  | [], _, _, _ => rfl
  | _ :: _, [], _, _ => rfl
  | n :: ns, w :: vs, f, h => by
    have hne : f ≠ n := fun e => h (e ▸ .head _)
    rw [List.zip_cons_cons, List.lookup_cons, beq_false_of_ne hne]
    exact lk_none fun z => h (.tail _ z)
theorem putF_zip : ∀ {ns : List Str} {vs : List V} {k : Nat} {f : Str} (v : V), ns.Nodup → ns[k]? = some f → k ≤ vs.length → putF f v (ns.zip vs) = ns.zip (putAt vs k v)
  | [], _, _, _, _, _, h, _ => by cases h
  | n :: ns, [], k, f, v, nd, h, hk => by
    have : k = 0 := by simpa using hk
    subst this
    cases h
    rw [putAt, List.zip_cons_cons, List.zip_nil_right, List.zip_nil_right]
    rfl
  | n :: ns, w :: vs, 0, f, v, nd, h, hk => by
    cases h
    rw [putAt, List.zip_cons_cons, List.zip_cons_cons]
    unfold putF
    rw [if_pos rfl]
  | n :: ns, w :: vs, k + 1, f, v, nd, h, hk => by
    have nd' := List.nodup_cons.mp nd
    have hne : n ≠ f := fun e => nd'.1 (e ▸ List.mem_of_getElem? (show ns[k]? = some f from h))
    rw [putAt, List.zip_cons_cons, List.zip_cons_cons, ← putF_zip v nd'.2 (show ns[k]? = some f from h) (by simpa using hk)]
    show (if n = f then _ else _) = _
    rw [if_neg hne]
theorem putAt_len : ∀ {vs : List V} {k n : Nat} {v : V}, k < n → vs.length ≤ n → k ≤ vs.length → (putAt vs k v).length ≤ n
  | [], k, n, v, h, _, _ => by simp only [putAt, List.length_singleton]; omega
  | w :: vs, 0, n, v, h, g, _ => by simpa [putAt] using g
  | w :: vs, k + 1, n, v, h, g, q => by
    simp only [putAt, List.length_cons] at g q ⊢
    have := putAt_len (vs := vs) (k := k) (n := n - 1) (v := v) (by omega) (by omega) (by omega)
    omega
/-- what keeps a wish -/
def TMono (t : TE) : Prop := ∀ σ H (Q Q' : VK), (∀ v H1, Q v H1 → Q' v H1) → t σ H Q → t σ H Q'
theorem mono_var {i : Nat} : TMono (tVar i) := fun σ H Q Q' h g => by
  obtain ⟨v, e, q⟩ := g
  exact ⟨v, e, h _ _ q⟩
/-- e.f -/
def tFldC (C : Addr) (ns : List Str) (ta : TE) (k : Nat) : TE := fun σ H Q => ta σ H fun x H1 => ∃ a vs v, x = .ref a ∧ InsL C ns H1 a vs ∧ vs[k]? = some v ∧ Q v H1
theorem mono_fld {C : Addr} {ns : List Str} {ta : TE} {k : Nat} (m : TMono ta) : TMono (tFldC C ns ta k) := fun σ H Q Q' h g =>
  m σ H _ _ (fun v H1 ⟨a, vs, w, e, i, l, q⟩ => ⟨a, vs, w, e, i, l, h _ _ q⟩) g
/-- e.f = value -/
def sFldC (C : Addr) (ns : List Str) (ta tv : TE) (k : Nat) : TS := fun D σ H => tv σ H fun y H1 => ta σ H1 fun x H2 => ∃ a vs, x = .ref a ∧ InsL C ns H2 a vs ∧ k ≤ vs.length ∧ ∀ H3, (∀ b, b ≠ a → H3 b = H2 b) → InsL C ns H3 a (putAt vs k y) → D.nx σ H3
/-- e.f op= value -/
def sAugC (C : Addr) (ns : List Str) (ta tv : TE) (rd : V → V → Hp → VK → Prop) (k : Nat) : TS := fun D σ H => ta σ H fun x H1 => ∃ a vs v, x = .ref a ∧ InsL C ns H1 a vs ∧ vs[k]? = some v ∧
  tv σ H1 fun y H2 => rd v y H2 fun z H3 => ∃ ws, InsL C ns H3 a ws ∧ k ≤ ws.length ∧ ∀ H4, (∀ b, b ≠ a → H4 b = H3 b) → InsL C ns H4 a (putAt ws k z) → D.nx σ H4
section
variable {X : Cx} {o e value : Expr} {f : Str} {pos pos' tpos : Pos} {ta tv : TE} {C : Addr} {ns : List Str} {k : Nat}
theorem pe_fldC (oc : OCls X.K C ns) (he : PE X e ta) (hk : ns[k]? = some f) (hb : attributeBase e f X.env (eval e X.env) = eval e X.env := by rfl) : PE X (.Attribute e f pos) (tFldC C ns ta k) := by
  refine ⟨fun pins s σ H Q I h => attr_of hb (thn (he.run pins s σ H _ I h) fun u s1 ⟨x, H1, I1, rx, g⟩ => ?_)⟩
  obtain ⟨a, vs, v, ex, ⟨dx, ea, _⟩, l, q⟩ := g
  subst ex
  cases (show u = Value.ref a from rx)
  exact getattr_ok I1 ea oc.cl (oc.no f (List.mem_of_getElem? hk)) (lk_zip oc.nd hk l) fun u' s2 I2 ru => ⟨v, H1, I2, ru, q⟩
theorem ps_fldC (oc : OCls X.K C ns) (ha : PE X o ta) (hv : PE X value tv) (hk : ns[k]? = some f) (hs : swapsWith value (some (.Attribute o f pos')) pos.line X.env = pure false := by rfl) : PS X (.Assign [.Attribute o f pos'] value pos) (sFldC C ns ta tv k) := by
  refine ⟨fun pins s σ H D I h => plainObj_wpAny_Assign_Attribute (thn (hv.run pins s σ H _ I h) fun u s1 ⟨y, H1, I1, ry, g⟩ => thn (ha.run pins s1 σ H1 _ I1 g) fun ov s2 ⟨x, H2, I2, rx, g2⟩ => ?_) hs⟩
  obtain ⟨a, vs, ex, ⟨dx, ea, hl⟩, kl, g3⟩ := g2
  subst ex
  cases (show ov = Value.ref a from rx)
  have kn : k < ns.length := (List.getElem?_eq_some_iff.mp hk).1
  refine setattr_ok I2 ea oc.cl (oc.no f (List.mem_of_getElem? hk)) (by rw [List.length_zip]; have := oc.few; omega) ry fun s3 I3 => ⟨σ, _, I3, g3 _ (fun b nb => upd_ne nb) ⟨dx, ?_, putAt_len kn hl kl⟩⟩
  rw [upd_same, putF_zip y oc.nd hk kl]
theorem ps_augC {op : Operator} {rd : V → V → Hp → VK → Prop} (oc : OCls X.K C ns) (ha : PE X o ta) (hv : PE X value tv) (hop : InOp X op rd) (hk : ns[k]? = some f) : PS X (.AugAssign (.Attribute o f tpos) op value pos) (sAugC C ns ta tv rd k) := by
  refine ⟨fun pins s σ H D I h => wpAny_AugAssign_AttributeAny (thn (ha.run pins s σ H _ I h) fun ov s1 ⟨x, H1, I1, rx, g⟩ => ?_)⟩
  obtain ⟨a, vs, v, ex, ⟨dx, ea, hl⟩, l, g2⟩ := g
  subst ex
  cases (show ov = Value.ref a from rx)
  have kn : k < ns.length := (List.getElem?_eq_some_iff.mp hk).1
  refine getattr_ok I1 ea oc.cl (oc.no f (List.mem_of_getElem? hk)) (lk_zip oc.nd hk l) fun u s2 I2 ru => thn (hv.run pins s2 σ H1 _ I2 g2) fun w3 s3 ⟨y, H2, I3, ry, q3⟩ => thn (hop pins s3 σ H2 v y u w3 _ I3 ru ry q3) fun w4 s4 ⟨z, H3, I4, rz, g4⟩ => ?_
  obtain ⟨ws, ⟨dx', ea', hl'⟩, kl, g5⟩ := g4
  refine setattr_ok I4 ea' oc.cl (oc.no f (List.mem_of_getElem? hk)) (by rw [List.length_zip]; have := oc.few; omega) rz fun s5 I5 => ⟨σ, _, I5, g5 _ (fun b nb => upd_ne nb) ⟨dx', ?_, putAt_len kn hl' kl⟩⟩
  rw [upd_same, putF_zip z oc.nd hk kl]
theorem in_or : InOp X .BitOr (rI0 fun i j => .int (Builtin.bitOr i j)) := fun pins s σ H x y u v Q I rx ry h => iop_or pins s σ H x y u v Q I rx ry h
/-- a reading may be asked more of -/
theorem PE_imp {t t' : TE} (p : PE X e t) (h : ∀ σ H Q, t' σ H Q → t σ H Q) : PE X e t' := ⟨fun pins s σ H Q I g => p.run pins s σ H Q I (h _ _ _ g)⟩
end
/-! ### methods -/
structure MetC (P : Program) (w : World) (K : PySem.W.Frag) (mg : Str → Option Value) (base : Heap) (k : Nat) (C : Addr) (m : Str) (sp : Sp) : Prop where
  ex : ∃ (f : Addr) (fd : FuncData) (ps : List Str), FnOk P w K mg base CX0 k f fd ps sp ∧ Meth K C m f ∧ Binds K fd ps []
/-- a method's def, under its class -/
structure Mdf (K : PySem.W.Frag) (C : Addr) (m q : Str) (st : Stmt) (ps : List Str) : Prop where
  ex : ∃ (f : Addr) (fd : FuncData), Fun K m q st f fd ∧ Meth K C m f ∧ Binds K fd ps []
section
variable {P : Program} {w : World} {K : PySem.W.Frag} {mg : Str → Option Value} {base : Heap}
theorem met_of {C : Addr} {m q : Str} {st : Stmt} {N ps : List Str} {k : Nat} {sp : Sp} (D : Mdf K C m q st ps) (Sc : FnScope N ps (defScope st)) (len : ∀ vs H Q E, sp vs H Q E → vs.length = ps.length)
    (body : ∀ (f : Addr) (cdv : Value) (A : Around) (outer : List Env) (s : Shared) (H : Hp) (vs : List V) (Q : VK) (E : XK), Room k (A.deeper (envOfC q (defScope st) s.heap.objs.size f cdv)) → sp vs H Q E →
      ∃ t, PSs (cxOf CX0 P w K mg base N q (defScope st) f cdv A outer s H E).nox (defBody st) t ∧ t { nx := fun _ H' => Q .non H', rt := Q } (start N vs) H) : MetC P w K mg base (k + 1) C m sp := by
  obtain ⟨f, fd, F, m, b⟩ := D.ex
  exact ⟨f, fd, ps, F.ok Sc len (fun cdv A outer s H vs Q E hr h => body f cdv A outer s H vs Q E hr h), m, b⟩
/-- a class as the top has it -/
structure ClsM (K : PySem.W.Frag) (mg : Str → Option Value) (C : Addr) (x : Str) : Prop where
  gl : mg x = some (.ref C)
  ma : PySem.W.makesIn K C = true
  kp : PySem.W.keepIn K (.ref C) = true
theorem MetC.mono {k j : Nat} {C : Addr} {m : Str} {sp : Sp} (c : MetC P w K mg base k C m sp) (h : k ≤ j) : MetC P w K mg base j C m sp := by
  obtain ⟨f, fd, ps, F, r⟩ := c.ex
  exact ⟨f, fd, ps, F.mono h, r⟩
end
def tMetC (C : Addr) (ns : List Str) (sp : Sp) (ta : TE) (t : TA) : TE := fun σ H Q => ta σ H fun x H1 => ∃ a vs, x = .ref a ∧ InsL C ns H1 a vs ∧ t σ H1 fun ws H2 => sp (x :: ws) H2 Q E0
def AMono (t : TA) : Prop := ∀ σ H (Q Q' : List V → Hp → Prop), (∀ v H1, Q v H1 → Q' v H1) → t σ H Q → t σ H Q'
section
variable {X : Cx} {k j : Nat} {C : Addr} {ns : List Str} {m : Str} {sp : Sp} {o e : Expr} {es : List Expr} {ta : TE} {t : TA} {pos apos : Pos}
theorem pm {pl : Sem Bool} (c : MetC X.prog X.w X.K X.mg X.base k C m sp) (oc : OCls X.K C ns) (hm : m ∉ ns) (mo : TMono ta) (hr : Room j X.A) (hk : k ≤ j) (he : PE X o ta) (ha : PA X (e :: es) t)
    (hst : starEach (e :: es) X.env = (false, eval e X.env) :: starEach es X.env := by rfl) (hpl : (backTo pos (starEach es X.env)).any (·.1) = false := by rfl)
    (ht : eval (.Call (.Attribute o m apos) (e :: es) [] pos) X.env = (do
      let ov ← eval o X.env
      standAt apos.atName
      let (g, fst) ← holding [ov] (getMethod ov m pl)
      callWith pos g fst (backTo pos (starEach (e :: es) X.env)) (backToKw pos (keywordEach [] X.env))) := by rfl) :
    PE X (.Call (.Attribute o m apos) (e :: es) [] pos) (tMetC C ns sp ta t) := by
  obtain ⟨f, fd, ps, F, M, b⟩ := c.ex
  refine PE_imp (pe_meth (t := fun σ H Q => t σ H Q) he oc.cl M (F.mono hk) hr b .nil pass0 ha hst hpl ht) fun σ H Q h => ?_
  refine mo σ H _ _ (fun x H1 ⟨a, vs, ex, ⟨dx, ea, _⟩, g⟩ => ⟨a, dx, _, ex, ea, lk_none hm, ?_⟩) h
  simp only [List.append_nil]
  exact g
theorem pm0 {pl : Sem Bool} (c : MetC X.prog X.w X.K X.mg X.base k C m sp) (oc : OCls X.K C ns) (hm : m ∉ ns) (mo : TMono ta) (hr : Room j X.A) (hk : k ≤ j) (he : PE X o ta)
    (ht : eval (.Call (.Attribute o m apos) [] [] pos) X.env = (do
      let ov ← eval o X.env
      standAt apos.atName
      let (g, fst) ← holding [ov] (getMethod ov m pl)
      callWith pos g fst (backTo pos (starEach [] X.env)) (backToKw pos (keywordEach [] X.env))) := by rfl) :
    PE X (.Call (.Attribute o m apos) [] [] pos) (tMetC C ns sp ta tNil) := by
  obtain ⟨f, fd, ps, F, M, b⟩ := c.ex
  refine PE_imp (pe_meth0 he oc.cl M (F.mono hk) hr b .nil pass0 ht) fun σ H Q h => ?_
  exact mo σ H _ _ (fun x H1 ⟨a, vs, ex, ⟨dx, ea, _⟩, g⟩ => ⟨a, dx, _, ex, ea, lk_none hm, g⟩) h
end
/-! ### new objects -/
structure MakC (P : Program) (w : World) (K : PySem.W.Frag) (mg : Str → Option Value) (base : Heap) (k : Nat) (C : Addr) (x : Str) (sp : Sp) : Prop where
  ex : ∃ (f : Addr) (fd : FuncData) (ps : List Str), FnOk P w K mg base CX0 k f fd ps sp ∧ L2.Mk K C f ∧ mg x = some (.ref C) ∧ Binds K fd ps []
theorem MakC.mono {P : Program} {w : World} {K : PySem.W.Frag} {mg : Str → Option Value} {base : Heap} {k j : Nat} {C : Addr} {x : Str} {sp : Sp} (c : MakC P w K mg base k C x sp) (h : k ≤ j) : MakC P w K mg base j C x sp := by
  obtain ⟨f, fd, ps, F, r⟩ := c.ex
  exact ⟨f, fd, ps, F.mono h, r⟩
theorem mak_of {P : Program} {w : World} {K : PySem.W.Frag} {mg : Str → Option Value} {base : Heap} {k : Nat} {C : Addr} {x : Str} {sp : Sp} (c : ClsM K mg C x) (m : MetC P w K mg base k C "__init__" sp) : MakC P w K mg base k C x sp := by
  obtain ⟨f, fd, ps, F, M, b⟩ := m.ex
  exact ⟨f, fd, ps, F, ⟨c.ma, M.at_, M.fn, c.kp⟩, c.gl, b⟩
/-- an __init__'s promise: the new object is empty yet, its result is None -/
def tMakC (C : Addr) (ns : List Str) (sp : Sp) (t : TA) : TE := fun σ H Q => t σ H fun vs H1 => ∀ x H2, H1 x = none → (∀ b o, H1 b = some o → H2 b = some o) → InsL C ns H2 x [] → sp (.ref x :: vs) H2 (fun v H3 => v = .non ∧ Q (.ref x) H3) E0
section
variable {X : Cx} {k j : Nat} {C : Addr} {ns : List Str} {sp : Sp} {x : Str} {e : Expr} {es : List Expr} {t : TA} {p pos : Pos}
theorem pmk (c : MakC X.prog X.w X.K X.mg X.base k C x sp) (hr : Room j X.A) (hk : k + 1 ≤ j) (hg : Gl X x) (ha : PA X (e :: es) t)
    (hdb : (x == ("__debug__" : Str)) = false := by decide) (he : starEach (e :: es) X.env = (false, eval e X.env) :: starEach es X.env := by rfl) (hpl : (backTo pos (starEach es X.env)).any (·.1) = false := by rfl) :
    PE X (.Call (.Name x p) (e :: es) [] pos) (tMakC C ns sp t) := by
  obtain ⟨f, fd, ps, F, M, hm, b⟩ := c.ex
  refine ⟨fun pins s σ H Q I h => wpAny_Call_Name_kw (ld_glob I hg hm ?_ hdb)⟩
  refine PySem.W.callWith_K (h₀ := X.base) I.ok.mod.kin M.kp (thn (ha.run pos pins s σ H _ I h) fun us s1 ⟨vs, H1, I1, r, g⟩ => ⟨I1.kIn, ?_⟩) he hpl
  refine run_make M F (hr.mono hk) b .nil pass0 I1 r fun z dx hz hd ne => ?_
  have g := g z (upd (upd H1 dx (.own z)) z (.ins C dx [])) hz (fun b o q => ?_) ⟨dx, by rw [upd_same, List.zip_nil_right], Nat.zero_le _⟩
  · simpa using g
  · rw [upd_ne (ne_of_none q hz), upd_ne (ne_of_none q hd)]
    exact q
theorem amono_nil : AMono tNil := fun σ H Q Q' h g => h _ _ g
theorem amono_cons {te : TE} {t : TA} (a : TMono te) (b : AMono t) : AMono (tCons te t) := fun σ H Q Q' h g =>
  a σ H _ _ (fun v H1 q => b σ H1 _ _ (fun vs H2 z => h _ _ z) q) g
end
end Pd

namespace Pd
open PySem PySem.Spec PyProof.Rows L2
open SX (S)
/-! ### a list's item, for o[i] op= v -/
section
variable {X : Cx}
def rIxP (K : PySem.W.Frag) : V → V → Hp → VK → Prop := fun x y H Q => ∃ (p : Addr) (xs : List V) (i : Nat) (v : V), x = .ref p ∧ y = .int (i : Nat) ∧ SqL K H p xs ∧ xs[i]? = some v ∧ Q v H
theorem get_list : PGet X (rIxP X.K) := by
  intro pins s σ H o i ov iv Q I ro ri h
  obtain ⟨p, xs, k, z, rfl, rfl, hq, he, q⟩ := h
  cases ro
  obtain ⟨t, rfl⟩ := ri
  obtain ⟨its, r, pl, hz⟩ := I.list hq
  obtain ⟨w, ew, rw'⟩ := r.get he
  have hl := r.length
  have hn := line63
  have hk := (List.getElem?_eq_some_iff.mp he).1
  exact wpAny_getItem_list pl.isList (by omega) (by omega) (by simpa using ew) ⟨z, H, I, rw', q⟩
/-! ### masks -/
theorem OpR_imp {f : Value → Value → Sem Value} {r r' : R2} (o : OpR X f r) (h : ∀ x y H Q, r' x y H Q → r x y H Q) : OpR X f r' := fun pins s σ H x y v u Q I rx ry g => o pins s σ H x y v u Q I rx ry (h _ _ _ _ g)
def rN (g : Nat → Nat → Nat) : R2 := fun x y H Q => ∃ i j : Nat, x = .int (i : Nat) ∧ y = .int (j : Nat) ∧ Q (.int ((g i j : Nat) : Int)) H
theorem bor_nat (i j : Nat) : Builtin.bitOr (i : Int) (j : Int) = ((i ||| j : Nat) : Int) := by
  rw [bitOr_nn (by omega) (by omega)]
  simp
theorem band_nat (i j : Nat) : Builtin.bitAnd (i : Int) (j : Int) = ((i &&& j : Nat) : Int) := by
  rw [bitAnd_pp (by omega) (by omega)]
  simp
theorem bxor_nat (i j : Nat) : Builtin.bitXor (i : Int) (j : Int) = ((i ^^^ j : Nat) : Int) := by
  rw [Bits.bitXor_pp (by omega) (by omega)]
  simp
theorem op_orN : OpR X (binaryOp .BitOr) (rN (· ||| ·)) := OpR_imp op_or fun x y H Q ⟨i, j, h1, h2, q⟩ => ⟨i, j, h1, h2, by show Q (.int (Builtin.bitOr _ _)) H; rw [bor_nat]; exact q⟩
theorem op_andN : OpR X (binaryOp .BitAnd) (rN (· &&& ·)) := OpR_imp op_and fun x y H Q ⟨i, j, h1, h2, q⟩ => ⟨i, j, h1, h2, by show Q (.int (Builtin.bitAnd _ _)) H; rw [band_nat]; exact q⟩
theorem iop_orN : OpR X (inplaceOp .BitOr) (rN (· ||| ·)) := OpR_imp iop_or fun x y H Q ⟨i, j, h1, h2, q⟩ => ⟨i, j, h1, h2, by show Q (.int (Builtin.bitOr _ _)) H; rw [bor_nat]; exact q⟩
theorem iop_xorN : OpR X (inplaceOp .BitXor) (rN (· ^^^ ·)) := OpR_imp iop_xor fun x y H Q ⟨i, j, h1, h2, q⟩ => ⟨i, j, h1, h2, by show Q (.int (Builtin.bitXor _ _)) H; rw [bxor_nat]; exact q⟩
theorem in_orN : InOp X .BitOr (rN (· ||| ·)) := fun pins s σ H x y u v Q I rx ry h => iop_orN pins s σ H x y u v Q I rx ry h
theorem ip_orN : PIp X .BitOr (rN (· ||| ·)) := fun pins s σ H x y u v Q I rx ry h => iop_orN pins s σ H x y u v Q I rx ry h
theorem op_bit : OpR X (binaryOp .LShift) (fun x y H Q => ∃ k : Nat, x = .int 1 ∧ y = .int (k : Nat) ∧ k ≤ 100000000 ∧ Q (.int ((1 <<< k : Nat) : Int)) H) := OpR_imp op_oneShl fun x y H Q ⟨k, h1, h2, h3, q⟩ => ⟨k, h1, h2, by omega, by
  rw [show (2 : Int) ^ k = ((1 <<< k : Nat) : Int) by rw [Nat.one_shiftLeft]; simp]
  exact q⟩
end
theorem tru_nat {K : PySem.W.Frag} {n : Nat} {H : Hp} {k : Bool} : TruV K (.int (n : Nat)) H k = (k = decide (n ≠ 0)) := by
  show (k = ((n : Int) != 0)) = _
  have e : ((n : Int) != 0) = decide (n ≠ 0) := by
    by_cases h : n = 0
    · subst h; rfl
    · rw [decide_eq_true h]
      simp [h]
  rw [e]
/-- a tuple's names, how many they are being said -/
theorem pg_tupK {X : Cx} {K0 : PySem.W.Frag} {es : List Expr} {k : Nat} {t : TGs} {pos : Pos} {n : Nat} (h : X.K = K0) (hc : X.calm = true) (hg : PGs X es t)
    (hn : (assignEach es X.env).length = n := by rfl) (hst : (assignEach es X.env).findIdx? (·.1) = none := by rfl) : PG X (.Tuple es k pos) (gTup K0 n t) := by
  subst h
  exact pg_tup hc hg hn hst
/-! ### what stays -/
/-- not a tuple -/
def noTup : HO → Bool
  | .tup _ => false
  | .frz _ (.tup _) => false
  | _ => true
structure Fr (A : List Addr) (H H' : Hp) : Prop where
  keep : ∀ b o, H b = some o → b ∉ A → H' b = some o
  tup : ∀ b xs, Rd H b (.tup xs) → Rd H' b (.tup xs)
theorem Fr.refl {A : List Addr} {H : Hp} : Fr A H H := ⟨fun _ _ h _ => h, fun _ _ h => h⟩
theorem Fr.trans {A : List Addr} {H H1 H2 : Hp} (a : Fr A H H1) (b : Fr A H1 H2) : Fr A H H2 := ⟨fun c o h n => b.keep c o (a.keep c o h n) n, fun c xs h => b.tup c xs (a.tup c xs h)⟩
theorem Fr.mono {A B : List Addr} {H H1 : Hp} (a : Fr A H H1) (h : ∀ x ∈ A, x ∈ B) : Fr B H H1 := ⟨fun c o e n => a.keep c o e fun z => n (h _ z), a.tup⟩
theorem Fr.of {A : List Addr} {H H1 : Hp} (s : Same H H1) : Fr A H H1 := ⟨fun c o e _ => s c o e, fun c xs h => h.elim (fun e => .inl (s _ _ e)) fun ⟨o, e⟩ => .inr ⟨o, s _ _ e⟩⟩
theorem Fr.same {A : List Addr} {H H1 H2 : Hp} (a : Fr A H H1) (s : Same H1 H2) : Fr A H H2 := a.trans (.of s)
theorem Fr.put {A : List Addr} {H H1 H2 : Hp} {p : Addr} {o : HO} (a : Fr A H H1) (hp : p ∈ A ∨ H p = none) (e : H1 p = some o) (n : noTup o = true) (s : ∀ b, b ≠ p → H2 b = H1 b) : Fr A H H2 := by
  refine ⟨fun b u h nb => ?_, fun b xs h => ?_⟩
  · have : b ≠ p := fun z => by
      subst z
      rcases hp with hp | hp
      · exact nb hp
      · rw [hp] at h; cases h
    rw [s b this]
    exact a.keep b u h nb
  · have g := a.tup b xs h
    have : b ≠ p := fun z => by
      subst z
      rcases g with g | ⟨u, g⟩
      · rw [e] at g; cases g; cases n
      · rw [e] at g; cases g; cases n
    rcases g with g | ⟨u, g⟩
    · exact .inl (by rw [s b this]; exact g)
    · exact .inr ⟨u, by rw [s b this]; exact g⟩
theorem Fr.upd {A : List Addr} {H H1 : Hp} {p : Addr} {o u : HO} (a : Fr A H H1) (hp : p ∈ A ∨ H p = none) (e : H1 p = some o) (n : noTup o = true) : Fr A H (upd H1 p u) := a.put hp e n fun b nb => upd_ne nb
theorem Fr.sqT {A : List Addr} {H H1 : Hp} {K : PySem.W.Frag} {b : Addr} {xs : List V} (a : Fr A H H1) (h : SqT K H b xs) : SqT K H1 b xs := h.elim (fun z => .inl (a.tup _ _ z)) .inr
mutual
theorem dp_fr {K : PySem.W.Frag} {A : List Addr} {H H1 : Hp} (a : Fr A H H1) : ∀ (d : PyData) (v : V), noL d = true → Dp K H v d → Dp K H1 v d
  | .none, _, _, h => by cases h; exact .non
  | .bool _, _, _, h => by cases h; exact .bl _
  | .int _, _, _, h => by cases h; exact .int _
  | .str _, _, _, h => by cases h; exact .str _
  | .list ds, _, n, h => by simp [noL] at n
  | .tuple ds, _, n, h => by
    cases h with
    | tup hs ha => exact .tup (a.sqT hs) (dp_frAll a ds _ (by simpa [noL] using n) ha)
  | .dict _, _, _, h => by cases h
theorem dp_frAll {K : PySem.W.Frag} {A : List Addr} {H H1 : Hp} (a : Fr A H H1) : ∀ (ds : List PyData) (vs : List V), noLs ds = true → DpAll K H vs ds → DpAll K H1 vs ds
  | [], _, _, h => by cases h; exact .nil
  | d :: ds, _, n, h => by
    cases h with
    | cons h hs =>
      have n : (noL d && noLs ds) = true := n
      rw [Bool.and_eq_true] at n
      exact .cons (dp_fr a d _ n.1 h) (dp_frAll a ds _ n.2 hs)
end
theorem insL_fr {A : List Addr} {H H1 : Hp} {C q : Addr} {ns : List Str} {vs : List V} (a : Fr A H H1) (h : InsL C ns H q vs) (n : q ∉ A) : InsL C ns H1 q vs := let ⟨dx, e, l⟩ := h; ⟨dx, a.keep _ _ e n, l⟩
theorem insL_ne {H : Hp} {C q l : Addr} {ns : List Str} {vs xs : List V} (h : InsL C ns H q vs) (e : H l = some (.lst xs)) : q ≠ l := fun z => by
  obtain ⟨dx, g, _⟩ := h
  subst z
  rw [e] at g
  cases g
theorem insL_new {H : Hp} {C q l : Addr} {ns : List Str} {vs : List V} (h : InsL C ns H q vs) (e : H l = none) : q ≠ l := fun z => by
  obtain ⟨dx, g, _⟩ := h
  subst z
  rw [e] at g
  cases g
theorem insL_s {H H1 : Hp} {C q : Addr} {ns : List Str} {vs : List V} (s : Same H H1) (h : InsL C ns H q vs) : InsL C ns H1 q vs := let ⟨dx, e, l⟩ := h; ⟨dx, s _ _ e, l⟩
theorem insL_at {H H1 : Hp} {C q : Addr} {ns : List Str} {vs : List V} (h : InsL C ns H q vs) (e : H1 q = H q) : InsL C ns H1 q vs := let ⟨dx, g, l⟩ := h; ⟨dx, e.trans g, l⟩
theorem insL_some {H : Hp} {C q : Addr} {ns : List Str} {vs : List V} (h : InsL C ns H q vs) : ∃ o, H q = some o ∧ noTup o = true := let ⟨dx, g, _⟩ := h; ⟨_, g, rfl⟩
/-! ### patterns as data -/
def optN : Option Nat → PyData
  | none => .none
  | some x => .int (x : Nat)
def optNV : Option Nat → V
  | none => .non
  | some x => .int (x : Nat)
theorem optN_I {K : PySem.W.Frag} {H : Hp} {v : V} {m : Option Nat} (h : Dp K H v (optN m)) : v = optNV m := by
  cases m <;> cases h <;> rfl
mutual
def patD : Pat → PyData
  | .any => .tuple [.str (S [97, 110, 121])]
  | .sign c => .tuple [.str (S [115, 105, 103, 110]), .str (S [c])]
  | .cls cs => .tuple [.str (S [99, 108, 97, 115, 115]), .str (S cs)]
  | .bg => .tuple [.str (S [98, 101, 103, 105, 110])]
  | .en => .tuple [.str (S [101, 110, 100])]
  | .row ps => .tuple [.str (S [114, 111, 119]), .tuple (patDs ps)]
  | .alt ps => .tuple [.str (S [111, 114]), .tuple (patDs ps)]
  | .rep p l m => .tuple [.str (S [114, 101, 112, 101, 97, 116]), patD p, .int (l : Nat), optN m]
def patDs : List Pat → List PyData
  | [] => []
  | p :: ps => patD p :: patDs ps
end
mutual
theorem noL_pat : ∀ p : Pat, noL (patD p) = true
  | .any => by simp [patD, noL, noLs]
  | .sign c => by simp [patD, noL, noLs]
  | .cls cs => by simp [patD, noL, noLs]
  | .bg => by simp [patD, noL, noLs]
  | .en => by simp [patD, noL, noLs]
  | .row ps => by simp [patD, noL, noLs, noL_pats ps]
  | .alt ps => by simp [patD, noL, noLs, noL_pats ps]
  | .rep p l m => by cases m <;> simp [patD, optN, noL, noLs, noL_pat p]
theorem noL_pats : ∀ ps : List Pat, noLs (patDs ps) = true
  | [] => rfl
  | p :: ps => by simp [patDs, noLs, noL_pat p, noL_pats ps]
end
mutual
/-- how many positions it has -/
def Pat.n : Pat → Nat
  | .any => 1
  | .sign _ => 1
  | .cls _ => 1
  | .bg => 0
  | .en => 0
  | .row ps => nL ps
  | .alt ps => nL ps
  | .rep p l m => copiesOf l m * p.n
def nL : List Pat → Nat
  | [] => 0
  | p :: ps => p.n + nL ps
end
mutual
/-- how deep it is -/
def Pat.d : Pat → Nat
  | .row ps => dLs ps + 1
  | .alt ps => dLs ps + 1
  | .rep p _ _ => p.d + 1
  | _ => 0
def dLs : List Pat → Nat
  | [] => 0
  | p :: ps => max p.d (dLs ps)
end
/-! ### sizes of what is built -/
structure Sz (a a' : Aut) (e : Edg) (n : Nat) : Prop where
  e0 : a.se.length = a.fo.length
  e1 : a'.se.length = a'.fo.length
  fo : a'.fo.length = a.fo.length + n
  la : e.la.length ≤ n
  en : e.en.length ≤ n
  li : ∀ q ∈ e.la, q < a'.fo.length
end Pd

namespace Pd
open PySem PySem.Spec PyProof.Rows L2
open SX (S)
def nsE : List Str := ["null", "first", "begun", "last", "ended"]
def nsA : List Str := ["sets", "follow", "masks", "behind", "leading", "null", "first", "begun", "last", "ended"]
def nsS : List Str := ["automaton", "stretch", "threads"]
def iL (ns : List Nat) : List V := ns.map fun n => .int (n : Nat)
def tL (ns : List (List Nat)) : List V := ns.map fun n => .str (S n)
section
variable {P : Program} {w : World} {K : PySem.W.Frag} {mg : Str → Option Value} {base : Heap} {CE CA CS : Addr}
/-! ### Edges -/
def sp_einit (CE : Addr) : Sp := fun vs H Q _ => ∃ x v1 v2 v3 v4 v5, vs = [.ref x, v1, v2, v3, v4, v5] ∧ InsL CE nsE H x [] ∧ ∀ H', (∀ b, b ≠ x → H' b = H b) → InsL CE nsE H' x [v1, v2, v3, v4, v5] → Q .non H'
theorem scEdges_init : FnScope ["self", "null", "first", "begun", "last", "ended"] ["self", "null", "first", "begun", "last", "ended"] (defScope (inClass (topS 9) 0)) := ⟨rfl, rfl, rfl, by decide +kernel, rfl, by decide +kernel, by decide +kernel⟩
theorem ok_einit (o_Edges : OCls K CE nsE) (D : Mdf K CE "__init__" "Edges.__init__" (inClass (topS 9) 0) ["self", "null", "first", "begun", "last", "ended"]) : MetC P w K mg base 1 CE "__init__" (sp_einit CE) := by
  refine met_of D scEdges_init (fun vs H Q E h => ?_) (fun f cdv A outer s H vs Q E hr h => ?_)
  · obtain ⟨x, v1, v2, v3, v4, v5, rfl, _⟩ := h
    rfl
  obtain ⟨x, v1, v2, v3, v4, v5, rfl, hx, q⟩ := h
  refine ⟨_, (pss_cons (ps_fldC (k := 0) o_Edges (pv 0) (pv 1) rfl)
      (pss_cons (ps_fldC (k := 1) o_Edges (pv 0) (pv 2) rfl)
      (pss_cons (ps_fldC (k := 2) o_Edges (pv 0) (pv 3) rfl)
      (pss_cons (ps_fldC (k := 3) o_Edges (pv 0) (pv 4) rfl)
      (pss_one (ps_fldC (k := 4) o_Edges (pv 0) (pv 5) rfl)))))), ?_⟩
  simp only [tSeq, tAsg, tCB, tCons, tVar, tNil, gName, tRet, tRetN, tDrop, tNext, tIfS, tTest, tB, tOr, tAnd, tNot, tIf, tOrV, tAndV, tNotV, tChain, rI0, rI, rU, tUn, tC, tOp, rNe, rEq, tCall, tPart, tNoPart, tSl, tM0, tM1, tTup, tLst, tAug, gTup, gCons, gNil, rAdd, rSub, tNever, tBreak, tCont, L2.start, scSS, scII, scBB, ipI, sS, dS, d1, mkS, sL, nc1, nc2, Int.natCast_inj, List.map_cons, List.map_nil, List.length_cons, List.length_nil, List.replicate, List.cons_append, List.nil_append, List.append_nil, List.getElem?_cons_zero, List.getElem?_cons_succ, List.set_cons_zero, List.set_cons_succ, Option.some.injEq, V.str.injEq, V.int.injEq, V.bl.injEq, V.ref.injEq, List.cons.injEq, and_true, true_and, exists_eq_left', exists_eq_left, exists_eq, exists_eq', exists_and_left, exists_and_right, and_assoc, exists_const, reduceCtorEq, if_true, if_false, ite_true, ite_false, Bool.false_eq_true, decide_true, decide_false, Bool.not_true, Bool.not_false, cxK, sFldC]
  refine ⟨_, hx, by decide, fun H1 s1 h1 => ⟨_, h1, Nat.le_refl 1, fun H2 s2 h2 => ⟨_, h2, Nat.le_refl 2, fun H3 s3 h3 => ⟨_, h3, Nat.le_refl 3, fun H4 s4 h4 => ⟨_, h4, Nat.le_refl 4, fun H5 s5 h5 => q H5 (fun b nb => ?_) h5⟩⟩⟩⟩⟩
  rw [s5 b nb, s4 b nb, s3 b nb, s2 b nb, s1 b nb]
/-- an Edges object -/
structure EdB (CE : Addr) (N : List Addr) (H : Hp) (q : Addr) (e : Edg) : Prop where
  ex : ∃ la en : Addr, InsL CE nsE H q [.int (e.nu : Nat), .int (e.fi : Nat), .int (e.bg : Nat), .ref la, .ref en] ∧ H la = some (.lst (iL e.la)) ∧ H en = some (.lst (iL e.en)) ∧ la ∉ N ∧ en ∉ N
theorem EdB.fr {A N : List Addr} {H H1 : Hp} {q : Addr} {e : Edg} (h : EdB CE N H q e) (f : Fr A H H1) (hA : ∀ x ∈ A, x ∈ N) (n : q ∉ A) : EdB CE N H1 q e := by
  obtain ⟨la, en, h1, h2, h3, h4, h5⟩ := h.ex
  exact ⟨la, en, insL_fr f h1 n, f.keep _ _ h2 fun z => h4 (hA _ z), f.keep _ _ h3 fun z => h5 (hA _ z), h4, h5⟩
theorem EdB.less {N N' : List Addr} {H : Hp} {q : Addr} {e : Edg} (h : EdB CE N H q e) (k : ∀ x ∈ N', x ∈ N) : EdB CE N' H q e := by
  obtain ⟨la, en, h1, h2, h3, h4, h5⟩ := h.ex
  exact ⟨la, en, h1, h2, h3, fun z => h4 (k _ z), fun z => h5 (k _ z)⟩
theorem EdB.at {N : List Addr} {H : Hp} {q : Addr} {e : Edg} (h : EdB CE N H q e) : ∃ vs, InsL CE nsE H q vs := by
  obtain ⟨la, en, h1, _⟩ := h.ex
  exact ⟨_, h1⟩
/-! ### lead -/
/-- the automaton while it is built -/
structure AuB (CA : Addr) (H : Hp) (p ls fo dm db : Addr) (a : Aut) : Prop where
  ob : InsL CA nsA H p [.ref ls, .ref fo, .ref dm, .ref db, .non]
  se : H ls = some (.lst (tL a.se))
  fl : H fo = some (.lst (iL a.fo))
  ne : ls ≠ fo
def sp_lead (K : PySem.W.Frag) (CA : Addr) : Sp := fun vs H Q _ => ∃ (p ls fo dm db : Addr) (a : Aut) (l : Addr) (ps : List Nat) (m : Nat), vs = [.ref p, .ref l, .int (m : Nat)] ∧ AuB CA H p ls fo dm db a ∧ H l = some (.lst (iL ps)) ∧ l ≠ fo ∧ (∀ x ∈ ps, x < a.fo.length) ∧
  ∀ H', Fr [fo] H H' → AuB CA H' p ls fo dm db ⟨a.se, leadL a.fo ps m⟩ → Q .non H'
theorem iL_get {ns : List Nat} {i n : Nat} (h : ns[i]? = some n) : (iL ns)[i]? = some (.int (n : Nat)) := by
  unfold iL
  rw [List.getElem?_map, h]
  rfl
theorem iL_len {ns : List Nat} : (iL ns).length = ns.length := List.length_map ..
theorem AuB.lead {H : Hp} {p ls fo dm db : Addr} {a : Aut} {f : List Nat} (h : AuB CA H p ls fo dm db a) : AuB CA (upd H fo (.lst (iL f))) p ls fo dm db ⟨a.se, f⟩ := by
  have np := insL_ne h.ob h.fl
  refine ⟨insL_at h.ob (upd_ne np), ?_, upd_same, h.ne⟩
  rw [upd_ne h.ne]
  exact h.se
theorem leadL_snoc {fo ps : List Nat} {z m : Nat} : leadL fo (ps ++ [z]) m = (leadL fo ps m).set z ((leadL fo ps m).getD z 0 ||| m) := by
  unfold leadL
  rw [List.foldl_append]
  rfl
theorem scAutomaton_lead : FnScope ["self", "positions", "mask", "position"] ["self", "positions", "mask"] (defScope (inClass (topS 10) 3)) := ⟨rfl, rfl, rfl, by decide +kernel, rfl, by decide +kernel, by decide +kernel⟩
theorem ok_lead (o_Automaton : OCls K CA nsA) (D : Mdf K CA "lead" "Automaton.lead" (inClass (topS 10) 3) ["self", "positions", "mask"]) : MetC P w K mg base 1 CA "lead" (sp_lead K CA) := by
  refine met_of D scAutomaton_lead (fun vs H Q E h => ?_) (fun f cdv A outer s H vs Q E hr h => ?_)
  · obtain ⟨p, ls, fo, dm, db, a, l, ps, m, rfl, _⟩ := h
    rfl
  obtain ⟨p, ls, fo, dm, db, a, l, ps, m, rfl, hA, hl, nl, hp, q⟩ := h
  refine ⟨_, (pss_one (ps_for PassesOwn.never rfl (pi_list (pv 1)) (pg_name (i := 3) scAutomaton_lead.nd rfl (Or.inl rfl)) (pss_one (ps_augS (pe_fldC (k := 1) o_Automaton (pv 0) rfl) (pv 3) get_list (pv 2) ip_orN set_list)))), ?_⟩
  simp only [tSeq, tAsg, tCB, tCons, tVar, tNil, gName, tRet, tRetN, tDrop, tNext, tIfS, tTest, tB, tOr, tAnd, tNot, tIf, tOrV, tAndV, tNotV, tChain, rI0, rI, rU, tUn, tC, tOp, rNe, rEq, tCall, tPart, tNoPart, tSl, tM0, tM1, tTup, tLst, tAug, gTup, gCons, gNil, rAdd, rSub, tNever, tBreak, tCont, L2.start, scSS, scII, scBB, ipI, sS, dS, d1, mkS, sL, nc1, nc2, Int.natCast_inj, List.map_cons, List.map_nil, List.length_cons, List.length_nil, List.replicate, List.cons_append, List.nil_append, List.append_nil, List.getElem?_cons_zero, List.getElem?_cons_succ, List.set_cons_zero, List.set_cons_succ, Option.some.injEq, V.str.injEq, V.int.injEq, V.bl.injEq, V.ref.injEq, List.cons.injEq, and_true, true_and, exists_eq_left', exists_eq_left, exists_eq, exists_eq', exists_and_left, exists_and_right, and_assoc, exists_const, reduceCtorEq, if_true, if_false, ite_true, ite_false, Bool.false_eq_true, decide_true, decide_false, Bool.not_true, Bool.not_false, cxK, eFoL, tFldC, tAugS, rIxP, rN, rSetL]
  obtain ⟨Pv, hPv⟩ : ∃ Pv : Nat → L2.St → Hp → Prop, ∀ i σ H', Pv i σ H' ↔ (∃ v3, σ = [some (.ref p), some (.ref l), some (.int (m : Nat)), v3] ∧ Fr [fo] H H' ∧ AuB CA H' p ls fo dm db ⟨a.se, leadL a.fo (ps.take i) m⟩) := ⟨_, fun _ _ _ => Iff.rfl⟩
  refine ⟨⟨_, SqL.of hl⟩, foL (iL ps) Pv ((hPv _ _ _).mpr ⟨_, rfl, Fr.refl, hA⟩) (fun i σ H' _ g => ?_) (fun i x σ H' hx g => ?_) (fun σ H' g => ?_)⟩
  · obtain ⟨_, rfl, f, _⟩ := (hPv _ _ _).mp g
    exact SqL.of (f.keep _ _ hl (by simpa using nl))
  · obtain ⟨_, rfl, f, k⟩ := (hPv _ _ _).mp g
    obtain ⟨z, hz, rfl⟩ : ∃ z, ps[i]? = some z ∧ x = .int (z : Nat) := by
      unfold iL at hx
      rw [List.getElem?_map] at hx
      obtain ⟨z, e, r⟩ := Option.map_eq_some_iff.mp hx
      exact ⟨z, e, r.symm⟩
    have hz1 : z < (leadL a.fo (ps.take i) m).length := by rw [leadL_length]; exact hp z (List.mem_of_getElem? hz)
    simp only [tSeq, tAsg, tCB, tCons, tVar, tNil, gName, tRet, tRetN, tDrop, tNext, tIfS, tTest, tB, tOr, tAnd, tNot, tIf, tOrV, tAndV, tNotV, tChain, rI0, rI, rU, tUn, tC, tOp, rNe, rEq, tCall, tPart, tNoPart, tSl, tM0, tM1, tTup, tLst, tAug, gTup, gCons, gNil, rAdd, rSub, tNever, tBreak, tCont, L2.start, scSS, scII, scBB, ipI, sS, dS, d1, mkS, sL, nc1, nc2, Int.natCast_inj, List.map_cons, List.map_nil, List.length_cons, List.length_nil, List.replicate, List.cons_append, List.nil_append, List.append_nil, List.getElem?_cons_zero, List.getElem?_cons_succ, List.set_cons_zero, List.set_cons_succ, Option.some.injEq, V.str.injEq, V.int.injEq, V.bl.injEq, V.ref.injEq, List.cons.injEq, and_true, true_and, exists_eq_left', exists_eq_left, exists_eq, exists_eq', exists_and_left, exists_and_right, and_assoc, exists_const, reduceCtorEq, if_true, if_false, ite_true, ite_false, Bool.false_eq_true, decide_true, decide_false, Bool.not_true, Bool.not_false, cxK, tFldC, tAugS, rIxP, rN, rSetL]
    refine ⟨_, k.ob, _, rfl, _, rfl, _, SqL.of k.fl, _, iL_get (List.getElem?_eq_getElem hz1), _, rfl, _, rfl, _, k.fl, z, ?_, ?_⟩
    · rw [iL_len]
      exact ixN_nat hz1
    · rw [hPv]
      refine ⟨_, rfl, f.upd (.inl (.head _)) k.fl rfl, ?_⟩
      have e : leadL a.fo (ps.take (i + 1)) m = (leadL a.fo (ps.take i) m).set z ((leadL a.fo (ps.take i) m)[z] ||| m) := by
        rw [List.take_add_one, hz]
        show leadL a.fo (ps.take i ++ [z]) m = _
        rw [leadL_snoc, List.getD_eq_getElem?_getD, List.getElem?_eq_getElem hz1]
        rfl
      rw [e]
      have := k.lead (f := (leadL a.fo (ps.take i) m).set z ((leadL a.fo (ps.take i) m)[z] ||| m))
      unfold iL at this ⊢
      rw [List.map_set] at this
      exact this
  · obtain ⟨_, rfl, f, k⟩ := (hPv _ _ _).mp g
    rw [iL_len, List.take_length] at k
    simp only [tSeq, tAsg, tCB, tCons, tVar, tNil, gName, tRet, tRetN, tDrop, tNext, tIfS, tTest, tB, tOr, tAnd, tNot, tIf, tOrV, tAndV, tNotV, tChain, rI0, rI, rU, tUn, tC, tOp, rNe, rEq, tCall, tPart, tNoPart, tSl, tM0, tM1, tTup, tLst, tAug, gTup, gCons, gNil, rAdd, rSub, tNever, tBreak, tCont, L2.start, scSS, scII, scBB, ipI, sS, dS, d1, mkS, sL, nc1, nc2, Int.natCast_inj, List.map_cons, List.map_nil, List.length_cons, List.length_nil, List.replicate, List.cons_append, List.nil_append, List.append_nil, List.getElem?_cons_zero, List.getElem?_cons_succ, List.set_cons_zero, List.set_cons_succ, Option.some.injEq, V.str.injEq, V.int.injEq, V.bl.injEq, V.ref.injEq, List.cons.injEq, and_true, true_and, exists_eq_left', exists_eq_left, exists_eq, exists_eq', exists_and_left, exists_and_right, and_assoc, exists_const, reduceCtorEq, if_true, if_false, ite_true, ite_false, Bool.false_eq_true, decide_true, decide_false, Bool.not_true, Bool.not_false, cxK]
    exact q H' f k
/-! ### mask_of -/
structure BiA (mg : Str → Option Value) : Prop extends BiN mg where
  b_enumerate : mg "enumerate" = none
  b_max : mg "max" = none
  b_min : mg "min" = none
  b_list : mg "list" = none
def sp_mask : Sp := fun vs H Q _ => ∃ l ps, vs = [.ref l] ∧ H l = some (.lst (iL ps)) ∧ (∀ x ∈ ps, x ≤ 100000) ∧ Q (.int (maskOf ps : Nat)) H
theorem iL_at {ns : List Nat} {i : Nat} {x : V} (hx : (iL ns)[i]? = some x) : ∃ z, ns[i]? = some z ∧ x = .int (z : Nat) := by
  unfold iL at hx
  rw [List.getElem?_map] at hx
  obtain ⟨z, e, r⟩ := Option.map_eq_some_iff.mp hx
  exact ⟨z, e, r.symm⟩
theorem scmask_of : FnScope ["positions", "mask", "position"] ["positions"] (defScope (topS 11)) := ⟨rfl, rfl, rfl, by decide +kernel, rfl, by decide +kernel, by decide +kernel⟩
theorem ok_mask (D : Dfn K mg "mask_of" (topS 11) ["positions"]) : Cal P w K mg base 1 "mask_of" sp_mask := by
  refine cal_of D scmask_of (fun vs H Q E h => ?_) (fun f cdv A outer s H vs Q E hr h => ?_)
  · obtain ⟨l, ps, rfl, _⟩ := h
    rfl
  obtain ⟨l, ps, rfl, hl, hp, q⟩ := h
  refine ⟨_, (pss_cons (ps_set (i := 1) scmask_of.nd rfl (Or.inl rfl) pe_int)
      (pss_cons (ps_for PassesOwn.never rfl (pi_list (pv 0)) (pg_name (i := 2) scmask_of.nd rfl (Or.inl rfl)) (pss_one (ps_aug (i := 1) scmask_of.nd rfl (Or.inl rfl) (pe_op op_bit pe_int (pv 2)) iop_orN)))
      (pss_one (ps_ret (pv 1))))), ?_⟩
  simp only [tSeq, tAsg, tCB, tCons, tVar, tNil, gName, tRet, tRetN, tDrop, tNext, tIfS, tTest, tB, tOr, tAnd, tNot, tIf, tOrV, tAndV, tNotV, tChain, rI0, rI, rU, tUn, tC, tOp, rNe, rEq, tCall, tPart, tNoPart, tSl, tM0, tM1, tTup, tLst, tAug, gTup, gCons, gNil, rAdd, rSub, tNever, tBreak, tCont, L2.start, scSS, scII, scBB, ipI, sS, dS, d1, mkS, sL, nc1, nc2, Int.natCast_inj, List.map_cons, List.map_nil, List.length_cons, List.length_nil, List.replicate, List.cons_append, List.nil_append, List.append_nil, List.getElem?_cons_zero, List.getElem?_cons_succ, List.set_cons_zero, List.set_cons_succ, Option.some.injEq, V.str.injEq, V.int.injEq, V.bl.injEq, V.ref.injEq, List.cons.injEq, and_true, true_and, exists_eq_left', exists_eq_left, exists_eq, exists_eq', exists_and_left, exists_and_right, and_assoc, exists_const, reduceCtorEq, if_true, if_false, ite_true, ite_false, Bool.false_eq_true, decide_true, decide_false, Bool.not_true, Bool.not_false, cxK, eFoL]
  obtain ⟨Pv, hPv⟩ : ∃ Pv : Nat → L2.St → Hp → Prop, ∀ i σ H', Pv i σ H' ↔ (∃ v2, σ = [some (.ref l), some (.int (maskOf (ps.take i) : Nat)), v2] ∧ H' = H) := ⟨_, fun _ _ _ => Iff.rfl⟩
  refine ⟨⟨_, SqL.of hl⟩, foL (iL ps) Pv ((hPv _ _ _).mpr ⟨_, rfl, rfl⟩) (fun i σ H' _ g => ?_) (fun i x σ H' hx g => ?_) (fun σ H' g => ?_)⟩
  · obtain ⟨_, rfl, rfl⟩ := (hPv _ _ _).mp g
    exact SqL.of hl
  · obtain ⟨_, rfl, rfl⟩ := (hPv _ _ _).mp g
    obtain ⟨z, hz, rfl⟩ := iL_at hx
    simp only [tSeq, tAsg, tCB, tCons, tVar, tNil, gName, tRet, tRetN, tDrop, tNext, tIfS, tTest, tB, tOr, tAnd, tNot, tIf, tOrV, tAndV, tNotV, tChain, rI0, rI, rU, tUn, tC, tOp, rNe, rEq, tCall, tPart, tNoPart, tSl, tM0, tM1, tTup, tLst, tAug, gTup, gCons, gNil, rAdd, rSub, tNever, tBreak, tCont, L2.start, scSS, scII, scBB, ipI, sS, dS, d1, mkS, sL, nc1, nc2, Int.natCast_inj, List.map_cons, List.map_nil, List.length_cons, List.length_nil, List.replicate, List.cons_append, List.nil_append, List.append_nil, List.getElem?_cons_zero, List.getElem?_cons_succ, List.set_cons_zero, List.set_cons_succ, Option.some.injEq, V.str.injEq, V.int.injEq, V.bl.injEq, V.ref.injEq, List.cons.injEq, and_true, true_and, exists_eq_left', exists_eq_left, exists_eq, exists_eq', exists_and_left, exists_and_right, and_assoc, exists_const, reduceCtorEq, if_true, if_false, ite_true, ite_false, Bool.false_eq_true, decide_true, decide_false, Bool.not_true, Bool.not_false, cxK, rN]
    refine ⟨by have := hp z (List.mem_of_getElem? hz); omega, ?_⟩
    rw [hPv]
    have e : maskOf (ps.take (i + 1)) = maskOf (ps.take i) ||| 1 <<< z := by
      rw [List.take_add_one, hz]
      unfold maskOf
      rw [List.foldl_append]
      rfl
    rw [e]
    exact ⟨_, rfl, rfl⟩
  · obtain ⟨_, rfl, rfl⟩ := (hPv _ _ _).mp g
    rw [iL_len, List.take_length]
    simp only [tSeq, tAsg, tCB, tCons, tVar, tNil, gName, tRet, tRetN, tDrop, tNext, tIfS, tTest, tB, tOr, tAnd, tNot, tIf, tOrV, tAndV, tNotV, tChain, rI0, rI, rU, tUn, tC, tOp, rNe, rEq, tCall, tPart, tNoPart, tSl, tM0, tM1, tTup, tLst, tAug, gTup, gCons, gNil, rAdd, rSub, tNever, tBreak, tCont, L2.start, scSS, scII, scBB, ipI, sS, dS, d1, mkS, sL, nc1, nc2, Int.natCast_inj, List.map_cons, List.map_nil, List.length_cons, List.length_nil, List.replicate, List.cons_append, List.nil_append, List.append_nil, List.getElem?_cons_zero, List.getElem?_cons_succ, List.set_cons_zero, List.set_cons_succ, Option.some.injEq, V.str.injEq, V.int.injEq, V.bl.injEq, V.ref.injEq, List.cons.injEq, and_true, true_and, exists_eq_left', exists_eq_left, exists_eq, exists_eq', exists_and_left, exists_and_right, and_assoc, exists_const, reduceCtorEq, if_true, if_false, ite_true, ite_false, Bool.false_eq_true, decide_true, decide_false, Bool.not_true, Bool.not_false, cxK]
    exact q
/-! ### united -/
def sp_unit (CE : Addr) (N : List Addr) : Sp := fun vs H Q _ => ∃ (l : Addr) (qs : List Addr) (es : List Edg), vs = [.ref l] ∧ H l = some (.lst (qs.map V.ref)) ∧ qs.length = es.length ∧ (∀ (i : Nat) (q : Addr) (e : Edg), qs[i]? = some q → es[i]? = some e → EdB CE N H q e) ∧ (es.map fun e => e.la.length).sum ≤ 100000 ∧ (es.map fun e => e.en.length).sum ≤ 100000 ∧
  (∀ x ∈ N, H x ≠ none) ∧ ∀ H' q, Same H H' → H q = none → EdB CE N H' q (es.foldl unitE eN) → Q (.ref q) H'
theorem edB_make {N : List Addr} {H1 H2 H3 : Hp} {x p p1 : Addr} {nu fi bg : Nat} {la en : List Nat} (hx : H1 x = none) (s : ∀ b o, H1 b = some o → H2 b = some o) (s' : ∀ b, b ≠ x → H3 b = H2 b) (i : InsL CE nsE H3 x [.int (nu : Nat), .int (fi : Nat), .int (bg : Nat), .ref p, .ref p1])
    (h1 : H1 p = some (.lst (iL la))) (h2 : H1 p1 = some (.lst (iL en))) (n1 : p ∉ N) (n2 : p1 ∉ N) : Same H1 H3 ∧ EdB CE N H3 x ⟨nu, fi, bg, la, en⟩ := by
  have sm : Same H1 H3 := fun b o e => by
    rw [s' b (ne_of_none e hx)]
    exact s b o e
  exact ⟨sm, ⟨p, p1, i, sm _ _ h1, sm _ _ h2, n1, n2⟩⟩
theorem EdB.same {N : List Addr} {H H1 : Hp} {q : Addr} {e : Edg} (h : EdB CE N H q e) (s : Same H H1) : EdB CE N H1 q e := by
  obtain ⟨la, en, h1, h2, h3, h4, h5⟩ := h.ex
  exact ⟨la, en, insL_s s h1, s _ _ h2, s _ _ h3, h4, h5⟩
theorem new_out {N : List Addr} {H : Hp} {p : Addr} (hN : ∀ x ∈ N, H x ≠ none) (hp : H p = none) : p ∉ N := fun z => hN p z hp
theorem sum_take {es : List Edg} {f : Edg → Nat} (i : Nat) : ((es.take i).map f).sum ≤ (es.map f).sum := by
  induction es generalizing i with
  | nil => simp
  | cons e es ih =>
    cases i with
    | zero => simp
    | succ i =>
      simp only [List.take_succ_cons, List.map_cons, List.sum_cons]
      have := ih i
      omega
theorem unit_la (es : List Edg) (w : Edg) : (es.foldl unitE w).la.length = w.la.length + (es.map fun e => e.la.length).sum := by
  induction es generalizing w with
  | nil => simp
  | cons e es ih =>
    rw [List.foldl_cons, ih]
    simp only [unitE, List.length_append, List.map_cons, List.sum_cons]
    omega
theorem unit_en (es : List Edg) (w : Edg) : (es.foldl unitE w).en.length = w.en.length + (es.map fun e => e.en.length).sum := by
  induction es generalizing w with
  | nil => simp
  | cons e es ih =>
    rw [List.foldl_cons, ih]
    simp only [unitE, List.length_append, List.map_cons, List.sum_cons]
    omega
theorem iL_app {a b : List Nat} : iL (a ++ b) = iL a ++ iL b := List.map_append ..
/-- nothing but the new one at x is changed -/
theorem same_but {H H1 H2 : Hp} {x : Addr} (s : Same H H1) (hx : H x = none) (s' : ∀ b, b ≠ x → H2 b = H1 b) : Same H H2 := fun b o e => by
  rw [s' b (ne_of_none e hx)]
  exact s b o e
theorem scunited : FnScope ["parts", "whole", "part"] ["parts"] (defScope (topS 12)) := ⟨rfl, rfl, rfl, by decide +kernel, rfl, by decide +kernel, by decide +kernel⟩
theorem ok_unit {N : List Addr} (o_Edges : OCls K CE nsE) (K_Edges : MakC P w K mg base 1 CE "Edges" (sp_einit CE)) (g_NOWHERE : ∃ t, mg "NOWHERE" = some (.int 0 t)) (D : Dfn K mg "united" (topS 12) ["parts"]) : Cal P w K mg base 3 "united" (sp_unit CE N) := by
  refine cal_of D scunited (fun vs H Q E h => ?_) (fun f cdv A outer s H vs Q E hr h => ?_)
  · obtain ⟨l, qs, es, rfl, _⟩ := h
    rfl
  obtain ⟨l, qs, es, rfl, hl, hlen, hE, s1, s2, hN, q⟩ := h
  refine ⟨_, (pss_cons (ps_set (i := 1) scunited.nd rfl (Or.inl rfl) (pmk (ns := nsE) K_Edges hr (by decide) (by rfl) (pa_cons (pe_ci g_NOWHERE (by rfl)) (pa_cons pe_int (pa_cons pe_int (pa_cons (pe_lst pa_nil) (pa_cons (pe_lst pa_nil) pa_nil)))))))
      (pss_cons (ps_for PassesOwn.never rfl (pi_list (pv 0)) (pg_name (i := 2) scunited.nd rfl (Or.inl rfl)) (pss_cons (ps_augC (k := 0) o_Edges (pv 1) (pe_fldC (k := 0) o_Edges (pv 2) rfl) in_orN rfl)
      (pss_cons (ps_augC (k := 1) o_Edges (pv 1) (pe_fldC (k := 1) o_Edges (pv 2) rfl) in_orN rfl)
      (pss_cons (ps_augC (k := 2) o_Edges (pv 1) (pe_fldC (k := 2) o_Edges (pv 2) rfl) in_orN rfl)
      (pss_cons (ps_fldC (k := 3) o_Edges (pv 1) (pe_op op_cat (pe_fldC (k := 3) o_Edges (pv 1) rfl) (pe_fldC (k := 3) o_Edges (pv 2) rfl)) rfl)
      (pss_one (ps_fldC (k := 4) o_Edges (pv 1) (pe_op op_cat (pe_fldC (k := 4) o_Edges (pv 1) rfl) (pe_fldC (k := 4) o_Edges (pv 2) rfl)) rfl)))))))
      (pss_one (ps_ret (pv 1))))), ?_⟩
  simp only [tSeq, tAsg, tCB, tCons, tVar, tNil, gName, tRet, tRetN, tDrop, tNext, tIfS, tTest, tB, tOr, tAnd, tNot, tIf, tOrV, tAndV, tNotV, tChain, rI0, rI, rU, tUn, tC, tOp, rNe, rEq, tCall, tPart, tNoPart, tSl, tM0, tM1, tTup, tLst, tAug, gTup, gCons, gNil, rAdd, rSub, tNever, tBreak, tCont, L2.start, scSS, scII, scBB, ipI, sS, dS, d1, mkS, sL, nc1, nc2, Int.natCast_inj, List.map_cons, List.map_nil, List.length_cons, List.length_nil, List.replicate, List.cons_append, List.nil_append, List.append_nil, List.getElem?_cons_zero, List.getElem?_cons_succ, List.set_cons_zero, List.set_cons_succ, Option.some.injEq, V.str.injEq, V.int.injEq, V.bl.injEq, V.ref.injEq, List.cons.injEq, and_true, true_and, exists_eq_left', exists_eq_left, exists_eq, exists_eq', exists_and_left, exists_and_right, and_assoc, exists_const, reduceCtorEq, if_true, if_false, ite_true, ite_false, Bool.false_eq_true, decide_true, decide_false, Bool.not_true, Bool.not_false, cxK, eFoL, tMakC, sp_einit]
  refine ⟨Nat.zero_le _, fun p np => ⟨Nat.zero_le _, fun p1 np1 x H2 nx sx ix => ⟨ix, fun H3 s3 i3 => ?_⟩⟩⟩
  have sp := same_upd (o := .lst []) np
  have sp1 := same_upd (o := .lst []) np1
  have np1' : H p1 = none := by
    cases e : H p1 with
    | none => rfl
    | some o => rw [sp _ _ e] at np1; cases np1
  have nxH : H x = none := by
    cases e : H x with
    | none => rfl
    | some o => rw [sp1 _ _ (sp _ _ e)] at nx; cases nx
  obtain ⟨sm, ed⟩ := edB_make (CE := CE) (N := N) (nu := 0) (fi := 0) (bg := 0) (la := []) (en := []) nx sx s3 i3 (sp1 _ _ upd_same) upd_same (new_out hN np) (new_out hN np1')
  have sH : Same H H3 := (sp.trans sp1).trans sm
  obtain ⟨Pv, hPv⟩ : ∃ Pv : Nat → L2.St → Hp → Prop, ∀ i σ H', Pv i σ H' ↔ (∃ v2, σ = [some (.ref l), some (.ref x), v2] ∧ Same H H' ∧ EdB CE N H' x ((es.take i).foldl unitE eN)) := ⟨_, fun _ _ _ => Iff.rfl⟩
  refine ⟨⟨_, SqL.of (sH _ _ hl)⟩, foL (qs.map V.ref) Pv ((hPv _ _ _).mpr ⟨_, rfl, sH, ed⟩) (fun i σ H' _ g => ?_) (fun i y σ H' hy g => ?_) (fun σ H' g => ?_)⟩
  · obtain ⟨_, rfl, s, _⟩ := (hPv _ _ _).mp g
    exact SqL.of (s _ _ hl)
  · obtain ⟨_, rfl, s, k⟩ := (hPv _ _ _).mp g
    obtain ⟨q1, hq1, rfl⟩ : ∃ q1, qs[i]? = some q1 ∧ y = .ref q1 := by
      rw [List.getElem?_map] at hy
      obtain ⟨z, e, r⟩ := Option.map_eq_some_iff.mp hy
      exact ⟨z, e, r.symm⟩
    obtain ⟨e, he⟩ : ∃ e, es[i]? = some e := ⟨_, List.getElem?_eq_getElem (by have := (List.getElem?_eq_some_iff.mp hq1).1; omega)⟩
    obtain ⟨la1, en1, a1, a2, a3, a4, a5⟩ := k.ex
    have eo := hE i q1 e hq1 he
    have nq1 : q1 ≠ x := fun z => by
      subst z
      obtain ⟨_, _, ⟨dx, b1, _⟩, _⟩ := eo.ex
      rw [nxH] at b1
      cases b1
    obtain ⟨la2, en2, b1, b2, b3, b4, b5⟩ := (eo.same s).ex
    simp only [tSeq, tAsg, tCB, tCons, tVar, tNil, gName, tRet, tRetN, tDrop, tNext, tIfS, tTest, tB, tOr, tAnd, tNot, tIf, tOrV, tAndV, tNotV, tChain, rI0, rI, rU, tUn, tC, tOp, rNe, rEq, tCall, tPart, tNoPart, tSl, tM0, tM1, tTup, tLst, tAug, gTup, gCons, gNil, rAdd, rSub, tNever, tBreak, tCont, L2.start, scSS, scII, scBB, ipI, sS, dS, d1, mkS, sL, nc1, nc2, Int.natCast_inj, List.map_cons, List.map_nil, List.length_cons, List.length_nil, List.replicate, List.cons_append, List.nil_append, List.append_nil, List.getElem?_cons_zero, List.getElem?_cons_succ, List.set_cons_zero, List.set_cons_succ, Option.some.injEq, V.str.injEq, V.int.injEq, V.bl.injEq, V.ref.injEq, List.cons.injEq, and_true, true_and, exists_eq_left', exists_eq_left, exists_eq, exists_eq', exists_and_left, exists_and_right, and_assoc, exists_const, reduceCtorEq, if_true, if_false, ite_true, ite_false, Bool.false_eq_true, decide_true, decide_false, Bool.not_true, Bool.not_false, cxK, sAugC, tFldC, sFldC, rN]
    refine ⟨_, a1, _, rfl, _, b1, _, rfl, _, rfl, _, rfl, _, a1, Nat.zero_le _, fun G1 t1 j1 => ⟨_, j1, _, rfl, _, insL_at b1 (t1 _ nq1), _, rfl, _, rfl, _, rfl, _, j1, by simp [putAt], fun G2 t2 j2 => ⟨_, j2, _, rfl, _, insL_at b1 ((t2 _ nq1).trans (t1 _ nq1)), _, rfl, _, rfl, _, rfl, _, j2, by simp [putAt], fun G3 t3 j3 => ?_⟩⟩⟩
    have t13 : ∀ b, b ≠ x → G3 b = H' b := fun b nb => by rw [t3 b nb, t2 b nb, t1 b nb]
    have ola : ∀ {l : Addr} {u : List V}, H' l = some (.lst u) → G3 l = some (.lst u) := fun {l u} h => (t13 l (insL_ne a1 h).symm).trans h
    have s3' : Same H G3 := same_but s nxH t13
    have wl : ((es.take i).foldl unitE eN).la.length + e.la.length ≤ 100000 ∧ ((es.take i).foldl unitE eN).en.length + e.en.length ≤ 100000 := by
      have q1 := sum_take (es := es) (f := fun e => e.la.length) (i + 1)
      have q2 := sum_take (es := es) (f := fun e => e.en.length) (i + 1)
      rw [List.take_add_one, he] at q1 q2
      simp only [Option.toList_some, List.map_append, List.sum_append, List.map_cons, List.map_nil, List.sum_cons, List.sum_nil] at q1 q2
      rw [unit_la, unit_en]
      simp only [eN, List.length_nil]
      omega
    refine ⟨_, j3, _, rfl, _, insL_at b1 (t13 _ nq1), _, rfl, la1, la2, _, _, rfl, rfl, ola a2, ola b2, by rw [iL_len, iL_len]; exact sz5 (show _ ≤ 100000 from wl.1), fun p3 n3 => ?_⟩
    have s4 := same_upd (o := .lst (iL ((es.take i).foldl unitE eN).la ++ iL e.la)) n3
    refine ⟨_, insL_s s4 j3, by simp [putAt], fun G5 t5 j5 => ?_⟩
    have xp3 := insL_new j3 n3
    have g5 : ∀ {b : Addr} {o : HO}, b ≠ x → G3 b = some o → G5 b = some o := fun {b o} nb h => (t5 b nb).trans (s4 _ _ h)
    refine ⟨_, j5, _, rfl, _, insL_at b1 ((t5 _ nq1).trans ((upd_ne (insL_new (insL_at b1 (t13 _ nq1)) n3)).trans (t13 _ nq1))), _, rfl, en1, en2, _, _, rfl, rfl, g5 (insL_ne a1 a3).symm (ola a3), g5 (insL_ne a1 b3).symm (ola b3), by rw [iL_len, iL_len]; exact sz5 (show _ ≤ 100000 from wl.2), fun p4 n4 => ?_⟩
    have s6 := same_upd (o := .lst (iL ((es.take i).foldl unitE eN).en ++ iL e.en)) n4
    refine ⟨_, insL_s s6 j5, by simp [putAt], fun G6 t6 j6 => (hPv _ _ _).mpr ⟨_, rfl, ?_, ?_⟩⟩
    · exact same_but ((same_but (s3'.trans s4) nxH t5).trans s6) nxH t6
    · rw [List.take_add_one, he, List.foldl_append]
      have g53 : G5 p3 = some (.lst (iL ((es.take i).foldl unitE eN).la ++ iL e.la)) := (t5 p3 xp3.symm).trans upd_same
      have xp4 := insL_new j5 n4
      have out : ∀ {p : Addr} {G : Hp}, Same H G → G p = none → p ∉ N := fun {p G} sg h z => by
        cases q : H p with
        | none => exact hN p z q
        | some o => rw [sg _ _ q] at h; cases h
      refine ⟨p3, p4, j6, (t6 p3 xp3.symm).trans ((s6 _ _ g53).trans (by rw [← iL_app]; rfl)), (t6 p4 xp4.symm).trans (upd_same.trans (by rw [← iL_app]; rfl)), out s3' n3, out (same_but (s3'.trans s4) nxH t5) n4⟩
  · obtain ⟨_, rfl, s, k⟩ := (hPv _ _ _).mp g
    rw [List.length_map, hlen, List.take_length] at k
    simp only [tSeq, tAsg, tCB, tCons, tVar, tNil, gName, tRet, tRetN, tDrop, tNext, tIfS, tTest, tB, tOr, tAnd, tNot, tIf, tOrV, tAndV, tNotV, tChain, rI0, rI, rU, tUn, tC, tOp, rNe, rEq, tCall, tPart, tNoPart, tSl, tM0, tM1, tTup, tLst, tAug, gTup, gCons, gNil, rAdd, rSub, tNever, tBreak, tCont, L2.start, scSS, scII, scBB, ipI, sS, dS, d1, mkS, sL, nc1, nc2, Int.natCast_inj, List.map_cons, List.map_nil, List.length_cons, List.length_nil, List.replicate, List.cons_append, List.nil_append, List.append_nil, List.getElem?_cons_zero, List.getElem?_cons_succ, List.set_cons_zero, List.set_cons_succ, Option.some.injEq, V.str.injEq, V.int.injEq, V.bl.injEq, V.ref.injEq, List.cons.injEq, and_true, true_and, exists_eq_left', exists_eq_left, exists_eq, exists_eq', exists_and_left, exists_and_right, and_assoc, exists_const, reduceCtorEq, if_true, if_false, ite_true, ite_false, Bool.false_eq_true, decide_true, decide_false, Bool.not_true, Bool.not_false, cxK]
    exact q H' x s nxH k
end
end Pd

namespace Pd
open PySem PySem.Spec PyProof.Rows L2
open SX (S)
section
variable {P : Program} {w : World} {K : PySem.W.Frag} {mg : Str → Option Value} {base : Heap} {CE CA CS : Addr}
def sp_inrow (CE CA : Addr) : Sp := fun vs H Q _ => ∃ (p ls fo dm db q1 q2 : Addr) (a : Aut) (e1 e2 : Edg) (N : List Addr), vs = [.ref p, .ref q1, .ref q2] ∧ AuB CA H p ls fo dm db a ∧ fo ∈ N ∧ (∀ x ∈ N, H x ≠ none) ∧ EdB CE N H q1 e1 ∧ EdB CE N H q2 e2 ∧ (∀ x ∈ e1.la, x < a.fo.length) ∧
  e1.la.length + e2.la.length ≤ 100000 ∧ e1.en.length + e2.en.length ≤ 100000 ∧
  ∀ H' q, Fr [fo] H H' → H q = none → AuB CA H' p ls fo dm db ⟨a.se, leadL a.fo e1.la e2.fi⟩ → EdB CE N H' q (rowE e1 e2) → Q (.ref q) H'
/-- nothing of what stood is lost -/
theorem fr_none {A : List Addr} {H H1 : Hp} {p : Addr} (f : Fr A H H1) (hp : p ∉ A) (h : H1 p = none) : H p = none := by
  cases e : H p with
  | none => rfl
  | some o => rw [f.keep _ _ e hp] at h; cases h
theorem AuB.fr {A : List Addr} {H H1 : Hp} {p ls fo dm db : Addr} {a : Aut} (h : AuB CA H p ls fo dm db a) (f : Fr A H H1) (np : p ∉ A) (n1 : ls ∉ A) (n2 : fo ∉ A) : AuB CA H1 p ls fo dm db a :=
  ⟨insL_fr f h.ob np, f.keep _ _ h.se n1, f.keep _ _ h.fl n2, h.ne⟩
theorem AuB.same {H H1 : Hp} {p ls fo dm db : Addr} {a : Aut} (h : AuB CA H p ls fo dm db a) (s : Same H H1) : AuB CA H1 p ls fo dm db a := ⟨insL_s s h.ob, s _ _ h.se, s _ _ h.fl, h.ne⟩
theorem tst {i : Nat} {m : Nat} : ((i &&& m : Nat) : Int) ≠ 0 ↔ i &&& m ≠ 0 := by omega
theorem scAutomaton_in_row : FnScope ["self", "one", "other", "first", "begun", "last", "ended"] ["self", "one", "other"] (defScope (inClass (topS 10) 4)) := ⟨rfl, rfl, rfl, by decide +kernel, rfl, by decide +kernel, by decide +kernel⟩
theorem ok_inrow (o_Automaton : OCls K CA nsA) (o_Edges : OCls K CE nsE) (K_Edges : MakC P w K mg base 1 CE "Edges" (sp_einit CE)) (M_Automaton_lead : MetC P w K mg base 1 CA "lead" (sp_lead K CA)) (g_EMPTY : ∃ t, mg "EMPTY" = some (.int 1 t)) (g_EMPTY_FIRST : ∃ t, mg "EMPTY_FIRST" = some (.int 2 t)) (g_EMPTY_LAST : ∃ t, mg "EMPTY_LAST" = some (.int 4 t)) (D : Mdf K CA "in_row" "Automaton.in_row" (inClass (topS 10) 4) ["self", "one", "other"]) : MetC P w K mg base 3 CA "in_row" (sp_inrow CE CA) := by
  refine met_of D scAutomaton_in_row (fun vs H Q E h => ?_) (fun f cdv A outer s H vs Q E hr h => ?_)
  · obtain ⟨p, ls, fo, dm, db, q1, q2, a, e1, e2, N, rfl, _⟩ := h
    rfl
  obtain ⟨p, ls, fo, dm, db, q1, q2, a, e1, e2, N, rfl, hA, hfo, hN, h1, h2, hp, z1, z2, q⟩ := h
  refine ⟨_, (C8.pss_cut (ps_expr (pm M_Automaton_lead o_Automaton (by decide +kernel) mono_var hr (by decide) (pv 0) (pa_cons (pe_fldC (k := 3) o_Edges (pv 1) rfl) (pa_cons (pe_fldC (k := 1) o_Edges (pv 2) rfl) pa_nil))))
      (C8.pss_cut (ps_asg (pe_tup (pa_cons (pe_fldC (k := 1) o_Edges (pv 1) rfl) (pa_cons (pe_fldC (k := 2) o_Edges (pv 1) rfl) (pa_cons (pe_fldC (k := 3) o_Edges (pv 2) rfl) (pa_cons (pe_fldC (k := 4) o_Edges (pv 2) rfl) pa_nil))))) (pg_tupK (n := 4) rfl rfl (pgs_cons (pg_name (i := 3) scAutomaton_in_row.nd rfl (Or.inl rfl)) (pgs_cons (pg_name (i := 4) scAutomaton_in_row.nd rfl (Or.inl rfl)) (pgs_cons (pg_name (i := 5) scAutomaton_in_row.nd rfl (Or.inl rfl)) (pgs_cons (pg_name (i := 6) scAutomaton_in_row.nd rfl (Or.inl rfl)) pgs_nil))))))
      (C8.pss_cut (ps_if (pt_truth (pe_op op_andN (pe_fldC (k := 0) o_Edges (pv 1) rfl) (pe_ci g_EMPTY (by rfl))) (by intro _; rfl)) (pss_one (ps_aug (i := 3) scAutomaton_in_row.nd rfl (Or.inl rfl) (pe_fldC (k := 1) o_Edges (pv 2) rfl) iop_orN)) pss_nil)
      (C8.pss_cut (ps_if (pt_truth (pe_op op_andN (pe_fldC (k := 0) o_Edges (pv 1) rfl) (pe_ci g_EMPTY_FIRST (by rfl))) (by intro _; rfl)) (pss_one (ps_aug (i := 4) scAutomaton_in_row.nd rfl (Or.inl rfl) (pe_fldC (k := 2) o_Edges (pv 2) rfl) iop_orN)) pss_nil)
      (C8.pss_cut (ps_if (pt_truth (pe_op op_andN (pe_fldC (k := 0) o_Edges (pv 2) rfl) (pe_ci g_EMPTY (by rfl))) (by intro _; rfl)) (pss_one (ps_set (i := 5) scAutomaton_in_row.nd rfl (Or.inl rfl) (pe_op op_cat (pe_fldC (k := 3) o_Edges (pv 1) rfl) (pv 5)))) pss_nil)
      (C8.pss_cut (ps_if (pt_truth (pe_op op_andN (pe_fldC (k := 0) o_Edges (pv 2) rfl) (pe_ci g_EMPTY_LAST (by rfl))) (by intro _; rfl)) (pss_one (ps_set (i := 6) scAutomaton_in_row.nd rfl (Or.inl rfl) (pe_op op_cat (pe_fldC (k := 4) o_Edges (pv 1) rfl) (pv 6)))) pss_nil)
      (pss_one (ps_ret (pmk (ns := nsE) K_Edges hr (by decide) (by rfl) (pa_cons (pe_op op_andN (pe_fldC (k := 0) o_Edges (pv 1) rfl) (pe_fldC (k := 0) o_Edges (pv 2) rfl)) (pa_cons (pv 3) (pa_cons (pv 4) (pa_cons (pv 5) (pa_cons (pv 6) pa_nil)))))))))))))), ?_⟩
  obtain ⟨la1, en1, a1, a2, a3, a4, a5⟩ := h1.ex
  obtain ⟨la2, en2, b1, b2, b3, b4, b5⟩ := h2.ex
  obtain ⟨Mi, hMi⟩ : ∃ Mi : Nat → Nat → List Nat → List Nat → L2.St → Hp → Prop, ∀ f b L E σ H', Mi f b L E σ H' ↔ ∃ l n : Addr, σ = [some (.ref p), some (.ref q1), some (.ref q2), some (.int (f : Nat)), some (.int (b : Nat)), some (.ref l), some (.ref n)] ∧ Fr [fo] H H' ∧ AuB CA H' p ls fo dm db ⟨a.se, leadL a.fo e1.la e2.fi⟩ ∧ H' l = some (.lst (iL L)) ∧ H' n = some (.lst (iL E)) ∧ l ∉ N ∧ n ∉ N := ⟨_, fun _ _ _ _ _ _ => Iff.rfl⟩
  obtain ⟨M0, hM0⟩ : ∃ M : L2.St → Hp → Prop, ∀ σ' H', M σ' H' ↔ σ' = [some (.ref p), some (.ref q1), some (.ref q2), none, none, none, none] ∧ Fr [fo] H H' ∧ AuB CA H' p ls fo dm db ⟨a.se, leadL a.fo e1.la e2.fi⟩ := ⟨_, fun _ _ => Iff.rfl⟩
  have nin : ∀ {x : Addr}, x ∉ N → x ∉ [fo] := fun h z => h (by cases List.mem_singleton.mp z; exact hfo)
  have nq1 : q1 ∉ [fo] := by
    intro z
    have z := List.mem_singleton.mp z
    exact insL_ne a1 hA.fl z
  have nq2 : q2 ∉ [fo] := by
    intro z
    have z := List.mem_singleton.mp z
    exact insL_ne b1 hA.fl z
  have outN : ∀ {G : Hp} {y : Addr} {b : Aut}, Fr [fo] H G → AuB CA G p ls fo dm db b → G y = none → y ∉ N := fun {G y b} f k h z => by
    by_cases e : y = fo
    · subst e
      rw [k.fl] at h
      cases h
    · exact hN y z (fr_none f (by simpa using e) h)
  refine ⟨M0, ?_, fun σ0 H0 g0 => ?_⟩
  · simp only [tSeq, tAsg, tCB, tCons, tVar, tNil, gName, tRet, tRetN, tDrop, tNext, tIfS, tTest, tB, tOr, tAnd, tNot, tIf, tOrV, tAndV, tNotV, tChain, rI0, rI, rU, tUn, tC, tOp, rNe, rEq, tCall, tPart, tNoPart, tSl, tM0, tM1, tTup, tLst, tAug, gTup, gCons, gNil, rAdd, rSub, tNever, tBreak, tCont, L2.start, scSS, scII, scBB, ipI, sS, dS, d1, mkS, sL, nc1, nc2, Int.natCast_inj, List.map_cons, List.map_nil, List.length_cons, List.length_nil, List.replicate, List.cons_append, List.nil_append, List.append_nil, List.getElem?_cons_zero, List.getElem?_cons_succ, List.set_cons_zero, List.set_cons_succ, Option.some.injEq, V.str.injEq, V.int.injEq, V.bl.injEq, V.ref.injEq, List.cons.injEq, and_true, true_and, exists_eq_left', exists_eq_left, exists_eq, exists_eq', exists_and_left, exists_and_right, and_assoc, exists_const, reduceCtorEq, if_true, if_false, ite_true, ite_false, Bool.false_eq_true, decide_true, decide_false, Bool.not_true, Bool.not_false, cxK, tMetC, tFldC, sp_lead]
    exact ⟨⟨_, hA.ob⟩, _, a1, _, rfl, _, b1, _, rfl, ls, fo, dm, db, a, la1, rfl, e1.la, e2.fi, rfl, hA, a2, fun z => a4 (by rw [z]; exact hfo), hp, fun H' f k => (hM0 _ _).mpr ⟨rfl, f, k⟩⟩
  obtain ⟨rfl, f0, k0⟩ := (hM0 _ _).mp g0
  refine ⟨Mi e1.fi e1.bg e2.la e2.en, ?_, fun σ1 H1 g1 => ?_⟩
  · simp only [tSeq, tAsg, tCB, tCons, tVar, tNil, gName, tRet, tRetN, tDrop, tNext, tIfS, tTest, tB, tOr, tAnd, tNot, tIf, tOrV, tAndV, tNotV, tChain, rI0, rI, rU, tUn, tC, tOp, rNe, rEq, tCall, tPart, tNoPart, tSl, tM0, tM1, tTup, tLst, tAug, gTup, gCons, gNil, rAdd, rSub, tNever, tBreak, tCont, L2.start, scSS, scII, scBB, ipI, sS, dS, d1, mkS, sL, nc1, nc2, Int.natCast_inj, List.map_cons, List.map_nil, List.length_cons, List.length_nil, List.replicate, List.cons_append, List.nil_append, List.append_nil, List.getElem?_cons_zero, List.getElem?_cons_succ, List.set_cons_zero, List.set_cons_succ, Option.some.injEq, V.str.injEq, V.int.injEq, V.bl.injEq, V.ref.injEq, List.cons.injEq, and_true, true_and, exists_eq_left', exists_eq_left, exists_eq, exists_eq', exists_and_left, exists_and_right, and_assoc, exists_const, reduceCtorEq, if_true, if_false, ite_true, ite_false, Bool.false_eq_true, decide_true, decide_false, Bool.not_true, Bool.not_false, cxK, tFldC]
    have x1 := insL_fr f0 a1 nq1
    have x2 := insL_fr f0 b1 nq2
    refine ⟨_, x1, _, rfl, _, x1, _, rfl, _, x2, _, rfl, _, x2, _, rfl, by decide, fun z nz => ?_⟩
    have sz := same_upd (o := .tup [V.int e1.fi, V.int e1.bg, V.ref la2, V.ref en2]) nz
    exact ⟨_, SqT.of upd_same, rfl, _, _, rfl, _, _, rfl, _, _, rfl, _, _, rfl, rfl, (hMi _ _ _ _ _ _).mpr ⟨la2, en2, rfl, f0.same sz, k0.same sz, sz _ _ (f0.keep _ _ b2 (nin b4)), sz _ _ (f0.keep _ _ b3 (nin b5)), b4, b5⟩⟩
  refine ⟨Mi (if e1.nu &&& 1 ≠ 0 then e1.fi ||| e2.fi else e1.fi) e1.bg e2.la e2.en, ?_, fun σ2 H2 g2 => ?_⟩
  · obtain ⟨l, n, rfl, f1, k1, c1, c2, c3, c4⟩ := (hMi _ _ _ _ _ _).mp g1
    simp only [tSeq, tAsg, tCB, tCons, tVar, tNil, gName, tRet, tRetN, tDrop, tNext, tIfS, tTest, tB, tOr, tAnd, tNot, tIf, tOrV, tAndV, tNotV, tChain, rI0, rI, rU, tUn, tC, tOp, rNe, rEq, tCall, tPart, tNoPart, tSl, tM0, tM1, tTup, tLst, tAug, gTup, gCons, gNil, rAdd, rSub, tNever, tBreak, tCont, L2.start, scSS, scII, scBB, ipI, sS, dS, d1, mkS, sL, nc1, nc2, Int.natCast_inj, List.map_cons, List.map_nil, List.length_cons, List.length_nil, List.replicate, List.cons_append, List.nil_append, List.append_nil, List.getElem?_cons_zero, List.getElem?_cons_succ, List.set_cons_zero, List.set_cons_succ, Option.some.injEq, V.str.injEq, V.int.injEq, V.bl.injEq, V.ref.injEq, List.cons.injEq, and_true, true_and, exists_eq_left', exists_eq_left, exists_eq, exists_eq', exists_and_left, exists_and_right, and_assoc, exists_const, reduceCtorEq, if_true, if_false, ite_true, ite_false, Bool.false_eq_true, decide_true, decide_false, Bool.not_true, Bool.not_false, cxK, tFldC, rN, tru_nat, decide_eq_true_eq]
    have x1 := insL_fr f1 a1 nq1
    have x2 := insL_fr f1 b1 nq2
    refine ⟨_, x1, _, rfl, _, rfl, 1, rfl, ?_⟩
    by_cases z : e1.nu &&& 1 ≠ 0
    · rw [if_pos z]
      refine ⟨_, x2, _, rfl, _, rfl, (hMi _ _ _ _ _ _).mpr ⟨l, n, ?_, f1, k1, c1, c2, c3, c4⟩⟩
      rw [if_pos z]
    · rw [if_neg z]
      refine (hMi _ _ _ _ _ _).mpr ⟨l, n, ?_, f1, k1, c1, c2, c3, c4⟩
      rw [if_neg z]
  refine ⟨Mi (if e1.nu &&& 1 ≠ 0 then e1.fi ||| e2.fi else e1.fi) (if e1.nu &&& 2 ≠ 0 then e1.bg ||| e2.bg else e1.bg) e2.la e2.en, ?_, fun σ3 H3 g3 => ?_⟩
  · obtain ⟨l, n, rfl, f1, k1, c1, c2, c3, c4⟩ := (hMi _ _ _ _ _ _).mp g2
    simp only [tSeq, tAsg, tCB, tCons, tVar, tNil, gName, tRet, tRetN, tDrop, tNext, tIfS, tTest, tB, tOr, tAnd, tNot, tIf, tOrV, tAndV, tNotV, tChain, rI0, rI, rU, tUn, tC, tOp, rNe, rEq, tCall, tPart, tNoPart, tSl, tM0, tM1, tTup, tLst, tAug, gTup, gCons, gNil, rAdd, rSub, tNever, tBreak, tCont, L2.start, scSS, scII, scBB, ipI, sS, dS, d1, mkS, sL, nc1, nc2, Int.natCast_inj, List.map_cons, List.map_nil, List.length_cons, List.length_nil, List.replicate, List.cons_append, List.nil_append, List.append_nil, List.getElem?_cons_zero, List.getElem?_cons_succ, List.set_cons_zero, List.set_cons_succ, Option.some.injEq, V.str.injEq, V.int.injEq, V.bl.injEq, V.ref.injEq, List.cons.injEq, and_true, true_and, exists_eq_left', exists_eq_left, exists_eq, exists_eq', exists_and_left, exists_and_right, and_assoc, exists_const, reduceCtorEq, if_true, if_false, ite_true, ite_false, Bool.false_eq_true, decide_true, decide_false, Bool.not_true, Bool.not_false, cxK, tFldC, rN, tru_nat, decide_eq_true_eq]
    have x1 := insL_fr f1 a1 nq1
    have x2 := insL_fr f1 b1 nq2
    refine ⟨_, x1, _, rfl, _, rfl, 2, rfl, ?_⟩
    by_cases z : e1.nu &&& 2 ≠ 0
    · rw [if_pos z]
      refine ⟨_, x2, _, rfl, _, rfl, (hMi _ _ _ _ _ _).mpr ⟨l, n, ?_, f1, k1, c1, c2, c3, c4⟩⟩
      rw [if_pos z]
    · rw [if_neg z]
      refine (hMi _ _ _ _ _ _).mpr ⟨l, n, ?_, f1, k1, c1, c2, c3, c4⟩
      rw [if_neg z]
  refine ⟨Mi (rowE e1 e2).fi (rowE e1 e2).bg (rowE e1 e2).la e2.en, ?_, fun σ4 H4 g4 => ?_⟩
  · obtain ⟨l, n, rfl, f1, k1, c1, c2, c3, c4⟩ := (hMi _ _ _ _ _ _).mp g3
    simp only [tSeq, tAsg, tCB, tCons, tVar, tNil, gName, tRet, tRetN, tDrop, tNext, tIfS, tTest, tB, tOr, tAnd, tNot, tIf, tOrV, tAndV, tNotV, tChain, rI0, rI, rU, tUn, tC, tOp, rNe, rEq, tCall, tPart, tNoPart, tSl, tM0, tM1, tTup, tLst, tAug, gTup, gCons, gNil, rAdd, rSub, tNever, tBreak, tCont, L2.start, scSS, scII, scBB, ipI, sS, dS, d1, mkS, sL, nc1, nc2, Int.natCast_inj, List.map_cons, List.map_nil, List.length_cons, List.length_nil, List.replicate, List.cons_append, List.nil_append, List.append_nil, List.getElem?_cons_zero, List.getElem?_cons_succ, List.set_cons_zero, List.set_cons_succ, Option.some.injEq, V.str.injEq, V.int.injEq, V.bl.injEq, V.ref.injEq, List.cons.injEq, and_true, true_and, exists_eq_left', exists_eq_left, exists_eq, exists_eq', exists_and_left, exists_and_right, and_assoc, exists_const, reduceCtorEq, if_true, if_false, ite_true, ite_false, Bool.false_eq_true, decide_true, decide_false, Bool.not_true, Bool.not_false, cxK, tFldC, rN, tru_nat, decide_eq_true_eq]
    have x1 := insL_fr f1 a1 nq1
    have x2 := insL_fr f1 b1 nq2
    refine ⟨_, x2, _, rfl, _, rfl, 1, rfl, ?_⟩
    by_cases z : e2.nu &&& 1 ≠ 0
    · rw [if_pos z]
      refine ⟨_, x1, _, rfl, la1, l, _, _, rfl, rfl, f1.keep _ _ a2 (nin a4), c1, by rw [iL_len, iL_len]; exact sz5 (show _ ≤ 100000 from z1), fun y ny => (hMi _ _ _ _ _ _).mpr ⟨y, n, rfl, f1.same (same_upd ny), k1.same (same_upd ny), ?_, same_upd ny _ _ c2, ?_, c4⟩⟩
      · rw [upd_same, ← iL_app]
        unfold rowE
        rw [if_pos z]
      · exact outN f1 k1 ny
    · rw [if_neg z]
      refine (hMi _ _ _ _ _ _).mpr ⟨l, n, rfl, f1, k1, ?_, c2, c3, c4⟩
      unfold rowE
      rw [if_neg z]
      exact c1
  refine ⟨Mi (rowE e1 e2).fi (rowE e1 e2).bg (rowE e1 e2).la (rowE e1 e2).en, ?_, fun σ5 H5 g5 => ?_⟩
  · obtain ⟨l, n, rfl, f1, k1, c1, c2, c3, c4⟩ := (hMi _ _ _ _ _ _).mp g4
    simp only [tSeq, tAsg, tCB, tCons, tVar, tNil, gName, tRet, tRetN, tDrop, tNext, tIfS, tTest, tB, tOr, tAnd, tNot, tIf, tOrV, tAndV, tNotV, tChain, rI0, rI, rU, tUn, tC, tOp, rNe, rEq, tCall, tPart, tNoPart, tSl, tM0, tM1, tTup, tLst, tAug, gTup, gCons, gNil, rAdd, rSub, tNever, tBreak, tCont, L2.start, scSS, scII, scBB, ipI, sS, dS, d1, mkS, sL, nc1, nc2, Int.natCast_inj, List.map_cons, List.map_nil, List.length_cons, List.length_nil, List.replicate, List.cons_append, List.nil_append, List.append_nil, List.getElem?_cons_zero, List.getElem?_cons_succ, List.set_cons_zero, List.set_cons_succ, Option.some.injEq, V.str.injEq, V.int.injEq, V.bl.injEq, V.ref.injEq, List.cons.injEq, and_true, true_and, exists_eq_left', exists_eq_left, exists_eq, exists_eq', exists_and_left, exists_and_right, and_assoc, exists_const, reduceCtorEq, if_true, if_false, ite_true, ite_false, Bool.false_eq_true, decide_true, decide_false, Bool.not_true, Bool.not_false, cxK, tFldC, rN, tru_nat, decide_eq_true_eq]
    have x1 := insL_fr f1 a1 nq1
    have x2 := insL_fr f1 b1 nq2
    refine ⟨_, x2, _, rfl, _, rfl, 4, rfl, ?_⟩
    by_cases z : e2.nu &&& 4 ≠ 0
    · rw [if_pos z]
      refine ⟨_, x1, _, rfl, en1, n, _, _, rfl, rfl, f1.keep _ _ a3 (nin a5), c2, by rw [iL_len, iL_len]; exact sz5 (show _ ≤ 100000 from z2), fun y ny => (hMi _ _ _ _ _ _).mpr ⟨l, y, rfl, f1.same (same_upd ny), k1.same (same_upd ny), same_upd ny _ _ c1, ?_, c3, ?_⟩⟩
      · rw [upd_same, ← iL_app]
        unfold rowE
        simp only
        rw [if_pos z]
      · exact outN f1 k1 ny
    · rw [if_neg z]
      refine (hMi _ _ _ _ _ _).mpr ⟨l, n, rfl, f1, k1, c1, ?_, c3, c4⟩
      unfold rowE
      simp only
      rw [if_neg z]
      exact c2
  obtain ⟨l, n, rfl, f1, k1, c1, c2, c3, c4⟩ := (hMi _ _ _ _ _ _).mp g5
  simp only [tSeq, tAsg, tCB, tCons, tVar, tNil, gName, tRet, tRetN, tDrop, tNext, tIfS, tTest, tB, tOr, tAnd, tNot, tIf, tOrV, tAndV, tNotV, tChain, rI0, rI, rU, tUn, tC, tOp, rNe, rEq, tCall, tPart, tNoPart, tSl, tM0, tM1, tTup, tLst, tAug, gTup, gCons, gNil, rAdd, rSub, tNever, tBreak, tCont, L2.start, scSS, scII, scBB, ipI, sS, dS, d1, mkS, sL, nc1, nc2, Int.natCast_inj, List.map_cons, List.map_nil, List.length_cons, List.length_nil, List.replicate, List.cons_append, List.nil_append, List.append_nil, List.getElem?_cons_zero, List.getElem?_cons_succ, List.set_cons_zero, List.set_cons_succ, Option.some.injEq, V.str.injEq, V.int.injEq, V.bl.injEq, V.ref.injEq, List.cons.injEq, and_true, true_and, exists_eq_left', exists_eq_left, exists_eq, exists_eq', exists_and_left, exists_and_right, and_assoc, exists_const, reduceCtorEq, if_true, if_false, ite_true, ite_false, Bool.false_eq_true, decide_true, decide_false, Bool.not_true, Bool.not_false, cxK, tFldC, rN, tMakC, sp_einit]
  have x1 := insL_fr f1 a1 nq1
  have x2 := insL_fr f1 b1 nq2
  refine ⟨_, x1, _, rfl, _, x2, _, rfl, _, rfl, _, rfl, fun x H6 nx sx ix => ⟨ix, fun H' s' i' => ?_⟩⟩
  obtain ⟨sm, ed⟩ := edB_make (CE := CE) (N := N) nx sx s' i' c1 c2 c3 c4
  refine q H' x (f1.same sm) (fr_none f1 (fun z => ?_) nx) (k1.same sm) ed
  have z := List.mem_singleton.mp z
  subst z
  rw [k1.fl] at nx
  cases nx
end
end Pd

namespace Pd
open PySem PySem.Spec PyProof.Rows L2
open SX (S)
/-! ### tables of the top -/
structure Tbl (K : PySem.W.Frag) (w : World) (mg : Str → Option Value) (x : Str) (d : Addr) (kvs : List (Str × V)) : Prop where
  gl : mg x = some (.ref d)
  kd : ∃ es n, KDict K w d es n
  look : ∀ z, ∃ r : Option Value, PySem.W.nsIn K d z = some r ∧ (match kvs.lookup z with | some v => ∃ u, r = some u ∧ RelV v u | none => r = none)
section
variable {X : Cx} {x : Str} {d : Addr} {kvs : List (Str × V)}
def rInTb (d : Addr) (kvs : List (Str × V)) : R2 := fun x y H Q => ∃ z : Str, x = .str z ∧ y = .ref d ∧ Q (.bl (kvs.lookup z).isSome) H
theorem op_inTb (T : Tbl X.K X.w X.mg x d kvs) : OpR X (compareOp .In) (rInTb d kvs) := by
  obtain ⟨es, n, D⟩ := T.kd
  intro pins s σ H a y v u Q I rx ry h
  obtain ⟨z, rfl, rfl, q⟩ := h
  obtain ⟨r, e, m⟩ := T.look z
  refine op_in_kd D pins s σ H _ _ v u Q I rx ry ⟨z, r, rfl, rfl, e, ?_⟩
  have : r.isSome = (kvs.lookup z).isSome := by
    cases q : kvs.lookup z with
    | none => rw [q] at m; rw [m] <;> rfl
    | some y => rw [q] at m; obtain ⟨u, e, _⟩ := m; rw [e] <;> rfl
  rw [this]
  exact q
theorem pe_tb (T : Tbl X.K X.w X.mg x d kvs) {pos : Pos} (hg : Gl X x) (hd : (x == ("__debug__" : Str)) = false := by decide) : PE X (.Name x pos) (tC (.ref d)) := pe_glob hg T.gl rfl hd
def rNInTb (d : Addr) (kvs : List (Str × V)) : R2 := fun x y H Q => ∃ z : Str, x = .str z ∧ y = .ref d ∧ Q (.bl (!(kvs.lookup z).isSome)) H
theorem op_notInTb (T : Tbl X.K X.w X.mg x d kvs) : OpR X (compareOp .NotIn) (rNInTb d kvs) := by
  obtain ⟨es, n, D⟩ := T.kd
  intro pins s σ H a y v u Q I rx ry h
  obtain ⟨z, rfl, rfl, q⟩ := h
  obtain ⟨r, e, m⟩ := T.look z
  refine op_notIn_kd D pins s σ H _ _ v u Q I rx ry ⟨z, r, rfl, rfl, e, ?_⟩
  have : r.isSome = (kvs.lookup z).isSome := by
    cases q : kvs.lookup z with
    | none => rw [q] at m; rw [m] <;> rfl
    | some y => rw [q] at m; obtain ⟨u, e, _⟩ := m; rw [e] <;> rfl
  rw [this]
  exact q
end
def tru (ks : List (List Nat)) : List (Str × V) := ks.map fun k => (S k, V.bl true)
theorem tru_look (ks : List (List Nat)) (z : List Nat) : ((tru ks).lookup (S z)).isSome = decide (z ∈ ks) := by
  induction ks with
  | nil => rfl
  | cons k ks ih =>
    show (((S k, V.bl true) :: tru ks).lookup (S z)).isSome = _
    rw [List.lookup_cons]
    by_cases h : z = k
    · subst h
      rw [beq_self_eq_true]
      exact (decide_eq_true (List.mem_cons_self ..)).symm
    · rw [show (S z == S k) = false from beq_eq_false_iff_ne.mpr fun e => h (SX.S_inj e)]
      show ((tru ks).lookup (S z)).isSome = _
      rw [ih]
      exact decide_eq_decide.mpr ⟨fun m => List.mem_cons_of_mem _ m, fun m => (List.mem_cons.1 m).resolve_left h⟩
section
variable {X : Cx} {x : Str} {d : Addr} {kvs : List (Str × V)}
/-- TABLE[t], there -/
def rItTb (d : Addr) (kvs : List (Str × V)) : R2 := fun x y H Q => ∃ (z : Str) (v : V), x = .ref d ∧ y = .str z ∧ kvs.lookup z = some v ∧ Q v H
theorem ix_tb (T : Tbl X.K X.w X.mg x d kvs) : IxR X (rItTb d kvs) := by
  obtain ⟨es, n, D⟩ := T.kd
  intro value slice pins s σ H a y v u Q I rx ry h hs
  obtain ⟨z, w, rfl, rfl, hw, q⟩ := h
  obtain ⟨r, e, m⟩ := T.look z
  rw [hw] at m
  obtain ⟨u0, rfl, r0⟩ := m
  exact ix_kdict value slice pins s σ H _ _ v u Q I rx ry ⟨_, z, w, rfl, rfl, ⟨es, n, u0, D.at_, D.lit, e, r0⟩, q⟩ hs
end
end Pd

namespace Pd
open PySem PySem.Spec PyProof.Rows L2
open SX (S)
/-! ### how much is built -/
structure StA (a : Aut) (w : Edg) : Prop where
  eq : a.se.length = a.fo.length
  li : ∀ q ∈ w.la, q < a.fo.length
structure Szz (a a' : Aut) (w e : Edg) (n : Nat) : Prop extends StA a' e where
  fo : a'.fo.length = a.fo.length + n
  la : e.la.length ≤ w.la.length + n
  en : e.en.length ≤ w.en.length + n
theorem rowE_la {a b : Edg} : ∀ q ∈ (rowE a b).la, q ∈ a.la ∨ q ∈ b.la := by
  intro q h
  unfold rowE at h
  simp only at h
  split at h
  · exact List.mem_append.mp h
  · exact .inr h
theorem rowE_lal {a b : Edg} : (rowE a b).la.length ≤ a.la.length + b.la.length := by
  unfold rowE
  simp only
  split
  · rw [List.length_append]; omega
  · omega
theorem rowE_enl {a b : Edg} : (rowE a b).en.length ≤ a.en.length + b.en.length := by
  unfold rowE
  simp only
  split
  · rw [List.length_append]; omega
  · omega
/-- one part behind what stands -/
theorem Szz.row {a b c : Aut} {w0 w e : Edg} {n m : Nat} (x : Szz a b w0 w n) (y : Szz b c eE e m) : Szz a ⟨c.se, leadL c.fo w.la e.fi⟩ w0 (rowE w e) (n + m) := by
  have h1 := x.fo
  have h2 := y.fo
  have h3 := x.la
  have h4 := y.la
  have h5 := x.en
  have h6 := y.en
  simp only [eE, List.length_nil] at h4 h6
  refine ⟨⟨by rw [leadL_length]; exact y.eq, fun q hq => ?_⟩, by rw [leadL_length]; omega, ?_, ?_⟩
  · rw [leadL_length]
    rcases rowE_la q hq with h | h
    · have := x.li q h; omega
    · exact y.li q h
  · have := @rowE_lal w e; omega
  · have := @rowE_enl w e; omega
theorem copy_sz {f : Aut → Aut × Edg} {n : Nat} (hf : ∀ a, a.se.length = a.fo.length → Szz a (f a).1 eE (f a).2 n) {star : Bool} {l k m : Nat} {a0 a : Aut} {w0 w : Edg} (x : Szz a0 a w0 w m) : Szz a0 (copyA f star l k a w).1 w0 (copyA f star l k a w).2 (m + n) := by
  have y := hf a x.eq
  have e : copyA f star l k a w = (⟨(f a).1.se, leadL (if star then leadL (f a).1.fo (f a).2.la (f a).2.fi else (f a).1.fo) w.la (if l ≤ k then { (f a).2 with nu := 15 } else (f a).2).fi⟩, rowE w (if l ≤ k then { (f a).2 with nu := 15 } else (f a).2)) := rfl
  rw [e]
  have y1 : Szz a ⟨(f a).1.se, if star then leadL (f a).1.fo (f a).2.la (f a).2.fi else (f a).1.fo⟩ eE (f a).2 n := by
    cases star with
    | false => exact y
    | true => exact ⟨⟨by show _ = (leadL _ _ _).length; rw [leadL_length]; exact y.eq, fun q h => by show _ < (leadL _ _ _).length; rw [leadL_length]; exact y.li q h⟩, by show (leadL _ _ _).length = _; rw [leadL_length]; exact y.fo, y.la, y.en⟩
  have y2 : Szz a ⟨(f a).1.se, if star then leadL (f a).1.fo (f a).2.la (f a).2.fi else (f a).1.fo⟩ eE (if l ≤ k then { (f a).2 with nu := 15 } else (f a).2) n := by
    by_cases h : l ≤ k
    · rw [if_pos h]; exact ⟨⟨y1.eq, y1.li⟩, y1.fo, y1.la, y1.en⟩
    · rw [if_neg h]; exact y1
  exact x.row y2
/-- so many copies of c -/
def repTo (f : Aut → Aut × Edg) (star : Bool) (l c : Nat) (a : Aut) (w : Edg) : Nat → Aut × Edg
  | 0 => (a, w)
  | j + 1 => copyA f (star && (j + 1 == c)) l j (repTo f star l c a w j).1 (repTo f star l c a w j).2
theorem repA_to (f : Aut → Aut × Edg) (star : Bool) (l c : Nat) (a : Aut) (w : Edg) : ∀ (r k : Nat), k + r = c → repA f star l r k (repTo f star l c a w k).1 (repTo f star l c a w k).2 = repTo f star l c a w c
  | 0, k, h => by
    rw [repA]
    have : k = c := by omega
    subst this
    rfl
  | r + 1, k, h => by
    rw [repA]
    have e : (r == 0) = (k + 1 == c) := by
      by_cases z : r = 0
      · subst z
        have : k + 1 = c := by omega
        simp [this]
      · have h2 : ¬ k + 1 = c := by omega
        rw [beq_false_of_ne z, beq_false_of_ne h2]
    rw [e]
    exact repA_to f star l c a w r (k + 1) (by omega)
theorem repA_is (f : Aut → Aut × Edg) (star : Bool) (l c : Nat) (a : Aut) (w : Edg) : repA f star l c 0 a w = repTo f star l c a w c := repA_to f star l c a w c 0 (by omega)
theorem repTo_sz {f : Aut → Aut × Edg} {n : Nat} (hf : ∀ a, a.se.length = a.fo.length → Szz a (f a).1 eE (f a).2 n) {star : Bool} {l c : Nat} {a : Aut} {w : Edg} (h : StA a w) : ∀ j, Szz a (repTo f star l c a w j).1 w (repTo f star l c a w j).2 (j * n)
  | 0 => ⟨h, by rw [Nat.zero_mul]; rfl, by rw [Nat.zero_mul]; exact Nat.le_refl _, by rw [Nat.zero_mul]; exact Nat.le_refl _⟩
  | j + 1 => by
    have := copy_sz hf (star := star && (j + 1 == c)) (l := l) (k := j) (repTo_sz hf (star := star) (l := l) (c := c) h j)
    rw [Nat.succ_mul]
    exact this
theorem pos_sz {a : Aut} {cs : List Nat} (h : a.se.length = a.fo.length) : Szz a (posA a cs).1 eE (posA a cs).2 1 := by
  refine ⟨⟨by simp [posA, h], fun q hq => ?_⟩, by simp [posA], by simp [posA, eE], by simp [posA, eE]⟩
  simp only [posA, List.mem_singleton] at hq
  subst hq
  simp [posA, h]
theorem unit_mem (es : List Edg) : ∀ (w : Edg) (q : Nat), q ∈ (es.foldl unitE w).la → q ∈ w.la ∨ ∃ e ∈ es, q ∈ e.la := by
  induction es with
  | nil => intro w q h; exact .inl h
  | cons e es ih =>
    intro w q h
    rw [List.foldl_cons] at h
    rcases ih _ q h with h | ⟨e', h1, h2⟩
    · rcases List.mem_append.mp (show q ∈ w.la ++ e.la from h) with h | h
      · exact .inl h
      · exact .inr ⟨e, .head _, h⟩
    · exact .inr ⟨e', .tail _ h1, h2⟩
/-- all parts of a choice -/
structure Sza (a a' : Aut) (es : List Edg) (n : Nat) : Prop where
  eq : a'.se.length = a'.fo.length
  li : ∀ e ∈ es, ∀ q ∈ e.la, q < a'.fo.length
  fo : a'.fo.length = a.fo.length + n
  la : (es.map fun e => e.la.length).sum ≤ n
  en : (es.map fun e => e.en.length).sum ≤ n
mutual
theorem built_sz : ∀ (p : Pat) (a : Aut), a.se.length = a.fo.length → Szz a (built p a).1 eE (built p a).2 p.n
  | .any, a, h => by rw [built, Pat.n]; exact pos_sz h
  | .sign c, a, h => by rw [built, Pat.n]; exact pos_sz h
  | .cls cs, a, h => by rw [built, Pat.n]; exact pos_sz h
  | .bg, a, h => by rw [built, Pat.n]; exact ⟨⟨h, fun q z => by cases z⟩, rfl, by simp, by simp⟩
  | .en, a, h => by rw [built, Pat.n]; exact ⟨⟨h, fun q z => by cases z⟩, rfl, by simp, by simp⟩
  | .row ps, a, h => by
    rw [built, Pat.n]
    have := row_sz ps a a eE eE 0 ⟨⟨h, fun q z => by cases z⟩, rfl, by simp, by simp⟩
    rwa [Nat.zero_add] at this
  | .alt ps, a, h => by
    rw [built, Pat.n]
    have := alt_sz ps a h
    refine ⟨⟨this.eq, fun q hq => ?_⟩, this.fo, ?_, ?_⟩
    · rcases unit_mem _ _ q hq with z | ⟨e, h1, h2⟩
      · cases z
      · exact this.li e h1 q h2
    · rw [unit_la]; have := this.la; simp only [eN, eE, List.length_nil]; omega
    · rw [unit_en]; have := this.en; simp only [eN, eE, List.length_nil]; omega
  | .rep p l m, a, h => by
    rw [built, Pat.n, repA_is]
    exact repTo_sz (fun a h => built_sz p a h) ⟨h, fun q z => by cases z⟩ _
theorem row_sz : ∀ (ps : List Pat) (a0 a : Aut) (w0 w : Edg) (m : Nat), Szz a0 a w0 w m → Szz a0 (builtRow ps a w).1 w0 (builtRow ps a w).2 (m + nL ps)
  | [], a0, a, w0, w, m, h => by rw [builtRow, nL]; exact h
  | p :: ps, a0, a, w0, w, m, h => by
    rw [builtRow, nL, ← Nat.add_assoc]
    exact row_sz ps a0 _ w0 _ _ (h.row (built_sz p a h.eq))
theorem alt_sz : ∀ (ps : List Pat) (a : Aut), a.se.length = a.fo.length → Sza a (builtAll ps a).1 (builtAll ps a).2 (nL ps)
  | [], a, h => by rw [builtAll, nL]; exact ⟨h, (fun _ z => by cases z), rfl, by simp, by simp⟩
  | p :: ps, a, h => by
    rw [builtAll, nL]
    have x := built_sz p a h
    have y := alt_sz ps (built p a).1 x.eq
    have h1 := x.fo; have h2 := y.fo; have h3 := x.la; have h4 := y.la; have h5 := x.en; have h6 := y.en
    simp only [eE, List.length_nil] at h3 h5
    refine ⟨y.eq, fun e he q hq => ?_, by show (builtAll ps (built p a).1).1.fo.length = _; omega, ?_, ?_⟩
    · rcases List.mem_cons.mp he with he | he
      · subst he
        have := x.li q hq
        show q < (builtAll ps (built p a).1).1.fo.length
        omega
      · exact y.li e he q hq
    · simp only [List.map_cons, List.sum_cons]; omega
    · simp only [List.map_cons, List.sum_cons]; omega
end
/-! ### one part more -/
theorem builtRow_snoc (p : Pat) : ∀ (ps : List Pat) (a : Aut) (w : Edg), builtRow (ps ++ [p]) a w = (⟨(built p (builtRow ps a w).1).1.se, leadL (built p (builtRow ps a w).1).1.fo (builtRow ps a w).2.la (built p (builtRow ps a w).1).2.fi⟩, rowE (builtRow ps a w).2 (built p (builtRow ps a w).1).2)
  | [], a, w => by simp only [List.nil_append, builtRow]
  | q :: ps, a, w => by
    rw [List.cons_append, builtRow, builtRow]
    exact builtRow_snoc p ps _ _
theorem builtAll_snoc (p : Pat) : ∀ (ps : List Pat) (a : Aut), builtAll (ps ++ [p]) a = ((built p (builtAll ps a).1).1, (builtAll ps a).2 ++ [(built p (builtAll ps a).1).2])
  | [], a => by simp only [List.nil_append, builtAll]
  | q :: ps, a => by
    rw [List.cons_append, builtAll, builtAll, builtAll_snoc p ps _]
    rfl
theorem nL_app : ∀ (ps qs : List Pat), nL (ps ++ qs) = nL ps + nL qs
  | [], qs => by simp [nL]
  | p :: ps, qs => by rw [List.cons_append, nL, nL, nL_app ps qs]; omega
theorem nL_take (ps : List Pat) (i : Nat) : nL (ps.take i) ≤ nL ps := by
  have := nL_app (ps.take i) (ps.drop i)
  rw [List.take_append_drop] at this
  omega
theorem nL_get {ps : List Pat} {i : Nat} {p : Pat} (h : ps[i]? = some p) : nL (ps.take i) + p.n ≤ nL ps := by
  have := nL_take ps (i + 1)
  rw [List.take_add_one, h, nL_app] at this
  simp only [Option.toList_some, nL] at this
  omega
mutual
/-- counts that may be walked -/
def Pat.Sm : Pat → Prop
  | .row ps => SmL ps ∧ ps.length ≤ 1000
  | .alt ps => SmL ps ∧ ps.length ≤ 1000
  | .rep p l m => p.Sm ∧ l ≤ 1000 ∧ ∀ x, m = some x → x ≤ 1000
  | _ => True
def SmL : List Pat → Prop
  | [] => True
  | p :: ps => p.Sm ∧ SmL ps
end
theorem SmL_get : ∀ {ps : List Pat} {i : Nat} {p : Pat}, SmL ps → ps[i]? = some p → p.Sm
  | [], _, _, _, h => by cases h
  | q :: ps, 0, p, s, h => by rw [SmL] at s; cases h; exact s.1
  | q :: ps, i + 1, p, s, h => by rw [SmL] at s; exact SmL_get (i := i) s.2 h
theorem WfL_get : ∀ {ps : List Pat} {i : Nat} {p : Pat}, WfL ps → ps[i]? = some p → p.Wf
  | [], _, _, _, h => by cases h
  | q :: ps, 0, p, s, h => by rw [WfL] at s; cases h; exact s.1
  | q :: ps, i + 1, p, s, h => by rw [WfL] at s; exact WfL_get (i := i) s.2 h
theorem dLs_get : ∀ {ps : List Pat} {i : Nat} {p : Pat}, ps[i]? = some p → p.d ≤ dLs ps
  | [], _, _, h => by cases h
  | q :: ps, 0, p, h => by rw [dLs]; cases h; omega
  | q :: ps, i + 1, p, h => by rw [dLs]; have := dLs_get (ps := ps) (i := i) h; omega
theorem patDs_get : ∀ {ps : List Pat} {i : Nat}, (patDs ps)[i]? = (ps[i]?).map patD
  | [], _ => rfl
  | q :: ps, 0 => rfl
  | q :: ps, i + 1 => patDs_get (ps := ps) (i := i)
theorem patDs_len : ∀ ps : List Pat, (patDs ps).length = ps.length
  | [] => rfl
  | q :: ps => congrArg (· + 1) (patDs_len ps)
end Pd

namespace Pd
open PySem PySem.Spec PyProof.Rows L2
open SX (S)
theorem AuB.out {CA C : Addr} {ns : List Str} {H : Hp} {p ls fo dm db q : Addr} {a : Aut} {vs : List V} (h : AuB CA H p ls fo dm db a) (i : InsL C ns H q vs) : q ∉ [ls, fo] := fun z => by
  simp only [List.mem_cons, List.not_mem_nil, or_false] at z
  rcases z with z | z
  · exact insL_ne i h.se z
  · exact insL_ne i h.fl z
theorem AuB.outN {CA : Addr} {H : Hp} {p ls fo dm db q : Addr} {a : Aut} (h : AuB CA H p ls fo dm db a) (i : H q = none) : q ∉ [ls, fo] := fun z => by
  simp only [List.mem_cons, List.not_mem_nil, or_false] at z
  rcases z with rfl | rfl
  · rw [h.se] at i; cases i
  · rw [h.fl] at i; cases i
section
variable {P : Program} {w : World} {K : PySem.W.Frag} {mg : Str → Option Value} {base : Heap} {CE CA CS : Addr}
/-- a pattern at v -/
structure PtD (K : PySem.W.Frag) (H : Hp) (v : V) (p : Pat) : Prop where
  dp : Dp K H v (patD p)
  wf : p.Wf
  sm : p.Sm
def sp_built (K : PySem.W.Frag) (CE CA : Addr) (d : Nat) : Sp := fun vs H Q _ => ∃ (p ls fo dm db : Addr) (v : V) (pat : Pat) (a : Aut) (N : List Addr), vs = [.ref p, v] ∧ AuB CA H p ls fo dm db a ∧ PtD K H v pat ∧ pat.d < d ∧ a.se.length = a.fo.length ∧ a.fo.length + pat.n ≤ 50000 ∧ ls ∈ N ∧ fo ∈ N ∧ (∀ x ∈ N, H x ≠ none) ∧
  ∀ H' q, Fr [ls, fo] H H' → H q = none → AuB CA H' p ls fo dm db (built pat a).1 → EdB CE N H' q (built pat a).2 → Q (.ref q) H'
def sp_brep (K : PySem.W.Frag) (CE CA : Addr) (d : Nat) : Sp := fun vs H Q _ => ∃ (p ls fo dm db : Addr) (v : V) (pat : Pat) (l : Nat) (m : Option Nat) (a : Aut) (N : List Addr), vs = [.ref p, v] ∧ AuB CA H p ls fo dm db a ∧ PtD K H v (.rep pat l m) ∧ pat.d < d ∧ a.se.length = a.fo.length ∧ a.fo.length + (Pat.rep pat l m).n ≤ 50000 ∧ ls ∈ N ∧ fo ∈ N ∧ (∀ x ∈ N, H x ≠ none) ∧
  ∀ H' q, Fr [ls, fo] H H' → H q = none → AuB CA H' p ls fo dm db (built (.rep pat l m) a).1 → EdB CE N H' q (built (.rep pat l m) a).2 → Q (.ref q) H'
theorem scAutomaton_built_repeat : FnScope ["self", "pattern", "_", "part", "least", "most", "whole", "copies", "number", "one"] ["self", "pattern"] (defScope (inClass (topS 10) 2)) := ⟨rfl, rfl, rfl, by decide +kernel, rfl, by decide +kernel, by decide +kernel⟩
theorem ok_brep {d : Nat} (T : BiA mg) (o_Automaton : OCls K CA nsA) (o_Edges : OCls K CE nsE) (K_Edges : MakC P w K mg base 1 CE "Edges" (sp_einit CE)) (M_Automaton_lead : MetC P w K mg base 1 CA "lead" (sp_lead K CA)) (M_Automaton_in_row : MetC P w K mg base 3 CA "in_row" (sp_inrow CE CA)) (g_EVERYWHERE : ∃ t, mg "EVERYWHERE" = some (.int 15 t))
    (M_Automaton_built_part : MetC P w K mg base (2 * d + 5) CA "built_part" (sp_built K CE CA d)) (D : Mdf K CA "built_repeat" "Automaton.built_repeat" (inClass (topS 10) 2) ["self", "pattern"]) : MetC P w K mg base (2 * d + 6) CA "built_repeat" (sp_brep K CE CA d) := by
  refine met_of D scAutomaton_built_repeat (fun vs H Q E h => ?_) (fun f cdv A outer s H vs Q E hr h => ?_)
  · obtain ⟨p, ls, fo, dm, db, v, pat, l, m, a, N, rfl, _⟩ := h
    rfl
  obtain ⟨p, ls, fo, dm, db, v, pat, l, m, a, N, rfl, hA, hp, hd, he, hn, hls, hfo, lsn, q⟩ := h
  obtain ⟨pa, xs, rfl, hx, hxs⟩ := (show Dp K H v (.tuple _) by have := hp.dp; rw [patD] at this; exact this).tupI
  obtain ⟨x0, xs, rfl, _, hxs⟩ := hxs.c1
  obtain ⟨v1, xs, rfl, hv1, hxs⟩ := hxs.c1
  obtain ⟨x2, xs, rfl, h2, hxs⟩ := hxs.c1
  obtain ⟨x3, xs, rfl, h3, hxs⟩ := hxs.c1
  cases hxs.c0
  cases h2
  cases optN_I h3
  have wf := hp.wf
  have smp := hp.sm
  rw [Pat.Wf] at wf
  rw [Pat.Sm] at smp
  have hn' : a.fo.length + copiesOf l m * pat.n ≤ 50000 := by rw [Pat.n] at hn; exact hn
  have hc : copiesOf l m ≤ 1000 := by
    unfold copiesOf
    cases m with
    | none => simp only; omega
    | some x => exact smp.2.2 x rfl
  obtain ⟨c, hcd⟩ : ∃ c, c = copiesOf l m := ⟨_, rfl⟩
  rw [← hcd] at hn' hc
  have bsz := fun a h => built_sz pat a h
  have rsz : ∀ j, Szz a (repTo (built pat) m.isNone l c a eE j).1 eE (repTo (built pat) m.isNone l c a eE j).2 (j * pat.n) := fun j => repTo_sz bsz ⟨he, fun q z => by cases z⟩ j
  refine ⟨_, (C8.pss_cut (ps_asg (pv 1) (pg_tupK (n := 4) rfl rfl (pgs_cons (pg_name (i := 2) scAutomaton_built_repeat.nd rfl (Or.inl rfl)) (pgs_cons (pg_name (i := 3) scAutomaton_built_repeat.nd rfl (Or.inl rfl)) (pgs_cons (pg_name (i := 4) scAutomaton_built_repeat.nd rfl (Or.inl rfl)) (pgs_cons (pg_name (i := 5) scAutomaton_built_repeat.nd rfl (Or.inl rfl)) pgs_nil))))))
      (C8.pss_cut (ps_set (i := 6) scAutomaton_built_repeat.nd rfl (Or.inl rfl) (pmk (ns := nsE) K_Edges hr (by omega) (by rfl) (pa_cons (pe_ci g_EVERYWHERE (by rfl)) (pa_cons pe_int (pa_cons pe_int (pa_cons (pe_lst pa_nil) (pa_cons (pe_lst pa_nil) pa_nil)))))))
      (C8.pss_cut (ps_set (i := 7) scAutomaton_built_repeat.nd rfl (Or.inl rfl) (pv 5))
      (C8.pss_cut (ps_if (pt_cmpR op_isN (pv 5) pe_non (nomark _)) (pss_one (ps_set (i := 7) scAutomaton_built_repeat.nd rfl (Or.inl rfl) (pe_callB (call_max2 rfl) (by rfl) T.b_max (by decide +kernel) (pa_cons pe_int (pa_cons (pv 4) pa_nil))))) pss_nil)
      (C8.pss_cut (ps_for PassesOwn.never rfl (pi_range1 (by rfl) T.b_range (pa_cons (pv 7) pa_nil)) (pg_name (i := 8) scAutomaton_built_repeat.nd rfl (Or.inl rfl)) (C8.pss_cut (ps_set (i := 9) scAutomaton_built_repeat.nd rfl (Or.inl rfl) (pm M_Automaton_built_part o_Automaton (by decide +kernel) mono_var hr (by omega) (pv 0) (pa_cons (pv 3) pa_nil)))
      (C8.pss_cut (ps_if (PW.pt (pw_and (pt_cmpR op_isN (pv 5) pe_non (nomark _)) (pw_and1 (pt_cmpR op_eq (pv 8) (pe_op op_sub (pv 7) pe_int) (nomark _))))) (pss_one (ps_expr (pm M_Automaton_lead o_Automaton (by decide +kernel) mono_var hr (by omega) (pv 0) (pa_cons (pe_fldC (k := 3) o_Edges (pv 9) rfl) (pa_cons (pe_fldC (k := 1) o_Edges (pv 9) rfl) pa_nil))))) pss_nil)
      (C8.pss_cut (ps_if (pt_cmpR op_ge (pv 8) (pv 4) (nomark _)) (pss_one (ps_fldC (k := 0) o_Edges (pv 9) (pe_ci g_EVERYWHERE (by rfl)) rfl)) pss_nil)
      (pss_one (ps_set (i := 6) scAutomaton_built_repeat.nd rfl (Or.inl rfl) (pm M_Automaton_in_row o_Automaton (by decide +kernel) mono_var hr (by omega) (pv 0) (pa_cons (pv 6) (pa_cons (pv 9) pa_nil)))))))))
      (pss_one (ps_ret (pv 6)))))))), ?_⟩
  have sub2 : ∀ x ∈ [ls, fo], x ∈ N := fun x hx => by
    simp only [List.mem_cons, List.not_mem_nil, or_false] at hx
    rcases hx with rfl | rfl
    · exact hls
    · exact hfo
  have lsF : ∀ {G : Hp} {b : Aut}, Fr [ls, fo] H G → AuB CA G p ls fo dm db b → ∀ x ∈ N, G x ≠ none := fun {G b} f k x hx e => by
    by_cases z : x ∈ [ls, fo]
    · exact k.outN e z
    · exact lsn x hx (fr_none f z e)
  obtain ⟨M1, hM1⟩ : ∃ M : L2.St → Hp → Prop, ∀ σ' H', M σ' H' ↔ σ' = [some (.ref p), some (.ref pa), some x0, some v1, some (.int (l : Nat)), some (optNV m), none, none, none, none] ∧ Same H H' := ⟨_, fun _ _ => Iff.rfl⟩
  refine ⟨M1, ?_, fun σ1 H1 g1 => ?_⟩
  · simp only [tSeq, tAsg, tCB, tCons, tVar, tNil, gName, tRet, tRetN, tDrop, tNext, tIfS, tTest, tB, tOr, tAnd, tNot, tIf, tOrV, tAndV, tNotV, tChain, rI0, rI, rU, tUn, tC, tOp, rNe, rEq, tCall, tPart, tNoPart, tSl, tM0, tM1, tTup, tLst, tAug, gTup, gCons, gNil, rAdd, rSub, tNever, tBreak, tCont, L2.start, scSS, scII, scBB, ipI, sS, dS, d1, mkS, sL, nc1, nc2, Int.natCast_inj, List.map_cons, List.map_nil, List.length_cons, List.length_nil, List.replicate, List.cons_append, List.nil_append, List.append_nil, List.getElem?_cons_zero, List.getElem?_cons_succ, List.set_cons_zero, List.set_cons_succ, Option.some.injEq, V.str.injEq, V.int.injEq, V.bl.injEq, V.ref.injEq, List.cons.injEq, and_true, true_and, exists_eq_left', exists_eq_left, exists_eq, exists_eq', exists_and_left, exists_and_right, and_assoc, exists_const, reduceCtorEq, if_true, if_false, ite_true, ite_false, Bool.false_eq_true, decide_true, decide_false, Bool.not_true, Bool.not_false, cxK]
    exact ⟨_, hx, rfl, _, _, rfl, _, _, rfl, _, _, rfl, _, _, rfl, rfl, (hM1 _ _).mpr ⟨rfl, Same.refl _⟩⟩
  obtain ⟨rfl, s1⟩ := (hM1 _ _).mp g1
  obtain ⟨M2, hM2⟩ : ∃ M : V → Option V → L2.St → Hp → Prop, ∀ x v σ' H', M x v σ' H' ↔ ∃ q0 : Addr, x = .ref q0 ∧ σ' = [some (.ref p), some (.ref pa), some x0, some v1, some (.int (l : Nat)), some (optNV m), some x, v, none, none] ∧ Same H H' ∧ H q0 = none ∧ EdB CE N H' q0 eE := ⟨_, fun _ _ _ _ => Iff.rfl⟩
  refine ⟨fun σ' H' => ∃ x, M2 x none σ' H', ?_, fun σ2 H2 g2 => ?_⟩
  · simp only [tSeq, tAsg, tCB, tCons, tVar, tNil, gName, tRet, tRetN, tDrop, tNext, tIfS, tTest, tB, tOr, tAnd, tNot, tIf, tOrV, tAndV, tNotV, tChain, rI0, rI, rU, tUn, tC, tOp, rNe, rEq, tCall, tPart, tNoPart, tSl, tM0, tM1, tTup, tLst, tAug, gTup, gCons, gNil, rAdd, rSub, tNever, tBreak, tCont, L2.start, scSS, scII, scBB, ipI, sS, dS, d1, mkS, sL, nc1, nc2, Int.natCast_inj, List.map_cons, List.map_nil, List.length_cons, List.length_nil, List.replicate, List.cons_append, List.nil_append, List.append_nil, List.getElem?_cons_zero, List.getElem?_cons_succ, List.set_cons_zero, List.set_cons_succ, Option.some.injEq, V.str.injEq, V.int.injEq, V.bl.injEq, V.ref.injEq, List.cons.injEq, and_true, true_and, exists_eq_left', exists_eq_left, exists_eq, exists_eq', exists_and_left, exists_and_right, and_assoc, exists_const, reduceCtorEq, if_true, if_false, ite_true, ite_false, Bool.false_eq_true, decide_true, decide_false, Bool.not_true, Bool.not_false, cxK, tMakC, sp_einit]
    refine ⟨Nat.zero_le _, fun p1 n1 => ⟨Nat.zero_le _, fun p2 n2 x H2 nx sx ix => ⟨ix, fun H3 s3 i3 => ?_⟩⟩⟩
    have t1 := same_upd (o := .lst []) n1
    have t2 := same_upd (o := .lst []) n2
    obtain ⟨sm, ed⟩ := edB_make (CE := CE) (N := N) (nu := 15) (fi := 0) (bg := 0) (la := []) (en := []) nx sx s3 i3 (t2 _ _ upd_same) upd_same (fun z => lsn _ z (fr_none (A := []) (.of s1) (by simp) n1)) (fun z => lsn _ z (fr_none (A := []) (.of (s1.trans t1)) (by simp) n2))
    exact ⟨_, (hM2 _ _ _ _).mpr ⟨x, rfl, rfl, ((s1.trans t1).trans t2).trans sm, fr_none (A := []) (.of ((s1.trans t1).trans t2)) (by simp) nx, ed⟩⟩
  obtain ⟨x, g2⟩ := g2
  obtain ⟨q0, rfl, rfl, s2, nq0, ed0⟩ := (hM2 _ _ _ _).mp g2
  refine ⟨fun σ' H' => M2 (.ref q0) (some (optNV m)) σ' H', ?_, fun σ3 H3 g3 => ?_⟩
  · simp only [tSeq, tAsg, tCB, tCons, tVar, tNil, gName, tRet, tRetN, tDrop, tNext, tIfS, tTest, tB, tOr, tAnd, tNot, tIf, tOrV, tAndV, tNotV, tChain, rI0, rI, rU, tUn, tC, tOp, rNe, rEq, tCall, tPart, tNoPart, tSl, tM0, tM1, tTup, tLst, tAug, gTup, gCons, gNil, rAdd, rSub, tNever, tBreak, tCont, L2.start, scSS, scII, scBB, ipI, sS, dS, d1, mkS, sL, nc1, nc2, Int.natCast_inj, List.map_cons, List.map_nil, List.length_cons, List.length_nil, List.replicate, List.cons_append, List.nil_append, List.append_nil, List.getElem?_cons_zero, List.getElem?_cons_succ, List.set_cons_zero, List.set_cons_succ, Option.some.injEq, V.str.injEq, V.int.injEq, V.bl.injEq, V.ref.injEq, List.cons.injEq, and_true, true_and, exists_eq_left', exists_eq_left, exists_eq, exists_eq', exists_and_left, exists_and_right, and_assoc, exists_const, reduceCtorEq, if_true, if_false, ite_true, ite_false, Bool.false_eq_true, decide_true, decide_false, Bool.not_true, Bool.not_false, cxK]
    exact (hM2 _ _ _ _).mpr ⟨q0, rfl, rfl, s2, nq0, ed0⟩
  obtain ⟨_, e3, rfl, s3, _, ed3⟩ := (hM2 _ _ _ _).mp g3
  cases e3
  refine ⟨fun σ' H' => M2 (.ref q0) (some (.int (c : Nat))) σ' H', ?_, fun σ4 H4 g4 => ?_⟩
  · simp only [tSeq, tAsg, tCB, tCons, tVar, tNil, gName, tRet, tRetN, tDrop, tNext, tIfS, tTest, tB, tOr, tAnd, tNot, tIf, tOrV, tAndV, tNotV, tChain, rI0, rI, rU, tUn, tC, tOp, rNe, rEq, tCall, tPart, tNoPart, tSl, tM0, tM1, tTup, tLst, tAug, gTup, gCons, gNil, rAdd, rSub, tNever, tBreak, tCont, L2.start, scSS, scII, scBB, ipI, sS, dS, d1, mkS, sL, nc1, nc2, Int.natCast_inj, List.map_cons, List.map_nil, List.length_cons, List.length_nil, List.replicate, List.cons_append, List.nil_append, List.append_nil, List.getElem?_cons_zero, List.getElem?_cons_succ, List.set_cons_zero, List.set_cons_succ, Option.some.injEq, V.str.injEq, V.int.injEq, V.bl.injEq, V.ref.injEq, List.cons.injEq, and_true, true_and, exists_eq_left', exists_eq_left, exists_eq, exists_eq', exists_and_left, exists_and_right, and_assoc, exists_const, reduceCtorEq, if_true, if_false, ite_true, ite_false, Bool.false_eq_true, decide_true, decide_false, Bool.not_true, Bool.not_false, cxK]
    cases m with
    | none =>
      rw [if_pos (by decide)]
      refine (hM2 _ _ _ _).mpr ⟨q0, rfl, ?_, s3, nq0, ed3⟩
      have : (if (l : Int) > 1 then (l : Int) else 1) = (c : Nat) := by
        rw [hcd]
        show _ = ((max 1 l : Nat) : Int)
        split <;> omega
      rw [this]
    | some y =>
      rw [if_neg (by simp [optNV])]
      refine (hM2 _ _ _ _).mpr ⟨q0, rfl, ?_, s3, nq0, ed3⟩
      rw [hcd]
      rfl
  obtain ⟨_, e4, rfl, s4, _, ed4⟩ := (hM2 _ _ _ _).mp g4
  cases e4
  have npl : p ∉ [ls, fo] := by
    intro z
    simp only [List.mem_cons, List.not_mem_nil, or_false] at z
    rcases z with z | z
    · exact insL_ne hA.ob hA.se z
    · exact insL_ne hA.ob hA.fl z
  obtain ⟨Pv, hPv⟩ : ∃ Pv : Nat → L2.St → Hp → Prop, ∀ i σ H', Pv i σ H' ↔ ∃ (qi : Addr) (v8 v9 : Option V), σ = [some (.ref p), some (.ref pa), some x0, some v1, some (.int (l : Nat)), some (optNV m), some (.ref qi), some (.int (c : Nat)), v8, v9] ∧ Fr [ls, fo] H H' ∧ H qi = none ∧ AuB CA H' p ls fo dm db (repTo (built pat) m.isNone l c a eE i).1 ∧ EdB CE N H' qi (repTo (built pat) m.isNone l c a eE i).2 := ⟨_, fun _ _ _ => Iff.rfl⟩
  obtain ⟨Mf, hMf⟩ : ∃ M : L2.St → Hp → Prop, ∀ σ' H', M σ' H' ↔ Pv c σ' H' := ⟨_, fun _ _ => Iff.rfl⟩
  refine ⟨Mf, ?_, fun σ5 H5 g5 => ?_⟩
  · simp only [tSeq, tAsg, tCB, tCons, tVar, tNil, gName, tRet, tRetN, tDrop, tNext, tIfS, tTest, tB, tOr, tAnd, tNot, tIf, tOrV, tAndV, tNotV, tChain, rI0, rI, rU, tUn, tC, tOp, rNe, rEq, tCall, tPart, tNoPart, tSl, tM0, tM1, tTup, tLst, tAug, gTup, gCons, gNil, rAdd, rSub, tNever, tBreak, tCont, L2.start, scSS, scII, scBB, ipI, sS, dS, d1, mkS, sL, nc1, nc2, Int.natCast_inj, List.map_cons, List.map_nil, List.length_cons, List.length_nil, List.replicate, List.cons_append, List.nil_append, List.append_nil, List.getElem?_cons_zero, List.getElem?_cons_succ, List.set_cons_zero, List.set_cons_succ, Option.some.injEq, V.str.injEq, V.int.injEq, V.bl.injEq, V.ref.injEq, List.cons.injEq, and_true, true_and, exists_eq_left', exists_eq_left, exists_eq, exists_eq', exists_and_left, exists_and_right, and_assoc, exists_const, reduceCtorEq, if_true, if_false, ite_true, ite_false, Bool.false_eq_true, decide_true, decide_false, Bool.not_true, Bool.not_false, cxK, eFoR]
    refine ⟨by omega, by omega, ?_⟩
    rw [Int.toNat_natCast]
    refine foR (lo := 0) (n := c) Pv ((hPv _ _ _).mpr ⟨q0, none, none, rfl, .of s4, nq0, hA.same s4, ed4⟩) (fun i σ' H' hi g => ?_) (fun σ' H' g => (hMf _ _).mpr g)
    obtain ⟨qi, v8, v9, rfl, fr, nqi, ki, edi⟩ := (hPv _ _ _).mp g
    have sz := rsz i
    have in1 : (i + 1) * pat.n ≤ c * pat.n := Nat.mul_le_mul_right _ (by omega)
    rw [Nat.succ_mul] at in1
    have szf := sz.fo
    obtain ⟨ai, hai⟩ : ∃ ai, ai = (repTo (built pat) m.isNone l c a eE i).1 := ⟨_, rfl⟩
    obtain ⟨wi, hwi⟩ : ∃ wi, wi = (repTo (built pat) m.isNone l c a eE i).2 := ⟨_, rfl⟩
    have step : repTo (built pat) m.isNone l c a eE (i + 1) = copyA (built pat) (m.isNone && (i + 1 == c)) l i ai wi := by rw [hai, hwi]; rfl
    rw [← hai] at ki szf sz
    rw [← hwi] at edi sz
    have bs := bsz ai sz.eq
    have pt : PtD K H' v1 pat := ⟨dp_fr fr _ _ (noL_pat pat) hv1, wf.1, smp.1⟩
    obtain ⟨N1, hN1⟩ : ∃ NN : Aut → Edg → L2.St → Hp → Prop, ∀ b e σ' G, NN b e σ' G ↔ ∃ q1 : Addr, σ' = [some (.ref p), some (.ref pa), some x0, some v1, some (.int (l : Nat)), some (optNV m), some (.ref qi), some (.int (c : Nat)), some (.int (0 + (i : Int))), some (.ref q1)] ∧ Fr [ls, fo] H' G ∧ H' q1 = none ∧ AuB CA G p ls fo dm db b ∧ EdB CE N G q1 e := ⟨_, fun _ _ _ _ => Iff.rfl⟩
    refine ⟨N1 (built pat ai).1 (built pat ai).2, ?_, fun σ6 H6 g6 => ?_⟩
    · simp only [tSeq, tAsg, tCB, tCons, tVar, tNil, gName, tRet, tRetN, tDrop, tNext, tIfS, tTest, tB, tOr, tAnd, tNot, tIf, tOrV, tAndV, tNotV, tChain, rI0, rI, rU, tUn, tC, tOp, rNe, rEq, tCall, tPart, tNoPart, tSl, tM0, tM1, tTup, tLst, tAug, gTup, gCons, gNil, rAdd, rSub, tNever, tBreak, tCont, L2.start, scSS, scII, scBB, ipI, sS, dS, d1, mkS, sL, nc1, nc2, Int.natCast_inj, List.map_cons, List.map_nil, List.length_cons, List.length_nil, List.replicate, List.cons_append, List.nil_append, List.append_nil, List.getElem?_cons_zero, List.getElem?_cons_succ, List.set_cons_zero, List.set_cons_succ, Option.some.injEq, V.str.injEq, V.int.injEq, V.bl.injEq, V.ref.injEq, List.cons.injEq, and_true, true_and, exists_eq_left', exists_eq_left, exists_eq, exists_eq', exists_and_left, exists_and_right, and_assoc, exists_const, reduceCtorEq, if_true, if_false, ite_true, ite_false, Bool.false_eq_true, decide_true, decide_false, Bool.not_true, Bool.not_false, cxK, tMetC, sp_built]
      exact ⟨⟨_, ki.ob⟩, ls, fo, dm, db, pat, ai, ki, pt, hd, sz.eq, by omega, N, hls, hfo, lsF fr ki, fun G q1 f1 nq1 kb e1 => (hN1 _ _ _ _).mpr ⟨q1, rfl, f1, nq1, kb, e1⟩⟩
    obtain ⟨q1, rfl, f6, nq1, k6, e6⟩ := (hN1 _ _ _ _).mp g6
    obtain ⟨ab, hab⟩ : ∃ ab, ab = (built pat ai).1 := ⟨_, rfl⟩
    obtain ⟨eb, heb⟩ : ∃ eb, eb = (built pat ai).2 := ⟨_, rfl⟩
    rw [← hab] at k6 bs
    rw [← heb] at e6 bs
    obtain ⟨la1, en1, a1, a2, a3, a4, a5⟩ := e6.ex
    obtain ⟨star, hst⟩ : ∃ star, star = (m.isNone && (i + 1 == c)) := ⟨_, rfl⟩
    obtain ⟨b2, hb2⟩ : ∃ b2 : Aut, b2 = ⟨ab.se, if star then leadL ab.fo eb.la eb.fi else ab.fo⟩ := ⟨_, rfl⟩
    refine ⟨N1 b2 eb, ?_, fun σ7 H7 g7 => ?_⟩
    · simp only [tSeq, tAsg, tCB, tCons, tVar, tNil, gName, tRet, tRetN, tDrop, tNext, tIfS, tTest, tB, tOr, tAnd, tNot, tIf, tOrV, tAndV, tNotV, tChain, rI0, rI, rU, tUn, tC, tOp, rNe, rEq, tCall, tPart, tNoPart, tSl, tM0, tM1, tTup, tLst, tAug, gTup, gCons, gNil, rAdd, rSub, tNever, tBreak, tCont, L2.start, scSS, scII, scBB, ipI, sS, dS, d1, mkS, sL, nc1, nc2, Int.natCast_inj, List.map_cons, List.map_nil, List.length_cons, List.length_nil, List.replicate, List.cons_append, List.nil_append, List.append_nil, List.getElem?_cons_zero, List.getElem?_cons_succ, List.set_cons_zero, List.set_cons_succ, Option.some.injEq, V.str.injEq, V.int.injEq, V.bl.injEq, V.ref.injEq, List.cons.injEq, and_true, true_and, exists_eq_left', exists_eq_left, exists_eq, exists_eq', exists_and_left, exists_and_right, and_assoc, exists_const, reduceCtorEq, if_true, if_false, ite_true, ite_false, Bool.false_eq_true, decide_true, decide_false, Bool.not_true, Bool.not_false, cxK, tMetC, sp_lead, tFldC]
      cases hs : star with
      | true =>
        rw [hs] at hst hb2
        rw [if_pos rfl] at hb2
        have h1 := hst.symm
        rw [Bool.and_eq_true] at h1
        have hm0 : m = none := Option.isNone_iff_eq_none.mp h1.1
        have hi1 : i + 1 = c := by simpa using h1.2
        rw [if_pos (by rw [hm0]; rfl), if_pos (decide_eq_true (by omega))]
        refine ⟨⟨_, k6.ob⟩, _, a1, _, rfl, _, a1, _, rfl, ls, fo, dm, db, ab, la1, rfl, eb.la, eb.fi, rfl, k6, a2, fun z => a4 (by rw [z]; exact hfo), bs.li, fun G f1 kb => (hN1 _ _ _ _).mpr ⟨q1, rfl, f6.trans (f1.mono (by simp)), nq1, by rw [hb2]; exact kb, e6.fr f1 (fun x hx => by cases List.mem_singleton.mp hx; exact hfo) (fun z => k6.out a1 (by cases List.mem_singleton.mp z; simp))⟩⟩
      | false =>
        rw [hs] at hst hb2
        have e : b2 = ab := by rw [hb2]; rfl
        rw [e]
        have fin := (hN1 ab eb _ _).mpr ⟨q1, rfl, f6, nq1, k6, e6⟩
        cases m with
        | none =>
          have hi1 : i + 1 ≠ c := fun z => by
            rw [z] at hst
            simp at hst
          rw [if_pos (by rfl), if_neg (by simp; omega)]
          exact fin
        | some y =>
          rw [if_neg (by simp [optNV])]
          exact fin
    obtain ⟨q7, rfl, f7, nq7, k7, ed7⟩ := (hN1 _ _ _ _).mp g7
    obtain ⟨e2, he2⟩ : ∃ e2 : Edg, e2 = if l ≤ i then { eb with nu := 15 } else eb := ⟨_, rfl⟩
    obtain ⟨la7, en7, c1, c2, c3, c4, c5⟩ := ed7.ex
    refine ⟨N1 b2 e2, ?_, fun σ8 H8 g8 => ?_⟩
    · simp only [tSeq, tAsg, tCB, tCons, tVar, tNil, gName, tRet, tRetN, tDrop, tNext, tIfS, tTest, tB, tOr, tAnd, tNot, tIf, tOrV, tAndV, tNotV, tChain, rI0, rI, rU, tUn, tC, tOp, rNe, rEq, tCall, tPart, tNoPart, tSl, tM0, tM1, tTup, tLst, tAug, gTup, gCons, gNil, rAdd, rSub, tNever, tBreak, tCont, L2.start, scSS, scII, scBB, ipI, sS, dS, d1, mkS, sL, nc1, nc2, Int.natCast_inj, List.map_cons, List.map_nil, List.length_cons, List.length_nil, List.replicate, List.cons_append, List.nil_append, List.append_nil, List.getElem?_cons_zero, List.getElem?_cons_succ, List.set_cons_zero, List.set_cons_succ, Option.some.injEq, V.str.injEq, V.int.injEq, V.bl.injEq, V.ref.injEq, List.cons.injEq, and_true, true_and, exists_eq_left', exists_eq_left, exists_eq, exists_eq', exists_and_left, exists_and_right, and_assoc, exists_const, reduceCtorEq, if_true, if_false, ite_true, ite_false, Bool.false_eq_true, decide_true, decide_false, Bool.not_true, Bool.not_false, cxK, sFldC]
      by_cases z : l ≤ i
      · rw [if_pos (decide_eq_true (by omega))]
        rw [if_pos z] at he2
        obtain ⟨o7, o7e, o7n⟩ := insL_some c1
        refine ⟨_, c1, Nat.zero_le _, fun G sG iG => (hN1 _ _ _ _).mpr ⟨q7, rfl, f7.put (.inr nq7) o7e o7n sG, nq7, ?_, ?_⟩⟩
        · have o := k7.out c1
          simp only [List.mem_cons, List.not_mem_nil, or_false, not_or] at o
          refine ⟨insL_at k7.ob (sG _ fun z => ?_), (sG _ (Ne.symm o.1)).trans k7.se, (sG _ (Ne.symm o.2)).trans k7.fl, k7.ne⟩
          subst z
          obtain ⟨dx, b1, _⟩ := ki.ob
          rw [b1] at nq7
          cases nq7
        · rw [he2]
          exact ⟨la7, en7, iG, (sG _ (insL_ne c1 c2).symm).trans c2, (sG _ (insL_ne c1 c3).symm).trans c3, c4, c5⟩
      · rw [if_neg (by simp; omega)]
        rw [if_neg z] at he2
        rw [he2]
        exact (hN1 _ _ _ _).mpr ⟨q7, rfl, f7, nq7, k7, ed7⟩
    obtain ⟨q8, rfl, f8, nq8, k8, ed8⟩ := (hN1 _ _ _ _).mp g8
    simp only [tSeq, tAsg, tCB, tCons, tVar, tNil, gName, tRet, tRetN, tDrop, tNext, tIfS, tTest, tB, tOr, tAnd, tNot, tIf, tOrV, tAndV, tNotV, tChain, rI0, rI, rU, tUn, tC, tOp, rNe, rEq, tCall, tPart, tNoPart, tSl, tM0, tM1, tTup, tLst, tAug, gTup, gCons, gNil, rAdd, rSub, tNever, tBreak, tCont, L2.start, scSS, scII, scBB, ipI, sS, dS, d1, mkS, sL, nc1, nc2, Int.natCast_inj, List.map_cons, List.map_nil, List.length_cons, List.length_nil, List.replicate, List.cons_append, List.nil_append, List.append_nil, List.getElem?_cons_zero, List.getElem?_cons_succ, List.set_cons_zero, List.set_cons_succ, Option.some.injEq, V.str.injEq, V.int.injEq, V.bl.injEq, V.ref.injEq, List.cons.injEq, and_true, true_and, exists_eq_left', exists_eq_left, exists_eq, exists_eq', exists_and_left, exists_and_right, and_assoc, exists_const, reduceCtorEq, if_true, if_false, ite_true, ite_false, Bool.false_eq_true, decide_true, decide_false, Bool.not_true, Bool.not_false, cxK, tMetC, sp_inrow]
    have sz1 := rsz (i + 1)
    rw [step] at sz1
    have b2l : b2.fo.length = ab.fo.length := by
      rw [hb2]
      cases star
      · rfl
      · show (leadL _ _ _).length = _
        rw [leadL_length]
    have bf := bs.fo
    have l1 := sz.la
    have l2 := sz.en
    have l3 := bs.la
    have l4 := bs.en
    simp only [eE, List.length_nil] at l1 l2 l3 l4
    have e2l : e2.la = eb.la ∧ e2.en = eb.en ∧ e2.fi = eb.fi := by
      rw [he2]
      split <;> exact ⟨rfl, rfl, rfl⟩
    obtain ⟨_, _, d1, _⟩ := edi.ex
    have cA : copyA (built pat) (m.isNone && (i + 1 == c)) l i ai wi = (⟨b2.se, leadL b2.fo wi.la e2.fi⟩, rowE wi e2) := by
      rw [hb2, he2, hst, hab, heb]
      rfl
    refine ⟨⟨_, k8.ob⟩, ls, fo, dm, db, b2, k8, wi, e2, N, hfo, lsF (fr.trans f8) k8, edi.fr f8 sub2 (ki.out d1), ed8, fun x hx => ?_, ?_, ?_, fun G q' fG nG kG eG => (hPv _ _ _).mpr ⟨q', _, _, rfl, (fr.trans f8).trans (fG.mono (by simp)), fr_none (fr.trans f8) (k8.outN nG) nG, ?_, ?_⟩⟩
    · have := sz.li x hx; omega
    · rw [e2l.1]; omega
    · rw [e2l.2.1]; omega
    · rw [step, cA]; exact kG
    · rw [step, cA]; exact eG
  obtain ⟨qi, v8, v9, rfl, fr, nqi, ki, edi⟩ := (hPv _ _ _).mp ((hMf _ _).mp g5)
  simp only [tSeq, tAsg, tCB, tCons, tVar, tNil, gName, tRet, tRetN, tDrop, tNext, tIfS, tTest, tB, tOr, tAnd, tNot, tIf, tOrV, tAndV, tNotV, tChain, rI0, rI, rU, tUn, tC, tOp, rNe, rEq, tCall, tPart, tNoPart, tSl, tM0, tM1, tTup, tLst, tAug, gTup, gCons, gNil, rAdd, rSub, tNever, tBreak, tCont, L2.start, scSS, scII, scBB, ipI, sS, dS, d1, mkS, sL, nc1, nc2, Int.natCast_inj, List.map_cons, List.map_nil, List.length_cons, List.length_nil, List.replicate, List.cons_append, List.nil_append, List.append_nil, List.getElem?_cons_zero, List.getElem?_cons_succ, List.set_cons_zero, List.set_cons_succ, Option.some.injEq, V.str.injEq, V.int.injEq, V.bl.injEq, V.ref.injEq, List.cons.injEq, and_true, true_and, exists_eq_left', exists_eq_left, exists_eq, exists_eq', exists_and_left, exists_and_right, and_assoc, exists_const, reduceCtorEq, if_true, if_false, ite_true, ite_false, Bool.false_eq_true, decide_true, decide_false, Bool.not_true, Bool.not_false, cxK]
  refine q H5 qi fr nqi ?_ ?_
  · rw [built, repA_is, ← hcd]; exact ki
  · rw [built, repA_is, ← hcd]; exact edi
end
end Pd

namespace Pd
open PySem PySem.Spec PyProof.Rows L2
open SX (S)
def tagOf : Pat → List Nat
  | .any => [97, 110, 121]
  | .sign _ => [115, 105, 103, 110]
  | .cls _ => [99, 108, 97, 115, 115]
  | .bg => [98, 101, 103, 105, 110]
  | .en => [101, 110, 100]
  | .row _ => [114, 111, 119]
  | .alt _ => [111, 114]
  | .rep _ _ _ => [114, 101, 112, 101, 97, 116]
def nullT : List (Str × V) := [(S [98, 101, 103, 105, 110], .int 10), (S [101, 110, 100], .int 12)]
section
variable {P : Program} {w : World} {K : PySem.W.Frag} {mg : Str → Option Value} {base : Heap} {CE CA CS : Addr}
theorem PtD.at {H : Hp} {v : V} {p : Pat} (h : PtD K H v p) : ∃ (a : Addr) (xs : List V) (ds : List PyData), v = .ref a ∧ SqT K H a (.str (S (tagOf p)) :: xs) ∧ patD p = .tuple (.str (S (tagOf p)) :: ds) ∧ DpAll K H xs ds := by
  obtain ⟨ds, e⟩ : ∃ ds, patD p = .tuple (.str (S (tagOf p)) :: ds) := by
    cases p <;> rw [patD] <;> exact ⟨_, rfl⟩
  have d := h.dp
  rw [e] at d
  obtain ⟨a, xs, rfl, h1, h2⟩ := d.tupI
  obtain ⟨x, xs, rfl, hx, h3⟩ := h2.c1
  cases hx
  exact ⟨a, xs, ds, rfl, h1, e, h3⟩
theorem edE_new {N : List Addr} {H H2 H3 : Hp} {p1 p2 x : Addr} {nu : Nat} (n1 : H p1 = none) (n2 : upd H p1 (.lst []) p2 = none) (nx : upd (upd H p1 (.lst [])) p2 (.lst []) x = none) (sx : ∀ b o, upd (upd H p1 (.lst [])) p2 (.lst []) b = some o → H2 b = some o) (s3 : ∀ b, b ≠ x → H3 b = H2 b)
    (i3 : InsL CE nsE H3 x [.int (nu : Nat), .int 0, .int 0, .ref p1, .ref p2]) (hN : ∀ x ∈ N, H x ≠ none) : Same H H3 ∧ H x = none ∧ EdB CE N H3 x ⟨nu, 0, 0, [], []⟩ := by
  have t1 := same_upd (o := .lst []) n1
  have t2 := same_upd (o := .lst []) n2
  obtain ⟨sm, ed⟩ := edB_make (CE := CE) (N := N) (nu := nu) (fi := 0) (bg := 0) (la := []) (en := []) nx sx s3 i3 (t2 _ _ upd_same) upd_same (fun z => hN _ z n1) (fun z => hN _ z (fr_none (A := []) (.of t1) (by simp) n2))
  exact ⟨(t1.trans t2).trans sm, fr_none (A := []) (.of (t1.trans t2)) (by simp) nx, ed⟩
theorem EdB.updD {N : List Addr} {H : Hp} {D q : Addr} {e : Edg} {xs : List V} {o : HO} (h : EdB CE (D :: N) H q e) (eD : H D = some (.lst xs)) : EdB CE (D :: N) (upd H D o) q e :=
  h.fr (A := [D]) (Fr.refl.upd (.inl (.head _)) eD rfl) (fun x hx => by cases List.mem_singleton.mp hx; exact .head _) (fun z => by
    obtain ⟨_, _, b1, _⟩ := h.ex
    exact insL_ne b1 eD (List.mem_singleton.mp z))
theorem builtAll_len : ∀ (ps : List Pat) (a : Aut), (builtAll ps a).2.length = ps.length
  | [], a => by rw [builtAll]; rfl
  | p :: ps, a => by rw [builtAll, List.length_cons, List.length_cons, builtAll_len ps _]
theorem scAutomaton_built_part : FnScope ["self", "pattern", "tag", "whole", "part", "signs", "at"] ["self", "pattern"] (defScope (inClass (topS 10) 1)) := ⟨rfl, rfl, rfl, by decide +kernel, rfl, by decide +kernel, by decide +kernel⟩
theorem ok_bpart {d : Nat} {dN : Addr} (T : BiA mg) (o_Automaton : OCls K CA nsA) (o_Edges : OCls K CE nsE) (K_Edges : MakC P w K mg base 1 CE "Edges" (sp_einit CE)) (M_Automaton_in_row : MetC P w K mg base 3 CA "in_row" (sp_inrow CE CA)) (g_EVERYWHERE : ∃ t, mg "EVERYWHERE" = some (.int 15 t)) (g_NOWHERE : ∃ t, mg "NOWHERE" = some (.int 0 t)) (g_SIGNS : ∃ t, mg "SIGNS" = some (.str (S allSigns) t)) (t_NULLS : Tbl K w mg "NULLS" dN nullT) (c_united : ∀ N, Cal P w K mg base 3 "united" (sp_unit CE N))
    (M_Automaton_built_part : MetC P w K mg base (2 * d + 5) CA "built_part" (sp_built K CE CA d)) (M_Automaton_built_repeat : MetC P w K mg base (2 * d + 6) CA "built_repeat" (sp_brep K CE CA d)) (D : Mdf K CA "built_part" "Automaton.built_part" (inClass (topS 10) 1) ["self", "pattern"]) : MetC P w K mg base (2 * d + 7) CA "built_part" (sp_built K CE CA (d + 1)) := by
  refine met_of D scAutomaton_built_part (fun vs H Q E h => ?_) (fun f cdv A outer s H vs Q E hr h => ?_)
  · obtain ⟨p, ls, fo, dm, db, v, pat, a, N, rfl, _⟩ := h
    rfl
  obtain ⟨p, ls, fo, dm, db, v, pat, a, N, rfl, hA, hp, hd, he, hn, hls, hfo, lsn, q⟩ := h
  obtain ⟨pa, xs, ds, rfl, hx, hds, hxs⟩ := hp.at
  have c_united := c_united N
  refine ⟨_, (C8.pss_cut (ps_set (i := 2) scAutomaton_built_part.nd rfl (Or.inl rfl) (pe_ix ix_tup (pv 1) pe_int (fun _ _ => rfl)))
      (C8.pss_cut (ps_if (pt_cmpR op_eq (pv 2) pe_str (nomark _)) (pss_cons (ps_set (i := 3) scAutomaton_built_part.nd rfl (Or.inl rfl) (pmk (ns := nsE) K_Edges hr (by omega) (by rfl) (pa_cons (pe_ci g_EVERYWHERE (by rfl)) (pa_cons pe_int (pa_cons pe_int (pa_cons (pe_lst pa_nil) (pa_cons (pe_lst pa_nil) pa_nil)))))))
      (pss_cons (ps_for PassesOwn.never rfl (pi_tup (pe_ix ix_tup (pv 1) pe_int (fun _ _ => rfl))) (pg_name (i := 4) scAutomaton_built_part.nd rfl (Or.inl rfl)) (pss_one (ps_set (i := 3) scAutomaton_built_part.nd rfl (Or.inl rfl) (pm M_Automaton_in_row o_Automaton (by decide +kernel) mono_var hr (by omega) (pv 0) (pa_cons (pv 3) (pa_cons (pm M_Automaton_built_part o_Automaton (by decide +kernel) mono_var hr (by omega) (pv 0) (pa_cons (pv 4) pa_nil)) pa_nil))))))
      (pss_one (ps_ret (pv 3))))) pss_nil)
      (C8.pss_cut (ps_if (pt_cmpR op_eq (pv 2) pe_str (nomark _)) (pss_one (ps_ret (pc c_united hr (by omega) rfl (pa_cons (pe_lc (own := [("part", 4)]) (g := gName 4) (tt := tYes) rfl scAutomaton_built_part.nd (pi_tup (pe_ix ix_tup (pv 1) pe_int (fun _ _ => rfl))) (blkOk_by (N := ["self", "pattern", "tag", "whole", "part", "signs", "at"]) (sc := defScope (inClass (topS 10) 1)) (by decide +kernel)) (fun _ _ _ _ _ => (pg_name (i := 4) scAutomaton_built_part.nd rfl (Or.inl rfl))) (fun _ _ _ _ _ => pts_nil) (fun _ _ _ _ _ => (pm M_Automaton_built_part o_Automaton (by decide +kernel) mono_var hr (by omega) (pv 0) (pa_cons (pv 4) pa_nil)))) pa_nil)))) pss_nil)
      (C8.pss_cut (ps_if (pt_cmpR op_eq (pv 2) pe_str (nomark _)) (pss_one (ps_ret (pm M_Automaton_built_repeat o_Automaton (by decide +kernel) mono_var hr (by omega) (pv 0) (pa_cons (pv 1) pa_nil)))) pss_nil)
      (C8.pss_cut (ps_if (pt_cmpR (op_inTb t_NULLS) (pv 2) (pe_tb t_NULLS (by rfl)) (by rfl)) (pss_one (ps_ret (pmk (ns := nsE) K_Edges hr (by omega) (by rfl) (pa_cons (pe_ix (ix_tb t_NULLS) (pe_tb t_NULLS (by rfl)) (pv 2) (fun _ _ => rfl)) (pa_cons pe_int (pa_cons pe_int (pa_cons (pe_lst pa_nil) (pa_cons (pe_lst pa_nil) pa_nil)))))))) pss_nil)
      (C8.pss_cut (ps_set (i := 5) scAutomaton_built_part.nd rfl (Or.inl rfl) (pe_cst g_SIGNS (by rfl)))
      (C8.pss_cut (ps_if (pt_cmpR op_ne (pv 2) pe_str (nomark _)) (pss_one (ps_set (i := 5) scAutomaton_built_part.nd rfl (Or.inl rfl) (pe_ix ix_tup (pv 1) pe_int (fun _ _ => rfl)))) pss_nil)
      (pss_cons (ps_set (i := 6) scAutomaton_built_part.nd rfl (Or.inl rfl) (pe_callB call_len_seq (by rfl) T.b_len (by decide +kernel) (pa_cons (pe_fldC (k := 0) o_Automaton (pv 0) rfl) pa_nil)))
      (pss_cons (ps_expr (pe_bm PySem.F.plainAttrs_list PySem.F.slot_list_append PySem.F.type_list_append mt_append (pe_fldC (k := 0) o_Automaton (pv 0) rfl) (pa_cons (pv 5) pa_nil)))
      (pss_cons (ps_expr (pe_bm PySem.F.plainAttrs_list PySem.F.slot_list_append PySem.F.type_list_append mt_append (pe_fldC (k := 1) o_Automaton (pv 0) rfl) (pa_cons pe_int pa_nil)))
      (pss_one (ps_ret (pmk (ns := nsE) K_Edges hr (by omega) (by rfl) (pa_cons (pe_ci g_NOWHERE (by rfl)) (pa_cons (pe_op op_bit pe_int (pv 6)) (pa_cons (pe_op op_bit pe_int (pv 6)) (pa_cons (pe_lst (pa_cons (pv 6) pa_nil)) (pa_cons (pe_lst (pa_cons (pv 6) pa_nil)) pa_nil)))))))))))))))))), ?_⟩
  have sub2 : ∀ x ∈ [ls, fo], x ∈ N := fun x hx => by
    simp only [List.mem_cons, List.not_mem_nil, or_false] at hx
    rcases hx with rfl | rfl
    · exact hls
    · exact hfo
  have lsF : ∀ {G : Hp} {b : Aut}, Fr [ls, fo] H G → AuB CA G p ls fo dm db b → ∀ x ∈ N, G x ≠ none := fun {G b} f k x hx e => by
    by_cases z : x ∈ [ls, fo]
    · exact k.outN e z
    · exact lsn x hx (fr_none f z e)
  obtain ⟨M1, hM1⟩ : ∃ M : L2.St → Hp → Prop, ∀ σ' H', M σ' H' ↔ σ' = [some (.ref p), some (.ref pa), some (.str (S (tagOf pat))), none, none, none, none] ∧ H' = H := ⟨_, fun _ _ => Iff.rfl⟩
  refine ⟨M1, ?_, fun σ1 H1 g1 => ?_⟩
  · simp only [tSeq, tAsg, tCB, tCons, tVar, tNil, gName, tRet, tRetN, tDrop, tNext, tIfS, tTest, tB, tOr, tAnd, tNot, tIf, tOrV, tAndV, tNotV, tChain, rI0, rI, rU, tUn, tC, tOp, rNe, rEq, tCall, tPart, tNoPart, tSl, tM0, tM1, tTup, tLst, tAug, gTup, gCons, gNil, rAdd, rSub, tNever, tBreak, tCont, L2.start, scSS, scII, scBB, ipI, sS, dS, d1, mkS, sL, nc1, nc2, Int.natCast_inj, List.map_cons, List.map_nil, List.length_cons, List.length_nil, List.replicate, List.cons_append, List.nil_append, List.append_nil, List.getElem?_cons_zero, List.getElem?_cons_succ, List.set_cons_zero, List.set_cons_succ, Option.some.injEq, V.str.injEq, V.int.injEq, V.bl.injEq, V.ref.injEq, List.cons.injEq, and_true, true_and, exists_eq_left', exists_eq_left, exists_eq, exists_eq', exists_and_left, exists_and_right, and_assoc, exists_const, reduceCtorEq, if_true, if_false, ite_true, ite_false, Bool.false_eq_true, decide_true, decide_false, Bool.not_true, Bool.not_false, cxK, rIxT]
    exact ⟨_, hx, _, atI_nat (j := 0) rfl, (hM1 _ _).mpr ⟨rfl, rfl⟩⟩
  obtain ⟨rfl, rfl⟩ := (hM1 _ _).mp g1
  refine ⟨fun σ' H' => M1 σ' H' ∧ (∀ ps, pat ≠ .row ps), ?_, fun σ1 H1 g1 => ?_⟩
  · by_cases z : ∃ ps, pat = .row ps
    · obtain ⟨ps, rfl⟩ := z
      rw [patD] at hds
      cases hds
      obtain ⟨x1, xs, rfl, hx1, hxs⟩ := hxs.c1
      cases hxs.c0
      obtain ⟨pb, ys, rfl, hy, hys⟩ := hx1.tupI
      have wf := hp.wf
      have smp := hp.sm
      rw [Pat.Wf] at wf
      rw [Pat.Sm] at smp
      rw [Pat.d] at hd
      rw [Pat.n] at hn
      have dp := hp.dp
      simp only [tSeq, tAsg, tCB, tCons, tVar, tNil, gName, tRet, tRetN, tDrop, tNext, tIfS, tTest, tB, tOr, tAnd, tNot, tIf, tOrV, tAndV, tNotV, tChain, rI0, rI, rU, tUn, tC, tOp, rNe, rEq, tCall, tPart, tNoPart, tSl, tM0, tM1, tTup, tLst, tAug, gTup, gCons, gNil, rAdd, rSub, tNever, tBreak, tCont, L2.start, scSS, scII, scBB, ipI, sS, dS, d1, mkS, sL, nc1, nc2, Int.natCast_inj, List.map_cons, List.map_nil, List.length_cons, List.length_nil, List.replicate, List.cons_append, List.nil_append, List.append_nil, List.getElem?_cons_zero, List.getElem?_cons_succ, List.set_cons_zero, List.set_cons_succ, Option.some.injEq, V.str.injEq, V.int.injEq, V.bl.injEq, V.ref.injEq, List.cons.injEq, and_true, true_and, exists_eq_left', exists_eq_left, exists_eq, exists_eq', exists_and_left, exists_and_right, and_assoc, exists_const, reduceCtorEq, if_true, if_false, ite_true, ite_false, Bool.false_eq_true, decide_true, decide_false, Bool.not_true, Bool.not_false, cxK, tagOf, tMakC, sp_einit, eFoT, l_9, l_16, l_21, l_22]
      refine ⟨Nat.zero_le _, fun p1 n1 => ⟨Nat.zero_le _, fun p2 n2 x H2 nx sx ix => ⟨ix, fun H3 s3 i3 => ?_⟩⟩⟩
      obtain ⟨s1, nx1, ed⟩ := edE_new (CE := CE) (N := N) (nu := 15) n1 n2 nx sx s3 i3 lsn
      refine ⟨_, _, _, _, rfl, rfl, sqT_same s1 hx, atI_nat (j := 1) rfl, _, rfl, ⟨_, sqT_same s1 hy⟩, ?_⟩
      obtain ⟨Pv, hPv⟩ : ∃ Pv : Nat → L2.St → Hp → Prop, ∀ i σ H', Pv i σ H' ↔ ∃ (qi : Addr) (v4 : Option V), σ = [some (.ref p), some (.ref pa), some (.str (S [114, 111, 119])), some (.ref qi), v4, none, none] ∧ Fr [ls, fo] H1 H' ∧ H1 qi = none ∧ AuB CA H' p ls fo dm db (builtRow (ps.take i) a eE).1 ∧ EdB CE N H' qi (builtRow (ps.take i) a eE).2 := ⟨_, fun _ _ _ => Iff.rfl⟩
      have ylen : ys.length = ps.length := by rw [hys.len, patDs_len]
      refine foT ys Pv ((hPv _ _ _).mpr ⟨x, none, rfl, .of s1, nx1, by rw [List.take_zero, builtRow]; exact hA.same s1, by rw [List.take_zero, builtRow]; exact ed⟩) (fun i σ' H' _ g => ?_) (fun i y σ' H' hy1 g => ?_) (fun σ' H' g => ?_)
      · obtain ⟨_, _, rfl, fr, _⟩ := (hPv _ _ _).mp g
        exact fr.sqT hy
      · obtain ⟨qi, v4, rfl, fr, nqi, ki, edi⟩ := (hPv _ _ _).mp g
        obtain ⟨dy, edy, ky⟩ := hys.at hy1
        rw [patDs_get] at edy
        obtain ⟨pi, epi, rfl⟩ := Option.map_eq_some_iff.mp edy
        have sz := row_sz (ps.take i) a a eE eE 0 ⟨⟨he, fun q z => by cases z⟩, rfl, by simp, by simp⟩
        rw [Nat.zero_add] at sz
        have ng := nL_get epi
        have szf := sz.fo
        obtain ⟨ai, hai⟩ : ∃ ai, ai = (builtRow (ps.take i) a eE).1 := ⟨_, rfl⟩
        obtain ⟨wi, hwi⟩ : ∃ wi, wi = (builtRow (ps.take i) a eE).2 := ⟨_, rfl⟩
        have step : builtRow (ps.take (i + 1)) a eE = (⟨(built pi ai).1.se, leadL (built pi ai).1.fo wi.la (built pi ai).2.fi⟩, rowE wi (built pi ai).2) := by
          rw [List.take_add_one, epi, hai, hwi]
          exact builtRow_snoc pi _ _ _
        rw [← hai] at ki szf sz
        rw [← hwi] at edi sz
        have bs := built_sz pi ai sz.eq
        have bf := bs.fo
        have l1 := sz.la
        have l2 := sz.en
        have l3 := bs.la
        have l4 := bs.en
        simp only [eE, List.length_nil] at l1 l2 l3 l4
        have pt : PtD K H' y pi := ⟨dp_fr fr _ _ (noL_pat pi) ky, WfL_get wf epi, SmL_get smp.1 epi⟩
        have dd := dLs_get epi
        obtain ⟨_, _, d1, _⟩ := edi.ex
        simp only [tSeq, tAsg, tCB, tCons, tVar, tNil, gName, tRet, tRetN, tDrop, tNext, tIfS, tTest, tB, tOr, tAnd, tNot, tIf, tOrV, tAndV, tNotV, tChain, rI0, rI, rU, tUn, tC, tOp, rNe, rEq, tCall, tPart, tNoPart, tSl, tM0, tM1, tTup, tLst, tAug, gTup, gCons, gNil, rAdd, rSub, tNever, tBreak, tCont, L2.start, scSS, scII, scBB, ipI, sS, dS, d1, mkS, sL, nc1, nc2, Int.natCast_inj, List.map_cons, List.map_nil, List.length_cons, List.length_nil, List.replicate, List.cons_append, List.nil_append, List.append_nil, List.getElem?_cons_zero, List.getElem?_cons_succ, List.set_cons_zero, List.set_cons_succ, Option.some.injEq, V.str.injEq, V.int.injEq, V.bl.injEq, V.ref.injEq, List.cons.injEq, and_true, true_and, exists_eq_left', exists_eq_left, exists_eq, exists_eq', exists_and_left, exists_and_right, and_assoc, exists_const, reduceCtorEq, if_true, if_false, ite_true, ite_false, Bool.false_eq_true, decide_true, decide_false, Bool.not_true, Bool.not_false, cxK, tMetC, sp_built, sp_inrow, l_9, l_16, l_21, l_22]
        refine ⟨⟨_, ki.ob⟩, ⟨_, ki.ob⟩, ls, fo, dm, db, pi, ai, ki, pt, by omega, sz.eq, by omega, N, hls, hfo, lsF fr ki, fun G q1 f1 nq1 kb e1 => ⟨ls, fo, dm, db, _, kb, wi, _, N, hfo, lsF (fr.trans f1) kb, edi.fr f1 sub2 (ki.out d1), e1, fun x hx => ?_, by omega, by omega, fun G2 q2 f2 nq2 k2 e2 => (hPv _ _ _).mpr ⟨q2, _, rfl, (fr.trans f1).trans (f2.mono (by simp)), fr_none (fr.trans f1) (kb.outN nq2) nq2, by rw [step]; exact k2, by rw [step]; exact e2⟩⟩⟩
        have := sz.li x hx
        omega
      · obtain ⟨qi, v4, rfl, fr, nqi, ki, edi⟩ := (hPv _ _ _).mp g
        simp only [tSeq, tAsg, tCB, tCons, tVar, tNil, gName, tRet, tRetN, tDrop, tNext, tIfS, tTest, tB, tOr, tAnd, tNot, tIf, tOrV, tAndV, tNotV, tChain, rI0, rI, rU, tUn, tC, tOp, rNe, rEq, tCall, tPart, tNoPart, tSl, tM0, tM1, tTup, tLst, tAug, gTup, gCons, gNil, rAdd, rSub, tNever, tBreak, tCont, L2.start, scSS, scII, scBB, ipI, sS, dS, d1, mkS, sL, nc1, nc2, Int.natCast_inj, List.map_cons, List.map_nil, List.length_cons, List.length_nil, List.replicate, List.cons_append, List.nil_append, List.append_nil, List.getElem?_cons_zero, List.getElem?_cons_succ, List.set_cons_zero, List.set_cons_succ, Option.some.injEq, V.str.injEq, V.int.injEq, V.bl.injEq, V.ref.injEq, List.cons.injEq, and_true, true_and, exists_eq_left', exists_eq_left, exists_eq, exists_eq', exists_and_left, exists_and_right, and_assoc, exists_const, reduceCtorEq, if_true, if_false, ite_true, ite_false, Bool.false_eq_true, decide_true, decide_false, Bool.not_true, Bool.not_false, cxK]
        rw [ylen, List.take_length] at ki edi
        exact q H' qi fr nqi (by rw [built]; exact ki) (by rw [built]; exact edi)
    · simp only [tSeq, tAsg, tCB, tCons, tVar, tNil, gName, tRet, tRetN, tDrop, tNext, tIfS, tTest, tB, tOr, tAnd, tNot, tIf, tOrV, tAndV, tNotV, tChain, rI0, rI, rU, tUn, tC, tOp, rNe, rEq, tCall, tPart, tNoPart, tSl, tM0, tM1, tTup, tLst, tAug, gTup, gCons, gNil, rAdd, rSub, tNever, tBreak, tCont, L2.start, scSS, scII, scBB, ipI, sS, dS, d1, mkS, sL, nc1, nc2, Int.natCast_inj, List.map_cons, List.map_nil, List.length_cons, List.length_nil, List.replicate, List.cons_append, List.nil_append, List.append_nil, List.getElem?_cons_zero, List.getElem?_cons_succ, List.set_cons_zero, List.set_cons_succ, Option.some.injEq, V.str.injEq, V.int.injEq, V.bl.injEq, V.ref.injEq, List.cons.injEq, and_true, true_and, exists_eq_left', exists_eq_left, exists_eq, exists_eq', exists_and_left, exists_and_right, and_assoc, exists_const, reduceCtorEq, if_true, if_false, ite_true, ite_false, Bool.false_eq_true, decide_true, decide_false, Bool.not_true, Bool.not_false, cxK, l_9, l_16, l_21, l_22]
      rw [if_neg (by cases pat <;> first | (simp [tagOf, SX.S_inj]; done) | (exact absurd ⟨_, rfl⟩ z) | decide)]
      exact ⟨(hM1 _ _).mpr ⟨rfl, rfl⟩, fun ps e => z ⟨ps, e⟩⟩
  obtain ⟨g1, z1⟩ := g1
  obtain ⟨rfl, rfl⟩ := (hM1 _ _).mp g1
  refine ⟨fun σ' H' => M1 σ' H' ∧ (∀ ps, pat ≠ .alt ps), ?_, fun σ1 H1 g1 => ?_⟩
  · by_cases z : ∃ ps, pat = .alt ps
    · obtain ⟨ps, rfl⟩ := z
      rw [patD] at hds
      cases hds
      obtain ⟨x1, xs, rfl, hx1, hxs⟩ := hxs.c1
      cases hxs.c0
      obtain ⟨pb, ys, rfl, hy, hys⟩ := hx1.tupI
      have wf := hp.wf
      have smp := hp.sm
      rw [Pat.Wf] at wf
      rw [Pat.Sm] at smp
      rw [Pat.d] at hd
      rw [Pat.n] at hn
      simp only [tSeq, tAsg, tCB, tCons, tVar, tNil, gName, tRet, tRetN, tDrop, tNext, tIfS, tTest, tB, tOr, tAnd, tNot, tIf, tOrV, tAndV, tNotV, tChain, rI0, rI, rU, tUn, tC, tOp, rNe, rEq, tCall, tPart, tNoPart, tSl, tM0, tM1, tTup, tLst, tAug, gTup, gCons, gNil, rAdd, rSub, tNever, tBreak, tCont, L2.start, scSS, scII, scBB, ipI, sS, dS, d1, mkS, sL, nc1, nc2, Int.natCast_inj, List.map_cons, List.map_nil, List.length_cons, List.length_nil, List.replicate, List.cons_append, List.nil_append, List.append_nil, List.getElem?_cons_zero, List.getElem?_cons_succ, List.set_cons_zero, List.set_cons_succ, Option.some.injEq, V.str.injEq, V.int.injEq, V.bl.injEq, V.ref.injEq, List.cons.injEq, and_true, true_and, exists_eq_left', exists_eq_left, exists_eq, exists_eq', exists_and_left, exists_and_right, and_assoc, exists_const, reduceCtorEq, if_true, if_false, ite_true, ite_false, Bool.false_eq_true, decide_true, decide_false, Bool.not_true, Bool.not_false, cxK, tagOf, rIxT, eLcT, sp_unit, l_9, l_16, l_21, l_22]
      refine ⟨_, hx, _, atI_nat (j := 1) rfl, _, rfl, ⟨_, hy⟩, lcT fun D nD => ?_⟩
      have ylen : ys.length = ps.length := by rw [hys.len, patDs_len]
      have asz := fun i => alt_sz (ps.take i) a he
      obtain ⟨Pv, hPv⟩ : ∃ Pv : Nat → Hp → Prop, ∀ i H', Pv i H' ↔ ∃ (qs : List Addr), Fr [ls, fo] H1 H' ∧ H' D = some (.lst (qs.map V.ref)) ∧ qs.length = (builtAll (ps.take i) a).2.length ∧ (∀ (j : Nat) (q : Addr) (e : Edg), qs[j]? = some q → (builtAll (ps.take i) a).2[j]? = some e → EdB CE (D :: N) H' q e) ∧ AuB CA H' p ls fo dm db (builtAll (ps.take i) a).1 := ⟨_, fun _ _ => Iff.rfl⟩
      have sD := same_upd (o := .lst []) nD
      have nDN : D ∉ [ls, fo] := hA.outN nD
      refine ⟨ys, Pv, (hPv _ _).mpr ⟨[], .of sD, upd_same, by rw [List.take_zero, builtAll]; rfl, (fun j q e h => by cases h), by rw [List.take_zero, builtAll]; exact hA.same sD⟩, fun i H' _ g => ?_, fun i y H' hy1 g => ?_, fun H' g => ?_⟩
      · obtain ⟨_, fr, _⟩ := (hPv _ _).mp g
        exact fr.sqT hy
      · obtain ⟨qs, fr, eD, el, eq, ki⟩ := (hPv _ _).mp g
        obtain ⟨dy, edy, ky⟩ := hys.at hy1
        rw [patDs_get] at edy
        obtain ⟨pi, epi, rfl⟩ := Option.map_eq_some_iff.mp edy
        have sz := asz i
        have ng := nL_get epi
        have szf := sz.fo
        have dd := dLs_get epi
        have pt : PtD K H' y pi := ⟨dp_fr fr _ _ (noL_pat pi) ky, WfL_get wf epi, SmL_get smp.1 epi⟩
        have step : builtAll (ps.take (i + 1)) a = ((built pi (builtAll (ps.take i) a).1).1, (builtAll (ps.take i) a).2 ++ [(built pi (builtAll (ps.take i) a).1).2]) := by
          rw [List.take_add_one, epi]
          exact builtAll_snoc pi _ _
        simp only [tSeq, tAsg, tCB, tCons, tVar, tNil, gName, tRet, tRetN, tDrop, tNext, tIfS, tTest, tB, tOr, tAnd, tNot, tIf, tOrV, tAndV, tNotV, tChain, rI0, rI, rU, tUn, tC, tOp, rNe, rEq, tCall, tPart, tNoPart, tSl, tM0, tM1, tTup, tLst, tAug, gTup, gCons, gNil, rAdd, rSub, tNever, tBreak, tCont, L2.start, scSS, scII, scBB, ipI, sS, dS, d1, mkS, sL, nc1, nc2, Int.natCast_inj, List.map_cons, List.map_nil, List.length_cons, List.length_nil, List.replicate, List.cons_append, List.nil_append, List.append_nil, List.getElem?_cons_zero, List.getElem?_cons_succ, List.set_cons_zero, List.set_cons_succ, Option.some.injEq, V.str.injEq, V.int.injEq, V.bl.injEq, V.ref.injEq, List.cons.injEq, and_true, true_and, exists_eq_left', exists_eq_left, exists_eq, exists_eq', exists_and_left, exists_and_right, and_assoc, exists_const, reduceCtorEq, if_true, if_false, ite_true, ite_false, Bool.false_eq_true, decide_true, decide_false, Bool.not_true, Bool.not_false, cxK, tMetC, sp_built, tYes, wipe, l_9, l_16, l_21, l_22]
        have nDH : ∀ x ∈ D :: N, H' x ≠ none := fun x hx => by
          rcases List.mem_cons.mp hx with hx | hx
          · subst hx; rw [eD]; simp
          · exact lsF fr ki x hx
        have sub3 : ∀ x ∈ [ls, fo], x ∈ D :: N := fun x hx => .tail _ (sub2 x hx)
        refine ⟨⟨_, ki.ob⟩, ls, fo, dm, db, pi, _, ki, pt, by omega, sz.eq, by omega, D :: N, .tail _ hls, .tail _ hfo, nDH, fun G q1 f1 nq1 kb e1 => ?_⟩
        have eG : G D = some (.lst (qs.map V.ref)) := f1.keep _ _ eD nDN
        have qle : qs.length ≤ 50000 := by
          have := (List.getElem?_eq_some_iff.mp hy1).1
          have sl : (builtAll (ps.take i) a).2.length ≤ ps.length := by rw [builtAll_len, List.length_take]; omega
          have := smp.2
          omega
        refine ⟨_, eG, by rw [List.length_map]; exact sz5 (show qs.length + 1 ≤ 100000 by omega), (hPv _ _).mpr ⟨qs ++ [q1], (fr.trans f1).upd (.inr nD) eG rfl, ?_, ?_, fun j q' e' h1 h2 => ?_, ?_⟩⟩
        · rw [upd_same, List.map_append]; rfl
        · rw [step]
          simp only [List.length_append, List.length_singleton, el]
        · rw [step] at h2
          simp only at h2
          by_cases hj : j < qs.length
          · rw [List.getElem?_append_left hj] at h1
            rw [List.getElem?_append_left (by omega)] at h2
            have old := eq j q' e' h1 h2
            obtain ⟨_, _, b1, _⟩ := old.ex
            exact (old.fr f1 sub3 (ki.out b1)).updD eG
          · rw [List.getElem?_append_right (by omega)] at h1 h2
            rw [← el] at h2
            cases hjj : j - qs.length with
            | zero =>
              rw [hjj] at h1 h2
              cases h1; cases h2
              exact e1.updD eG
            | succ k => rw [hjj] at h1; simp at h1
        · rw [step]
          exact kb.fr (A := [D]) (Fr.refl.upd (.inl (.head _)) eG rfl) (fun z => insL_ne kb.ob eG (List.mem_singleton.mp z)) (fun z => nDN (by rw [← List.mem_singleton.mp z]; simp)) (fun z => nDN (by rw [← List.mem_singleton.mp z]; simp))
      · obtain ⟨qs, fr, eD, el, eq, ki⟩ := (hPv _ _).mp g
        rw [ylen, List.take_length] at el eq ki
        have sz := alt_sz ps a he
        have s1 := sz.la
        have s2 := sz.en
        refine ⟨D, rfl, qs, eD, _, el, fun j q e h1 h2 => (eq j q e h1 h2).less (fun x hx => .tail _ hx), by omega, by omega, lsF fr ki, fun G q' sG nq' eG => ?_⟩
        refine q G q' (fr.same sG) (fr_none fr (ki.outN nq') nq') (by rw [built]; exact ki.same sG) (by rw [built]; exact eG)
    · simp only [tSeq, tAsg, tCB, tCons, tVar, tNil, gName, tRet, tRetN, tDrop, tNext, tIfS, tTest, tB, tOr, tAnd, tNot, tIf, tOrV, tAndV, tNotV, tChain, rI0, rI, rU, tUn, tC, tOp, rNe, rEq, tCall, tPart, tNoPart, tSl, tM0, tM1, tTup, tLst, tAug, gTup, gCons, gNil, rAdd, rSub, tNever, tBreak, tCont, L2.start, scSS, scII, scBB, ipI, sS, dS, d1, mkS, sL, nc1, nc2, Int.natCast_inj, List.map_cons, List.map_nil, List.length_cons, List.length_nil, List.replicate, List.cons_append, List.nil_append, List.append_nil, List.getElem?_cons_zero, List.getElem?_cons_succ, List.set_cons_zero, List.set_cons_succ, Option.some.injEq, V.str.injEq, V.int.injEq, V.bl.injEq, V.ref.injEq, List.cons.injEq, and_true, true_and, exists_eq_left', exists_eq_left, exists_eq, exists_eq', exists_and_left, exists_and_right, and_assoc, exists_const, reduceCtorEq, if_true, if_false, ite_true, ite_false, Bool.false_eq_true, decide_true, decide_false, Bool.not_true, Bool.not_false, cxK, l_9, l_16, l_21, l_22]
      rw [if_neg (by cases pat <;> first | (simp [tagOf, SX.S_inj]; done) | (exact absurd ⟨_, rfl⟩ z) | decide)]
      exact ⟨(hM1 _ _).mpr ⟨rfl, rfl⟩, fun ps e => z ⟨ps, e⟩⟩
  obtain ⟨g1, z2⟩ := g1
  obtain ⟨rfl, rfl⟩ := (hM1 _ _).mp g1
  refine ⟨fun σ' H' => M1 σ' H' ∧ (∀ r l m, pat ≠ .rep r l m), ?_, fun σ1 H1 g1 => ?_⟩
  · by_cases z : ∃ r l m, pat = .rep r l m
    · obtain ⟨r, l, m, rfl⟩ := z
      rw [Pat.d] at hd
      simp only [tSeq, tAsg, tCB, tCons, tVar, tNil, gName, tRet, tRetN, tDrop, tNext, tIfS, tTest, tB, tOr, tAnd, tNot, tIf, tOrV, tAndV, tNotV, tChain, rI0, rI, rU, tUn, tC, tOp, rNe, rEq, tCall, tPart, tNoPart, tSl, tM0, tM1, tTup, tLst, tAug, gTup, gCons, gNil, rAdd, rSub, tNever, tBreak, tCont, L2.start, scSS, scII, scBB, ipI, sS, dS, d1, mkS, sL, nc1, nc2, Int.natCast_inj, List.map_cons, List.map_nil, List.length_cons, List.length_nil, List.replicate, List.cons_append, List.nil_append, List.append_nil, List.getElem?_cons_zero, List.getElem?_cons_succ, List.set_cons_zero, List.set_cons_succ, Option.some.injEq, V.str.injEq, V.int.injEq, V.bl.injEq, V.ref.injEq, List.cons.injEq, and_true, true_and, exists_eq_left', exists_eq_left, exists_eq, exists_eq', exists_and_left, exists_and_right, and_assoc, exists_const, reduceCtorEq, if_true, if_false, ite_true, ite_false, Bool.false_eq_true, decide_true, decide_false, Bool.not_true, Bool.not_false, cxK, tagOf, tMetC, sp_brep, l_9, l_16, l_21, l_22]
      exact ⟨⟨_, hA.ob⟩, ls, fo, dm, db, r, l, m, a, hA, hp, by omega, he, hn, N, hls, hfo, lsn, q⟩
    · simp only [tSeq, tAsg, tCB, tCons, tVar, tNil, gName, tRet, tRetN, tDrop, tNext, tIfS, tTest, tB, tOr, tAnd, tNot, tIf, tOrV, tAndV, tNotV, tChain, rI0, rI, rU, tUn, tC, tOp, rNe, rEq, tCall, tPart, tNoPart, tSl, tM0, tM1, tTup, tLst, tAug, gTup, gCons, gNil, rAdd, rSub, tNever, tBreak, tCont, L2.start, scSS, scII, scBB, ipI, sS, dS, d1, mkS, sL, nc1, nc2, Int.natCast_inj, List.map_cons, List.map_nil, List.length_cons, List.length_nil, List.replicate, List.cons_append, List.nil_append, List.append_nil, List.getElem?_cons_zero, List.getElem?_cons_succ, List.set_cons_zero, List.set_cons_succ, Option.some.injEq, V.str.injEq, V.int.injEq, V.bl.injEq, V.ref.injEq, List.cons.injEq, and_true, true_and, exists_eq_left', exists_eq_left, exists_eq, exists_eq', exists_and_left, exists_and_right, and_assoc, exists_const, reduceCtorEq, if_true, if_false, ite_true, ite_false, Bool.false_eq_true, decide_true, decide_false, Bool.not_true, Bool.not_false, cxK, l_9, l_16, l_21, l_22]
      rw [if_neg (by cases pat <;> first | (simp [tagOf, SX.S_inj]; done) | (exact absurd ⟨_, _, _, rfl⟩ z) | decide)]
      exact ⟨(hM1 _ _).mpr ⟨rfl, rfl⟩, fun r l m e => z ⟨r, l, m, e⟩⟩
  obtain ⟨g1, z3⟩ := g1
  obtain ⟨rfl, rfl⟩ := (hM1 _ _).mp g1
  refine ⟨fun σ' H' => M1 σ' H' ∧ pat ≠ .bg ∧ pat ≠ .en, ?_, fun σ1 H1 g1 => ?_⟩
  · simp only [tSeq, tAsg, tCB, tCons, tVar, tNil, gName, tRet, tRetN, tDrop, tNext, tIfS, tTest, tB, tOr, tAnd, tNot, tIf, tOrV, tAndV, tNotV, tChain, rI0, rI, rU, tUn, tC, tOp, rNe, rEq, tCall, tPart, tNoPart, tSl, tM0, tM1, tTup, tLst, tAug, gTup, gCons, gNil, rAdd, rSub, tNever, tBreak, tCont, L2.start, scSS, scII, scBB, ipI, sS, dS, d1, mkS, sL, nc1, nc2, Int.natCast_inj, List.map_cons, List.map_nil, List.length_cons, List.length_nil, List.replicate, List.cons_append, List.nil_append, List.append_nil, List.getElem?_cons_zero, List.getElem?_cons_succ, List.set_cons_zero, List.set_cons_succ, Option.some.injEq, V.str.injEq, V.int.injEq, V.bl.injEq, V.ref.injEq, List.cons.injEq, and_true, true_and, exists_eq_left', exists_eq_left, exists_eq, exists_eq', exists_and_left, exists_and_right, and_assoc, exists_const, reduceCtorEq, if_true, if_false, ite_true, ite_false, Bool.false_eq_true, decide_true, decide_false, Bool.not_true, Bool.not_false, cxK, rInTb, rItTb, tMakC, sp_einit, l_9, l_16, l_21, l_22]
    by_cases z : pat = .bg ∨ pat = .en
    · obtain ⟨nu, e1, e2⟩ : ∃ nu : Nat, nullT.lookup (S (tagOf pat)) = some (.int (nu : Nat)) ∧ built pat a = (a, ⟨nu, 0, 0, [], []⟩) := by
        rcases z with rfl | rfl
        · exact ⟨10, by decide +kernel, by rw [built]⟩
        · exact ⟨12, by decide +kernel, by rw [built]⟩
      rw [e1]
      rw [if_pos (show (some (V.int (nu : Nat))).isSome = true from rfl)]
      refine ⟨_, rfl, Nat.zero_le _, fun p1 n1 => ⟨Nat.zero_le _, fun p2 n2 x H2 nx sx ix => ⟨ix, fun H3 s3 i3 => ?_⟩⟩⟩
      obtain ⟨s1, nx1, ed⟩ := edE_new (CE := CE) (N := N) (nu := nu) n1 n2 nx sx s3 i3 lsn
      refine q H3 x (.of s1) nx1 (by rw [e2]; exact hA.same s1) (by rw [e2]; exact ed)
    · have e1 : (nullT.lookup (S (tagOf pat))).isSome = false := by
        cases pat <;> first | (exact absurd (Or.inl rfl) z) | (exact absurd (Or.inr rfl) z) | (simp only [tagOf]; decide +kernel)
      rw [e1, if_neg Bool.false_ne_true]
      exact ⟨(hM1 _ _).mpr ⟨rfl, rfl⟩, fun e => z (.inl e), fun e => z (.inr e)⟩
  obtain ⟨g1, z4, z5⟩ := g1
  obtain ⟨rfl, rfl⟩ := (hM1 _ _).mp g1
  obtain ⟨cs, hcs⟩ : ∃ cs : List Nat, (pat ≠ .any → ∃ ys, xs = .str (S cs) :: ys) ∧ (pat = .any → cs = allSigns) ∧ built pat a = posA a cs := by
    cases pat with
    | any => exact ⟨allSigns, fun z => absurd rfl z, fun _ => rfl, by rw [built]⟩
    | sign c =>
      rw [patD] at hds
      cases hds
      obtain ⟨x1, ys, rfl, hx1, _⟩ := hxs.c1
      cases hx1
      exact ⟨[c], fun _ => ⟨ys, rfl⟩, (fun z => by cases z), by rw [built]⟩
    | cls c =>
      rw [patD] at hds
      cases hds
      obtain ⟨x1, ys, rfl, hx1, _⟩ := hxs.c1
      cases hx1
      exact ⟨c, fun _ => ⟨ys, rfl⟩, (fun z => by cases z), by rw [built]⟩
    | bg => exact absurd rfl z4
    | en => exact absurd rfl z5
    | row ps => exact absurd rfl (z1 ps)
    | alt ps => exact absurd rfl (z2 ps)
    | rep r l m => exact absurd rfl (z3 r l m)
  obtain ⟨hc1, hc2, hb⟩ := hcs
  obtain ⟨M6, hM6⟩ : ∃ M : V → L2.St → Hp → Prop, ∀ x σ' H', M x σ' H' ↔ σ' = [some (.ref p), some (.ref pa), some (.str (S (tagOf pat))), none, none, some x, none] ∧ H' = H1 := ⟨_, fun _ _ _ => Iff.rfl⟩
  refine ⟨M6 (.str (S allSigns)), ?_, fun σ2 H2 g2 => ?_⟩
  · simp only [tSeq, tAsg, tCB, tCons, tVar, tNil, gName, tRet, tRetN, tDrop, tNext, tIfS, tTest, tB, tOr, tAnd, tNot, tIf, tOrV, tAndV, tNotV, tChain, rI0, rI, rU, tUn, tC, tOp, rNe, rEq, tCall, tPart, tNoPart, tSl, tM0, tM1, tTup, tLst, tAug, gTup, gCons, gNil, rAdd, rSub, tNever, tBreak, tCont, L2.start, scSS, scII, scBB, ipI, sS, dS, d1, mkS, sL, nc1, nc2, Int.natCast_inj, List.map_cons, List.map_nil, List.length_cons, List.length_nil, List.replicate, List.cons_append, List.nil_append, List.append_nil, List.getElem?_cons_zero, List.getElem?_cons_succ, List.set_cons_zero, List.set_cons_succ, Option.some.injEq, V.str.injEq, V.int.injEq, V.bl.injEq, V.ref.injEq, List.cons.injEq, and_true, true_and, exists_eq_left', exists_eq_left, exists_eq, exists_eq', exists_and_left, exists_and_right, and_assoc, exists_const, reduceCtorEq, if_true, if_false, ite_true, ite_false, Bool.false_eq_true, decide_true, decide_false, Bool.not_true, Bool.not_false, cxK, l_9, l_16, l_21, l_22]
    exact (hM6 _ _ _).mpr ⟨rfl, rfl⟩
  obtain ⟨rfl, rfl⟩ := (hM6 _ _ _).mp g2
  refine ⟨M6 (.str (S cs)), ?_, fun σ2 H2 g2 => ?_⟩
  · simp only [tSeq, tAsg, tCB, tCons, tVar, tNil, gName, tRet, tRetN, tDrop, tNext, tIfS, tTest, tB, tOr, tAnd, tNot, tIf, tOrV, tAndV, tNotV, tChain, rI0, rI, rU, tUn, tC, tOp, rNe, rEq, tCall, tPart, tNoPart, tSl, tM0, tM1, tTup, tLst, tAug, gTup, gCons, gNil, rAdd, rSub, tNever, tBreak, tCont, L2.start, scSS, scII, scBB, ipI, sS, dS, d1, mkS, sL, nc1, nc2, Int.natCast_inj, List.map_cons, List.map_nil, List.length_cons, List.length_nil, List.replicate, List.cons_append, List.nil_append, List.append_nil, List.getElem?_cons_zero, List.getElem?_cons_succ, List.set_cons_zero, List.set_cons_succ, Option.some.injEq, V.str.injEq, V.int.injEq, V.bl.injEq, V.ref.injEq, List.cons.injEq, and_true, true_and, exists_eq_left', exists_eq_left, exists_eq, exists_eq', exists_and_left, exists_and_right, and_assoc, exists_const, reduceCtorEq, if_true, if_false, ite_true, ite_false, Bool.false_eq_true, decide_true, decide_false, Bool.not_true, Bool.not_false, cxK, rIxT, l_9, l_16, l_21, l_22]
    by_cases z : pat = .any
    · rw [if_neg (by rw [z]; decide), ← hc2 z]
      exact (hM6 _ _ _).mpr ⟨rfl, rfl⟩
    · rw [if_pos (by cases pat <;> first | (exact absurd rfl z) | rfl)]
      obtain ⟨ys, rfl⟩ := hc1 z
      exact ⟨_, hx, _, atI_nat (j := 1) rfl, (hM6 _ _ _).mpr ⟨rfl, rfl⟩⟩
  obtain ⟨rfl, rfl⟩ := (hM6 _ _ _).mp g2
  simp only [tSeq, tAsg, tCB, tCons, tVar, tNil, gName, tRet, tRetN, tDrop, tNext, tIfS, tTest, tB, tOr, tAnd, tNot, tIf, tOrV, tAndV, tNotV, tChain, rI0, rI, rU, tUn, tC, tOp, rNe, rEq, tCall, tPart, tNoPart, tSl, tM0, tM1, tTup, tLst, tAug, gTup, gCons, gNil, rAdd, rSub, tNever, tBreak, tCont, L2.start, scSS, scII, scBB, ipI, sS, dS, d1, mkS, sL, nc1, nc2, Int.natCast_inj, List.map_cons, List.map_nil, List.length_cons, List.length_nil, List.replicate, List.cons_append, List.nil_append, List.append_nil, List.getElem?_cons_zero, List.getElem?_cons_succ, List.set_cons_zero, List.set_cons_succ, Option.some.injEq, V.str.injEq, V.int.injEq, V.bl.injEq, V.ref.injEq, List.cons.injEq, and_true, true_and, exists_eq_left', exists_eq_left, exists_eq, exists_eq', exists_and_left, exists_and_right, and_assoc, exists_const, reduceCtorEq, if_true, if_false, ite_true, ite_false, Bool.false_eq_true, decide_true, decide_false, Bool.not_true, Bool.not_false, cxK, tFldC, tMakC, sp_einit, tBM, rAppend, l_9, l_16, l_21, l_22]
  have eF : upd H2 ls (.lst (tL a.se ++ [.str (S cs)])) fo = some (.lst (iL a.fo)) := (upd_ne hA.ne.symm).trans hA.fl
  have pn1 : pat.n = 1 := by cases pat <;> first | rfl | (exact absurd rfl z4) | (exact absurd rfl z5) | (exact absurd rfl (z1 _)) | (exact absurd rfl (z2 _)) | (exact absurd rfl (z3 _ _ _))
  have tlen : (tL a.se).length = a.se.length := List.length_map ..
  refine ⟨_, hA.ob, _, rfl, _, rfl, _, .inl (SqL.of hA.se), _, hA.ob, _, rfl, .inl ⟨rfl, _, SqL.of hA.se⟩, _, rfl, _, hA.se, sz5 (show (tL a.se).length + 1 ≤ 100000 by omega), _, insL_at hA.ob (upd_ne (insL_ne hA.ob hA.se)), _, rfl, .inl ⟨rfl, _, SqL.of eF⟩, _, rfl, _, eF, sz5 (show (iL a.fo).length + 1 ≤ 100000 by rw [iL_len]; omega), by omega, by omega, by decide, fun p1 n1 => ⟨by decide, fun p2 n2 x H3 nx sx ix => ⟨ix, fun H4 s4 i4 => ?_⟩⟩⟩
  rw [tlen] at i4 n2 nx sx
  have fB : Fr [ls, fo] H2 (upd (upd H2 ls (.lst (tL a.se ++ [.str (S cs)]))) fo (.lst (iL a.fo ++ [.int 0]))) := (Fr.refl.upd (.inl (.head _)) hA.se rfl).upd (.inl (.tail _ (.head _))) eF rfl
  have kB : AuB CA (upd (upd H2 ls (.lst (tL a.se ++ [.str (S cs)]))) fo (.lst (iL a.fo ++ [.int 0]))) p ls fo dm db (posA a cs).1 := by
    refine ⟨insL_at hA.ob ((upd_ne (insL_ne hA.ob hA.fl)).trans (upd_ne (insL_ne hA.ob hA.se))), ?_, ?_, hA.ne⟩
    · rw [upd_ne hA.ne, upd_same]
      show some (HO.lst (tL a.se ++ [.str (S cs)])) = some (HO.lst (tL (a.se ++ [cs])))
      unfold tL
      rw [List.map_append]
      rfl
    · rw [upd_same]
      show some (HO.lst (iL a.fo ++ [.int 0])) = some (HO.lst (iL (a.fo ++ [0])))
      rw [iL_app]
      rfl
  have t1 := same_upd (o := .lst [V.int (a.se.length : Nat)]) n1
  have t2 := same_upd (o := .lst [V.int (a.se.length : Nat)]) n2
  obtain ⟨sm, ed⟩ := edB_make (CE := CE) (N := N) (nu := 0) (fi := 1 <<< a.se.length) (bg := 1 <<< a.se.length) (la := [a.se.length]) (en := [a.se.length]) nx sx s4 i4 (t2 _ _ upd_same) upd_same (fun z => lsF fB kB _ z n1) (fun z => lsF (fB.same t1) (kB.same t1) _ z n2)
  refine q H4 x (((fB.same t1).same t2).same sm) (fr_none ((fB.same t1).same t2) (((kB.same t1).same t2).outN nx) nx) (by rw [hb]; exact ((kB.same t1).same t2).same sm) (by rw [hb]; exact ed)
end
end Pd

namespace Pd
open PySem PySem.Spec PyProof.Rows L2
open SX (S)
/-! ### the lowest bit -/
theorem low_ex : ∀ n : Nat, n ≠ 0 → ∃ k a : Nat, n = 2 ^ k * (2 * a + 1) := by
  intro n
  induction n using Nat.strongRecOn with
  | ind n ih =>
    intro h
    by_cases e : n % 2 = 1
    · exact ⟨0, n / 2, by omega⟩
    · obtain ⟨k, a, q⟩ := ih (n / 2) (by omega) (by omega)
      refine ⟨k + 1, a, ?_⟩
      have : n = 2 * (n / 2) := by omega
      rw [this, q, Nat.pow_succ, Nat.mul_comm (2 ^ k) 2, Nat.mul_assoc]
theorem low_and (k a : Nat) : Builtin.bitAnd ((2 ^ k * (2 * a + 1) : Nat) : Int) (-((2 ^ k * (2 * a + 1) : Nat) : Int)) = ((2 ^ k : Nat) : Int) := by
  have := PySem.W.kbt_low k (a : Int)
  rw [show ((2 ^ k * (2 * a + 1) : Nat) : Int) = 2 ^ k * (2 * (a : Int) + 1) by simp [Int.natCast_mul, Int.natCast_pow], this]
  simp
theorem low_bits (k : Nat) : Builtin.Int.intBits ((2 ^ k : Nat) : Int) = k + 1 := by
  have h1 : Builtin.Int.intBits ((2 ^ k : Nat) : Int) ≤ k + 1 := intBits_le_iff.mpr (by rw [Int.natAbs_natCast]; exact Nat.pow_lt_pow_right (by omega) (by omega))
  have h2 : ¬ Builtin.Int.intBits ((2 ^ k : Nat) : Int) ≤ k := fun z => by
    have := intBits_le_iff.mp z
    rw [Int.natAbs_natCast] at this
    omega
  omega
theorem low_test (k a i : Nat) : (2 ^ k * (2 * a + 1)).testBit i = true ↔ (i = k) ∨ (i ≠ k ∧ (2 ^ k * (2 * a + 1)).testBit i = true) := by
  by_cases h : i = k
  · subst h
    refine ⟨fun _ => .inl rfl, fun _ => ?_⟩
    rw [Nat.mul_comm, Nat.testBit_mul_two_pow]
    simp
  · simp [h]
theorem low_bit (k a : Nat) : (2 ^ k * (2 * a + 1)).testBit k = true := (low_test k a k).mpr (.inl rfl)
theorem low_lt (k a : Nat) : (2 ^ k * (2 * a + 1)) ^^^ 2 ^ k < 2 ^ k * (2 * a + 1) := by
  have e : (2 ^ k * (2 * a + 1)) ^^^ 2 ^ k = 2 ^ k * (2 * a) := by
    apply Nat.eq_of_testBit_eq
    intro i
    rw [Nat.testBit_xor, Nat.testBit_two_pow, Nat.mul_comm (2 ^ k), Nat.mul_comm (2 ^ k), Nat.testBit_mul_two_pow, Nat.testBit_mul_two_pow]
    by_cases h : k = i
    · subst h; simp
    · by_cases g : k ≤ i
      · obtain ⟨d, hd⟩ : ∃ d, i - k = d + 1 := ⟨i - k - 1, by omega⟩
        rw [hd, Nat.testBit_succ, Nat.testBit_succ]
        simp [h, g]
        congr 1
        omega
      · simp [h, g]
  rw [e]
  exact Nat.mul_lt_mul_of_pos_left (by omega) (Nat.two_pow_pos k)
/-- the automaton as it is used -/
structure AutM (CA : Addr) (H : Hp) (p dm db : Addr) (m : Mac) (N : Nat) : Prop where
  ex : ∃ (ls fo : Addr) (ld : V) (ms bs : List (Key × V)), InsL CA nsA H p [.ref ls, .ref fo, .ref dm, .ref db, ld, .int (m.nu : Nat), .int (m.fi : Nat), .int (m.bg : Nat), .int (m.la : Nat), .int (m.en : Nat)] ∧ H ls = some (.lst (tL m.se)) ∧ H fo = some (.lst (iL m.fo)) ∧ H dm = some (.dK ms) ∧ H db = some (.dK bs) ∧
    (∀ k v, valV ms k = some v → ∃ c : Nat, k = .inr (S [c]) ∧ v = .int (standM m.se c : Nat)) ∧ (∀ k v, valV bs k = some v → ∃ t : Nat, k = .inl (t : Int) ∧ v = .int (afterM m.fo t : Nat)) ∧ ms.length ≤ N ∧ bs.length ≤ N ∧ dm ≠ db
section
variable {P : Program} {w : World} {K : PySem.W.Frag} {mg : Str → Option Value} {base : Heap} {CE CA CS : Addr}
theorem built_base (D : Mdf K CA "built_part" "Automaton.built_part" (inClass (topS 10) 1) ["self", "pattern"]) : MetC P w K mg base 5 CA "built_part" (sp_built K CE CA 0) := by
  refine met_of D scAutomaton_built_part (fun vs H Q E h => ?_) (fun f cdv A outer s H vs Q E hr h => ?_)
  · obtain ⟨p, ls, fo, dm, db, v, pat, a, N, rfl, _⟩ := h
    rfl
  obtain ⟨p, ls, fo, dm, db, v, pat, a, N, _, _, _, hd, _⟩ := h
  omega
theorem ok_built (T : BiA mg) {dN : Addr} (o_Automaton : OCls K CA nsA) (o_Edges : OCls K CE nsE) (K_Edges : MakC P w K mg base 1 CE "Edges" (sp_einit CE)) (M_Automaton_lead : MetC P w K mg base 1 CA "lead" (sp_lead K CA)) (M_Automaton_in_row : MetC P w K mg base 3 CA "in_row" (sp_inrow CE CA)) (g_EVERYWHERE : ∃ t, mg "EVERYWHERE" = some (.int 15 t)) (g_NOWHERE : ∃ t, mg "NOWHERE" = some (.int 0 t)) (g_SIGNS : ∃ t, mg "SIGNS" = some (.str (S allSigns) t)) (t_NULLS : Tbl K w mg "NULLS" dN nullT) (c_united : ∀ N, Cal P w K mg base 3 "united" (sp_unit CE N))
    (D1 : Mdf K CA "built_part" "Automaton.built_part" (inClass (topS 10) 1) ["self", "pattern"]) (D2 : Mdf K CA "built_repeat" "Automaton.built_repeat" (inClass (topS 10) 2) ["self", "pattern"]) : ∀ d, MetC P w K mg base (2 * d + 5) CA "built_part" (sp_built K CE CA d)
  | 0 => built_base D1
  | d + 1 => ok_bpart T o_Automaton o_Edges K_Edges M_Automaton_in_row g_EVERYWHERE g_NOWHERE g_SIGNS t_NULLS c_united (ok_built T o_Automaton o_Edges K_Edges M_Automaton_lead M_Automaton_in_row g_EVERYWHERE g_NOWHERE g_SIGNS t_NULLS c_united D1 D2 d) (ok_brep T o_Automaton o_Edges K_Edges M_Automaton_lead M_Automaton_in_row g_EVERYWHERE (ok_built T o_Automaton o_Edges K_Edges M_Automaton_lead M_Automaton_in_row g_EVERYWHERE g_NOWHERE g_SIGNS t_NULLS c_united D1 D2 d) D2) D1
/-! ### Automaton -/
def sp_ainit (K : PySem.W.Frag) (CA : Addr) : Sp := fun vs H Q _ => ∃ (p : Addr) (v : V) (pat : Pat), vs = [.ref p, v] ∧ InsL CA nsA H p [] ∧ PtD K H v pat ∧ pat.d < 12 ∧ pat.n ≤ 50000 ∧
  ∀ H' dm db, Fr [p] H H' → AutM CA H' p dm db (macOf pat) 1 → H dm = none → H db = none → Q .non H'
theorem scAutomaton_init : FnScope ["self", "pattern", "whole"] ["self", "pattern"] (defScope (inClass (topS 10) 0)) := ⟨rfl, rfl, rfl, by decide +kernel, rfl, by decide +kernel, by decide +kernel⟩
theorem ok_ainit (o_Automaton : OCls K CA nsA) (o_Edges : OCls K CE nsE) (M_Automaton_built_part : MetC P w K mg base 29 CA "built_part" (sp_built K CE CA 12)) (c_mask_of : Cal P w K mg base 1 "mask_of" sp_mask) (D : Mdf K CA "__init__" "Automaton.__init__" (inClass (topS 10) 0) ["self", "pattern"]) : MetC P w K mg base 30 CA "__init__" (sp_ainit K CA) := by
  refine met_of D scAutomaton_init (fun vs H Q E h => ?_) (fun f cdv A outer s H vs Q E hr h => ?_)
  · obtain ⟨p, v, pat, rfl, _⟩ := h
    rfl
  obtain ⟨p, v, pat, rfl, hp, hv, hd, hn, q⟩ := h
  refine ⟨_, (pss_cons (ps_fldC (k := 0) o_Automaton (pv 0) (pe_lst pa_nil) rfl)
      (pss_cons (ps_fldC (k := 1) o_Automaton (pv 0) (pe_lst pa_nil) rfl)
      (pss_cons (ps_fldC (k := 2) o_Automaton (pv 0) pe_dnewK rfl)
      (pss_cons (ps_fldC (k := 3) o_Automaton (pv 0) (pe_disp (pps_cons pe_int pe_int pps_nil) (by rfl) (by rfl) (fun z => by cases z) (by decide)) rfl)
      (pss_cons (ps_fldC (k := 4) o_Automaton (pv 0) pe_non rfl)
      (pss_cons (ps_set (i := 2) scAutomaton_init.nd rfl (Or.inl rfl) (pm M_Automaton_built_part o_Automaton (by decide +kernel) mono_var hr (by decide) (pv 0) (pa_cons (pv 1) pa_nil)))
      (pss_cons (ps_fldC (k := 5) o_Automaton (pv 0) (pe_fldC (k := 0) o_Edges (pv 2) rfl) rfl)
      (pss_cons (ps_fldC (k := 6) o_Automaton (pv 0) (pe_fldC (k := 1) o_Edges (pv 2) rfl) rfl)
      (pss_cons (ps_fldC (k := 7) o_Automaton (pv 0) (pe_fldC (k := 2) o_Edges (pv 2) rfl) rfl)
      (pss_cons (ps_fldC (k := 8) o_Automaton (pv 0) (pc c_mask_of hr (by decide) rfl (pa_cons (pe_fldC (k := 3) o_Edges (pv 2) rfl) pa_nil)) rfl)
      (pss_one (ps_fldC (k := 9) o_Automaton (pv 0) (pc c_mask_of hr (by decide) rfl (pa_cons (pe_fldC (k := 4) o_Edges (pv 2) rfl) pa_nil)) rfl)))))))))))), ?_⟩
  simp only [tSeq, tAsg, tCB, tCons, tVar, tNil, gName, tRet, tRetN, tDrop, tNext, tIfS, tTest, tB, tOr, tAnd, tNot, tIf, tOrV, tAndV, tNotV, tChain, rI0, rI, rU, tUn, tC, tOp, rNe, rEq, tCall, tPart, tNoPart, tSl, tM0, tM1, tTup, tLst, tAug, gTup, gCons, gNil, rAdd, rSub, tNever, tBreak, tCont, L2.start, scSS, scII, scBB, ipI, sS, dS, d1, mkS, sL, nc1, nc2, Int.natCast_inj, List.map_cons, List.map_nil, List.length_cons, List.length_nil, List.replicate, List.cons_append, List.nil_append, List.append_nil, List.getElem?_cons_zero, List.getElem?_cons_succ, List.set_cons_zero, List.set_cons_succ, Option.some.injEq, V.str.injEq, V.int.injEq, V.bl.injEq, V.ref.injEq, List.cons.injEq, and_true, true_and, exists_eq_left', exists_eq_left, exists_eq, exists_eq', exists_and_left, exists_and_right, and_assoc, exists_const, reduceCtorEq, if_true, if_false, ite_true, ite_false, Bool.false_eq_true, decide_true, decide_false, Bool.not_true, Bool.not_false, cxK, sFldC, tMetC, tFldC, sp_built, sp_mask, tDNewK, tDisp, tPairs]
  refine ⟨Nat.zero_le _, fun ls n1 => ⟨_, insL_s (same_upd n1) hp, Nat.zero_le _, fun H1 s1 i1 => ⟨Nat.zero_le _, fun fo n2 => ⟨_, insL_s (same_upd n2) i1, Nat.le_refl 1, fun H2 s2 i2 dm n3 => ⟨_, insL_s (same_upd n3) i2, Nat.le_refl 2, fun H3 s3 i3 db n4 => ?_⟩⟩⟩⟩⟩
  obtain ⟨dd, hdd⟩ : ∃ dd, dd = mergeK [] [((Sum.inl 0 : Key), V.int 0)] := ⟨_, rfl⟩
  refine ⟨upd_same, [(Sum.inl 0, .int 0)], rfl, by decide, ?_⟩
  rw [← hdd, upd_upd]
  refine ⟨_, insL_s (same_upd n4) i3, Nat.le_refl 3, fun H4 s4 i4 => ⟨_, i4, Nat.le_refl 4, fun H5 s5 i5 => ?_⟩⟩
  have p1 := insL_new hp n1
  have p2 := insL_new i1 n2
  have p3 := insL_new i2 n3
  have p4 := insL_new i3 n4
  have e1 : H1 ls = some (.lst []) := (s1 _ p1.symm).trans upd_same
  have e2 : H2 fo = some (.lst []) := (s2 _ p2.symm).trans upd_same
  have e3 : H3 dm = some (.dK []) := (s3 _ p3.symm).trans upd_same
  have e4 : H4 db = some (.dK dd) := (s4 _ p4.symm).trans upd_same
  have g2 : ∀ {b : Addr} {o : HO}, b ≠ p → H1 b = some o → H2 b = some o := fun {b o} nb h => (s2 b nb).trans (same_upd n2 _ _ h)
  have g3 : ∀ {b : Addr} {o : HO}, b ≠ p → H2 b = some o → H3 b = some o := fun {b o} nb h => (s3 b nb).trans (same_upd n3 _ _ h)
  have g4 : ∀ {b : Addr} {o : HO}, b ≠ p → H3 b = some o → H4 b = some o := fun {b o} nb h => (s4 b nb).trans (same_upd n4 _ _ h)
  have g1 : ∀ {b : Addr} {o : HO}, b ≠ p → H b = some o → H1 b = some o := fun {b o} nb h => (s1 b nb).trans (same_upd n1 _ _ h)
  have k1 : H5 ls = some (.lst []) := (s5 _ p1.symm).trans (g4 p1.symm (g3 p1.symm (g2 p1.symm e1)))
  have k2 : H5 fo = some (.lst []) := (s5 _ p2.symm).trans (g4 p2.symm (g3 p2.symm e2))
  have k3 : H5 dm = some (.dK []) := (s5 _ p3.symm).trans (g4 p3.symm e3)
  have k4 : H5 db = some (.dK dd) := (s5 _ p4.symm).trans e4
  have d12 : ls ≠ fo := fun z => by rw [← z, e1] at n2; cases n2
  have d34 : dm ≠ db := fun z => by rw [← z, e3] at n4; cases n4
  obtain ⟨op, hop, hopt⟩ := insL_some hp
  have nn : ∀ {b : Addr} {G : Hp}, b ≠ p → (∀ c o, c ≠ p → H c = some o → G c = some o) → G b = none → H b = none := fun {b G} nb gg h => by
    cases e : H b with
    | none => rfl
    | some o => rw [gg b o nb e] at h; cases h
  have frm : ∀ {G G' : Hp} {z : Addr} {o : HO}, Fr [p] H G → (∀ b, b ≠ p → G' b = upd G z o b) → G z = none → (∃ o1, G p = some o1 ∧ noTup o1 = true) → Fr [p] H G' := fun {G G' z o} f s n ⟨o1, h1, h2⟩ => by
    refine (f.same (same_upd (o := o) n)).put (.inl (.head _)) (same_upd (o := o) n _ _ h1) h2 s
  have f1 := frm (.refl) s1 n1 (insL_some hp)
  have f2 := frm f1 s2 n2 (insL_some i1)
  have f3 := frm f2 s3 n3 (insL_some i2)
  have f4 := frm f3 s4 n4 (insL_some i3)
  obtain ⟨o4, o4e, o4n⟩ := insL_some i4
  have f5 : Fr [p] H H5 := f4.put (.inl (.head _)) o4e o4n s5
  have hdm : H dm = none := fr_none f2 (by simpa using p3.symm) n3
  have hdb : H db = none := fr_none f3 (by simpa using p4.symm) n4
  have aub : AuB CA H5 p ls fo dm db ⟨[], []⟩ := ⟨i5, k1, k2, d12⟩
  refine ⟨⟨_, i5⟩, ls, fo, dm, db, pat, ⟨[], []⟩, aub, ⟨dp_fr f5 _ _ (noL_pat pat) hv.dp, hv.wf, hv.sm⟩, hd, rfl, by show 0 + pat.n ≤ 50000; omega, [ls, fo, p], by simp, by simp, fun x hx e => ?_, fun H6 q1 f6 nq1 k6 ed6 => ?_⟩
  · simp only [List.mem_cons, List.not_mem_nil, or_false] at hx
    rcases hx with rfl | rfl | rfl
    · rw [k1] at e; cases e
    · rw [k2] at e; cases e
    · obtain ⟨dx, b1, _⟩ := i5; rw [b1] at e; cases e
  obtain ⟨la, en, a1, a2, a3, a4, a5⟩ := ed6.ex
  have q1p : q1 ≠ p := fun z => by subst z; obtain ⟨dx, b1, _⟩ := i5; rw [b1] at nq1; cases nq1
  refine ⟨_, a1, _, rfl, _, k6.ob, Nat.le_refl 5, fun H7 s7 i7 => ⟨_, insL_at a1 (s7 _ q1p), _, rfl, _, i7, Nat.le_refl 6, fun H8 s8 i8 => ⟨_, insL_at a1 ((s8 _ q1p).trans (s7 _ q1p)), _, rfl, _, i8, Nat.le_refl 7, fun H9 s9 i9 => ?_⟩⟩⟩
  have t9 : ∀ b, b ≠ p → H9 b = H6 b := fun b nb => by rw [s9 b nb, s8 b nb, s7 b nb]
  have bt := built_ok [] (by simp) pat hv.wf ⟨[], []⟩ rfl
  have szn := (built_sz pat ⟨[], []⟩ rfl).fo
  have szn : (built pat ⟨[], []⟩).1.fo.length = pat.n := by rw [szn]; show 0 + pat.n = _; omega
  have b1 : ∀ x ∈ (built pat ⟨[], []⟩).2.la, x ≤ 100000 := fun x hx => by
    have h2 : x < (built pat ⟨[], []⟩).1.fo.length := (bt.tk.ok.la false x hx).2
    omega
  have b2 : ∀ x ∈ (built pat ⟨[], []⟩).2.en, x ≤ 100000 := fun x hx => by
    have h2 : x < (built pat ⟨[], []⟩).1.fo.length := (bt.tk.ok.la true x hx).2
    omega
  have lap : la ≠ p := fun z => a4 (by rw [z]; simp)
  have enp : en ≠ p := fun z => a5 (by rw [z]; simp)
  refine ⟨_, insL_at a1 (t9 _ q1p), _, rfl, _, rfl, _, (t9 _ lap).trans a2, b1, _, i9, Nat.le_refl 8, fun HA sA iA => ⟨_, insL_at a1 ((sA _ q1p).trans (t9 _ q1p)), _, rfl, _, rfl, _, (sA _ enp).trans ((t9 _ enp).trans a3), b2, _, iA, Nat.le_refl 9, fun HB sB iB => ?_⟩⟩
  have tB : ∀ b, b ≠ p → HB b = H6 b := fun b nb => by rw [sB b nb, sA b nb, t9 b nb]
  obtain ⟨o6, o6e, o6n⟩ := insL_some k6.ob
  have fB : Fr [p] H HB := by
    have f56 : Fr [p] H H6 := by
      refine ⟨fun b o e nb => ?_, fun b xs h => f6.tup b xs (f5.tup b xs h)⟩
      refine f6.keep b o (f5.keep b o e nb) fun z => ?_
      simp only [List.mem_cons, List.not_mem_nil, or_false] at z
      rcases z with rfl | rfl
      · have := fr_none .refl (A := []) (by simp) n1; rw [e] at this; cases this
      · have := fr_none f1 (by simpa using p2.symm) n2; rw [e] at this; cases this
    exact f56.put (.inl (.head _)) o6e o6n tB
  have ndm : dm ∉ [ls, fo] := fun z => by
    simp only [List.mem_cons, List.not_mem_nil, or_false] at z
    rcases z with rfl | rfl
    · rw [k1] at k3; cases k3
    · rw [k2] at k3; cases k3
  have ndb : db ∉ [ls, fo] := fun z => by
    simp only [List.mem_cons, List.not_mem_nil, or_false] at z
    rcases z with rfl | rfl
    · rw [k1] at k4; cases k4
    · rw [k2] at k4; cases k4
  have dd1 : dd = [((Sum.inl 0 : Key), V.int 0)] := by rw [hdd]; rfl
  refine q HB dm db fB ⟨ls, fo, .non, [], dd, iB, (tB _ p1.symm).trans k6.se, (tB _ p2.symm).trans k6.fl, (tB _ p3.symm).trans (f6.keep _ _ k3 ndm), (tB _ p4.symm).trans (f6.keep _ _ k4 ndb), ?_, ?_, by simp, by rw [dd1]; simp, d34⟩ hdm hdb
  · intro k v h
    rw [valV_nil] at h
    cases h
  · intro k v h
    rw [dd1] at h
    by_cases z : (Sum.inl 0 : Key) = k
    · rw [valV_pos z] at h
      cases h
      refine ⟨0, z.symm, ?_⟩
      have : afterM (macOf pat).fo 0 = 0 := by
        have i0 : Is (afterM (macOf pat).fo 0) (fun r => ∃ q, (0 : Nat).testBit q = true ∧ ((macOf pat).fo.getD q 0).testBit r = true) := fun r => afterM_bit
        exact i0.zero.mpr fun r ⟨q, h1, _⟩ => by rw [Nat.zero_testBit] at h1; cases h1
      rw [this]
      rfl
    · rw [valV_neg z, valV_nil] at h
      cases h
end
end Pd

namespace Pd
open PySem PySem.Spec PyProof.Rows L2
open SX (S)
section
variable {K : PySem.W.Frag} {ta : TA} {a : Addr} {g : TG} {tb : TS} {σ : L2.St} {H : Hp} {D : Ends}
theorem eFoE : tFor (iEnum K ta) g tb D σ H = ta σ H fun vs H1 => ∃ a xs, vs = [.ref a] ∧ SqL K H1 a xs ∧ ForJ (Ite K a) g tb D σ H1 := rfl
theorem foE (xs : List V) (Pv : Nat → L2.St → Hp → Prop) (h0 : Pv 0 σ H) (hG : ∀ i σ H, i ≤ xs.length → Pv i σ H → SqL K H a xs)
    (hs : ∀ i x T σ H, xs[i]? = some x → Pv i σ H → H T = none → g (.ref T) σ (upd H T (.tup [.int (i : Nat), x])) fun σ2 H2 => tb { D with nx := Pv (i + 1), ct := Pv (i + 1), bk := D.nx } σ2 H2)
    (hd : ∀ σ H, Pv xs.length σ H → D.nx σ H) : ForJ (Ite K a) g tb D σ H :=
  for_it walk_enum Pv h0 hG (fun i v σ H H' hi p y => by
    obtain ⟨T, x, y', rfl, h2, rfl, h4, h5⟩ := y
    cases h4
    exact hs i y' T σ H h5 p h2) hd
end
theorem standM_snoc {l : List (List Nat)} {s : List Nat} {c : Nat} : standM (l ++ [s]) c = if c ∈ s then standM l c ||| 1 <<< l.length else standM l c := by
  apply Nat.eq_of_testBit_eq
  intro q
  have e : (standM (l ++ [s]) c).testBit q = true ↔ (if c ∈ s then standM l c ||| 1 <<< l.length else standM l c).testBit q = true := by
    rw [standM_bit, testIf, standM_bit, Nat.one_shiftLeft, Nat.testBit_two_pow, decide_eq_true_iff]
    by_cases h : q < l.length
    · rw [List.getD_eq_getElem?_getD, List.getElem?_append_left h, ← List.getD_eq_getElem?_getD]
      exact ⟨.inl, fun z => z.elim id fun w => by omega⟩
    · have e0 : l.getD q [] = [] := by rw [List.getD_eq_getElem?_getD, List.getElem?_eq_none (by omega)]; rfl
      by_cases h2 : q = l.length
      · subst h2
        rw [List.getD_eq_getElem?_getD, List.getElem?_append_right (Nat.le_refl _), Nat.sub_self, e0]
        simp
      · have e1 : (l ++ [s]).getD q [] = [] := by rw [List.getD_eq_getElem?_getD, List.getElem?_eq_none (by rw [List.length_append, List.length_singleton]; omega)]; rfl
        rw [e0, e1]
        simp
        omega
  cases h1 : (standM (l ++ [s]) c).testBit q <;> cases h2 : (if c ∈ s then standM l c ||| 1 <<< l.length else standM l c).testBit q <;> simp_all
theorem insL_nd {H : Hp} {C q l : Addr} {ns : List Str} {vs : List V} {k : List (Key × V)} (h : InsL C ns H q vs) (e : H l = some (.dK k)) : q ≠ l := fun z => by
  obtain ⟨dx, g, _⟩ := h
  subst z
  rw [e] at g
  cases g
theorem cach_put {kvs : List (Key × V)} {k0 : Key} {v0 : V} {F : Key → V → Prop} (h : ∀ k v, valV kvs k = some v → F k v) (h0 : F k0 v0) : ∀ k v, valV (putK kvs k0 v0) k = some v → F k v := fun k v e => by
  rw [valV_put] at e
  by_cases z : k = k0
  · rw [if_pos z] at e
    cases e
    rw [z]
    exact h0
  · rw [if_neg z] at e
    exact h k v e
theorem tL_at {ns : List (List Nat)} {i : Nat} {x : V} (hx : (tL ns)[i]? = some x) : ∃ z, ns[i]? = some z ∧ x = .str (S z) := by
  unfold tL at hx
  rw [List.getElem?_map] at hx
  obtain ⟨z, e, r⟩ := Option.map_eq_some_iff.mp hx
  exact ⟨z, e, r.symm⟩
theorem tL_len {ns : List (List Nat)} : (tL ns).length = ns.length := List.length_map ..
section
variable {P : Program} {w : World} {K : PySem.W.Frag} {mg : Str → Option Value} {base : Heap} {CE CA CS : Addr}
def sp_stand (CA : Addr) : Sp := fun vs H Q _ => ∃ (p dm db : Addr) (m : Mac) (N c : Nat), vs = [.ref p, .str (S [c])] ∧ AutM CA H p dm db m N ∧ N < 90000 ∧ m.se.length ≤ 50000 ∧
  ∀ H', Fr [dm] H H' → AutM CA H' p dm db m (N + 1) → Q (.int (standM m.se c : Nat)) H'
theorem scAutomaton_standing_for : FnScope ["self", "sign", "mask", "at", "signs"] ["self", "sign"] (defScope (inClass (topS 10) 5)) := ⟨rfl, rfl, rfl, by decide +kernel, rfl, by decide +kernel, by decide +kernel⟩
theorem ok_stand (T : BiA mg) (o_Automaton : OCls K CA nsA) (D : Mdf K CA "standing_for" "Automaton.standing_for" (inClass (topS 10) 5) ["self", "sign"]) : MetC P w K mg base 1 CA "standing_for" (sp_stand CA) := by
  refine met_of D scAutomaton_standing_for (fun vs H Q E h => ?_) (fun f cdv A outer s H vs Q E hr h => ?_)
  · obtain ⟨p, dm, db, m, N, c, rfl, _⟩ := h
    rfl
  obtain ⟨p, dm, db, m, N, c, rfl, hA, hN, hse, q⟩ := h
  obtain ⟨ls, fo, ld, ms, bs, ob, eS, eF, eM, eB, cM, cB, lM, lB, dne⟩ := id hA.ex
  refine ⟨_, (pss_cons (ps_set (i := 2) scAutomaton_standing_for.nd rfl (Or.inl rfl) pe_int)
      (C8.pss_cut (ps_for PassesOwn.never rfl (pi_enum (by rfl) T.b_enumerate (pa_cons (pe_fldC (k := 0) o_Automaton (pv 0) rfl) pa_nil)) (pg_tupK (n := 2) rfl rfl (pgs_cons (pg_name (i := 3) scAutomaton_standing_for.nd rfl (Or.inl rfl)) (pgs_cons (pg_name (i := 4) scAutomaton_standing_for.nd rfl (Or.inl rfl)) pgs_nil))) (pss_one (ps_if (pt_cmpR op_in_sign (pv 1) (pv 4) (by rfl)) (pss_one (ps_aug (i := 2) scAutomaton_standing_for.nd rfl (Or.inl rfl) (pe_op op_bit pe_int (pv 3)) iop_orN)) pss_nil)))
      (pss_cons (ps_dput (hu_of hr) (pe_fldC (k := 2) o_Automaton (pv 0) rfl) (pv 1) (pv 2) rfl)
      (pss_one (ps_ret (pv 2)))))), ?_⟩
  obtain ⟨M1, hM1⟩ : ∃ M : L2.St → Hp → Prop, ∀ σ' H', M σ' H' ↔ ∃ v3 v4, σ' = [some (.ref p), some (.str (S [c])), some (.int (standM m.se c : Nat)), v3, v4] ∧ Same H H' := ⟨_, fun _ _ => Iff.rfl⟩
  simp only [tSeq]
  refine ⟨M1, ?_, fun σ1 H1 g1 => ?_⟩
  · simp only [tSeq, tAsg, tCB, tCons, tVar, tNil, gName, tRet, tRetN, tDrop, tNext, tIfS, tTest, tB, tOr, tAnd, tNot, tIf, tOrV, tAndV, tNotV, tChain, rI0, rI, rU, tUn, tC, tOp, rNe, rEq, tCall, tPart, tNoPart, tSl, tM0, tM1, tTup, tLst, tAug, gTup, gCons, gNil, rAdd, rSub, tNever, tBreak, tCont, L2.start, scSS, scII, scBB, ipI, sS, dS, d1, mkS, sL, nc1, nc2, Int.natCast_inj, List.map_cons, List.map_nil, List.length_cons, List.length_nil, List.replicate, List.cons_append, List.nil_append, List.append_nil, List.getElem?_cons_zero, List.getElem?_cons_succ, List.set_cons_zero, List.set_cons_succ, Option.some.injEq, V.str.injEq, V.int.injEq, V.bl.injEq, V.ref.injEq, List.cons.injEq, and_true, true_and, exists_eq_left', exists_eq_left, exists_eq, exists_eq', exists_and_left, exists_and_right, and_assoc, exists_const, reduceCtorEq, if_true, if_false, ite_true, ite_false, Bool.false_eq_true, decide_true, decide_false, Bool.not_true, Bool.not_false, cxK, tFldC, eFoE]
    obtain ⟨Pv, hPv⟩ : ∃ Pv : Nat → L2.St → Hp → Prop, ∀ i σ' H', Pv i σ' H' ↔ ∃ v3 v4, σ' = [some (.ref p), some (.str (S [c])), some (.int (standM (m.se.take i) c : Nat)), v3, v4] ∧ Same H H' := ⟨_, fun _ _ _ => Iff.rfl⟩
    refine ⟨_, ob, _, rfl, _, rfl, ⟨_, SqL.of eS⟩, foE (tL m.se) Pv ((hPv _ _ _).mpr ⟨none, none, rfl, Same.refl _⟩) (fun i σ' H' _ g => ?_) (fun i x T σ' H' hx g nT => ?_) (fun σ' H' g => ?_)⟩
    · obtain ⟨_, _, rfl, s⟩ := (hPv _ _ _).mp g
      exact SqL.of (s _ _ eS)
    · obtain ⟨_, _, rfl, s⟩ := (hPv _ _ _).mp g
      obtain ⟨z, hz, rfl⟩ := tL_at hx
      have il : i < m.se.length := (List.getElem?_eq_some_iff.mp hz).1
      have st := same_upd (o := .tup [V.int (i : Nat), V.str (S z)]) nT
      simp only [tSeq, tAsg, tCB, tCons, tVar, tNil, gName, tRet, tRetN, tDrop, tNext, tIfS, tTest, tB, tOr, tAnd, tNot, tIf, tOrV, tAndV, tNotV, tChain, rI0, rI, rU, tUn, tC, tOp, rNe, rEq, tCall, tPart, tNoPart, tSl, tM0, tM1, tTup, tLst, tAug, gTup, gCons, gNil, rAdd, rSub, tNever, tBreak, tCont, L2.start, scSS, scII, scBB, ipI, sS, dS, d1, mkS, sL, nc1, nc2, Int.natCast_inj, List.map_cons, List.map_nil, List.length_cons, List.length_nil, List.replicate, List.cons_append, List.nil_append, List.append_nil, List.getElem?_cons_zero, List.getElem?_cons_succ, List.set_cons_zero, List.set_cons_succ, Option.some.injEq, V.str.injEq, V.int.injEq, V.bl.injEq, V.ref.injEq, List.cons.injEq, and_true, true_and, exists_eq_left', exists_eq_left, exists_eq, exists_eq', exists_and_left, exists_and_right, and_assoc, exists_const, reduceCtorEq, if_true, if_false, ite_true, ite_false, Bool.false_eq_true, decide_true, decide_false, Bool.not_true, Bool.not_false, cxK, rN]
      refine ⟨_, SqT.of upd_same, rfl, _, _, rfl, _, _, rfl, rfl, _, rfl, ?_⟩
      have e : standM (m.se.take (i + 1)) c = if c ∈ z then standM (m.se.take i) c ||| 1 <<< i else standM (m.se.take i) c := by
        rw [List.take_add_one, hz]
        show standM (m.se.take i ++ [z]) c = _
        rw [standM_snoc, List.length_take, Nat.min_eq_left (by omega)]
      by_cases hc : c ∈ z
      · rw [if_pos (decide_eq_true (show c ∈ (S z).cps.toList from hc))]
        rw [if_pos hc] at e
        exact ⟨i, rfl, by omega, (hPv _ _ _).mpr ⟨_, _, by rw [e], s.trans st⟩⟩
      · rw [if_neg (by simpa using hc)]
        rw [if_neg hc] at e
        exact (hPv _ _ _).mpr ⟨_, _, by rw [e], s.trans st⟩
    · obtain ⟨v3, v4, rfl, s⟩ := (hPv _ _ _).mp g
      rw [tL_len, List.take_length]
      exact (hM1 _ _).mpr ⟨v3, v4, rfl, s⟩
  obtain ⟨v3, v4, rfl, s1⟩ := (hM1 _ _).mp g1
  simp only [tSeq, tAsg, tCB, tCons, tVar, tNil, gName, tRet, tRetN, tDrop, tNext, tIfS, tTest, tB, tOr, tAnd, tNot, tIf, tOrV, tAndV, tNotV, tChain, rI0, rI, rU, tUn, tC, tOp, rNe, rEq, tCall, tPart, tNoPart, tSl, tM0, tM1, tTup, tLst, tAug, gTup, gCons, gNil, rAdd, rSub, tNever, tBreak, tCont, L2.start, scSS, scII, scBB, ipI, sS, dS, d1, mkS, sL, nc1, nc2, Int.natCast_inj, List.map_cons, List.map_nil, List.length_cons, List.length_nil, List.replicate, List.cons_append, List.nil_append, List.append_nil, List.getElem?_cons_zero, List.getElem?_cons_succ, List.set_cons_zero, List.set_cons_succ, Option.some.injEq, V.str.injEq, V.int.injEq, V.bl.injEq, V.ref.injEq, List.cons.injEq, and_true, true_and, exists_eq_left', exists_eq_left, exists_eq, exists_eq', exists_and_left, exists_and_right, and_assoc, exists_const, reduceCtorEq, if_true, if_false, ite_true, ite_false, Bool.false_eq_true, decide_true, decide_false, Bool.not_true, Bool.not_false, cxK, tFldC, sDPut]
  have eM1 := s1 _ _ eM
  refine ⟨_, insL_s s1 ob, _, rfl, _, rfl, _, DPut.k (k := Sum.inr (S [c])) eM1 (sz5 (show ms.length + 1 ≤ 100000 by omega)), ?_⟩
  have pm := insL_nd ob eM
  have ne1 : ∀ {b : Addr} {o : HO}, H b = some o → (∀ k, o ≠ .dK k) → b ≠ dm := fun {b o} h hk z => by
    subst z
    rw [eM] at h
    cases h
    exact hk _ rfl
  refine q _ ((Fr.of s1).upd (.inl (.head _)) eM1 rfl) ⟨ls, fo, ld, putK ms (Sum.inr (S [c])) (.int (standM m.se c : Nat)), bs, insL_at (insL_s s1 ob) (upd_ne pm), ?_, ?_, upd_same, ?_, ?_, cB, ?_, by omega, dne⟩
  · rw [upd_ne (ne1 eS (fun k => by simp))]; exact s1 _ _ eS
  · rw [upd_ne (ne1 eF (fun k => by simp))]; exact s1 _ _ eF
  · rw [upd_ne dne.symm]; exact s1 _ _ eB
  · exact cach_put cM ⟨c, rfl, rfl⟩
  · have := length_putK ms (Sum.inr (S [c])) (.int (standM m.se c : Nat)); omega
def restOf (σ : L2.St) : Nat := match σ[3]? with
  | some (some (V.int r)) => r.toNat
  | _ => 0
def sp_after (CA : Addr) : Sp := fun vs H Q _ => ∃ (p dm db : Addr) (m : Mac) (N t : Nat), vs = [.ref p, .int (t : Nat)] ∧ AutM CA H p dm db m N ∧ N < 90000 ∧ (∀ q, t.testBit q = true → q < m.fo.length) ∧ m.fo.length ≤ 50000 ∧
  ∀ H', Fr [db] H H' → AutM CA H' p dm db m (N + 1) → Q (.int (afterM m.fo t : Nat)) H'
theorem scAutomaton_after : FnScope ["self", "taken", "mask", "rest", "low"] ["self", "taken"] (defScope (inClass (topS 10) 6)) := ⟨rfl, rfl, rfl, by decide +kernel, rfl, by decide +kernel, by decide +kernel⟩
theorem ok_after (o_Automaton : OCls K CA nsA) (D : Mdf K CA "after" "Automaton.after" (inClass (topS 10) 6) ["self", "taken"]) : MetC P w K mg base 1 CA "after" (sp_after CA) := by
  refine met_of D scAutomaton_after (fun vs H Q E h => ?_) (fun f cdv A outer s H vs Q E hr h => ?_)
  · obtain ⟨p, dm, db, m, N, t, rfl, _⟩ := h
    rfl
  obtain ⟨p, dm, db, m, N, t, rfl, hA, hN, ht, hfo, q⟩ := h
  obtain ⟨ls, fo, ld, ms, bs, ob, eS, eF, eM, eB, cM, cB, lM, lB, dne⟩ := id hA.ex
  refine ⟨_, (pss_cons (ps_set (i := 2) scAutomaton_after.nd rfl (Or.inl rfl) pe_int)
      (pss_cons (ps_set (i := 3) scAutomaton_after.nd rfl (Or.inl rfl) (pv 1))
      (pss_cons (ps_while PassesOwn.never (pt_truth (pv 3) (by intro _; rfl)) (pss_cons (ps_set (i := 4) scAutomaton_after.nd rfl (Or.inl rfl) (pe_op op_and (pv 3) (pe_un un_neg (pv 3))))
      (pss_cons (ps_aug (i := 2) scAutomaton_after.nd rfl (Or.inl rfl) (pe_ix ix_list (pe_fldC (k := 1) o_Automaton (pv 0) rfl) (pe_op op_sub (pe_bits (pv 4)) pe_int) (fun _ _ => rfl)) iop_or)
      (pss_one (ps_aug (i := 3) scAutomaton_after.nd rfl (Or.inl rfl) (pv 4) iop_xor)))))
      (pss_cons (ps_dput (hu_of hr) (pe_fldC (k := 3) o_Automaton (pv 0) rfl) (pv 1) (pv 2) rfl)
      (pss_one (ps_ret (pv 2))))))), ?_⟩
  simp only [tSeq, tAsg, tCB, tCons, tVar, tNil, gName, tRet, tRetN, tDrop, tNext, tIfS, tTest, tB, tOr, tAnd, tNot, tIf, tOrV, tAndV, tNotV, tChain, rI0, rI, rU, tUn, tC, tOp, rNe, rEq, tCall, tPart, tNoPart, tSl, tM0, tM1, tTup, tLst, tAug, gTup, gCons, gNil, rAdd, rSub, tNever, tBreak, tCont, L2.start, scSS, scII, scBB, ipI, sS, dS, d1, mkS, sL, nc1, nc2, Int.natCast_inj, List.map_cons, List.map_nil, List.length_cons, List.length_nil, List.replicate, List.cons_append, List.nil_append, List.append_nil, List.getElem?_cons_zero, List.getElem?_cons_succ, List.set_cons_zero, List.set_cons_succ, Option.some.injEq, V.str.injEq, V.int.injEq, V.bl.injEq, V.ref.injEq, List.cons.injEq, and_true, true_and, exists_eq_left', exists_eq_left, exists_eq, exists_eq', exists_and_left, exists_and_right, and_assoc, exists_const, reduceCtorEq, if_true, if_false, ite_true, ite_false, Bool.false_eq_true, decide_true, decide_false, Bool.not_true, Bool.not_false, cxK]
  obtain ⟨Pv, hPv⟩ : ∃ Pv : L2.St → Hp → Prop, ∀ σ' H', Pv σ' H' ↔ ∃ (mk r : Nat) (v4 : Option V), σ' = [some (.ref p), some (.int (t : Nat)), some (.int (mk : Nat)), some (.int (r : Nat)), v4] ∧ H' = H ∧ (∀ q, r.testBit q = true → t.testBit q = true) ∧ (∀ i, mk.testBit i = true ↔ ∃ q, t.testBit q = true ∧ ¬ r.testBit q = true ∧ (m.fo.getD q 0).testBit i = true) := ⟨_, fun _ _ => Iff.rfl⟩
  refine while_by Pv (fun σ' _ => restOf σ') ((hPv _ _).mpr ⟨0, t, none, rfl, rfl, fun _ h => h, fun i => ⟨fun h => (by rw [Nat.zero_testBit] at h; cases h), fun ⟨q, h1, h2, _⟩ => absurd h1 h2⟩⟩) (fun σ' H' g => ?_) (fun σ' H' Q Q' hq ⟨v, e, k, hk, z⟩ => ⟨v, e, k, hk, hq _ _ z⟩)
  obtain ⟨mk, r, v4, rfl, rfl, hr1, hr2⟩ := (hPv _ _).mp g
  refine ⟨_, rfl, decide (r ≠ 0), ?_, ?_⟩
  · rw [tru_nat]
  show (if decide (r ≠ 0) = true then _ else _)
  by_cases z : r = 0
  · subst z
    rw [if_neg (by simp)]
    have em : mk = afterM m.fo t := by
      apply Nat.eq_of_testBit_eq
      intro i
      have e : mk.testBit i = true ↔ (afterM m.fo t).testBit i = true := by
        rw [hr2, afterM_bit]
        exact ⟨fun ⟨q, h1, _, h3⟩ => ⟨q, h1, h3⟩, fun ⟨q, h1, h3⟩ => ⟨q, h1, by simp, h3⟩⟩
      cases h1 : mk.testBit i <;> cases h2 : (afterM m.fo t).testBit i <;> simp_all
    subst em
    simp only [tSeq, tAsg, tCB, tCons, tVar, tNil, gName, tRet, tRetN, tDrop, tNext, tIfS, tTest, tB, tOr, tAnd, tNot, tIf, tOrV, tAndV, tNotV, tChain, rI0, rI, rU, tUn, tC, tOp, rNe, rEq, tCall, tPart, tNoPart, tSl, tM0, tM1, tTup, tLst, tAug, gTup, gCons, gNil, rAdd, rSub, tNever, tBreak, tCont, L2.start, scSS, scII, scBB, ipI, sS, dS, d1, mkS, sL, nc1, nc2, Int.natCast_inj, List.map_cons, List.map_nil, List.length_cons, List.length_nil, List.replicate, List.cons_append, List.nil_append, List.append_nil, List.getElem?_cons_zero, List.getElem?_cons_succ, List.set_cons_zero, List.set_cons_succ, Option.some.injEq, V.str.injEq, V.int.injEq, V.bl.injEq, V.ref.injEq, List.cons.injEq, and_true, true_and, exists_eq_left', exists_eq_left, exists_eq, exists_eq', exists_and_left, exists_and_right, and_assoc, exists_const, reduceCtorEq, if_true, if_false, ite_true, ite_false, Bool.false_eq_true, decide_true, decide_false, Bool.not_true, Bool.not_false, cxK, tFldC, sDPut]
    refine ⟨_, ob, _, rfl, _, rfl, _, DPut.k (k := Sum.inl (t : Int)) eB (sz5 (show bs.length + 1 ≤ 100000 by omega)), ?_⟩
    have pm := insL_nd ob eB
    have ne1 : ∀ {b : Addr} {o : HO}, H' b = some o → (∀ k, o ≠ .dK k) → b ≠ db := fun {b o} h hk z => by
      subst z
      rw [eB] at h
      cases h
      exact hk _ rfl
    refine q _ (Fr.refl.upd (.inl (.head _)) eB rfl) ⟨ls, fo, ld, ms, putK bs (Sum.inl (t : Int)) (.int (afterM m.fo t : Nat)), insL_at ob (upd_ne pm), ?_, ?_, ?_, upd_same, cM, cach_put cB ⟨t, rfl, rfl⟩, by omega, ?_, dne⟩
    · rw [upd_ne (ne1 eS (fun k => by simp))]; exact eS
    · rw [upd_ne (ne1 eF (fun k => by simp))]; exact eF
    · rw [upd_ne dne]; exact eM
    · have := length_putK bs (Sum.inl (t : Int)) (.int (afterM m.fo t : Nat)); omega
  rw [if_pos (decide_eq_true z)]
  obtain ⟨k, a, rfl⟩ := low_ex r z
  have kl := ht k (hr1 k (low_bit k a))
  simp only [tSeq, tAsg, tCB, tCons, tVar, tNil, gName, tRet, tRetN, tDrop, tNext, tIfS, tTest, tB, tOr, tAnd, tNot, tIf, tOrV, tAndV, tNotV, tChain, rI0, rI, rU, tUn, tC, tOp, rNe, rEq, tCall, tPart, tNoPart, tSl, tM0, tM1, tTup, tLst, tAug, gTup, gCons, gNil, rAdd, rSub, tNever, tBreak, tCont, L2.start, scSS, scII, scBB, ipI, sS, dS, d1, mkS, sL, nc1, nc2, Int.natCast_inj, List.map_cons, List.map_nil, List.length_cons, List.length_nil, List.replicate, List.cons_append, List.nil_append, List.append_nil, List.getElem?_cons_zero, List.getElem?_cons_succ, List.set_cons_zero, List.set_cons_succ, Option.some.injEq, V.str.injEq, V.int.injEq, V.bl.injEq, V.ref.injEq, List.cons.injEq, and_true, true_and, exists_eq_left', exists_eq_left, exists_eq, exists_eq', exists_and_left, exists_and_right, and_assoc, exists_const, reduceCtorEq, if_true, if_false, ite_true, ite_false, Bool.false_eq_true, decide_true, decide_false, Bool.not_true, Bool.not_false, cxK, tFldC, tBits, rIxL, low_and, low_bits, bor_nat, bxor_nat]
  have ek : ((k + 1 : Nat) : Int) - 1 = (k : Nat) := by omega
  refine ⟨_, ob, _, rfl, _, rfl, _, SqL.of eF, .int (m.fo[k] : Nat), ?_, _, rfl, ?_, ?_⟩
  · rw [ek]
    exact atI_nat (iL_get (List.getElem?_eq_getElem kl))
  · rw [bor_nat]
    have rb : ∀ q, (2 ^ k * (2 * a + 1) ^^^ 2 ^ k).testBit q = true ↔ (2 ^ k * (2 * a + 1)).testBit q = true ∧ q ≠ k := fun q => by
      rw [Nat.testBit_xor, Nat.testBit_two_pow]
      by_cases e : q = k
      · subst e
        rw [low_bit, decide_eq_true rfl]
        simp
      · rw [decide_eq_false (fun z => e z.symm)]
        simp [e]
    refine (hPv _ _).mpr ⟨_, _, _, rfl, rfl, fun q h => hr1 q ((rb q).mp h).1, fun i => ?_⟩
    have gk : m.fo.getD k 0 = m.fo[k] := by rw [List.getD_eq_getElem?_getD, List.getElem?_eq_getElem kl]; rfl
    rw [Nat.testBit_or, Bool.or_eq_true, hr2]
    constructor
    · rintro (⟨q, h1, h2, h3⟩ | h)
      · exact ⟨q, h1, fun z => h2 ((rb q).mp z).1, h3⟩
      · exact ⟨k, hr1 k (low_bit k a), fun z => ((rb k).mp z).2 rfl, by rw [gk]; exact h⟩
    · rintro ⟨q, h1, h2, h3⟩
      by_cases e : q = k
      · subst e
        rw [gk] at h3
        exact .inr h3
      · exact .inl ⟨q, h1, fun z => h2 ((rb q).mpr ⟨z, e⟩), h3⟩
  · exact low_lt k a
end
end Pd

namespace Pd
open PySem PySem.Spec PyProof.Rows L2
open SX (S)
/-- which of the four cases a place is -/
def nuI (s n : Nat) : Nat := (decide (s = 0)).toNat + 2 * (decide (s = n)).toNat
theorem and_two (a i : Nat) : decide ((0 : Int) < ((a &&& 2 ^ i : Nat) : Int)) = a.testBit i := by
  have h := and_pow a i
  cases e : a.testBit i with
  | true =>
    have := h.mpr e
    exact decide_eq_true (by omega)
  | false =>
    refine decide_eq_false fun z => ?_
    have := h.mp (by omega)
    rw [e] at this
    cases this
section
variable {P : Program} {w : World} {K : PySem.W.Frag} {mg : Str → Option Value} {base : Heap} {CE CA CS : Addr}
def sp_tempty (CA : Addr) : Sp := fun vs H Q _ => ∃ (p dm db : Addr) (m : Mac) (N s n : Nat), vs = [.ref p, .int (s : Nat), .int (n : Nat)] ∧ AutM CA H p dm db m N ∧ Q (.bl (m.nu.testBit (nuI s n))) H
theorem scAutomaton_takes_empty : FnScope ["self", "at", "length", "bit"] ["self", "at", "length"] (defScope (inClass (topS 10) 7)) := ⟨rfl, rfl, rfl, by decide +kernel, rfl, by decide +kernel, by decide +kernel⟩
theorem ok_tempty (o_Automaton : OCls K CA nsA) (g_EMPTY : ∃ t, mg "EMPTY" = some (.int 1 t)) (g_EMPTY_FIRST : ∃ t, mg "EMPTY_FIRST" = some (.int 2 t)) (D : Mdf K CA "takes_empty" "Automaton.takes_empty" (inClass (topS 10) 7) ["self", "at", "length"]) : MetC P w K mg base 1 CA "takes_empty" (sp_tempty CA) := by
  refine met_of D scAutomaton_takes_empty (fun vs H Q E h => ?_) (fun f cdv A outer s H vs Q E hr h => ?_)
  · obtain ⟨p, dm, db, m, N, s, n, rfl, _⟩ := h
    rfl
  obtain ⟨p, dm, db, m, N, a, n, rfl, hA, q⟩ := h
  obtain ⟨ls, fo, ld, ms, bs, ob, _⟩ := hA.ex
  refine ⟨_, (C8.pss_cut (ps_set (i := 3) scAutomaton_takes_empty.nd rfl (Or.inl rfl) (pe_ci g_EMPTY (by rfl)))
      (C8.pss_cut (ps_if (pt_cmpR op_eq (pv 1) pe_int (nomark _)) (pss_one (ps_set (i := 3) scAutomaton_takes_empty.nd rfl (Or.inl rfl) (pe_ci g_EMPTY_FIRST (by rfl)))) pss_nil)
      (C8.pss_cut (ps_if (pt_cmpR op_eq (pv 1) (pv 2) (nomark _)) (pss_one (ps_set (i := 3) scAutomaton_takes_empty.nd rfl (Or.inl rfl) (pe_op op_shl (pv 3) pe_int))) pss_nil)
      (pss_one (ps_ret (pe_cmpR op_gt (pe_op op_andN (pe_fldC (k := 5) o_Automaton (pv 0) rfl) (pv 3)) pe_int (nomark _))))))), ?_⟩
  obtain ⟨M1, hM1⟩ : ∃ M : Nat → L2.St → Hp → Prop, ∀ b σ' H', M b σ' H' ↔ σ' = [some (.ref p), some (.int (a : Nat)), some (.int (n : Nat)), some (.int (b : Nat))] ∧ H' = H := ⟨_, fun _ _ _ => Iff.rfl⟩
  refine ⟨M1 1, ?_, fun σ1 H1 g1 => ?_⟩
  · simp only [tSeq, tAsg, tCB, tCons, tVar, tNil, gName, tRet, tRetN, tDrop, tNext, tIfS, tTest, tB, tOr, tAnd, tNot, tIf, tOrV, tAndV, tNotV, tChain, rI0, rI, rU, tUn, tC, tOp, rNe, rEq, tCall, tPart, tNoPart, tSl, tM0, tM1, tTup, tLst, tAug, gTup, gCons, gNil, rAdd, rSub, tNever, tBreak, tCont, L2.start, scSS, scII, scBB, ipI, sS, dS, d1, mkS, sL, nc1, nc2, Int.natCast_inj, List.map_cons, List.map_nil, List.length_cons, List.length_nil, List.replicate, List.cons_append, List.nil_append, List.append_nil, List.getElem?_cons_zero, List.getElem?_cons_succ, List.set_cons_zero, List.set_cons_succ, Option.some.injEq, V.str.injEq, V.int.injEq, V.bl.injEq, V.ref.injEq, List.cons.injEq, and_true, true_and, exists_eq_left', exists_eq_left, exists_eq, exists_eq', exists_and_left, exists_and_right, and_assoc, exists_const, reduceCtorEq, if_true, if_false, ite_true, ite_false, Bool.false_eq_true, decide_true, decide_false, Bool.not_true, Bool.not_false, cxK]
    exact (hM1 _ _ _).mpr ⟨rfl, rfl⟩
  obtain ⟨rfl, rfl⟩ := (hM1 _ _ _).mp g1
  refine ⟨M1 (2 ^ (decide (a = 0)).toNat), ?_, fun σ1 H1 g1 => ?_⟩
  · simp only [tSeq, tAsg, tCB, tCons, tVar, tNil, gName, tRet, tRetN, tDrop, tNext, tIfS, tTest, tB, tOr, tAnd, tNot, tIf, tOrV, tAndV, tNotV, tChain, rI0, rI, rU, tUn, tC, tOp, rNe, rEq, tCall, tPart, tNoPart, tSl, tM0, tM1, tTup, tLst, tAug, gTup, gCons, gNil, rAdd, rSub, tNever, tBreak, tCont, L2.start, scSS, scII, scBB, ipI, sS, dS, d1, mkS, sL, nc1, nc2, Int.natCast_inj, List.map_cons, List.map_nil, List.length_cons, List.length_nil, List.replicate, List.cons_append, List.nil_append, List.append_nil, List.getElem?_cons_zero, List.getElem?_cons_succ, List.set_cons_zero, List.set_cons_succ, Option.some.injEq, V.str.injEq, V.int.injEq, V.bl.injEq, V.ref.injEq, List.cons.injEq, and_true, true_and, exists_eq_left', exists_eq_left, exists_eq, exists_eq', exists_and_left, exists_and_right, and_assoc, exists_const, reduceCtorEq, if_true, if_false, ite_true, ite_false, Bool.false_eq_true, decide_true, decide_false, Bool.not_true, Bool.not_false, cxK]
    by_cases z : a = 0
    · rw [if_pos (by simp [z])]
      exact (hM1 _ _ _).mpr ⟨by rw [decide_eq_true z]; rfl, rfl⟩
    · rw [if_neg (by simp [z])]
      exact (hM1 _ _ _).mpr ⟨by rw [decide_eq_false z]; rfl, rfl⟩
  obtain ⟨rfl, rfl⟩ := (hM1 _ _ _).mp g1
  refine ⟨M1 (2 ^ nuI a n), ?_, fun σ1 H1 g1 => ?_⟩
  · simp only [tSeq, tAsg, tCB, tCons, tVar, tNil, gName, tRet, tRetN, tDrop, tNext, tIfS, tTest, tB, tOr, tAnd, tNot, tIf, tOrV, tAndV, tNotV, tChain, rI0, rI, rU, tUn, tC, tOp, rNe, rEq, tCall, tPart, tNoPart, tSl, tM0, tM1, tTup, tLst, tAug, gTup, gCons, gNil, rAdd, rSub, tNever, tBreak, tCont, L2.start, scSS, scII, scBB, ipI, sS, dS, d1, mkS, sL, nc1, nc2, Int.natCast_inj, List.map_cons, List.map_nil, List.length_cons, List.length_nil, List.replicate, List.cons_append, List.nil_append, List.append_nil, List.getElem?_cons_zero, List.getElem?_cons_succ, List.set_cons_zero, List.set_cons_succ, Option.some.injEq, V.str.injEq, V.int.injEq, V.bl.injEq, V.ref.injEq, List.cons.injEq, and_true, true_and, exists_eq_left', exists_eq_left, exists_eq, exists_eq', exists_and_left, exists_and_right, and_assoc, exists_const, reduceCtorEq, if_true, if_false, ite_true, ite_false, Bool.false_eq_true, decide_true, decide_false, Bool.not_true, Bool.not_false, cxK]
    by_cases z : a = n
    · rw [if_pos (by simp [z])]
      refine ⟨?_, (hM1 _ _ _).mpr ⟨?_, rfl⟩⟩
      · refine ⟨by decide, by decide, ?_⟩
        cases decide (a = 0) <;> decide
      · unfold nuI
        rw [decide_eq_true z]
        cases decide (a = 0) <;> rfl
    · rw [if_neg (by simp; omega)]
      refine (hM1 _ _ _).mpr ⟨?_, rfl⟩
      unfold nuI
      rw [decide_eq_false z]
      rfl
  obtain ⟨rfl, rfl⟩ := (hM1 _ _ _).mp g1
  simp only [tSeq, tAsg, tCB, tCons, tVar, tNil, gName, tRet, tRetN, tDrop, tNext, tIfS, tTest, tB, tOr, tAnd, tNot, tIf, tOrV, tAndV, tNotV, tChain, rI0, rI, rU, tUn, tC, tOp, rNe, rEq, tCall, tPart, tNoPart, tSl, tM0, tM1, tTup, tLst, tAug, gTup, gCons, gNil, rAdd, rSub, tNever, tBreak, tCont, L2.start, scSS, scII, scBB, ipI, sS, dS, d1, mkS, sL, nc1, nc2, Int.natCast_inj, List.map_cons, List.map_nil, List.length_cons, List.length_nil, List.replicate, List.cons_append, List.nil_append, List.append_nil, List.getElem?_cons_zero, List.getElem?_cons_succ, List.set_cons_zero, List.set_cons_succ, Option.some.injEq, V.str.injEq, V.int.injEq, V.bl.injEq, V.ref.injEq, List.cons.injEq, and_true, true_and, exists_eq_left', exists_eq_left, exists_eq, exists_eq', exists_and_left, exists_and_right, and_assoc, exists_const, reduceCtorEq, if_true, if_false, ite_true, ite_false, Bool.false_eq_true, decide_true, decide_false, Bool.not_true, Bool.not_false, cxK, tFldC, rN]
  refine ⟨_, ob, _, rfl, _, rfl, ?_⟩
  rw [and_two]
  exact q
def sp_tlast (CA : Addr) : Sp := fun vs H Q _ => ∃ (p dm db : Addr) (m : Mac) (N t s n : Nat), vs = [.ref p, .int (t : Nat), .int (s : Nat), .int (n : Nat)] ∧ AutM CA H p dm db m N ∧ Q (.bl (decide (t &&& m.lst (decide (s = n)) ≠ 0))) H
theorem scAutomaton_takes_last : FnScope ["self", "taken", "at", "length"] ["self", "taken", "at", "length"] (defScope (inClass (topS 10) 8)) := ⟨rfl, rfl, rfl, by decide +kernel, rfl, by decide +kernel, by decide +kernel⟩
theorem ok_tlast (o_Automaton : OCls K CA nsA) (D : Mdf K CA "takes_last" "Automaton.takes_last" (inClass (topS 10) 8) ["self", "taken", "at", "length"]) : MetC P w K mg base 1 CA "takes_last" (sp_tlast CA) := by
  refine met_of D scAutomaton_takes_last (fun vs H Q E h => ?_) (fun f cdv A outer s H vs Q E hr h => ?_)
  · obtain ⟨p, dm, db, m, N, t, s, n, rfl, _⟩ := h
    rfl
  obtain ⟨p, dm, db, m, N, t, a, n, rfl, hA, q⟩ := h
  obtain ⟨ls, fo, ld, ms, bs, ob, _⟩ := hA.ex
  refine ⟨_, (pss_cons (ps_if (pt_cmpR op_eq (pv 2) (pv 3) (nomark _)) (pss_one (ps_ret (pe_cmpR op_gt (pe_op op_andN (pv 1) (pe_fldC (k := 9) o_Automaton (pv 0) rfl)) pe_int (nomark _)))) pss_nil)
      (pss_one (ps_ret (pe_cmpR op_gt (pe_op op_andN (pv 1) (pe_fldC (k := 8) o_Automaton (pv 0) rfl)) pe_int (nomark _))))), ?_⟩
  have pos : ∀ x : Nat, decide ((0 : Int) < (x : Nat)) = decide (x ≠ 0) := fun x => decide_eq_decide.mpr (by omega)
  simp only [tSeq, tAsg, tCB, tCons, tVar, tNil, gName, tRet, tRetN, tDrop, tNext, tIfS, tTest, tB, tOr, tAnd, tNot, tIf, tOrV, tAndV, tNotV, tChain, rI0, rI, rU, tUn, tC, tOp, rNe, rEq, tCall, tPart, tNoPart, tSl, tM0, tM1, tTup, tLst, tAug, gTup, gCons, gNil, rAdd, rSub, tNever, tBreak, tCont, L2.start, scSS, scII, scBB, ipI, sS, dS, d1, mkS, sL, nc1, nc2, Int.natCast_inj, List.map_cons, List.map_nil, List.length_cons, List.length_nil, List.replicate, List.cons_append, List.nil_append, List.append_nil, List.getElem?_cons_zero, List.getElem?_cons_succ, List.set_cons_zero, List.set_cons_succ, Option.some.injEq, V.str.injEq, V.int.injEq, V.bl.injEq, V.ref.injEq, List.cons.injEq, and_true, true_and, exists_eq_left', exists_eq_left, exists_eq, exists_eq', exists_and_left, exists_and_right, and_assoc, exists_const, reduceCtorEq, if_true, if_false, ite_true, ite_false, Bool.false_eq_true, decide_true, decide_false, Bool.not_true, Bool.not_false, cxK, tFldC, rN]
  by_cases z : a = n
  · rw [if_pos (by simp [z])]
    refine ⟨_, ob, _, rfl, _, rfl, ?_⟩
    rw [decide_eq_true z] at q
    rw [pos]
    exact q
  · rw [if_neg (by simp; omega)]
    refine ⟨_, ob, _, rfl, _, rfl, ?_⟩
    rw [decide_eq_false z] at q
    rw [pos]
    exact q
end
end Pd

namespace Pd
open PySem PySem.Spec PyProof.Rows L2
open SX (S)
/-- a text of signs and an automaton that takes on it what R says -/
structure OnT (m : Mac) (t : List Nat) (R : Rl) : Prop where
  ok : Mk m t R
  sl : m.se.length = m.fo.length
  fl : m.fo.length ≤ 50000
  tl : t.length ≤ 100
theorem st_lt {m : Mac} {c q : Nat} (h : m.se.length = m.fo.length) (z : (standM m.se c).testBit q = true) : q < m.fo.length := by
  rw [standM_bit] at z
  by_cases k : q < m.se.length
  · omega
  · rw [List.getD_eq_getElem?_getD, List.getElem?_eq_none (by omega)] at z
    simp at z
theorem and_lt {m : Mac} {c q a : Nat} (h : m.se.length = m.fo.length) (z : (a &&& standM m.se c).testBit q = true) : q < m.fo.length := by
  rw [Nat.testBit_and, Bool.and_eq_true] at z
  exact st_lt h z.2
section
variable {K : PySem.W.Frag} {te : TE} {g : TG} {tb : TS} {σ : L2.St} {H : Hp} {D : Ends}
theorem eFoS : tFor (iStr te) g tb D σ H = te σ H fun v H1 => ∃ x, v = .str x ∧ ForJ (Its x) g tb D σ H1 := rfl
theorem foS {x : List Nat} (Pv : Nat → L2.St → Hp → Prop) (h0 : Pv 0 σ H) (hs : ∀ i c σ H, x[i]? = some c → Pv i σ H → g (.str (S [c])) σ H fun σ2 H2 => tb { D with nx := Pv (i + 1), ct := Pv (i + 1), bk := D.nx } σ2 H2) (hd : ∀ σ H, Pv x.length σ H → D.nx σ H) : ForJ (Its (S x)) g tb D σ H := for_str Pv h0 hs hd
end
theorem AutM.ob {CA : Addr} {H : Hp} {p dm db : Addr} {m : Mac} {N : Nat} (h : AutM CA H p dm db m N) : ∃ v0 v1 v4, InsL CA nsA H p [v0, v1, .ref dm, .ref db, v4, .int (m.nu : Nat), .int (m.fi : Nat), .int (m.bg : Nat), .int (m.la : Nat), .int (m.en : Nat)] := by
  obtain ⟨ls, fo, ld, ms, bs, ob, _⟩ := h.ex
  exact ⟨_, _, _, ob⟩
theorem AutM.mask {CA : Addr} {H : Hp} {p dm db : Addr} {m : Mac} {N : Nat} (h : AutM CA H p dm db m N) (c : Nat) : IsD H dm ∧ ∃ o, DGet H dm (.str (S [c])) o ∧ (o = none ∨ o = some (.int (standM m.se c : Nat))) := by
  obtain ⟨ls, fo, ld, ms, bs, ob, eS, eF, eM, eB, cM, cB, _⟩ := h.ex
  refine ⟨.inl ⟨ms, .inl eM⟩, _, DGet.k (k := Sum.inr (S [c])) eM, ?_⟩
  cases e : valV ms (Sum.inr (S [c])) with
  | none => exact .inl rfl
  | some v =>
    obtain ⟨d, h1, h2⟩ := cM _ _ e
    injection h1 with h1
    have : c = d := by simpa using SX.S_inj h1
    subst this
    rw [h2]
    exact .inr rfl
theorem AutM.behind {CA : Addr} {H : Hp} {p dm db : Addr} {m : Mac} {N : Nat} (h : AutM CA H p dm db m N) (t : Nat) : IsD H db ∧ ∃ o, DGet H db (.int (t : Nat)) o ∧ (o = none ∨ o = some (.int (afterM m.fo t : Nat))) := by
  obtain ⟨ls, fo, ld, ms, bs, ob, eS, eF, eM, eB, cM, cB, _⟩ := h.ex
  refine ⟨.inl ⟨bs, .inl eB⟩, _, DGet.k (k := Sum.inl (t : Int)) eB, ?_⟩
  cases e : valV bs (Sum.inl (t : Int)) with
  | none => exact .inl rfl
  | some v =>
    obtain ⟨d, h1, h2⟩ := cB _ _ e
    injection h1 with h1
    have : t = d := by omega
    subst this
    rw [h2]
    exact .inr rfl
theorem AutM.le {CA : Addr} {H : Hp} {p dm db : Addr} {m : Mac} {N N' : Nat} (h : AutM CA H p dm db m N) (k : N ≤ N') : AutM CA H p dm db m N' := by
  obtain ⟨ls, fo, ld, ms, bs, ob, eS, eF, eM, eB, cM, cB, l1, l2, r⟩ := h.ex
  exact ⟨ls, fo, ld, ms, bs, ob, eS, eF, eM, eB, cM, cB, by omega, by omega, r⟩
theorem AutM.same {CA : Addr} {H H' : Hp} {p dm db : Addr} {m : Mac} {N : Nat} (h : AutM CA H p dm db m N) (s : Same H H') : AutM CA H' p dm db m N := by
  obtain ⟨ls, fo, ld, ms, bs, ob, eS, eF, eM, eB, r⟩ := h.ex
  exact ⟨ls, fo, ld, ms, bs, insL_s s ob, s _ _ eS, s _ _ eF, s _ _ eM, s _ _ eB, r⟩
section
variable {P : Program} {w : World} {K : PySem.W.Frag} {mg : Str → Option Value} {base : Heap} {CE CA CS : Addr}
def sp_taken (CA : Addr) : Sp := fun vs H Q _ => ∃ (p dm db : Addr) (m : Mac) (N : Nat) (t : List Nat) (R : Rl) (s e : Nat), vs = [.ref p, .str (S t), .int (s : Nat), .int (e : Nat)] ∧ AutM CA H p dm db m N ∧ OnT m t R ∧ N ≤ 1000 ∧ s ≤ e ∧ e ≤ t.length ∧ dm ≠ db ∧ 
  ∀ H' N' (b : Bool), Fr [dm, db] H H' → AutM CA H' p dm db m N' → (b = true ↔ R s e) → Q (.bl b) H'
theorem scis_taken : FnScope ["automaton", "text", "start", "end", "following", "taken", "sign", "mask"] ["automaton", "text", "start", "end"] (defScope (topS 14)) := ⟨rfl, rfl, rfl, by decide +kernel, rfl, by decide +kernel, by decide +kernel⟩
theorem ok_taken (T : BiA mg) (o_Automaton : OCls K CA nsA) (M_Automaton_takes_empty : MetC P w K mg base 1 CA "takes_empty" (sp_tempty CA)) (M_Automaton_takes_last : MetC P w K mg base 1 CA "takes_last" (sp_tlast CA)) (M_Automaton_standing_for : MetC P w K mg base 1 CA "standing_for" (sp_stand CA)) (M_Automaton_after : MetC P w K mg base 1 CA "after" (sp_after CA)) (D : Dfn K mg "is_taken" (topS 14) ["automaton", "text", "start", "end"]) : Cal P w K mg base 2 "is_taken" (sp_taken CA) := by
  refine cal_of D scis_taken (fun vs H Q E h => ?_) (fun f cdv A outer s H vs Q E hr h => ?_)
  · obtain ⟨p, dm, db, m, N, t, R, a, e, rfl, _⟩ := h
    rfl
  obtain ⟨p, dm, db, m, N, t, R, a, e, rfl, hA, hO, hN, hae, het, dne, q⟩ := h
  refine ⟨_, (C8.pss_cut (ps_if (pt_cmpR op_eq (pv 2) (pv 3) (nomark _)) (pss_one (ps_ret (pm M_Automaton_takes_empty o_Automaton (by decide +kernel) mono_var hr (by decide) (pv 0) (pa_cons (pv 2) (pa_cons (pe_callB call_len_str (by rfl) T.b_len (by decide +kernel) (pa_cons (pv 1) pa_nil)) pa_nil))))) pss_nil)
      (C8.pss_cut (ps_set (i := 4) scis_taken.nd rfl (Or.inl rfl) (pe_fldC (k := 6) o_Automaton (pv 0) rfl))
      (C8.pss_cut (ps_if (pt_cmpR op_eq (pv 2) pe_int (nomark _)) (pss_one (ps_set (i := 4) scis_taken.nd rfl (Or.inl rfl) (pe_fldC (k := 7) o_Automaton (pv 0) rfl))) pss_nil)
      (C8.pss_cut (ps_set (i := 5) scis_taken.nd rfl (Or.inl rfl) pe_int)
      (pss_cons (ps_for PassesOwn.never rfl (pi_str (pe_slice sl_str (pv 1) (po_some (pv 2)) (po_some (pv 3)))) (pg_name (i := 6) scis_taken.nd rfl (Or.inl rfl)) (C8.pss_cut (ps_set (i := 7) scis_taken.nd rfl (Or.inl rfl) (pe_dget1 (hu_of hr) (pe_fldC (k := 2) o_Automaton (pv 0) rfl) (pv 6) ⟨by rfl, by rfl, by rfl, by rfl⟩))
      (C8.pss_cut (ps_if (pt_cmpR op_isN (pv 7) pe_non (nomark _)) (pss_one (ps_set (i := 7) scis_taken.nd rfl (Or.inl rfl) (pm M_Automaton_standing_for o_Automaton (by decide +kernel) mono_var hr (by decide) (pv 0) (pa_cons (pv 6) pa_nil)))) pss_nil)
      (C8.pss_cut (ps_set (i := 5) scis_taken.nd rfl (Or.inl rfl) (pe_op op_andN (pv 4) (pv 7)))
      (C8.pss_cut (ps_if (pt_cmpR op_eq (pv 5) pe_int (nomark _)) (pss_one (ps_ret pe_bl)) pss_nil)
      (C8.pss_cut (ps_set (i := 4) scis_taken.nd rfl (Or.inl rfl) (pe_dget1 (hu_of hr) (pe_fldC (k := 3) o_Automaton (pv 0) rfl) (pv 5) ⟨by rfl, by rfl, by rfl, by rfl⟩))
      (pss_one (ps_if (pt_cmpR op_isN (pv 4) pe_non (nomark _)) (pss_one (ps_set (i := 4) scis_taken.nd rfl (Or.inl rfl) (pm M_Automaton_after o_Automaton (by decide +kernel) mono_var hr (by decide) (pv 0) (pa_cons (pv 5) pa_nil)))) pss_nil))))))))
      (pss_one (ps_ret (pm M_Automaton_takes_last o_Automaton (by decide +kernel) mono_var hr (by decide) (pv 0) (pa_cons (pv 5) (pa_cons (pv 3) (pa_cons (pe_callB call_len_str (by rfl) T.b_len (by decide +kernel) (pa_cons (pv 1) pa_nil)) pa_nil))))))))))), ?_⟩
  have tlz : (S t).length ≤ sizeLine := by rw [sL]; exact sz5 (by have := hO.tl; omega)
  obtain ⟨v0, v1, v4, ob⟩ := hA.ob
  obtain ⟨M1, hM1⟩ : ∃ M : Option V → Option V → L2.St → Hp → Prop, ∀ x y σ' H', M x y σ' H' ↔ σ' = [some (.ref p), some (.str (S t)), some (.int (a : Nat)), some (.int (e : Nat)), x, y, none, none] ∧ H' = H := ⟨_, fun _ _ _ _ => Iff.rfl⟩
  refine ⟨fun σ' H' => M1 none none σ' H' ∧ a ≠ e, ?_, fun σ1 H1 g1 => ?_⟩
  · simp only [tSeq, tAsg, tCB, tCons, tVar, tNil, gName, tRet, tRetN, tDrop, tNext, tIfS, tTest, tB, tOr, tAnd, tNot, tIf, tOrV, tAndV, tNotV, tChain, rI0, rI, rU, tUn, tC, tOp, rNe, rEq, tCall, tPart, tNoPart, tSl, tM0, tM1, tTup, tLst, tAug, gTup, gCons, gNil, rAdd, rSub, tNever, tBreak, tCont, L2.start, scSS, scII, scBB, ipI, sS, dS, d1, mkS, sL, nc1, nc2, Int.natCast_inj, List.map_cons, List.map_nil, List.length_cons, List.length_nil, List.replicate, List.cons_append, List.nil_append, List.append_nil, List.getElem?_cons_zero, List.getElem?_cons_succ, List.set_cons_zero, List.set_cons_succ, Option.some.injEq, V.str.injEq, V.int.injEq, V.bl.injEq, V.ref.injEq, List.cons.injEq, and_true, true_and, exists_eq_left', exists_eq_left, exists_eq, exists_eq', exists_and_left, exists_and_right, and_assoc, exists_const, reduceCtorEq, if_true, if_false, ite_true, ite_false, Bool.false_eq_true, decide_true, decide_false, Bool.not_true, Bool.not_false, cxK, tMetC, sp_tempty]
    by_cases z : a = e
    · rw [if_pos (by simp [z])]
      refine ⟨⟨_, ob⟩, tlz, dm, db, m, ⟨N, hA⟩, ?_⟩
      subst z
      refine q H N _ .refl hA ?_
      rw [hO.ok.em a het]
      exact Iff.rfl
    · rw [if_neg (by simp; omega)]
      exact ⟨(hM1 _ _ _ _).mpr ⟨rfl, rfl⟩, z⟩
  obtain ⟨g1, hne⟩ := g1
  obtain ⟨rfl, rfl⟩ := (hM1 _ _ _ _).mp g1
  refine ⟨M1 (some (.int (m.fi : Nat))) none, ?_, fun σ1 H2 g1 => ?_⟩
  · simp only [tSeq, tAsg, tCB, tCons, tVar, tNil, gName, tRet, tRetN, tDrop, tNext, tIfS, tTest, tB, tOr, tAnd, tNot, tIf, tOrV, tAndV, tNotV, tChain, rI0, rI, rU, tUn, tC, tOp, rNe, rEq, tCall, tPart, tNoPart, tSl, tM0, tM1, tTup, tLst, tAug, gTup, gCons, gNil, rAdd, rSub, tNever, tBreak, tCont, L2.start, scSS, scII, scBB, ipI, sS, dS, d1, mkS, sL, nc1, nc2, Int.natCast_inj, List.map_cons, List.map_nil, List.length_cons, List.length_nil, List.replicate, List.cons_append, List.nil_append, List.append_nil, List.getElem?_cons_zero, List.getElem?_cons_succ, List.set_cons_zero, List.set_cons_succ, Option.some.injEq, V.str.injEq, V.int.injEq, V.bl.injEq, V.ref.injEq, List.cons.injEq, and_true, true_and, exists_eq_left', exists_eq_left, exists_eq, exists_eq', exists_and_left, exists_and_right, and_assoc, exists_const, reduceCtorEq, if_true, if_false, ite_true, ite_false, Bool.false_eq_true, decide_true, decide_false, Bool.not_true, Bool.not_false, cxK, tFldC]
    exact ⟨_, ob, _, rfl, (hM1 _ _ _ _).mpr ⟨rfl, rfl⟩⟩
  obtain ⟨rfl, rfl⟩ := (hM1 _ _ _ _).mp g1
  refine ⟨M1 (some (.int (m.ini a : Nat))) none, ?_, fun σ1 H3 g1 => ?_⟩
  · simp only [tSeq, tAsg, tCB, tCons, tVar, tNil, gName, tRet, tRetN, tDrop, tNext, tIfS, tTest, tB, tOr, tAnd, tNot, tIf, tOrV, tAndV, tNotV, tChain, rI0, rI, rU, tUn, tC, tOp, rNe, rEq, tCall, tPart, tNoPart, tSl, tM0, tM1, tTup, tLst, tAug, gTup, gCons, gNil, rAdd, rSub, tNever, tBreak, tCont, L2.start, scSS, scII, scBB, ipI, sS, dS, d1, mkS, sL, nc1, nc2, Int.natCast_inj, List.map_cons, List.map_nil, List.length_cons, List.length_nil, List.replicate, List.cons_append, List.nil_append, List.append_nil, List.getElem?_cons_zero, List.getElem?_cons_succ, List.set_cons_zero, List.set_cons_succ, Option.some.injEq, V.str.injEq, V.int.injEq, V.bl.injEq, V.ref.injEq, List.cons.injEq, and_true, true_and, exists_eq_left', exists_eq_left, exists_eq, exists_eq', exists_and_left, exists_and_right, and_assoc, exists_const, reduceCtorEq, if_true, if_false, ite_true, ite_false, Bool.false_eq_true, decide_true, decide_false, Bool.not_true, Bool.not_false, cxK, tFldC]
    by_cases z : a = 0
    · rw [if_pos (by simp [z])]
      exact ⟨_, ob, _, rfl, (hM1 _ _ _ _).mpr ⟨by unfold Mac.ini; rw [if_pos z], rfl⟩⟩
    · rw [if_neg (by simp [z])]
      exact (hM1 _ _ _ _).mpr ⟨by unfold Mac.ini; rw [if_neg z], rfl⟩
  obtain ⟨rfl, rfl⟩ := (hM1 _ _ _ _).mp g1
  refine ⟨M1 (some (.int (m.ini a : Nat))) (some (.int 0)), ?_, fun σ1 H4 g1 => ?_⟩
  · simp only [tSeq, tAsg, tCB, tCons, tVar, tNil, gName, tRet, tRetN, tDrop, tNext, tIfS, tTest, tB, tOr, tAnd, tNot, tIf, tOrV, tAndV, tNotV, tChain, rI0, rI, rU, tUn, tC, tOp, rNe, rEq, tCall, tPart, tNoPart, tSl, tM0, tM1, tTup, tLst, tAug, gTup, gCons, gNil, rAdd, rSub, tNever, tBreak, tCont, L2.start, scSS, scII, scBB, ipI, sS, dS, d1, mkS, sL, nc1, nc2, Int.natCast_inj, List.map_cons, List.map_nil, List.length_cons, List.length_nil, List.replicate, List.cons_append, List.nil_append, List.append_nil, List.getElem?_cons_zero, List.getElem?_cons_succ, List.set_cons_zero, List.set_cons_succ, Option.some.injEq, V.str.injEq, V.int.injEq, V.bl.injEq, V.ref.injEq, List.cons.injEq, and_true, true_and, exists_eq_left', exists_eq_left, exists_eq, exists_eq', exists_and_left, exists_and_right, and_assoc, exists_const, reduceCtorEq, if_true, if_false, ite_true, ite_false, Bool.false_eq_true, decide_true, decide_false, Bool.not_true, Bool.not_false, cxK]
    exact (hM1 _ _ _ _).mpr ⟨rfl, rfl⟩
  obtain ⟨rfl, rfl⟩ := (hM1 _ _ _ _).mp g1
  simp only [tSeq, tAsg, tCB, tCons, tVar, tNil, gName, tRet, tRetN, tDrop, tNext, tIfS, tTest, tB, tOr, tAnd, tNot, tIf, tOrV, tAndV, tNotV, tChain, rI0, rI, rU, tUn, tC, tOp, rNe, rEq, tCall, tPart, tNoPart, tSl, tM0, tM1, tTup, tLst, tAug, gTup, gCons, gNil, rAdd, rSub, tNever, tBreak, tCont, L2.start, scSS, scII, scBB, ipI, sS, dS, d1, mkS, sL, nc1, nc2, Int.natCast_inj, List.map_cons, List.map_nil, List.length_cons, List.length_nil, List.replicate, List.cons_append, List.nil_append, List.append_nil, List.getElem?_cons_zero, List.getElem?_cons_succ, List.set_cons_zero, List.set_cons_succ, Option.some.injEq, V.str.injEq, V.int.injEq, V.bl.injEq, V.ref.injEq, List.cons.injEq, and_true, true_and, exists_eq_left', exists_eq_left, exists_eq, exists_eq', exists_and_left, exists_and_right, and_assoc, exists_const, reduceCtorEq, if_true, if_false, ite_true, ite_false, Bool.false_eq_true, decide_true, decide_false, Bool.not_true, Bool.not_false, cxK, eFoS, rSlS]
  rw [sL] at tlz
  refine ⟨tlz, ?_⟩
  rw [cut_ab hae (by omega)]
  have xat : ∀ {i c : Nat}, ((t.drop a).take (e - a))[i]? = some c → t[a + i]? = some c ∧ a + i < e := fun {i c} h => by
    have il := (List.getElem?_eq_some_iff.mp h).1
    rw [List.length_take] at il
    rw [List.getElem?_take_of_lt (by omega), List.getElem?_drop] at h
    exact ⟨h, by omega⟩
  have xl : ((t.drop a).take (e - a)).length = e - a := by rw [List.length_take, List.length_drop]; omega
  obtain ⟨Pv, hPv⟩ : ∃ Pv : Nat → L2.St → Hp → Prop, ∀ i σ' H', Pv i σ' H' ↔ ∃ (f tk : Nat) (v6 v7 : Option V) (n : Nat), σ' = [some (.ref p), some (.str (S t)), some (.int (a : Nat)), some (.int (e : Nat)), some (.int (f : Nat)), some (.int (tk : Nat)), v6, v7] ∧ Fr [dm, db] H4 H' ∧ AutM CA H' p dm db m n ∧ n ≤ N + 2 * i ∧ Is f (m.Fl t a (a + i)) ∧ (∀ j, i = j + 1 → Is tk (m.T t a (a + j))) := ⟨_, fun _ _ _ => Iff.rfl⟩
  refine foS Pv ((hPv _ _ _).mpr ⟨_, 0, _, _, N, rfl, .refl, hA, by omega, Is.ini, fun j h => by omega⟩) (fun i c σ' H' hc g => ?_) (fun σ' H' g => ?_)
  · obtain ⟨f, tk, v6, v7, n, rfl, fr, kA, nl, isf, ist⟩ := (hPv _ _ _).mp g
    obtain ⟨hc, hie⟩ := xat hc
    have tl := hO.tl
    obtain ⟨w0, w1, w4, ob1⟩ := kA.ob
    obtain ⟨d1, o1, dg1, oo1⟩ := kA.mask c
    obtain ⟨B, hB⟩ : ∃ B : V → V → V → Nat → L2.St → Hp → Prop, ∀ x y z n' σ' G, B x y z n' σ' G ↔ σ' = [some (.ref p), some (.str (S t)), some (.int (a : Nat)), some (.int (e : Nat)), some x, some y, some (.str (S [c])), some z] ∧ Fr [dm, db] H4 G ∧ AutM CA G p dm db m n' := ⟨_, fun _ _ _ _ _ _ => Iff.rfl⟩
    refine ⟨fun σ' G => B (.int (f : Nat)) (.int (tk : Nat)) (o1.getD .non) n σ' G, ?_, fun σ5 H5 g5 => ?_⟩
    · simp only [tSeq, tAsg, tCB, tCons, tVar, tNil, gName, tRet, tRetN, tDrop, tNext, tIfS, tTest, tB, tOr, tAnd, tNot, tIf, tOrV, tAndV, tNotV, tChain, rI0, rI, rU, tUn, tC, tOp, rNe, rEq, tCall, tPart, tNoPart, tSl, tM0, tM1, tTup, tLst, tAug, gTup, gCons, gNil, rAdd, rSub, tNever, tBreak, tCont, L2.start, scSS, scII, scBB, ipI, sS, dS, d1, mkS, sL, nc1, nc2, Int.natCast_inj, List.map_cons, List.map_nil, List.length_cons, List.length_nil, List.replicate, List.cons_append, List.nil_append, List.append_nil, List.getElem?_cons_zero, List.getElem?_cons_succ, List.set_cons_zero, List.set_cons_succ, Option.some.injEq, V.str.injEq, V.int.injEq, V.bl.injEq, V.ref.injEq, List.cons.injEq, and_true, true_and, exists_eq_left', exists_eq_left, exists_eq, exists_eq', exists_and_left, exists_and_right, and_assoc, exists_const, reduceCtorEq, if_true, if_false, ite_true, ite_false, Bool.false_eq_true, decide_true, decide_false, Bool.not_true, Bool.not_false, cxK, tFldC, tDGet1]
      exact ⟨_, ob1, _, rfl, dm, rfl, d1, o1, dg1, (hB _ _ _ _ _ _).mpr ⟨rfl, fr, kA⟩⟩
    obtain ⟨rfl, fr5, k5⟩ := (hB _ _ _ _ _ _).mp g5
    obtain ⟨_, _, _, ob5⟩ := k5.ob
    refine ⟨fun σ' G => B (.int (f : Nat)) (.int (tk : Nat)) (.int (standM m.se c : Nat)) (n + 1) σ' G, ?_, fun σ6 H6 g6 => ?_⟩
    · simp only [tSeq, tAsg, tCB, tCons, tVar, tNil, gName, tRet, tRetN, tDrop, tNext, tIfS, tTest, tB, tOr, tAnd, tNot, tIf, tOrV, tAndV, tNotV, tChain, rI0, rI, rU, tUn, tC, tOp, rNe, rEq, tCall, tPart, tNoPart, tSl, tM0, tM1, tTup, tLst, tAug, gTup, gCons, gNil, rAdd, rSub, tNever, tBreak, tCont, L2.start, scSS, scII, scBB, ipI, sS, dS, d1, mkS, sL, nc1, nc2, Int.natCast_inj, List.map_cons, List.map_nil, List.length_cons, List.length_nil, List.replicate, List.cons_append, List.nil_append, List.append_nil, List.getElem?_cons_zero, List.getElem?_cons_succ, List.set_cons_zero, List.set_cons_succ, Option.some.injEq, V.str.injEq, V.int.injEq, V.bl.injEq, V.ref.injEq, List.cons.injEq, and_true, true_and, exists_eq_left', exists_eq_left, exists_eq, exists_eq', exists_and_left, exists_and_right, and_assoc, exists_const, reduceCtorEq, if_true, if_false, ite_true, ite_false, Bool.false_eq_true, decide_true, decide_false, Bool.not_true, Bool.not_false, cxK, tMetC, sp_stand]
      rcases oo1 with rfl | rfl
      · rw [if_pos (by rfl)]
        exact ⟨⟨_, ob5⟩, dm, db, m, n, k5, by omega, by have := hO.sl; have := hO.fl; omega, fun G f1 k1 => (hB _ _ _ _ _ _).mpr ⟨rfl, fr5.trans (f1.mono (by simp)), k1⟩⟩
      · rw [if_neg (by simp)]
        exact (hB _ _ _ _ _ _).mpr ⟨rfl, fr5, k5.le (by omega)⟩
    obtain ⟨rfl, fr6, k6⟩ := (hB _ _ _ _ _ _).mp g6
    have ist1 : Is (f &&& standM m.se c) (m.T t a (a + i)) := Is.taken hc isf
    obtain ⟨tk1, htk⟩ : ∃ tk1, tk1 = f &&& standM m.se c := ⟨_, rfl⟩
    rw [← htk] at ist1
    refine ⟨fun σ' G => B (.int (f : Nat)) (.int (tk1 : Nat)) (.int (standM m.se c : Nat)) (n + 1) σ' G, ?_, fun σ7 H7 g7 => ?_⟩
    · simp only [tSeq, tAsg, tCB, tCons, tVar, tNil, gName, tRet, tRetN, tDrop, tNext, tIfS, tTest, tB, tOr, tAnd, tNot, tIf, tOrV, tAndV, tNotV, tChain, rI0, rI, rU, tUn, tC, tOp, rNe, rEq, tCall, tPart, tNoPart, tSl, tM0, tM1, tTup, tLst, tAug, gTup, gCons, gNil, rAdd, rSub, tNever, tBreak, tCont, L2.start, scSS, scII, scBB, ipI, sS, dS, d1, mkS, sL, nc1, nc2, Int.natCast_inj, List.map_cons, List.map_nil, List.length_cons, List.length_nil, List.replicate, List.cons_append, List.nil_append, List.append_nil, List.getElem?_cons_zero, List.getElem?_cons_succ, List.set_cons_zero, List.set_cons_succ, Option.some.injEq, V.str.injEq, V.int.injEq, V.bl.injEq, V.ref.injEq, List.cons.injEq, and_true, true_and, exists_eq_left', exists_eq_left, exists_eq, exists_eq', exists_and_left, exists_and_right, and_assoc, exists_const, reduceCtorEq, if_true, if_false, ite_true, ite_false, Bool.false_eq_true, decide_true, decide_false, Bool.not_true, Bool.not_false, cxK, rN]
      exact (hB _ _ _ _ _ _).mpr ⟨by rw [htk], fr6, k6⟩
    obtain ⟨rfl, fr7, k7⟩ := (hB _ _ _ _ _ _).mp g7
    refine ⟨fun σ' G => B (.int (f : Nat)) (.int (tk1 : Nat)) (.int (standM m.se c : Nat)) (n + 1) σ' G ∧ tk1 ≠ 0, ?_, fun σ8 H8 g8 => ?_⟩
    · simp only [tSeq, tAsg, tCB, tCons, tVar, tNil, gName, tRet, tRetN, tDrop, tNext, tIfS, tTest, tB, tOr, tAnd, tNot, tIf, tOrV, tAndV, tNotV, tChain, rI0, rI, rU, tUn, tC, tOp, rNe, rEq, tCall, tPart, tNoPart, tSl, tM0, tM1, tTup, tLst, tAug, gTup, gCons, gNil, rAdd, rSub, tNever, tBreak, tCont, L2.start, scSS, scII, scBB, ipI, sS, dS, d1, mkS, sL, nc1, nc2, Int.natCast_inj, List.map_cons, List.map_nil, List.length_cons, List.length_nil, List.replicate, List.cons_append, List.nil_append, List.append_nil, List.getElem?_cons_zero, List.getElem?_cons_succ, List.set_cons_zero, List.set_cons_succ, Option.some.injEq, V.str.injEq, V.int.injEq, V.bl.injEq, V.ref.injEq, List.cons.injEq, and_true, true_and, exists_eq_left', exists_eq_left, exists_eq, exists_eq', exists_and_left, exists_and_right, and_assoc, exists_const, reduceCtorEq, if_true, if_false, ite_true, ite_false, Bool.false_eq_true, decide_true, decide_false, Bool.not_true, Bool.not_false, cxK]
      by_cases z : tk1 = 0
      · rw [if_pos (by simp [z])]
        refine q H7 _ false fr7 k7 ⟨fun h => (by cases h), fun h => ?_⟩
        exfalso
        obtain ⟨e1, rfl⟩ : ∃ e1, e = e1 + 1 := ⟨e - 1, by omega⟩
        obtain ⟨r, h1, _⟩ := (hO.ok.iff a e1 (by omega) (by omega)).mp h
        exact T_down (by omega) (ist1.zero.mp z) e1 (by omega) r h1
      · rw [if_neg (by simp; omega)]
        exact ⟨(hB _ _ _ _ _ _).mpr ⟨rfl, fr7, k7⟩, z⟩
    obtain ⟨g8, tnz⟩ := g8
    obtain ⟨rfl, fr8, k8⟩ := (hB _ _ _ _ _ _).mp g8
    obtain ⟨d2, o2, dg2, oo2⟩ := k8.behind tk1
    obtain ⟨_, _, _, ob8⟩ := k8.ob
    have isn : Is (afterM m.fo tk1) (m.Fl t a (a + (i + 1))) := Is.after (i := a + i) (Nat.le_add_right _ _) ist1
    refine ⟨fun σ' G => B (o2.getD .non) (.int (tk1 : Nat)) (.int (standM m.se c : Nat)) (n + 1) σ' G, ?_, fun σ9 H9 g9 => ?_⟩
    · simp only [tSeq, tAsg, tCB, tCons, tVar, tNil, gName, tRet, tRetN, tDrop, tNext, tIfS, tTest, tB, tOr, tAnd, tNot, tIf, tOrV, tAndV, tNotV, tChain, rI0, rI, rU, tUn, tC, tOp, rNe, rEq, tCall, tPart, tNoPart, tSl, tM0, tM1, tTup, tLst, tAug, gTup, gCons, gNil, rAdd, rSub, tNever, tBreak, tCont, L2.start, scSS, scII, scBB, ipI, sS, dS, d1, mkS, sL, nc1, nc2, Int.natCast_inj, List.map_cons, List.map_nil, List.length_cons, List.length_nil, List.replicate, List.cons_append, List.nil_append, List.append_nil, List.getElem?_cons_zero, List.getElem?_cons_succ, List.set_cons_zero, List.set_cons_succ, Option.some.injEq, V.str.injEq, V.int.injEq, V.bl.injEq, V.ref.injEq, List.cons.injEq, and_true, true_and, exists_eq_left', exists_eq_left, exists_eq, exists_eq', exists_and_left, exists_and_right, and_assoc, exists_const, reduceCtorEq, if_true, if_false, ite_true, ite_false, Bool.false_eq_true, decide_true, decide_false, Bool.not_true, Bool.not_false, cxK, tFldC, tDGet1]
      exact ⟨_, ob8, _, rfl, db, rfl, d2, o2, dg2, (hB _ _ _ _ _ _).mpr ⟨rfl, fr8, k8⟩⟩
    obtain ⟨rfl, fr9, k9⟩ := (hB _ _ _ _ _ _).mp g9
    obtain ⟨_, _, _, ob9⟩ := k9.ob
    simp only [tSeq, tAsg, tCB, tCons, tVar, tNil, gName, tRet, tRetN, tDrop, tNext, tIfS, tTest, tB, tOr, tAnd, tNot, tIf, tOrV, tAndV, tNotV, tChain, rI0, rI, rU, tUn, tC, tOp, rNe, rEq, tCall, tPart, tNoPart, tSl, tM0, tM1, tTup, tLst, tAug, gTup, gCons, gNil, rAdd, rSub, tNever, tBreak, tCont, L2.start, scSS, scII, scBB, ipI, sS, dS, d1, mkS, sL, nc1, nc2, Int.natCast_inj, List.map_cons, List.map_nil, List.length_cons, List.length_nil, List.replicate, List.cons_append, List.nil_append, List.append_nil, List.getElem?_cons_zero, List.getElem?_cons_succ, List.set_cons_zero, List.set_cons_succ, Option.some.injEq, V.str.injEq, V.int.injEq, V.bl.injEq, V.ref.injEq, List.cons.injEq, and_true, true_and, exists_eq_left', exists_eq_left, exists_eq, exists_eq', exists_and_left, exists_and_right, and_assoc, exists_const, reduceCtorEq, if_true, if_false, ite_true, ite_false, Bool.false_eq_true, decide_true, decide_false, Bool.not_true, Bool.not_false, cxK, tMetC, sp_after]
    rcases oo2 with rfl | rfl
    · rw [if_pos (by rfl)]
      refine ⟨⟨_, ob9⟩, dm, db, m, n + 1, k9, by omega, fun r hr => ?_, hO.fl, fun G f1 k1 => (hPv _ _ _).mpr ⟨_, _, _, _, _, rfl, fr9.trans (f1.mono (by simp)), k1, by omega, isn, fun j hj => ?_⟩⟩
      · rw [htk] at hr; exact and_lt hO.sl hr
      · have : j = i := by omega
        subst this; exact ist1
    · rw [if_neg (by simp)]
      refine (hPv _ _ _).mpr ⟨_, _, _, _, _, rfl, fr9, k9, by omega, isn, fun j hj => ?_⟩
      have : j = i := by omega
      subst this; exact ist1
  · obtain ⟨f, tk, v6, v7, n, rfl, fr, kA, nl, isf, ist⟩ := (hPv _ _ _).mp g
    rw [xl] at ist nl
    obtain ⟨_, _, _, ob1⟩ := kA.ob
    obtain ⟨e1, rfl⟩ : ∃ e1, e = e1 + 1 := ⟨e - 1, by omega⟩
    have i2 := ist (e1 - a) (by omega)
    rw [show a + (e1 - a) = e1 by omega] at i2
    simp only [tSeq, tAsg, tCB, tCons, tVar, tNil, gName, tRet, tRetN, tDrop, tNext, tIfS, tTest, tB, tOr, tAnd, tNot, tIf, tOrV, tAndV, tNotV, tChain, rI0, rI, rU, tUn, tC, tOp, rNe, rEq, tCall, tPart, tNoPart, tSl, tM0, tM1, tTup, tLst, tAug, gTup, gCons, gNil, rAdd, rSub, tNever, tBreak, tCont, L2.start, scSS, scII, scBB, ipI, sS, dS, d1, mkS, sL, nc1, nc2, Int.natCast_inj, List.map_cons, List.map_nil, List.length_cons, List.length_nil, List.replicate, List.cons_append, List.nil_append, List.append_nil, List.getElem?_cons_zero, List.getElem?_cons_succ, List.set_cons_zero, List.set_cons_succ, Option.some.injEq, V.str.injEq, V.int.injEq, V.bl.injEq, V.ref.injEq, List.cons.injEq, and_true, true_and, exists_eq_left', exists_eq_left, exists_eq, exists_eq', exists_and_left, exists_and_right, and_assoc, exists_const, reduceCtorEq, if_true, if_false, ite_true, ite_false, Bool.false_eq_true, decide_true, decide_false, Bool.not_true, Bool.not_false, cxK, tMetC, sp_tlast]
    refine ⟨⟨_, ob1⟩, tlz, dm, db, m, ⟨_, kA⟩, ?_⟩
    refine q H' n _ fr kA ?_
    rw [decide_eq_true_iff, ← hO.ok.takes (by omega) (by omega) i2]
end
end Pd

namespace Pd
open PySem PySem.Spec PyProof.Rows L2
open SX (S)
/-- the furthest end up to k -/
structure Lg (R : Rl) (s k : Nat) (r : Option Nat) : Prop where
  non : r = none → ∀ e, s ≤ e → e ≤ k → ¬ R s e
  som : ∀ e, r = some e → s ≤ e ∧ e ≤ k ∧ R s e ∧ ∀ e', s ≤ e' → e' ≤ k → R s e' → e' ≤ e
theorem Lg.on {R : Rl} {s k : Nat} {r : Option Nat} (h : Lg R s k r) (n : ¬ R s (k + 1)) : Lg R s (k + 1) r :=
  ⟨fun e e' h1 h2 h3 => by
    by_cases z : e' = k + 1
    · subst z; exact n h3
    · exact h.non e e' h1 (by omega) h3, fun e he => by
    obtain ⟨h1, h2, h3, h4⟩ := h.som e he
    refine ⟨h1, by omega, h3, fun e' g1 g2 g3 => ?_⟩
    by_cases z : e' = k + 1
    · subst z; exact absurd g3 n
    · exact h4 e' g1 (by omega) g3⟩
theorem Lg.far {R : Rl} {s k k' : Nat} {r : Option Nat} (h : Lg R s k r) (hk : k ≤ k') (n : ∀ e, k < e → e ≤ k' → ¬ R s e) : Lg R s k' r :=
  ⟨fun e e' h1 h2 h3 => by
    by_cases z : e' ≤ k
    · exact h.non e e' h1 z h3
    · exact n e' (by omega) h2 h3, fun e he => by
    obtain ⟨h1, h2, h3, h4⟩ := h.som e he
    refine ⟨h1, by omega, h3, fun e' g1 g2 g3 => ?_⟩
    by_cases z : e' ≤ k
    · exact h4 e' g1 z g3
    · exact absurd g3 (n e' (by omega) g2)⟩
theorem Lg.new {R : Rl} {s k : Nat} (hs : s ≤ k) (n : R s k) : Lg R s k (some k) := ⟨fun e => (by cases e), fun e he => (by cases he; exact ⟨hs, Nat.le_refl _, n, fun _ _ h _ => h⟩)⟩
section
variable {K : PySem.W.Frag} {ta : TA} {g : TG} {tb : TS} {σ : L2.St} {H : Hp} {D : Ends}
theorem eFoR2 : tFor (iRng2 ta) g tb D σ H = ta σ H fun ws H1 => ∃ i j : Int, ws = [.int i, .int j] ∧ (-(2 ^ 62) ≤ i ∧ i < 2 ^ 62 ∧ -(2 ^ 62) ≤ j ∧ j < 2 ^ 62) ∧ ForJ (Itr i (j - i).toNat) g tb D σ H1 := rfl
end
theorem Lg.uniq {R : Rl} {s k : Nat} {r r' : Option Nat} (h : Lg R s k r) (g : Lg R s k r') : r = r' := by
  cases r with
  | none => cases r' with
    | none => rfl
    | some e => obtain ⟨h1, h2, h3, _⟩ := g.som e rfl; exact absurd h3 (h.non rfl e h1 h2)
  | some e => cases r' with
    | none => obtain ⟨h1, h2, h3, _⟩ := h.som e rfl; exact absurd h3 (g.non rfl e h1 h2)
    | some e' =>
      obtain ⟨h1, h2, h3, h4⟩ := h.som e rfl
      obtain ⟨g1, g2, g3, g4⟩ := g.som e' rfl
      have := h4 e' g1 g2 g3
      have := g4 e h1 h2 h3
      congr 1
      omega
section
variable {P : Program} {w : World} {K : PySem.W.Frag} {mg : Str → Option Value} {base : Heap} {CE CA CS : Addr}
def sp_long (CA : Addr) : Sp := fun vs H Q _ => ∃ (p dm db : Addr) (m : Mac) (N : Nat) (t : List Nat) (R : Rl) (s : Nat), vs = [.ref p, .str (S t), .int (s : Nat)] ∧ AutM CA H p dm db m N ∧ OnT m t R ∧ N ≤ 1000 ∧ s ≤ t.length ∧
  ∀ H' N' (r : Option Nat), Fr [dm, db] H H' → AutM CA H' p dm db m N' → Lg R s t.length r → Q (optNV r) H'
theorem sclongest_from : FnScope ["automaton", "text", "start", "longest", "following", "at", "mask", "taken"] ["automaton", "text", "start"] (defScope (topS 15)) := ⟨rfl, rfl, rfl, by decide +kernel, rfl, by decide +kernel, by decide +kernel⟩
theorem ok_long (T : BiA mg) (o_Automaton : OCls K CA nsA) (M_Automaton_takes_empty : MetC P w K mg base 1 CA "takes_empty" (sp_tempty CA)) (M_Automaton_takes_last : MetC P w K mg base 1 CA "takes_last" (sp_tlast CA)) (M_Automaton_standing_for : MetC P w K mg base 1 CA "standing_for" (sp_stand CA)) (M_Automaton_after : MetC P w K mg base 1 CA "after" (sp_after CA)) (D : Dfn K mg "longest_from" (topS 15) ["automaton", "text", "start"]) : Cal P w K mg base 2 "longest_from" (sp_long CA) := by
  refine cal_of D sclongest_from (fun vs H Q E h => ?_) (fun f cdv A outer s H vs Q E hr h => ?_)
  · obtain ⟨p, dm, db, m, N, t, R, a, rfl, _⟩ := h
    rfl
  obtain ⟨p, dm, db, m, N, t, R, a, rfl, hA, hO, hN, hat, q⟩ := h
  refine ⟨_, (C8.pss_cut (ps_set (i := 3) sclongest_from.nd rfl (Or.inl rfl) pe_non)
      (C8.pss_cut (ps_if (pt_val (pm M_Automaton_takes_empty o_Automaton (by decide +kernel) mono_var hr (by decide) (pv 0) (pa_cons (pv 2) (pa_cons (pe_callB call_len_str (by rfl) T.b_len (by decide +kernel) (pa_cons (pv 1) pa_nil)) pa_nil)))) (pss_one (ps_set (i := 3) sclongest_from.nd rfl (Or.inl rfl) (pv 2))) pss_nil)
      (C8.pss_cut (ps_set (i := 4) sclongest_from.nd rfl (Or.inl rfl) (pe_fldC (k := 6) o_Automaton (pv 0) rfl))
      (C8.pss_cut (ps_if (pt_cmpR op_eq (pv 2) pe_int (nomark _)) (pss_one (ps_set (i := 4) sclongest_from.nd rfl (Or.inl rfl) (pe_fldC (k := 7) o_Automaton (pv 0) rfl))) pss_nil)
      (C8.pss_cut (ps_for PassesOwn.never rfl (pi_range2 (by rfl) T.b_range (pa_cons (pv 2) (pa_cons (pe_callB call_len_str (by rfl) T.b_len (by decide +kernel) (pa_cons (pv 1) pa_nil)) pa_nil))) (pg_name (i := 5) sclongest_from.nd rfl (Or.inl rfl)) (C8.pss_cut (ps_set (i := 6) sclongest_from.nd rfl (Or.inl rfl) (pe_dget1 (hu_of hr) (pe_fldC (k := 2) o_Automaton (pv 0) rfl) (pe_ix ix_str (pv 1) (pv 5) (fun _ _ => rfl)) ⟨by rfl, by rfl, by rfl, by rfl⟩))
      (C8.pss_cut (ps_if (pt_cmpR op_isN (pv 6) pe_non (nomark _)) (pss_one (ps_set (i := 6) sclongest_from.nd rfl (Or.inl rfl) (pm M_Automaton_standing_for o_Automaton (by decide +kernel) mono_var hr (by decide) (pv 0) (pa_cons (pe_ix ix_str (pv 1) (pv 5) (fun _ _ => rfl)) pa_nil)))) pss_nil)
      (C8.pss_cut (ps_set (i := 7) sclongest_from.nd rfl (Or.inl rfl) (pe_op op_andN (pv 4) (pv 6)))
      (C8.pss_cut (ps_if (pt_cmpR op_eq (pv 7) pe_int (nomark _)) (pss_one (ps_ret (pv 3))) pss_nil)
      (C8.pss_cut (ps_if (pt_val (pm M_Automaton_takes_last o_Automaton (by decide +kernel) mono_var hr (by decide) (pv 0) (pa_cons (pv 7) (pa_cons (pe_op op_add (pv 5) pe_int) (pa_cons (pe_callB call_len_str (by rfl) T.b_len (by decide +kernel) (pa_cons (pv 1) pa_nil)) pa_nil))))) (pss_one (ps_set (i := 3) sclongest_from.nd rfl (Or.inl rfl) (pe_op op_add (pv 5) pe_int))) pss_nil)
      (C8.pss_cut (ps_set (i := 4) sclongest_from.nd rfl (Or.inl rfl) (pe_dget1 (hu_of hr) (pe_fldC (k := 3) o_Automaton (pv 0) rfl) (pv 7) ⟨by rfl, by rfl, by rfl, by rfl⟩))
      (pss_one (ps_if (pt_cmpR op_isN (pv 4) pe_non (nomark _)) (pss_one (ps_set (i := 4) sclongest_from.nd rfl (Or.inl rfl) (pm M_Automaton_after o_Automaton (by decide +kernel) mono_var hr (by decide) (pv 0) (pa_cons (pv 7) pa_nil)))) pss_nil)))))))))
      (pss_one (ps_ret (pv 3)))))))), ?_⟩
  have tlz : t.length ≤ sizeLine := sz5 (by have := hO.tl; omega)
  obtain ⟨v0, v1, v4, ob⟩ := hA.ob
  have tl := hO.tl
  obtain ⟨M1, hM1⟩ : ∃ M : Option V → Option V → L2.St → Hp → Prop, ∀ x y σ' H', M x y σ' H' ↔ σ' = [some (.ref p), some (.str (S t)), some (.int (a : Nat)), x, y, none, none, none] ∧ H' = H := ⟨_, fun _ _ _ _ => Iff.rfl⟩
  refine ⟨M1 (some .non) none, ?_, fun σ1 H1 g1 => ?_⟩
  · simp only [tSeq, tAsg, tCB, tCons, tVar, tNil, gName, tRet, tRetN, tDrop, tNext, tIfS, tTest, tB, tOr, tAnd, tNot, tIf, tOrV, tAndV, tNotV, tChain, rI0, rI, rU, tUn, tC, tOp, rNe, rEq, tCall, tPart, tNoPart, tSl, tM0, tM1, tTup, tLst, tAug, gTup, gCons, gNil, rAdd, rSub, tNever, tBreak, tCont, L2.start, scSS, scII, scBB, ipI, sS, dS, d1, mkS, sL, nc1, nc2, Int.natCast_inj, List.map_cons, List.map_nil, List.length_cons, List.length_nil, List.replicate, List.cons_append, List.nil_append, List.append_nil, List.getElem?_cons_zero, List.getElem?_cons_succ, List.set_cons_zero, List.set_cons_succ, Option.some.injEq, V.str.injEq, V.int.injEq, V.bl.injEq, V.ref.injEq, List.cons.injEq, and_true, true_and, exists_eq_left', exists_eq_left, exists_eq, exists_eq', exists_and_left, exists_and_right, and_assoc, exists_const, reduceCtorEq, if_true, if_false, ite_true, ite_false, Bool.false_eq_true, decide_true, decide_false, Bool.not_true, Bool.not_false, cxK]
    exact (hM1 _ _ _ _).mpr ⟨rfl, rfl⟩
  obtain ⟨rfl, rfl⟩ := (hM1 _ _ _ _).mp g1
  obtain ⟨r0, hr0⟩ : ∃ r0 : Option Nat, r0 = if m.nu.testBit (nuI a t.length) = true then some a else none := ⟨_, rfl⟩
  have L0 : Lg R a a r0 := by
    rw [hr0]
    have em := hO.ok.em a hat
    by_cases z : m.nu.testBit (nuI a t.length) = true
    · rw [if_pos z]; exact .new (Nat.le_refl _) (em.mpr z)
    · rw [if_neg z]
      exact ⟨fun _ e h1 h2 h3 => (by
        have : e = a := by omega
        subst this
        exact z (em.mp h3)), fun e h => by cases h⟩
  refine ⟨M1 (some (optNV r0)) none, ?_, fun σ1 H2 g1 => ?_⟩
  · simp only [tSeq, tAsg, tCB, tCons, tVar, tNil, gName, tRet, tRetN, tDrop, tNext, tIfS, tTest, tB, tOr, tAnd, tNot, tIf, tOrV, tAndV, tNotV, tChain, rI0, rI, rU, tUn, tC, tOp, rNe, rEq, tCall, tPart, tNoPart, tSl, tM0, tM1, tTup, tLst, tAug, gTup, gCons, gNil, rAdd, rSub, tNever, tBreak, tCont, L2.start, scSS, scII, scBB, ipI, sS, dS, d1, mkS, sL, nc1, nc2, Int.natCast_inj, List.map_cons, List.map_nil, List.length_cons, List.length_nil, List.replicate, List.cons_append, List.nil_append, List.append_nil, List.getElem?_cons_zero, List.getElem?_cons_succ, List.set_cons_zero, List.set_cons_succ, Option.some.injEq, V.str.injEq, V.int.injEq, V.bl.injEq, V.ref.injEq, List.cons.injEq, and_true, true_and, exists_eq_left', exists_eq_left, exists_eq, exists_eq', exists_and_left, exists_and_right, and_assoc, exists_const, reduceCtorEq, if_true, if_false, ite_true, ite_false, Bool.false_eq_true, decide_true, decide_false, Bool.not_true, Bool.not_false, cxK, tMetC, sp_tempty, sL]
    refine ⟨⟨_, ob⟩, tlz, dm, db, m, ⟨N, hA⟩, ?_⟩
    by_cases z : m.nu.testBit (nuI a t.length) = true
    · rw [z, if_pos rfl, hr0, if_pos z]
      exact (hM1 _ _ _ _).mpr ⟨rfl, rfl⟩
    · rw [if_neg z, hr0, if_neg z]
      exact (hM1 _ _ _ _).mpr ⟨rfl, rfl⟩
  obtain ⟨rfl, rfl⟩ := (hM1 _ _ _ _).mp g1
  refine ⟨M1 (some (optNV r0)) (some (.int (m.fi : Nat))), ?_, fun σ1 H3 g1 => ?_⟩
  · simp only [tSeq, tAsg, tCB, tCons, tVar, tNil, gName, tRet, tRetN, tDrop, tNext, tIfS, tTest, tB, tOr, tAnd, tNot, tIf, tOrV, tAndV, tNotV, tChain, rI0, rI, rU, tUn, tC, tOp, rNe, rEq, tCall, tPart, tNoPart, tSl, tM0, tM1, tTup, tLst, tAug, gTup, gCons, gNil, rAdd, rSub, tNever, tBreak, tCont, L2.start, scSS, scII, scBB, ipI, sS, dS, d1, mkS, sL, nc1, nc2, Int.natCast_inj, List.map_cons, List.map_nil, List.length_cons, List.length_nil, List.replicate, List.cons_append, List.nil_append, List.append_nil, List.getElem?_cons_zero, List.getElem?_cons_succ, List.set_cons_zero, List.set_cons_succ, Option.some.injEq, V.str.injEq, V.int.injEq, V.bl.injEq, V.ref.injEq, List.cons.injEq, and_true, true_and, exists_eq_left', exists_eq_left, exists_eq, exists_eq', exists_and_left, exists_and_right, and_assoc, exists_const, reduceCtorEq, if_true, if_false, ite_true, ite_false, Bool.false_eq_true, decide_true, decide_false, Bool.not_true, Bool.not_false, cxK, tFldC]
    exact ⟨_, ob, _, rfl, (hM1 _ _ _ _).mpr ⟨rfl, rfl⟩⟩
  obtain ⟨rfl, rfl⟩ := (hM1 _ _ _ _).mp g1
  refine ⟨M1 (some (optNV r0)) (some (.int (m.ini a : Nat))), ?_, fun σ1 H4 g1 => ?_⟩
  · simp only [tSeq, tAsg, tCB, tCons, tVar, tNil, gName, tRet, tRetN, tDrop, tNext, tIfS, tTest, tB, tOr, tAnd, tNot, tIf, tOrV, tAndV, tNotV, tChain, rI0, rI, rU, tUn, tC, tOp, rNe, rEq, tCall, tPart, tNoPart, tSl, tM0, tM1, tTup, tLst, tAug, gTup, gCons, gNil, rAdd, rSub, tNever, tBreak, tCont, L2.start, scSS, scII, scBB, ipI, sS, dS, d1, mkS, sL, nc1, nc2, Int.natCast_inj, List.map_cons, List.map_nil, List.length_cons, List.length_nil, List.replicate, List.cons_append, List.nil_append, List.append_nil, List.getElem?_cons_zero, List.getElem?_cons_succ, List.set_cons_zero, List.set_cons_succ, Option.some.injEq, V.str.injEq, V.int.injEq, V.bl.injEq, V.ref.injEq, List.cons.injEq, and_true, true_and, exists_eq_left', exists_eq_left, exists_eq, exists_eq', exists_and_left, exists_and_right, and_assoc, exists_const, reduceCtorEq, if_true, if_false, ite_true, ite_false, Bool.false_eq_true, decide_true, decide_false, Bool.not_true, Bool.not_false, cxK, tFldC]
    by_cases z : a = 0
    · rw [if_pos (by simp [z])]
      exact ⟨_, ob, _, rfl, (hM1 _ _ _ _).mpr ⟨by unfold Mac.ini; rw [if_pos z], rfl⟩⟩
    · rw [if_neg (by simp [z])]
      exact (hM1 _ _ _ _).mpr ⟨by unfold Mac.ini; rw [if_neg z], rfl⟩
  obtain ⟨rfl, rfl⟩ := (hM1 _ _ _ _).mp g1
  obtain ⟨Pv, hPv⟩ : ∃ Pv : Nat → L2.St → Hp → Prop, ∀ i σ' H', Pv i σ' H' ↔ ∃ (f : Nat) (r : Option Nat) (v5 v6 v7 : Option V) (n : Nat), σ' = [some (.ref p), some (.str (S t)), some (.int (a : Nat)), some (optNV r), some (.int (f : Nat)), v5, v6, v7] ∧ Fr [dm, db] H4 H' ∧ AutM CA H' p dm db m n ∧ n ≤ N + 2 * i ∧ Is f (m.Fl t a (a + i)) ∧ Lg R a (a + i) r := ⟨_, fun _ _ _ => Iff.rfl⟩
  refine ⟨Pv (t.length - a), ?_, fun σ5 H5 g5 => ?_⟩
  · simp only [tSeq, tAsg, tCB, tCons, tVar, tNil, gName, tRet, tRetN, tDrop, tNext, tIfS, tTest, tB, tOr, tAnd, tNot, tIf, tOrV, tAndV, tNotV, tChain, rI0, rI, rU, tUn, tC, tOp, rNe, rEq, tCall, tPart, tNoPart, tSl, tM0, tM1, tTup, tLst, tAug, gTup, gCons, gNil, rAdd, rSub, tNever, tBreak, tCont, L2.start, scSS, scII, scBB, ipI, sS, dS, d1, mkS, sL, nc1, nc2, Int.natCast_inj, List.map_cons, List.map_nil, List.length_cons, List.length_nil, List.replicate, List.cons_append, List.nil_append, List.append_nil, List.getElem?_cons_zero, List.getElem?_cons_succ, List.set_cons_zero, List.set_cons_succ, Option.some.injEq, V.str.injEq, V.int.injEq, V.bl.injEq, V.ref.injEq, List.cons.injEq, and_true, true_and, exists_eq_left', exists_eq_left, exists_eq, exists_eq', exists_and_left, exists_and_right, and_assoc, exists_const, reduceCtorEq, if_true, if_false, ite_true, ite_false, Bool.false_eq_true, decide_true, decide_false, Bool.not_true, Bool.not_false, cxK, eFoR2, sL]
    refine ⟨tlz, by omega, by omega, by omega, by omega, ?_⟩
    rw [show ((t.length : Int) - (a : Int)).toNat = t.length - a by omega]
    refine foR Pv ((hPv _ _ _).mpr ⟨_, r0, none, none, none, N, rfl, .refl, hA, by omega, Is.ini, L0⟩) (fun i σ' H' hi g => ?_) (fun σ' H' g => g)
    obtain ⟨f, r, v5, v6, v7, n, rfl, fr, kA, nl, isf, lg⟩ := (hPv _ _ _).mp g
    rw [show (a : Int) + (i : Int) = ((a + i : Nat) : Int) by omega]
    obtain ⟨c, hc⟩ : ∃ c, t[a + i]? = some c := ⟨_, List.getElem?_eq_getElem (by omega)⟩
    obtain ⟨w0, w1, w4, ob1⟩ := kA.ob
    obtain ⟨d1, o1, dg1, oo1⟩ := kA.mask c
    obtain ⟨B, hB⟩ : ∃ B : V → V → V → Option V → Nat → L2.St → Hp → Prop, ∀ x y z v n' σ' G, B x y z v n' σ' G ↔ σ' = [some (.ref p), some (.str (S t)), some (.int (a : Nat)), some x, some y, some (.int ((a + i : Nat) : Int)), some z, v] ∧ Fr [dm, db] H4 G ∧ AutM CA G p dm db m n' := ⟨_, fun _ _ _ _ _ _ _ => Iff.rfl⟩
    refine ⟨fun σ' G => B (optNV r) (.int (f : Nat)) (o1.getD .non) v7 n σ' G, ?_, fun σ5 H5 g5 => ?_⟩
    · simp only [tSeq, tAsg, tCB, tCons, tVar, tNil, gName, tRet, tRetN, tDrop, tNext, tIfS, tTest, tB, tOr, tAnd, tNot, tIf, tOrV, tAndV, tNotV, tChain, rI0, rI, rU, tUn, tC, tOp, rNe, rEq, tCall, tPart, tNoPart, tSl, tM0, tM1, tTup, tLst, tAug, gTup, gCons, gNil, rAdd, rSub, tNever, tBreak, tCont, L2.start, scSS, scII, scBB, ipI, sS, dS, d1, mkS, sL, nc1, nc2, Int.natCast_inj, List.map_cons, List.map_nil, List.length_cons, List.length_nil, List.replicate, List.cons_append, List.nil_append, List.append_nil, List.getElem?_cons_zero, List.getElem?_cons_succ, List.set_cons_zero, List.set_cons_succ, Option.some.injEq, V.str.injEq, V.int.injEq, V.bl.injEq, V.ref.injEq, List.cons.injEq, and_true, true_and, exists_eq_left', exists_eq_left, exists_eq, exists_eq', exists_and_left, exists_and_right, and_assoc, exists_const, reduceCtorEq, if_true, if_false, ite_true, ite_false, Bool.false_eq_true, decide_true, decide_false, Bool.not_true, Bool.not_false, cxK, tFldC, tDGet1, rIxS, sL]
      exact ⟨_, ob1, _, rfl, dm, rfl, d1, tlz, c, atI_nat hc, o1, dg1, (hB _ _ _ _ _ _ _).mpr ⟨rfl, fr, kA⟩⟩
    obtain ⟨rfl, fr5, k5⟩ := (hB _ _ _ _ _ _ _).mp g5
    obtain ⟨_, _, _, ob5⟩ := k5.ob
    refine ⟨fun σ' G => B (optNV r) (.int (f : Nat)) (.int (standM m.se c : Nat)) v7 (n + 1) σ' G, ?_, fun σ6 H6 g6 => ?_⟩
    · simp only [tSeq, tAsg, tCB, tCons, tVar, tNil, gName, tRet, tRetN, tDrop, tNext, tIfS, tTest, tB, tOr, tAnd, tNot, tIf, tOrV, tAndV, tNotV, tChain, rI0, rI, rU, tUn, tC, tOp, rNe, rEq, tCall, tPart, tNoPart, tSl, tM0, tM1, tTup, tLst, tAug, gTup, gCons, gNil, rAdd, rSub, tNever, tBreak, tCont, L2.start, scSS, scII, scBB, ipI, sS, dS, d1, mkS, sL, nc1, nc2, Int.natCast_inj, List.map_cons, List.map_nil, List.length_cons, List.length_nil, List.replicate, List.cons_append, List.nil_append, List.append_nil, List.getElem?_cons_zero, List.getElem?_cons_succ, List.set_cons_zero, List.set_cons_succ, Option.some.injEq, V.str.injEq, V.int.injEq, V.bl.injEq, V.ref.injEq, List.cons.injEq, and_true, true_and, exists_eq_left', exists_eq_left, exists_eq, exists_eq', exists_and_left, exists_and_right, and_assoc, exists_const, reduceCtorEq, if_true, if_false, ite_true, ite_false, Bool.false_eq_true, decide_true, decide_false, Bool.not_true, Bool.not_false, cxK, tMetC, sp_stand, rIxS, sL]
      rcases oo1 with rfl | rfl
      · rw [if_pos (by rfl)]
        exact ⟨⟨_, ob5⟩, tlz, c, atI_nat hc, dm, db, m, n, k5, by omega, by have := hO.sl; have := hO.fl; omega, fun G f1 k1 => (hB _ _ _ _ _ _ _).mpr ⟨rfl, fr5.trans (f1.mono (by simp)), k1⟩⟩
      · rw [if_neg (by simp)]
        exact (hB _ _ _ _ _ _ _).mpr ⟨rfl, fr5, k5.le (by omega)⟩
    obtain ⟨rfl, fr6, k6⟩ := (hB _ _ _ _ _ _ _).mp g6
    have ist1 : Is (f &&& standM m.se c) (m.T t a (a + i)) := Is.taken hc isf
    obtain ⟨tk1, htk⟩ : ∃ tk1, tk1 = f &&& standM m.se c := ⟨_, rfl⟩
    rw [← htk] at ist1
    refine ⟨fun σ' G => B (optNV r) (.int (f : Nat)) (.int (standM m.se c : Nat)) (some (.int (tk1 : Nat))) (n + 1) σ' G, ?_, fun σ7 H7 g7 => ?_⟩
    · simp only [tSeq, tAsg, tCB, tCons, tVar, tNil, gName, tRet, tRetN, tDrop, tNext, tIfS, tTest, tB, tOr, tAnd, tNot, tIf, tOrV, tAndV, tNotV, tChain, rI0, rI, rU, tUn, tC, tOp, rNe, rEq, tCall, tPart, tNoPart, tSl, tM0, tM1, tTup, tLst, tAug, gTup, gCons, gNil, rAdd, rSub, tNever, tBreak, tCont, L2.start, scSS, scII, scBB, ipI, sS, dS, d1, mkS, sL, nc1, nc2, Int.natCast_inj, List.map_cons, List.map_nil, List.length_cons, List.length_nil, List.replicate, List.cons_append, List.nil_append, List.append_nil, List.getElem?_cons_zero, List.getElem?_cons_succ, List.set_cons_zero, List.set_cons_succ, Option.some.injEq, V.str.injEq, V.int.injEq, V.bl.injEq, V.ref.injEq, List.cons.injEq, and_true, true_and, exists_eq_left', exists_eq_left, exists_eq, exists_eq', exists_and_left, exists_and_right, and_assoc, exists_const, reduceCtorEq, if_true, if_false, ite_true, ite_false, Bool.false_eq_true, decide_true, decide_false, Bool.not_true, Bool.not_false, cxK, rN]
      exact (hB _ _ _ _ _ _ _).mpr ⟨by rw [htk], fr6, k6⟩
    obtain ⟨rfl, fr7, k7⟩ := (hB _ _ _ _ _ _ _).mp g7
    refine ⟨fun σ' G => B (optNV r) (.int (f : Nat)) (.int (standM m.se c : Nat)) (some (.int (tk1 : Nat))) (n + 1) σ' G ∧ tk1 ≠ 0, ?_, fun σ8 H8 g8 => ?_⟩
    · simp only [tSeq, tAsg, tCB, tCons, tVar, tNil, gName, tRet, tRetN, tDrop, tNext, tIfS, tTest, tB, tOr, tAnd, tNot, tIf, tOrV, tAndV, tNotV, tChain, rI0, rI, rU, tUn, tC, tOp, rNe, rEq, tCall, tPart, tNoPart, tSl, tM0, tM1, tTup, tLst, tAug, gTup, gCons, gNil, rAdd, rSub, tNever, tBreak, tCont, L2.start, scSS, scII, scBB, ipI, sS, dS, d1, mkS, sL, nc1, nc2, Int.natCast_inj, List.map_cons, List.map_nil, List.length_cons, List.length_nil, List.replicate, List.cons_append, List.nil_append, List.append_nil, List.getElem?_cons_zero, List.getElem?_cons_succ, List.set_cons_zero, List.set_cons_succ, Option.some.injEq, V.str.injEq, V.int.injEq, V.bl.injEq, V.ref.injEq, List.cons.injEq, and_true, true_and, exists_eq_left', exists_eq_left, exists_eq, exists_eq', exists_and_left, exists_and_right, and_assoc, exists_const, reduceCtorEq, if_true, if_false, ite_true, ite_false, Bool.false_eq_true, decide_true, decide_false, Bool.not_true, Bool.not_false, cxK]
      by_cases z : tk1 = 0
      · rw [if_pos (by simp [z])]
        refine q H7 _ r fr7 k7 ?_
        have dead : ∀ e, a + i < e → e ≤ t.length → ¬ R a e := fun e h1 h2 h => by
          obtain ⟨e1, rfl⟩ : ∃ e1, e = e1 + 1 := ⟨e - 1, by omega⟩
          obtain ⟨r', h3, _⟩ := (hO.ok.iff a e1 (by omega) (by omega)).mp h
          exact T_down (by omega) (ist1.zero.mp z) e1 (by omega) r' h3
        exact lg.far (by omega) dead
      · rw [if_neg (by simp; omega)]
        exact ⟨(hB _ _ _ _ _ _ _).mpr ⟨rfl, fr7, k7⟩, z⟩
    obtain ⟨g8, tnz⟩ := g8
    obtain ⟨rfl, fr8, k8⟩ := (hB _ _ _ _ _ _ _).mp g8
    obtain ⟨_, _, _, ob8⟩ := k8.ob
    obtain ⟨r1, hr1⟩ : ∃ r1 : Option Nat, r1 = if tk1 &&& m.lst (decide (a + i + 1 = t.length)) ≠ 0 then some (a + i + 1) else r := ⟨_, rfl⟩
    have lg1 : Lg R a (a + i + 1) r1 := by
      have tk2 := hO.ok.takes (by omega) (show a + i < t.length by omega) ist1
      rw [hr1]
      by_cases z : tk1 &&& m.lst (decide (a + i + 1 = t.length)) ≠ 0
      · rw [if_pos z]; exact .new (by omega) (tk2.mpr z)
      · rw [if_neg z]; exact lg.on fun h => z (tk2.mp h)
    refine ⟨fun σ' G => B (optNV r1) (.int (f : Nat)) (.int (standM m.se c : Nat)) (some (.int (tk1 : Nat))) (n + 1) σ' G, ?_, fun σ8 H8 g8 => ?_⟩
    · simp only [tSeq, tAsg, tCB, tCons, tVar, tNil, gName, tRet, tRetN, tDrop, tNext, tIfS, tTest, tB, tOr, tAnd, tNot, tIf, tOrV, tAndV, tNotV, tChain, rI0, rI, rU, tUn, tC, tOp, rNe, rEq, tCall, tPart, tNoPart, tSl, tM0, tM1, tTup, tLst, tAug, gTup, gCons, gNil, rAdd, rSub, tNever, tBreak, tCont, L2.start, scSS, scII, scBB, ipI, sS, dS, d1, mkS, sL, nc1, nc2, Int.natCast_inj, List.map_cons, List.map_nil, List.length_cons, List.length_nil, List.replicate, List.cons_append, List.nil_append, List.append_nil, List.getElem?_cons_zero, List.getElem?_cons_succ, List.set_cons_zero, List.set_cons_succ, Option.some.injEq, V.str.injEq, V.int.injEq, V.bl.injEq, V.ref.injEq, List.cons.injEq, and_true, true_and, exists_eq_left', exists_eq_left, exists_eq, exists_eq', exists_and_left, exists_and_right, and_assoc, exists_const, reduceCtorEq, if_true, if_false, ite_true, ite_false, Bool.false_eq_true, decide_true, decide_false, Bool.not_true, Bool.not_false, cxK, tMetC, sp_tlast, sL]
      refine ⟨⟨_, ob8⟩, tlz, dm, db, m, ⟨_, k8⟩, ?_⟩
      by_cases z : tk1 &&& m.lst (decide (a + i + 1 = t.length)) ≠ 0
      · rw [if_pos (decide_eq_true z)]
        rw [if_pos z] at hr1
        rw [hr1]
        exact (hB _ _ _ _ _ _ _).mpr ⟨rfl, fr8, k8⟩
      · rw [if_neg (by rw [decide_eq_false z]; decide)]
        rw [if_neg z] at hr1
        rw [hr1]
        exact (hB _ _ _ _ _ _ _).mpr ⟨rfl, fr8, k8⟩
    obtain ⟨rfl, fr8, k8⟩ := (hB _ _ _ _ _ _ _).mp g8
    obtain ⟨d2, o2, dg2, oo2⟩ := k8.behind tk1
    obtain ⟨_, _, _, ob8⟩ := k8.ob
    have isn : Is (afterM m.fo tk1) (m.Fl t a (a + (i + 1))) := Is.after (i := a + i) (Nat.le_add_right _ _) ist1
    refine ⟨fun σ' G => B (optNV r1) (o2.getD .non) (.int (standM m.se c : Nat)) (some (.int (tk1 : Nat))) (n + 1) σ' G, ?_, fun σ9 H9 g9 => ?_⟩
    · simp only [tSeq, tAsg, tCB, tCons, tVar, tNil, gName, tRet, tRetN, tDrop, tNext, tIfS, tTest, tB, tOr, tAnd, tNot, tIf, tOrV, tAndV, tNotV, tChain, rI0, rI, rU, tUn, tC, tOp, rNe, rEq, tCall, tPart, tNoPart, tSl, tM0, tM1, tTup, tLst, tAug, gTup, gCons, gNil, rAdd, rSub, tNever, tBreak, tCont, L2.start, scSS, scII, scBB, ipI, sS, dS, d1, mkS, sL, nc1, nc2, Int.natCast_inj, List.map_cons, List.map_nil, List.length_cons, List.length_nil, List.replicate, List.cons_append, List.nil_append, List.append_nil, List.getElem?_cons_zero, List.getElem?_cons_succ, List.set_cons_zero, List.set_cons_succ, Option.some.injEq, V.str.injEq, V.int.injEq, V.bl.injEq, V.ref.injEq, List.cons.injEq, and_true, true_and, exists_eq_left', exists_eq_left, exists_eq, exists_eq', exists_and_left, exists_and_right, and_assoc, exists_const, reduceCtorEq, if_true, if_false, ite_true, ite_false, Bool.false_eq_true, decide_true, decide_false, Bool.not_true, Bool.not_false, cxK, tFldC, tDGet1]
      exact ⟨_, ob8, _, rfl, db, rfl, d2, o2, dg2, (hB _ _ _ _ _ _ _).mpr ⟨rfl, fr8, k8⟩⟩
    obtain ⟨rfl, fr9, k9⟩ := (hB _ _ _ _ _ _ _).mp g9
    obtain ⟨_, _, _, ob9⟩ := k9.ob
    simp only [tSeq, tAsg, tCB, tCons, tVar, tNil, gName, tRet, tRetN, tDrop, tNext, tIfS, tTest, tB, tOr, tAnd, tNot, tIf, tOrV, tAndV, tNotV, tChain, rI0, rI, rU, tUn, tC, tOp, rNe, rEq, tCall, tPart, tNoPart, tSl, tM0, tM1, tTup, tLst, tAug, gTup, gCons, gNil, rAdd, rSub, tNever, tBreak, tCont, L2.start, scSS, scII, scBB, ipI, sS, dS, d1, mkS, sL, nc1, nc2, Int.natCast_inj, List.map_cons, List.map_nil, List.length_cons, List.length_nil, List.replicate, List.cons_append, List.nil_append, List.append_nil, List.getElem?_cons_zero, List.getElem?_cons_succ, List.set_cons_zero, List.set_cons_succ, Option.some.injEq, V.str.injEq, V.int.injEq, V.bl.injEq, V.ref.injEq, List.cons.injEq, and_true, true_and, exists_eq_left', exists_eq_left, exists_eq, exists_eq', exists_and_left, exists_and_right, and_assoc, exists_const, reduceCtorEq, if_true, if_false, ite_true, ite_false, Bool.false_eq_true, decide_true, decide_false, Bool.not_true, Bool.not_false, cxK, tMetC, sp_after]
    rcases oo2 with rfl | rfl
    · rw [if_pos (by rfl)]
      refine ⟨⟨_, ob9⟩, dm, db, m, n + 1, k9, by omega, fun r hr => ?_, hO.fl, fun G f1 k1 => (hPv _ _ _).mpr ⟨_, _, _, _, _, _, rfl, fr9.trans (f1.mono (by simp)), k1, by omega, isn, lg1⟩⟩
      rw [htk] at hr; exact and_lt hO.sl hr
    · rw [if_neg (by simp)]
      exact (hPv _ _ _).mpr ⟨_, _, _, _, _, _, rfl, fr9, k9, by omega, isn, lg1⟩
  obtain ⟨f, r, v5, v6, v7, n, rfl, fr, kA, nl, isf, lg⟩ := (hPv _ _ _).mp g5
  simp only [tSeq, tAsg, tCB, tCons, tVar, tNil, gName, tRet, tRetN, tDrop, tNext, tIfS, tTest, tB, tOr, tAnd, tNot, tIf, tOrV, tAndV, tNotV, tChain, rI0, rI, rU, tUn, tC, tOp, rNe, rEq, tCall, tPart, tNoPart, tSl, tM0, tM1, tTup, tLst, tAug, gTup, gCons, gNil, rAdd, rSub, tNever, tBreak, tCont, L2.start, scSS, scII, scBB, ipI, sS, dS, d1, mkS, sL, nc1, nc2, Int.natCast_inj, List.map_cons, List.map_nil, List.length_cons, List.length_nil, List.replicate, List.cons_append, List.nil_append, List.append_nil, List.getElem?_cons_zero, List.getElem?_cons_succ, List.set_cons_zero, List.set_cons_succ, Option.some.injEq, V.str.injEq, V.int.injEq, V.bl.injEq, V.ref.injEq, List.cons.injEq, and_true, true_and, exists_eq_left', exists_eq_left, exists_eq, exists_eq', exists_and_left, exists_and_right, and_assoc, exists_const, reduceCtorEq, if_true, if_false, ite_true, ite_false, Bool.false_eq_true, decide_true, decide_false, Bool.not_true, Bool.not_false, cxK]
  refine q H5 n r fr kA ?_
  rw [show a + (t.length - a) = t.length by omega] at lg
  exact lg
end
end Pd

namespace Pd
open PySem PySem.Spec PyProof.Rows L2
open SX (S)
/-- a stretch, or none -/
def StV (H : Hp) (v : V) : Option (Nat × Nat) → Prop
  | none => v = .non
  | some z => ∃ a, v = .ref a ∧ Rd H a (.tup [.int (z.1 : Nat), .int (z.2 : Nat)])
/-- pairs of numbers -/
structure ThA (H : Hp) (vs : List V) (ths : List (Nat × Nat)) : Prop where
  len : vs.length = ths.length
  at_ : ∀ (i : Nat) (z : Nat × Nat), ths[i]? = some z → ∃ a, vs[i]? = some (.ref a) ∧ Rd H a (.tup [.int (z.1 : Nat), .int (z.2 : Nat)])
theorem StV.fr {A : List Addr} {H H' : Hp} {v : V} {z : Option (Nat × Nat)} (h : StV H v z) (f : Fr A H H') : StV H' v z := by
  cases z with
  | none => exact h
  | some z => obtain ⟨a, e, r⟩ := h; exact ⟨a, e, f.tup _ _ r⟩
theorem ThA.fr {A : List Addr} {H H' : Hp} {vs : List V} {ths : List (Nat × Nat)} (h : ThA H vs ths) (f : Fr A H H') : ThA H' vs ths := ⟨h.len, fun i z e => let ⟨a, h1, h2⟩ := h.at_ i z e; ⟨a, h1, f.tup _ _ h2⟩⟩
theorem ThA.nil {H : Hp} : ThA H [] [] := ⟨rfl, fun i z e => by cases e⟩
theorem ThA.snoc {H : Hp} {vs : List V} {ths : List (Nat × Nat)} {a : Addr} {z : Nat × Nat} (h : ThA H vs ths) (r : Rd H a (.tup [.int (z.1 : Nat), .int (z.2 : Nat)])) : ThA H (vs ++ [.ref a]) (ths ++ [z]) := by
  refine ⟨by simp [h.len], fun i y e => ?_⟩
  by_cases k : i < ths.length
  · rw [List.getElem?_append_left k] at e
    obtain ⟨b, h1, h2⟩ := h.at_ i y e
    exact ⟨b, by rw [List.getElem?_append_left (by rw [h.len]; exact k)]; exact h1, h2⟩
  · rw [List.getElem?_append_right (by omega)] at e
    cases q : i - ths.length with
    | zero =>
      rw [q] at e
      cases e
      exact ⟨a, by rw [List.getElem?_append_right (by rw [h.len]; omega), h.len, q]; rfl, r⟩
    | succ n => rw [q] at e; simp at e
/-- the search at x -/
structure SrA (CS : Addr) (H : Hp) (x p : Addr) (ths : List (Nat × Nat)) (st : Option (Nat × Nat)) : Prop where
  ex : ∃ (sv : V) (tl : Addr) (tv : List V), InsL CS nsS H x [.ref p, sv, .ref tl] ∧ H tl = some (.lst tv) ∧ ThA H tv ths ∧ StV H sv st
/-- .. its threads listed at T -/
structure SrT (CS : Addr) (H : Hp) (x p T : Addr) (ths : List (Nat × Nat)) (st : Option (Nat × Nat)) : Prop where
  ex : ∃ (sv : V) (tv : List V), InsL CS nsS H x [.ref p, sv, .ref T] ∧ H T = some (.lst tv) ∧ ThA H tv ths ∧ StV H sv st
theorem SrT.a {CS : Addr} {H : Hp} {x p T : Addr} {ths : List (Nat × Nat)} {st : Option (Nat × Nat)} (h : SrT CS H x p T ths st) : SrA CS H x p ths st := let ⟨sv, tv, r⟩ := h.ex; ⟨sv, T, tv, r⟩
theorem AutM.fr {CA : Addr} {A : List Addr} {H H1 : Hp} {p dm db : Addr} {m : Mac} {N : Nat} (h : AutM CA H p dm db m N) (f : Fr A H H1) (hA : ∀ a ∈ A, H a = none ∨ ∃ C dx fs, H a = some (.ins C dx fs) ∧ C ≠ CA) : AutM CA H1 p dm db m N := by
  obtain ⟨ls, fo, ld, ms, bs, ob, eS, eF, eM, eB, r⟩ := h.ex
  have k : ∀ {b : Addr} {o : HO}, H b = some o → (∀ C dx fs, o = .ins C dx fs → C = CA) → H1 b = some o := fun {b o} e ho => f.keep b o e fun z => by
    rcases hA b z with h | ⟨C, dx, fs, h, n⟩
    · rw [h] at e; cases e
    · rw [h] at e
      cases e
      exact n (ho _ _ _ rfl)
  refine ⟨ls, fo, ld, ms, bs, ?_, k eS (fun _ _ _ h => by cases h), k eF (fun _ _ _ h => by cases h), k eM (fun _ _ _ h => by cases h), k eB (fun _ _ _ h => by cases h), r⟩
  obtain ⟨dx, e, l⟩ := ob
  exact ⟨dx, k e (fun _ _ _ h => by cases h; rfl), l⟩
theorem AutM.nd {CA : Addr} {H : Hp} {p dm db : Addr} {m : Mac} {N : Nat} (h : AutM CA H p dm db m N) : (∀ {q : Addr} {xs : List V}, H q = some (.lst xs) → q ≠ dm ∧ q ≠ db) ∧ (∀ {C q : Addr} {ns : List Str} {vs : List V}, InsL C ns H q vs → q ≠ dm ∧ q ≠ db) ∧ (∀ {q : Addr}, H q = none → q ≠ dm ∧ q ≠ db) := by
  obtain ⟨ls, fo, ld, ms, bs, ob, eS, eF, eM, eB, _⟩ := h.ex
  refine ⟨fun e => ⟨fun z => ?_, fun z => ?_⟩, fun i => ⟨insL_nd i eM, insL_nd i eB⟩, fun e => ⟨fun z => ?_, fun z => ?_⟩⟩
  · subst z; rw [eM] at e; cases e
  · subst z; rw [eB] at e; cases e
  · subst z; rw [eM] at e; cases e
  · subst z; rw [eB] at e; cases e
theorem AutM.putS {CA CS : Addr} (n : CS ≠ CA) {H G : Hp} {p dm db x : Addr} {m : Mac} {N : Nat} {ns : List Str} {vs : List V} (h : AutM CA H p dm db m N) (i : InsL CS ns H x vs) (s : ∀ b, b ≠ x → G b = H b) : Fr [x] H G ∧ AutM CA G p dm db m N := by
  obtain ⟨o, e, no⟩ := insL_some i
  have f : Fr [x] H G := Fr.refl.put (.inl (.head _)) e no s
  refine ⟨f, h.fr f fun a ha => .inr ?_⟩
  cases List.mem_singleton.mp ha
  obtain ⟨dx, g, _⟩ := i
  exact ⟨CS, dx, _, g, n⟩
theorem insL_uniq {C C' : Addr} {ns : List Str} {H : Hp} {q : Addr} {vs vs' : List V} (h : InsL C ns H q vs) (g : InsL C' ns H q vs') : vs = vs' := by
  obtain ⟨dx, e, l⟩ := h
  obtain ⟨dx', e', l'⟩ := g
  have e2 := Option.some.inj (e.symm.trans e')
  injection e2 with _ _ hz
  have a1 : (ns.zip vs).map Prod.snd = vs := List.map_snd_zip l
  have a2 : (ns.zip vs').map Prod.snd = vs' := List.map_snd_zip l'
  rw [← a1, ← a2, hz]
/-- a new one's change -/
theorem AutM.updN {CA : Addr} {A : List Addr} {H H' : Hp} {p dm db q : Addr} {m : Mac} {N N' : Nat} {o u : HO} (h : AutM CA H p dm db m N) (f : Fr A H H') (hp : p ∉ A) (k : AutM CA H' p dm db m N') (n : H q = none) : AutM CA (upd H' q u) p dm db m N' := by
  obtain ⟨ls, fo, ld, ms, bs, ob, eS, eF, eM, eB, _⟩ := h.ex
  obtain ⟨ls', fo', ld', ms', bs', ob', eS', eF', eM', eB', r⟩ := k.ex
  have e := insL_uniq (insL_fr f ob hp) ob'
  simp only [List.cons.injEq, V.ref.injEq, and_true, true_and] at e
  obtain ⟨rfl, rfl, _⟩ := e
  have ne : ∀ {b : Addr} {o : HO}, H b = some o → b ≠ q := fun {b o} e z => by subst z; rw [n] at e; cases e
  have np := insL_new ob n
  exact ⟨ls, fo, ld', ms', bs', insL_at ob' (upd_ne np), (upd_ne (ne eS)).trans eS', (upd_ne (ne eF)).trans eF', (upd_ne (ne eM)).trans eM', (upd_ne (ne eB)).trans eB', r⟩
theorem AutM.pout {CA CS : Addr} (hn : CS ≠ CA) {H : Hp} {p dm db x : Addr} {m : Mac} {N : Nat} {ns : List Str} {vs : List V} (h : AutM CA H p dm db m N) (i : InsL CS ns H x vs) : p ∉ [x, dm, db] := fun z => by
  obtain ⟨v0, v1, v4, ob⟩ := h.ob
  have nd := h.nd.2.1 ob
  simp only [List.mem_cons, List.not_mem_nil, or_false] at z
  rcases z with z | z | z
  · subst z
    obtain ⟨dx, e, _⟩ := ob
    obtain ⟨dx', e', _⟩ := i
    have e2 := Option.some.inj (e.symm.trans e')
    injection e2 with h1
    exact hn h1.symm
  · exact nd.1 z
  · exact nd.2 z
section
variable {P : Program} {w : World} {K : PySem.W.Frag} {mg : Str → Option Value} {base : Heap} {CE CA CS : Addr}
def sp_take (CA CS : Addr) : Sp := fun vs H Q _ => ∃ (x p dm db : Addr) (m : Mac) (N : Nat) (t : List Nat) (go : Bool) (b i c : Nat) (ths : List (Nat × Nat)) (st : Option (Nat × Nat)), vs = [.ref x, .int (standM m.se c : Nat), .int (m.lst (decide (i + 1 = t.length) && !go) : Nat), .int ((i + 1 : Nat) : Int)] ∧
  AutM CA H p dm db m N ∧ SrA CS H x p ths st ∧ SMid m t go b i ths st ∧ t[i]? = some c ∧ m.se.length = m.fo.length ∧ m.fo.length ≤ 50000 ∧ ths.length ≤ 1000 ∧ N + ths.length < 90000 ∧
  ∀ H' T ths' st' N', Fr [x, dm, db] H H' → AutM CA H' p dm db m N' → N' ≤ N + ths.length → SrT CS H' x p T ths' st' → H T = none → SInv m t go b (i + 1) ths' st' → ths'.length ≤ ths.length → Q .non H'
theorem scSearch_take : FnScope ["self", "mask", "last", "end", "left", "start", "following", "taken", "behind"] ["self", "mask", "last", "end"] (defScope (inClass (topS 16) 2)) := ⟨rfl, rfl, rfl, by decide +kernel, rfl, by decide +kernel, by decide +kernel⟩
theorem ok_take (hAS : CS ≠ CA) (o_Automaton : OCls K CA nsA) (o_Search : OCls K CS nsS) (M_Automaton_after : MetC P w K mg base 1 CA "after" (sp_after CA)) (D : Mdf K CS "take" "Search.take" (inClass (topS 16) 2) ["self", "mask", "last", "end"]) : MetC P w K mg base 2 CS "take" (sp_take CA CS) := by
  refine met_of D scSearch_take (fun vs H Q E h => ?_) (fun f cdv A outer s H vs Q E hr h => ?_)
  · obtain ⟨x, p, dm, db, m, N, t, go, b, i, c, ths, st, rfl, _⟩ := h
    rfl
  obtain ⟨x, p, dm, db, m, N, t, go, b, i, c, ths, st, rfl, hA, hS, hM, hc, hse, hfo, hth, hN, q⟩ := h
  refine ⟨_, (pss_cons (ps_set (i := 4) scSearch_take.nd rfl (Or.inl rfl) (pe_lst pa_nil))
      (C8.pss_cut (ps_for PassesOwn.never rfl (pi_list (pe_fldC (k := 2) o_Search (pv 0) rfl)) (pg_tupK (n := 2) rfl rfl (pgs_cons (pg_name (i := 5) scSearch_take.nd rfl (Or.inl rfl)) (pgs_cons (pg_name (i := 6) scSearch_take.nd rfl (Or.inl rfl)) pgs_nil))) (C8.pss_cut (ps_set (i := 7) scSearch_take.nd rfl (Or.inl rfl) (pe_op op_andN (pv 6) (pv 1)))
      (pss_one (ps_if (pt_truth (pv 7) (by intro _; rfl)) (C8.pss_cut (ps_aug (i := 1) scSearch_take.nd rfl (Or.inl rfl) (pv 7) iop_xorN)
      (C8.pss_cut (ps_set (i := 8) scSearch_take.nd rfl (Or.inl rfl) (pe_dget1 (hu_of hr) (pe_fldC (k := 3) o_Automaton (pe_fldC (k := 0) o_Search (pv 0) rfl) rfl) (pv 7) ⟨by rfl, by rfl, by rfl, by rfl⟩))
      (C8.pss_cut (ps_if (pt_cmpR op_isN (pv 8) pe_non (nomark _)) (pss_one (ps_set (i := 8) scSearch_take.nd rfl (Or.inl rfl) (pm M_Automaton_after o_Automaton (by decide +kernel) (mono_fld mono_var) hr (by decide) (pe_fldC (k := 0) o_Search (pv 0) rfl) (pa_cons (pv 7) pa_nil)))) pss_nil)
      (C8.pss_cut (ps_expr (pe_bm PySem.F.plainAttrs_list PySem.F.slot_list_append PySem.F.type_list_append mt_append (pv 4) (pa_cons (pe_tup (pa_cons (pv 5) (pa_cons (pv 8) pa_nil))) pa_nil)))
      (pss_one (ps_if (pt_truth (pe_op op_andN (pv 7) (pv 2)) (by intro _; rfl)) (pss_cons (ps_fldC (k := 1) o_Search (pv 0) (pe_tup (pa_cons (pv 5) (pa_cons (pv 3) pa_nil))) rfl)
      (pss_one ps_break)) pss_nil)))))) pss_nil))))
      (pss_one (ps_fldC (k := 2) o_Search (pv 0) (pv 4) rfl)))), ?_⟩
  obtain ⟨sv, tl, tv, ox, etl, tA, sV⟩ := hS.ex
  obtain ⟨la, hla⟩ : ∃ la, la = m.lst (decide (i + 1 = t.length) && !go) := ⟨_, rfl⟩
  rw [← hla]
  simp only [tSeq]
  obtain ⟨Pv, hPv⟩ : ∃ Pv : Nat → L2.St → Hp → Prop, ∀ k σ' H', Pv k σ' H' ↔ ∃ (mk n : Nat) (lf : Addr) (lv : List V) (left : List (Nat × Nat)) (v5 v6 v7 v8 : Option V), σ' = [some (.ref x), some (.int (mk : Nat)), some (.int (la : Nat)), some (.int ((i + 1 : Nat) : Int)), some (.ref lf), v5, v6, v7, v8] ∧ Fr [x, dm, db] H H' ∧ AutM CA H' p dm db m n ∧ n ≤ N + k ∧ InsL CS nsS H' x [.ref p, sv, .ref tl] ∧
      H lf = none ∧ H' lf = some (.lst lv) ∧ ThA H' lv left ∧ TInv m t i la (ths.take k) left mk ∧ left.length ≤ k := ⟨_, fun _ _ _ => Iff.rfl⟩
  obtain ⟨Me, hMe⟩ : ∃ M : L2.St → Hp → Prop, ∀ σ' H', M σ' H' ↔ ∃ (mk n : Nat) (lf : Addr) (lv : List V) (left : List (Nat × Nat)) (sv' : V) (st' : Option (Nat × Nat)) (v5 v6 v7 v8 : Option V), σ' = [some (.ref x), some (.int (mk : Nat)), some (.int (la : Nat)), some (.int ((i + 1 : Nat) : Int)), some (.ref lf), v5, v6, v7, v8] ∧ Fr [x, dm, db] H H' ∧ AutM CA H' p dm db m n ∧ n ≤ N + ths.length ∧ InsL CS nsS H' x [.ref p, sv', .ref tl] ∧
      H lf = none ∧ H' lf = some (.lst lv) ∧ ThA H' lv left ∧ StV H' sv' st' ∧ SInv m t go b (i + 1) left st' ∧ left.length ≤ ths.length := ⟨_, fun _ _ => Iff.rfl⟩
  have nx1 : ∀ {a : Addr} {o : HO}, H a = some o → (∀ C dx fs, o = .ins C dx fs → C = CA) → a ≠ x := fun {a o} e ho z => by
    subst z
    obtain ⟨dx, g, _⟩ := ox
    rw [e] at g
    cases g
    exact hAS (ho _ _ _ rfl)
  have tlD : tl ∉ [x, dm, db] := fun z => by
    simp only [List.mem_cons, List.not_mem_nil, or_false] at z
    obtain ⟨ls, fo, ld, ms, bs, ob, eS, eF, eM, eB, _⟩ := hA.ex
    rcases z with rfl | rfl | rfl
    · exact nx1 etl (fun _ _ _ h => by cases h) rfl
    · rw [eM] at etl; cases etl
    · rw [eB] at etl; cases etl
  simp only [tSeq, tAsg, tCB, tCons, tVar, tNil, gName, tRet, tRetN, tDrop, tNext, tIfS, tTest, tB, tOr, tAnd, tNot, tIf, tOrV, tAndV, tNotV, tChain, rI0, rI, rU, tUn, tC, tOp, rNe, rEq, tCall, tPart, tNoPart, tSl, tM0, tM1, tTup, tLst, tAug, gTup, gCons, gNil, rAdd, rSub, tNever, tBreak, tCont, L2.start, scSS, scII, scBB, ipI, sS, dS, d1, mkS, sL, nc1, nc2, Int.natCast_inj, List.map_cons, List.map_nil, List.length_cons, List.length_nil, List.replicate, List.cons_append, List.nil_append, List.append_nil, List.getElem?_cons_zero, List.getElem?_cons_succ, List.set_cons_zero, List.set_cons_succ, Option.some.injEq, V.str.injEq, V.int.injEq, V.bl.injEq, V.ref.injEq, List.cons.injEq, and_true, true_and, exists_eq_left', exists_eq_left, exists_eq, exists_eq', exists_and_left, exists_and_right, and_assoc, exists_const, reduceCtorEq, if_true, if_false, ite_true, ite_false, Bool.false_eq_true, decide_true, decide_false, Bool.not_true, Bool.not_false, cxK]
  refine ⟨Nat.zero_le _, fun lf nlf => ⟨Me, ?_, fun σ1 H1 g1 => ?_⟩⟩
  · have s1 := same_upd (o := .lst []) nlf
    simp only [tSeq, tAsg, tCB, tCons, tVar, tNil, gName, tRet, tRetN, tDrop, tNext, tIfS, tTest, tB, tOr, tAnd, tNot, tIf, tOrV, tAndV, tNotV, tChain, rI0, rI, rU, tUn, tC, tOp, rNe, rEq, tCall, tPart, tNoPart, tSl, tM0, tM1, tTup, tLst, tAug, gTup, gCons, gNil, rAdd, rSub, tNever, tBreak, tCont, L2.start, scSS, scII, scBB, ipI, sS, dS, d1, mkS, sL, nc1, nc2, Int.natCast_inj, List.map_cons, List.map_nil, List.length_cons, List.length_nil, List.replicate, List.cons_append, List.nil_append, List.append_nil, List.getElem?_cons_zero, List.getElem?_cons_succ, List.set_cons_zero, List.set_cons_succ, Option.some.injEq, V.str.injEq, V.int.injEq, V.bl.injEq, V.ref.injEq, List.cons.injEq, and_true, true_and, exists_eq_left', exists_eq_left, exists_eq, exists_eq', exists_and_left, exists_and_right, and_assoc, exists_const, reduceCtorEq, if_true, if_false, ite_true, ite_false, Bool.false_eq_true, decide_true, decide_false, Bool.not_true, Bool.not_false, cxK, tFldC, eFoL]
    refine ⟨_, insL_s s1 ox, _, rfl, _, rfl, ⟨_, SqL.of (s1 _ _ etl)⟩, foL tv Pv ((hPv _ _ _).mpr ⟨_, N, lf, [], [], none, none, none, none, rfl, .of s1, hA.same s1, by omega, insL_s s1 ox, nlf, upd_same, .nil, by rw [List.take_zero]; exact TInv.start hc, Nat.le_refl _⟩) (fun k σ' H' _ g => ?_) (fun k y σ' H' hy g => ?_) (fun σ' H' g => ?_)⟩
    · obtain ⟨_, _, _, _, _, _, _, _, _, rfl, fr, _⟩ := (hPv _ _ _).mp g
      exact SqL.of (fr.keep _ _ etl tlD)
    · obtain ⟨mk, n, lf, lv, left, v5, v6, v7, v8, rfl, fr, kA, nl, kx, nlf, elf, kth, tin, ll⟩ := (hPv _ _ _).mp g
      have hk : k < ths.length := by rw [← tA.len]; exact (List.getElem?_eq_some_iff.mp hy).1
      obtain ⟨z, hz⟩ : ∃ z, ths[k]? = some z := ⟨_, List.getElem?_eq_getElem hk⟩
      obtain ⟨a, h1, h2⟩ := tA.at_ k z hz
      rw [hy] at h1
      cases h1
      have zm : z ∈ ths := List.mem_of_getElem? hz
      have tk1 : ths.take (k + 1) = ths.take k ++ [z] := by rw [List.take_add_one, hz]; rfl
      have split : ths = ths.take k ++ z :: ths.drop (k + 1) := by
        have h3 := List.take_append_drop (k + 1) ths
        rw [tk1, List.append_assoc] at h3
        exact h3.symm
      have hx : ∀ y ∈ ths.take k, y.1 < z.1 := fun y hy => by
        have pr := hM.pair
        rw [split, List.pairwise_append] at pr
        exact pr.2.2 y hy z (by simp)
      have hi := (hM.asc z zm).2
      have hs := hM.sub z zm
      obtain ⟨tk, htk⟩ : ∃ tk, tk = z.2 &&& mk := ⟨_, rfl⟩
      obtain ⟨B, hB⟩ : ∃ B : Nat → Option V → Option V → List V → List (Nat × Nat) → Nat → L2.St → Hp → Prop, ∀ mk v7 v8 lv left n σ' G, B mk v7 v8 lv left n σ' G ↔ σ' = [some (.ref x), some (.int (mk : Nat)), some (.int (la : Nat)), some (.int ((i + 1 : Nat) : Int)), some (.ref lf), some (.int (z.1 : Nat)), some (.int (z.2 : Nat)), v7, v8] ∧ Fr [x, dm, db] H G ∧ AutM CA G p dm db m n ∧ InsL CS nsS G x [.ref p, sv, .ref tl] ∧ G lf = some (.lst lv) ∧ ThA G lv left := ⟨_, fun _ _ _ _ _ _ _ _ => Iff.rfl⟩
      simp only [tSeq, tAsg, tCB, tCons, tVar, tNil, gName, tRet, tRetN, tDrop, tNext, tIfS, tTest, tB, tOr, tAnd, tNot, tIf, tOrV, tAndV, tNotV, tChain, rI0, rI, rU, tUn, tC, tOp, rNe, rEq, tCall, tPart, tNoPart, tSl, tM0, tM1, tTup, tLst, tAug, gTup, gCons, gNil, rAdd, rSub, tNever, tBreak, tCont, L2.start, scSS, scII, scBB, ipI, sS, dS, d1, mkS, sL, nc1, nc2, Int.natCast_inj, List.map_cons, List.map_nil, List.length_cons, List.length_nil, List.replicate, List.cons_append, List.nil_append, List.append_nil, List.getElem?_cons_zero, List.getElem?_cons_succ, List.set_cons_zero, List.set_cons_succ, Option.some.injEq, V.str.injEq, V.int.injEq, V.bl.injEq, V.ref.injEq, List.cons.injEq, and_true, true_and, exists_eq_left', exists_eq_left, exists_eq, exists_eq', exists_and_left, exists_and_right, and_assoc, exists_const, reduceCtorEq, if_true, if_false, ite_true, ite_false, Bool.false_eq_true, decide_true, decide_false, Bool.not_true, Bool.not_false, cxK]
      refine ⟨_, .inl (fr.tup _ _ h2), rfl, _, _, rfl, _, _, rfl, rfl, fun σ' G => B mk (some (.int (tk : Nat))) v8 lv left n σ' G, ?_, fun σ2 H2 g2 => ?_⟩
      · simp only [tSeq, tAsg, tCB, tCons, tVar, tNil, gName, tRet, tRetN, tDrop, tNext, tIfS, tTest, tB, tOr, tAnd, tNot, tIf, tOrV, tAndV, tNotV, tChain, rI0, rI, rU, tUn, tC, tOp, rNe, rEq, tCall, tPart, tNoPart, tSl, tM0, tM1, tTup, tLst, tAug, gTup, gCons, gNil, rAdd, rSub, tNever, tBreak, tCont, L2.start, scSS, scII, scBB, ipI, sS, dS, d1, mkS, sL, nc1, nc2, Int.natCast_inj, List.map_cons, List.map_nil, List.length_cons, List.length_nil, List.replicate, List.cons_append, List.nil_append, List.append_nil, List.getElem?_cons_zero, List.getElem?_cons_succ, List.set_cons_zero, List.set_cons_succ, Option.some.injEq, V.str.injEq, V.int.injEq, V.bl.injEq, V.ref.injEq, List.cons.injEq, and_true, true_and, exists_eq_left', exists_eq_left, exists_eq, exists_eq', exists_and_left, exists_and_right, and_assoc, exists_const, reduceCtorEq, if_true, if_false, ite_true, ite_false, Bool.false_eq_true, decide_true, decide_false, Bool.not_true, Bool.not_false, cxK, rN]
        exact (hB _ _ _ _ _ _ _ _).mpr ⟨by rw [htk], fr, kA, kx, elf, kth⟩
      obtain ⟨rfl, fr2, k2, x2, e2, t2⟩ := (hB _ _ _ _ _ _ _ _).mp g2
      simp only [tSeq, tAsg, tCB, tCons, tVar, tNil, gName, tRet, tRetN, tDrop, tNext, tIfS, tTest, tB, tOr, tAnd, tNot, tIf, tOrV, tAndV, tNotV, tChain, rI0, rI, rU, tUn, tC, tOp, rNe, rEq, tCall, tPart, tNoPart, tSl, tM0, tM1, tTup, tLst, tAug, gTup, gCons, gNil, rAdd, rSub, tNever, tBreak, tCont, L2.start, scSS, scII, scBB, ipI, sS, dS, d1, mkS, sL, nc1, nc2, Int.natCast_inj, List.map_cons, List.map_nil, List.length_cons, List.length_nil, List.replicate, List.cons_append, List.nil_append, List.append_nil, List.getElem?_cons_zero, List.getElem?_cons_succ, List.set_cons_zero, List.set_cons_succ, Option.some.injEq, V.str.injEq, V.int.injEq, V.bl.injEq, V.ref.injEq, List.cons.injEq, and_true, true_and, exists_eq_left', exists_eq_left, exists_eq, exists_eq', exists_and_left, exists_and_right, and_assoc, exists_const, reduceCtorEq, if_true, if_false, ite_true, ite_false, Bool.false_eq_true, decide_true, decide_false, Bool.not_true, Bool.not_false, cxK, tru_nat, decide_eq_true_eq]
      by_cases z0 : tk = 0
      · rw [if_neg (by simpa using z0)]
        exact (hPv _ _ _).mpr ⟨mk, n, lf, lv, left, _, _, _, _, rfl, fr2, k2, by omega, x2, nlf, e2, t2, by rw [tk1]; exact tin.skip hx (by rw [← htk]; exact z0), by omega⟩
      rw [if_pos (by simpa using z0)]
      refine ⟨fun σ' G => B (mk ^^^ tk) (some (.int (tk : Nat))) v8 lv left n σ' G, ?_, fun σ3 H3 g3 => ?_⟩
      · simp only [tSeq, tAsg, tCB, tCons, tVar, tNil, gName, tRet, tRetN, tDrop, tNext, tIfS, tTest, tB, tOr, tAnd, tNot, tIf, tOrV, tAndV, tNotV, tChain, rI0, rI, rU, tUn, tC, tOp, rNe, rEq, tCall, tPart, tNoPart, tSl, tM0, tM1, tTup, tLst, tAug, gTup, gCons, gNil, rAdd, rSub, tNever, tBreak, tCont, L2.start, scSS, scII, scBB, ipI, sS, dS, d1, mkS, sL, nc1, nc2, Int.natCast_inj, List.map_cons, List.map_nil, List.length_cons, List.length_nil, List.replicate, List.cons_append, List.nil_append, List.append_nil, List.getElem?_cons_zero, List.getElem?_cons_succ, List.set_cons_zero, List.set_cons_succ, Option.some.injEq, V.str.injEq, V.int.injEq, V.bl.injEq, V.ref.injEq, List.cons.injEq, and_true, true_and, exists_eq_left', exists_eq_left, exists_eq, exists_eq', exists_and_left, exists_and_right, and_assoc, exists_const, reduceCtorEq, if_true, if_false, ite_true, ite_false, Bool.false_eq_true, decide_true, decide_false, Bool.not_true, Bool.not_false, cxK, rN]
        exact (hB _ _ _ _ _ _ _ _).mpr ⟨rfl, fr2, k2, x2, e2, t2⟩
      obtain ⟨rfl, fr3, k3, x3, e3, t3⟩ := (hB _ _ _ _ _ _ _ _).mp g3
      obtain ⟨_, _, _, ob3⟩ := k3.ob
      obtain ⟨d2, o2, dg2, oo2⟩ := k3.behind tk
      refine ⟨fun σ' G => B (mk ^^^ tk) (some (.int (tk : Nat))) (some (o2.getD .non)) lv left n σ' G, ?_, fun σ4 H4 g4 => ?_⟩
      · simp only [tSeq, tAsg, tCB, tCons, tVar, tNil, gName, tRet, tRetN, tDrop, tNext, tIfS, tTest, tB, tOr, tAnd, tNot, tIf, tOrV, tAndV, tNotV, tChain, rI0, rI, rU, tUn, tC, tOp, rNe, rEq, tCall, tPart, tNoPart, tSl, tM0, tM1, tTup, tLst, tAug, gTup, gCons, gNil, rAdd, rSub, tNever, tBreak, tCont, L2.start, scSS, scII, scBB, ipI, sS, dS, d1, mkS, sL, nc1, nc2, Int.natCast_inj, List.map_cons, List.map_nil, List.length_cons, List.length_nil, List.replicate, List.cons_append, List.nil_append, List.append_nil, List.getElem?_cons_zero, List.getElem?_cons_succ, List.set_cons_zero, List.set_cons_succ, Option.some.injEq, V.str.injEq, V.int.injEq, V.bl.injEq, V.ref.injEq, List.cons.injEq, and_true, true_and, exists_eq_left', exists_eq_left, exists_eq, exists_eq', exists_and_left, exists_and_right, and_assoc, exists_const, reduceCtorEq, if_true, if_false, ite_true, ite_false, Bool.false_eq_true, decide_true, decide_false, Bool.not_true, Bool.not_false, cxK, tFldC, tDGet1]
        exact ⟨_, x3, _, rfl, _, rfl, _, ob3, _, rfl, db, rfl, d2, o2, dg2, (hB _ _ _ _ _ _ _ _).mpr ⟨rfl, fr3, k3, x3, e3, t3⟩⟩
      obtain ⟨rfl, fr4, k4, x4, e4, t4⟩ := (hB _ _ _ _ _ _ _ _).mp g4
      obtain ⟨_, _, _, ob4⟩ := k4.ob
      refine ⟨fun σ' G => B (mk ^^^ tk) (some (.int (tk : Nat))) (some (.int (afterM m.fo tk : Nat))) lv left (n + 1) σ' G, ?_, fun σ5 H5 g5 => ?_⟩
      · simp only [tSeq, tAsg, tCB, tCons, tVar, tNil, gName, tRet, tRetN, tDrop, tNext, tIfS, tTest, tB, tOr, tAnd, tNot, tIf, tOrV, tAndV, tNotV, tChain, rI0, rI, rU, tUn, tC, tOp, rNe, rEq, tCall, tPart, tNoPart, tSl, tM0, tM1, tTup, tLst, tAug, gTup, gCons, gNil, rAdd, rSub, tNever, tBreak, tCont, L2.start, scSS, scII, scBB, ipI, sS, dS, d1, mkS, sL, nc1, nc2, Int.natCast_inj, List.map_cons, List.map_nil, List.length_cons, List.length_nil, List.replicate, List.cons_append, List.nil_append, List.append_nil, List.getElem?_cons_zero, List.getElem?_cons_succ, List.set_cons_zero, List.set_cons_succ, Option.some.injEq, V.str.injEq, V.int.injEq, V.bl.injEq, V.ref.injEq, List.cons.injEq, and_true, true_and, exists_eq_left', exists_eq_left, exists_eq, exists_eq', exists_and_left, exists_and_right, and_assoc, exists_const, reduceCtorEq, if_true, if_false, ite_true, ite_false, Bool.false_eq_true, decide_true, decide_false, Bool.not_true, Bool.not_false, cxK, tMetC, tFldC, sp_after]
        rcases oo2 with rfl | rfl
        · rw [if_pos (by rfl)]
          have nx4 := k4.nd.2.1 x4
          have nl4 := k4.nd.1 e4
          refine ⟨_, x4, _, rfl, _, rfl, ⟨_, ob4⟩, _, rfl, dm, db, m, n, k4, by omega, fun q hq => ?_, hfo, fun G f1 k1 => (hB _ _ _ _ _ _ _ _).mpr ⟨rfl, fr4.trans (f1.mono (by simp)), k1, insL_fr f1 x4 (by simpa using nx4.2), f1.keep _ _ e4 (by simpa using nl4.2), t4.fr f1⟩⟩
          rw [htk, Nat.testBit_and, Bool.and_eq_true] at hq
          have := ((tin.mask q).mp hq.2).1
          obtain ⟨c', hc1, hc2⟩ := this
          exact st_lt hse (standM_bit.mpr hc2)
        · rw [if_neg (by simp)]
          exact (hB _ _ _ _ _ _ _ _).mpr ⟨rfl, fr4, k4.le (by omega), x4, e4, t4⟩
      obtain ⟨rfl, fr5, k5, x5, e5, t5⟩ := (hB _ _ _ _ _ _ _ _).mp g5
      obtain ⟨NA, hNA⟩ : ∃ NA : L2.St → Hp → Prop, ∀ σ' G, NA σ' G ↔ ∃ lv', B (mk ^^^ tk) (some (.int (tk : Nat))) (some (.int (afterM m.fo tk : Nat))) lv' (left ++ [(z.1, afterM m.fo tk)]) (n + 1) σ' G := ⟨_, fun _ _ => Iff.rfl⟩
      refine ⟨NA, ?_, fun σ6 H6 g6 => ?_⟩
      · simp only [tSeq, tAsg, tCB, tCons, tVar, tNil, gName, tRet, tRetN, tDrop, tNext, tIfS, tTest, tB, tOr, tAnd, tNot, tIf, tOrV, tAndV, tNotV, tChain, rI0, rI, rU, tUn, tC, tOp, rNe, rEq, tCall, tPart, tNoPart, tSl, tM0, tM1, tTup, tLst, tAug, gTup, gCons, gNil, rAdd, rSub, tNever, tBreak, tCont, L2.start, scSS, scII, scBB, ipI, sS, dS, d1, mkS, sL, nc1, nc2, Int.natCast_inj, List.map_cons, List.map_nil, List.length_cons, List.length_nil, List.replicate, List.cons_append, List.nil_append, List.append_nil, List.getElem?_cons_zero, List.getElem?_cons_succ, List.set_cons_zero, List.set_cons_succ, Option.some.injEq, V.str.injEq, V.int.injEq, V.bl.injEq, V.ref.injEq, List.cons.injEq, and_true, true_and, exists_eq_left', exists_eq_left, exists_eq, exists_eq', exists_and_left, exists_and_right, and_assoc, exists_const, reduceCtorEq, if_true, if_false, ite_true, ite_false, Bool.false_eq_true, decide_true, decide_false, Bool.not_true, Bool.not_false, cxK, tBM, rAppend]
        refine ⟨.inl ⟨rfl, _, SqL.of e5⟩, by decide, fun pa npa => ?_⟩
        have sp := same_upd (o := .tup [V.int (z.1 : Nat), V.int (afterM m.fo tk : Nat)]) npa
        have e5' := sp _ _ e5
        have fr5' := fr5.same sp
        have up : Fr [x, dm, db] H (upd (upd H5 pa (.tup [V.int (z.1 : Nat), V.int (afterM m.fo tk : Nat)])) lf (.lst (lv ++ [.ref pa]))) := fr5'.upd (.inr nlf) e5' rfl
        have up1 : Fr [lf] (upd H5 pa (.tup [V.int (z.1 : Nat), V.int (afterM m.fo tk : Nat)])) (upd (upd H5 pa (.tup [V.int (z.1 : Nat), V.int (afterM m.fo tk : Nat)])) lf (.lst (lv ++ [.ref pa]))) := Fr.refl.upd (.inl (.head _)) e5' rfl
        refine ⟨_, e5', sz5 (show lv.length + 1 ≤ 100000 by rw [t5.len]; omega), (hNA _ _).mpr ⟨_, (hB _ _ _ _ _ _ _ _).mpr ⟨rfl, up, hA.updN (o := .lst []) fr5' (hA.pout hAS ox) (k5.same sp) nlf, insL_at (insL_s sp x5) (upd_ne (insL_ne x5 e5)), upd_same, ?_⟩⟩⟩
        exact ((t5.fr (A := []) (.of sp)).snoc (.inl upd_same)).fr up1
      obtain ⟨lv6, g6⟩ := (hNA _ _).mp g6
      obtain ⟨rfl, fr6, k6, x6, e6, t6⟩ := (hB _ _ _ _ _ _ _ _).mp g6
      simp only [tSeq, tAsg, tCB, tCons, tVar, tNil, gName, tRet, tRetN, tDrop, tNext, tIfS, tTest, tB, tOr, tAnd, tNot, tIf, tOrV, tAndV, tNotV, tChain, rI0, rI, rU, tUn, tC, tOp, rNe, rEq, tCall, tPart, tNoPart, tSl, tM0, tM1, tTup, tLst, tAug, gTup, gCons, gNil, rAdd, rSub, tNever, tBreak, tCont, L2.start, scSS, scII, scBB, ipI, sS, dS, d1, mkS, sL, nc1, nc2, Int.natCast_inj, List.map_cons, List.map_nil, List.length_cons, List.length_nil, List.replicate, List.cons_append, List.nil_append, List.append_nil, List.getElem?_cons_zero, List.getElem?_cons_succ, List.set_cons_zero, List.set_cons_succ, Option.some.injEq, V.str.injEq, V.int.injEq, V.bl.injEq, V.ref.injEq, List.cons.injEq, and_true, true_and, exists_eq_left', exists_eq_left, exists_eq, exists_eq', exists_and_left, exists_and_right, and_assoc, exists_const, reduceCtorEq, if_true, if_false, ite_true, ite_false, Bool.false_eq_true, decide_true, decide_false, Bool.not_true, Bool.not_false, cxK, rN, tru_nat, decide_eq_true_eq, sFldC]
      by_cases zl : tk &&& la = 0
      · rw [if_neg (by simpa using zl)]
        have tn := tin.on hx hi hs (by rw [← htk]; exact zl)
        rw [← htk, ← tk1] at tn
        exact (hPv _ _ _).mpr ⟨_, n + 1, lf, lv6, _, _, _, _, _, rfl, fr6, k6, by omega, x6, nlf, e6, t6, tn, by rw [List.length_append, List.length_singleton]; omega⟩
      · rw [if_pos (by simpa using zl)]
        refine ⟨by decide, fun pa npa => ?_⟩
        have sp := same_upd (o := .tup [V.int (z.1 : Nat), V.int ((i + 1 : Nat) : Int)]) npa
        refine ⟨_, insL_s sp x6, by simp, fun G sG iG => ?_⟩
        obtain ⟨fG, kG⟩ := (k6.same sp).putS hAS (insL_s sp x6) sG
        have te := (SMid.ends (by rw [← split]; exact hM) (by rw [← hla]; exact tin) (by rw [← htk, ← hla]; exact zl) : SInv m t go b (i + 1) (left ++ [(z.1, afterM m.fo (z.2 &&& mk))]) (some (z.1, i + 1)))
        rw [← htk] at te
        have lx : lf ≠ x := fun z => by subst z; obtain ⟨dx, g, _⟩ := ox; rw [nlf] at g; cases g
        have px : pa ≠ x := (insL_new x6 npa).symm
        exact (hMe _ _).mpr ⟨_, n + 1, lf, lv6, _, .ref pa, some (z.1, i + 1), _, _, _, _, rfl, (fr6.same sp).trans (fG.mono (by simp)), kG, by omega, iG, nlf, (sG _ lx).trans (sp _ _ e6), (t6.fr (A := []) (.of sp)).fr fG, ⟨pa, rfl, .inl ((sG _ px).trans upd_same)⟩, te, by rw [List.length_append, List.length_singleton]; omega⟩
    · obtain ⟨mk, n, lf, lv, left, v5, v6, v7, v8, rfl, fr, kA, nl, kx, nlf, elf, kth, tin, ll⟩ := (hPv _ _ _).mp g
      rw [tA.len] at nl ll
      rw [tA.len, List.take_length, hla] at tin
      exact (hMe _ _).mpr ⟨mk, n, lf, lv, left, sv, st, v5, v6, v7, v8, rfl, fr, kA, nl, kx, nlf, elf, kth, sV.fr fr, hM.step tin, ll⟩
  obtain ⟨mk, n, lf, lv, left, sv', st', v5, v6, v7, v8, rfl, fr, kA, nl, kx, nlf, elf, kth, kst, si, ll⟩ := (hMe _ _).mp g1
  simp only [tSeq, tAsg, tCB, tCons, tVar, tNil, gName, tRet, tRetN, tDrop, tNext, tIfS, tTest, tB, tOr, tAnd, tNot, tIf, tOrV, tAndV, tNotV, tChain, rI0, rI, rU, tUn, tC, tOp, rNe, rEq, tCall, tPart, tNoPart, tSl, tM0, tM1, tTup, tLst, tAug, gTup, gCons, gNil, rAdd, rSub, tNever, tBreak, tCont, L2.start, scSS, scII, scBB, ipI, sS, dS, d1, mkS, sL, nc1, nc2, Int.natCast_inj, List.map_cons, List.map_nil, List.length_cons, List.length_nil, List.replicate, List.cons_append, List.nil_append, List.append_nil, List.getElem?_cons_zero, List.getElem?_cons_succ, List.set_cons_zero, List.set_cons_succ, Option.some.injEq, V.str.injEq, V.int.injEq, V.bl.injEq, V.ref.injEq, List.cons.injEq, and_true, true_and, exists_eq_left', exists_eq_left, exists_eq, exists_eq', exists_and_left, exists_and_right, and_assoc, exists_const, reduceCtorEq, if_true, if_false, ite_true, ite_false, Bool.false_eq_true, decide_true, decide_false, Bool.not_true, Bool.not_false, cxK, sFldC]
  refine ⟨_, kx, by simp, fun G sG iG => ?_⟩
  obtain ⟨fG, kG⟩ := kA.putS hAS kx sG
  have lx : lf ≠ x := fun z => by subst z; obtain ⟨dx, g, _⟩ := ox; rw [nlf] at g; cases g
  exact q G lf left st' n (fr.trans (fG.mono (by simp))) kG nl ⟨sv', lv, iG, (sG _ lx).trans elf, kth.fr fG, kst.fr fG⟩ nlf si ll
end
end Pd

namespace Pd
open PySem PySem.Spec PyProof.Rows L2
open SX (S)
theorem SrA.fr {CS : Addr} {A : List Addr} {H H' : Hp} {x p : Addr} {ths : List (Nat × Nat)} {st : Option (Nat × Nat)} (h : SrA CS H x p ths st) (f : Fr A H H') (hA : ∀ a ∈ A, ∃ k, H a = some (.dK k)) : SrA CS H' x p ths st := by
  obtain ⟨sv, tl, tv, i, e, a, s⟩ := h.ex
  refine ⟨sv, tl, tv, insL_fr f i fun z => ?_, f.keep _ _ e fun z => ?_, a.fr f, s.fr f⟩
  · obtain ⟨k, hk⟩ := hA _ z
    obtain ⟨dx, g, _⟩ := i
    rw [hk] at g
    cases g
  · obtain ⟨k, hk⟩ := hA _ z
    rw [hk] at e
    cases e
theorem AutM.dk {CA : Addr} {H : Hp} {p dm db : Addr} {m : Mac} {N : Nat} (h : AutM CA H p dm db m N) : (∃ k, H dm = some (.dK k)) ∧ ∃ k, H db = some (.dK k) := by
  obtain ⟨ls, fo, ld, ms, bs, ob, eS, eF, eM, eB, _⟩ := h.ex
  exact ⟨⟨_, eM⟩, ⟨_, eB⟩⟩
/-- the list at T is none of the automaton's -/
def Ap (CA : Addr) (H : Hp) (p T : Addr) : Prop := ∃ (ls fo : Addr) (r : List V), InsL CA nsA H p (.ref ls :: .ref fo :: r) ∧ T ≠ ls ∧ T ≠ fo
theorem Ap.fr {CA : Addr} {A : List Addr} {H H' : Hp} {p T : Addr} (h : Ap CA H p T) (f : Fr A H H') (n : p ∉ A) : Ap CA H' p T := let ⟨ls, fo, r, i, h1, h2⟩ := h; ⟨ls, fo, r, insL_fr f i n, h1, h2⟩
theorem AutM.ap {CA : Addr} {H : Hp} {p dm db T : Addr} {m : Mac} {N : Nat} (h : AutM CA H p dm db m N) (n : H T = none) : Ap CA H p T := by
  obtain ⟨ls, fo, ld, ms, bs, ob, eS, eF, _⟩ := h.ex
  exact ⟨ls, fo, _, ob, (fun z => by subst z; rw [n] at eS; cases eS), (fun z => by subst z; rw [n] at eF; cases eF)⟩
theorem AutM.updT {CA : Addr} {H : Hp} {p dm db T : Addr} {m : Mac} {N : Nat} {xs : List V} {u : HO} (h : AutM CA H p dm db m N) (a : Ap CA H p T) (e : H T = some (.lst xs)) : AutM CA (upd H T u) p dm db m N := by
  have nd := h.nd.1 e
  obtain ⟨ls, fo, ld, ms, bs, ob, eS, eF, eM, eB, r⟩ := h.ex
  obtain ⟨ls', fo', r', i, h1, h2⟩ := a
  have q := insL_uniq i ob
  simp only [List.cons.injEq, V.ref.injEq] at q
  obtain ⟨rfl, rfl, _⟩ := q
  exact ⟨ls', fo', ld, ms, bs, insL_at ob (upd_ne (insL_ne ob e)), (upd_ne (Ne.symm h1)).trans eS, (upd_ne (Ne.symm h2)).trans eF, (upd_ne (Ne.symm nd.1)).trans eM, (upd_ne (Ne.symm nd.2)).trans eB, r⟩
theorem SrT.fr {CS : Addr} {A : List Addr} {H H' : Hp} {x p T : Addr} {ths : List (Nat × Nat)} {st : Option (Nat × Nat)} (h : SrT CS H x p T ths st) (f : Fr A H H') (hA : ∀ a ∈ A, ∃ k, H a = some (.dK k)) : SrT CS H' x p T ths st := by
  obtain ⟨sv, tv, i, e, a, s⟩ := h.ex
  refine ⟨sv, tv, insL_fr f i fun z => ?_, f.keep _ _ e fun z => ?_, a.fr f, s.fr f⟩
  · obtain ⟨k, hk⟩ := hA _ z
    obtain ⟨dx, g, _⟩ := i
    rw [hk] at g
    cases g
  · obtain ⟨k, hk⟩ := hA _ z
    rw [hk] at e
    cases e
theorem tru_list {K : PySem.W.Frag} {H : Hp} {T : Addr} {xs : List V} (e : H T = some (.lst xs)) : TruV K (.ref T) H (!xs.isEmpty) := .inl ⟨xs, SqL.of e, rfl⟩
theorem ini_next {m : Mac} {i : Nat} : m.ini (i + 1) = m.fi := by
  unfold Mac.ini
  rw [if_neg (by omega)]
section
variable {P : Program} {w : World} {K : PySem.W.Frag} {mg : Str → Option Value} {base : Heap} {CE CA CS : Addr}
def sp_look (CA CS : Addr) : Sp := fun vs H Q _ => ∃ (x p dm db : Addr) (m : Mac) (N : Nat) (t : List Nat) (go : Bool) (b : Nat) (tl : Addr), vs = [.ref x, .str (S t), .int (b : Nat), .bl go] ∧
  AutM CA H p dm db m N ∧ SrT CS H x p tl [] none ∧ Ap CA H p tl ∧ m.se.length = m.fo.length ∧ m.fo.length ≤ 50000 ∧ t.length ≤ 100 ∧ b ≤ t.length ∧ N + (t.length + 1) * (t.length + 1) < 90000 ∧
  ∀ H' ths st N', Fr [x, dm, db, tl] H H' → AutM CA H' p dm db m N' → N' ≤ N + (t.length + 1) * (t.length + 1) → SrA CS H' x p ths st → Fin m t go b st → (SInv m t go b t.length ths st ∨ (ths = [] ∧ ∃ z, st = some z)) → Q .non H'
theorem scSearch_look : FnScope ["self", "text", "begin", "goes_on", "automaton", "last", "first", "at", "mask"] ["self", "text", "begin", "goes_on"] (defScope (inClass (topS 16) 1)) := ⟨rfl, rfl, rfl, by decide +kernel, rfl, by decide +kernel, by decide +kernel⟩
theorem ok_look (T : BiA mg) (hAS : CS ≠ CA) (o_Automaton : OCls K CA nsA) (o_Search : OCls K CS nsS) (M_Automaton_standing_for : MetC P w K mg base 1 CA "standing_for" (sp_stand CA)) (M_Search_take : MetC P w K mg base 2 CS "take" (sp_take CA CS)) (D : Mdf K CS "look" "Search.look" (inClass (topS 16) 1) ["self", "text", "begin", "goes_on"]) : MetC P w K mg base 3 CS "look" (sp_look CA CS) := by
  refine met_of D scSearch_look (fun vs H Q E h => ?_) (fun f cdv A outer s H vs Q E hr h => ?_)
  · obtain ⟨x, p, dm, db, m, N, t, go, b, tl, rfl, _⟩ := h
    rfl
  obtain ⟨x, p, dm, db, m, N, t, go, b, tl, rfl, hA, hS, hap, hse, hfo, htl, hb, hN, q⟩ := h
  refine ⟨_, (C8.pss_cut (ps_set (i := 4) scSearch_look.nd rfl (Or.inl rfl) (pe_fldC (k := 0) o_Search (pv 0) rfl))
      (C8.pss_cut (ps_set (i := 5) scSearch_look.nd rfl (Or.inl rfl) (pe_fldC (k := 8) o_Automaton (pv 4) rfl))
      (C8.pss_cut (ps_set (i := 6) scSearch_look.nd rfl (Or.inl rfl) (pe_fldC (k := 6) o_Automaton (pv 4) rfl))
      (C8.pss_cut (ps_if (pt_cmpR op_eq (pv 2) pe_int (nomark _)) (pss_one (ps_set (i := 6) scSearch_look.nd rfl (Or.inl rfl) (pe_fldC (k := 7) o_Automaton (pv 4) rfl))) pss_nil)
      (pss_one (ps_for PassesOwn.never rfl (pi_range2 (by rfl) T.b_range (pa_cons (pv 2) (pa_cons (pe_callB call_len_str (by rfl) T.b_len (by decide +kernel) (pa_cons (pv 1) pa_nil)) pa_nil))) (pg_name (i := 7) scSearch_look.nd rfl (Or.inl rfl)) (C8.pss_cut (ps_set (i := 8) scSearch_look.nd rfl (Or.inl rfl) (pe_dget1 (hu_of hr) (pe_fldC (k := 2) o_Automaton (pv 4) rfl) (pe_ix ix_str (pv 1) (pv 7) (fun _ _ => rfl)) ⟨by rfl, by rfl, by rfl, by rfl⟩))
      (C8.pss_cut (ps_if (pt_cmpR op_isN (pv 8) pe_non (nomark _)) (pss_one (ps_set (i := 8) scSearch_look.nd rfl (Or.inl rfl) (pm M_Automaton_standing_for o_Automaton (by decide +kernel) mono_var hr (by decide) (pv 4) (pa_cons (pe_ix ix_str (pv 1) (pv 7) (fun _ _ => rfl)) pa_nil)))) pss_nil)
      (C8.pss_cut (ps_if (PW.pt (pw_and (pt_cmpR op_eq (pe_op op_add (pv 7) pe_int) (pe_callB call_len_str (by rfl) T.b_len (by decide +kernel) (pa_cons (pv 1) pa_nil)) (nomark _)) (pw_and1 (pt_not (pt_val (pv 3)))))) (pss_one (ps_set (i := 5) scSearch_look.nd rfl (Or.inl rfl) (pe_fldC (k := 9) o_Automaton (pv 4) rfl))) pss_nil)
      (C8.pss_cut (ps_if (PW.pt (pw_and (pt_cmpR op_isN (pe_fldC (k := 1) o_Search (pv 0) rfl) pe_non (nomark _)) (pw_and1 (pt_truth (pe_op op_andN (pv 6) (pv 8)) (by intro _; rfl))))) (pss_one (ps_expr (pe_bm PySem.F.plainAttrs_list PySem.F.slot_list_append PySem.F.type_list_append mt_append (pe_fldC (k := 2) o_Search (pv 0) rfl) (pa_cons (pe_tup (pa_cons (pv 7) (pa_cons (pv 6) pa_nil))) pa_nil)))) pss_nil)
      (C8.pss_cut (ps_if (pt_truth (pe_fldC (k := 2) o_Search (pv 0) rfl) (by intro _; rfl)) (pss_one (ps_expr (pm M_Search_take o_Search (by decide +kernel) mono_var hr (by decide) (pv 0) (pa_cons (pv 8) (pa_cons (pv 5) (pa_cons (pe_op op_add (pv 7) pe_int) pa_nil)))))) (pss_one (ps_if (pt_cmpR op_notN (pe_fldC (k := 1) o_Search (pv 0) rfl) pe_non (nomark _)) (pss_one ps_retN) pss_nil)))
      (pss_one (ps_set (i := 6) scSearch_look.nd rfl (Or.inl rfl) (pe_fldC (k := 6) o_Automaton (pv 4) rfl)))))))))))))), ?_⟩
  have tlz : t.length ≤ sizeLine := sz5 (by omega)
  obtain ⟨sv, tv, ox, etl, tA, sV⟩ := hS.ex
  obtain ⟨v0, v1, v4, ob⟩ := hA.ob
  obtain ⟨M1, hM1⟩ : ∃ M : Option V → Option V → Option V → L2.St → Hp → Prop, ∀ u v y σ' H', M u v y σ' H' ↔ σ' = [some (.ref x), some (.str (S t)), some (.int (b : Nat)), some (.bl go), u, v, y, none, none] ∧ H' = H := ⟨_, fun _ _ _ _ _ => Iff.rfl⟩
  refine ⟨M1 (some (.ref p)) none none, ?_, fun σ1 H1 g1 => ?_⟩
  · simp only [tSeq, tAsg, tCB, tCons, tVar, tNil, gName, tRet, tRetN, tDrop, tNext, tIfS, tTest, tB, tOr, tAnd, tNot, tIf, tOrV, tAndV, tNotV, tChain, rI0, rI, rU, tUn, tC, tOp, rNe, rEq, tCall, tPart, tNoPart, tSl, tM0, tM1, tTup, tLst, tAug, gTup, gCons, gNil, rAdd, rSub, tNever, tBreak, tCont, L2.start, scSS, scII, scBB, ipI, sS, dS, d1, mkS, sL, nc1, nc2, Int.natCast_inj, List.map_cons, List.map_nil, List.length_cons, List.length_nil, List.replicate, List.cons_append, List.nil_append, List.append_nil, List.getElem?_cons_zero, List.getElem?_cons_succ, List.set_cons_zero, List.set_cons_succ, Option.some.injEq, V.str.injEq, V.int.injEq, V.bl.injEq, V.ref.injEq, List.cons.injEq, and_true, true_and, exists_eq_left', exists_eq_left, exists_eq, exists_eq', exists_and_left, exists_and_right, and_assoc, exists_const, reduceCtorEq, if_true, if_false, ite_true, ite_false, Bool.false_eq_true, decide_true, decide_false, Bool.not_true, Bool.not_false, cxK, tFldC]
    exact ⟨_, ox, _, rfl, (hM1 _ _ _ _ _).mpr ⟨rfl, rfl⟩⟩
  obtain ⟨rfl, rfl⟩ := (hM1 _ _ _ _ _).mp g1
  refine ⟨M1 (some (.ref p)) (some (.int (m.la : Nat))) none, ?_, fun σ1 H1 g1 => ?_⟩
  · simp only [tSeq, tAsg, tCB, tCons, tVar, tNil, gName, tRet, tRetN, tDrop, tNext, tIfS, tTest, tB, tOr, tAnd, tNot, tIf, tOrV, tAndV, tNotV, tChain, rI0, rI, rU, tUn, tC, tOp, rNe, rEq, tCall, tPart, tNoPart, tSl, tM0, tM1, tTup, tLst, tAug, gTup, gCons, gNil, rAdd, rSub, tNever, tBreak, tCont, L2.start, scSS, scII, scBB, ipI, sS, dS, d1, mkS, sL, nc1, nc2, Int.natCast_inj, List.map_cons, List.map_nil, List.length_cons, List.length_nil, List.replicate, List.cons_append, List.nil_append, List.append_nil, List.getElem?_cons_zero, List.getElem?_cons_succ, List.set_cons_zero, List.set_cons_succ, Option.some.injEq, V.str.injEq, V.int.injEq, V.bl.injEq, V.ref.injEq, List.cons.injEq, and_true, true_and, exists_eq_left', exists_eq_left, exists_eq, exists_eq', exists_and_left, exists_and_right, and_assoc, exists_const, reduceCtorEq, if_true, if_false, ite_true, ite_false, Bool.false_eq_true, decide_true, decide_false, Bool.not_true, Bool.not_false, cxK, tFldC]
    exact ⟨_, ob, _, rfl, (hM1 _ _ _ _ _).mpr ⟨rfl, rfl⟩⟩
  obtain ⟨rfl, rfl⟩ := (hM1 _ _ _ _ _).mp g1
  refine ⟨M1 (some (.ref p)) (some (.int (m.la : Nat))) (some (.int (m.fi : Nat))), ?_, fun σ1 H2 g1 => ?_⟩
  · simp only [tSeq, tAsg, tCB, tCons, tVar, tNil, gName, tRet, tRetN, tDrop, tNext, tIfS, tTest, tB, tOr, tAnd, tNot, tIf, tOrV, tAndV, tNotV, tChain, rI0, rI, rU, tUn, tC, tOp, rNe, rEq, tCall, tPart, tNoPart, tSl, tM0, tM1, tTup, tLst, tAug, gTup, gCons, gNil, rAdd, rSub, tNever, tBreak, tCont, L2.start, scSS, scII, scBB, ipI, sS, dS, d1, mkS, sL, nc1, nc2, Int.natCast_inj, List.map_cons, List.map_nil, List.length_cons, List.length_nil, List.replicate, List.cons_append, List.nil_append, List.append_nil, List.getElem?_cons_zero, List.getElem?_cons_succ, List.set_cons_zero, List.set_cons_succ, Option.some.injEq, V.str.injEq, V.int.injEq, V.bl.injEq, V.ref.injEq, List.cons.injEq, and_true, true_and, exists_eq_left', exists_eq_left, exists_eq, exists_eq', exists_and_left, exists_and_right, and_assoc, exists_const, reduceCtorEq, if_true, if_false, ite_true, ite_false, Bool.false_eq_true, decide_true, decide_false, Bool.not_true, Bool.not_false, cxK, tFldC]
    exact ⟨_, ob, _, rfl, (hM1 _ _ _ _ _).mpr ⟨rfl, rfl⟩⟩
  obtain ⟨rfl, rfl⟩ := (hM1 _ _ _ _ _).mp g1
  refine ⟨M1 (some (.ref p)) (some (.int (m.la : Nat))) (some (.int (m.ini b : Nat))), ?_, fun σ1 H3 g1 => ?_⟩
  · simp only [tSeq, tAsg, tCB, tCons, tVar, tNil, gName, tRet, tRetN, tDrop, tNext, tIfS, tTest, tB, tOr, tAnd, tNot, tIf, tOrV, tAndV, tNotV, tChain, rI0, rI, rU, tUn, tC, tOp, rNe, rEq, tCall, tPart, tNoPart, tSl, tM0, tM1, tTup, tLst, tAug, gTup, gCons, gNil, rAdd, rSub, tNever, tBreak, tCont, L2.start, scSS, scII, scBB, ipI, sS, dS, d1, mkS, sL, nc1, nc2, Int.natCast_inj, List.map_cons, List.map_nil, List.length_cons, List.length_nil, List.replicate, List.cons_append, List.nil_append, List.append_nil, List.getElem?_cons_zero, List.getElem?_cons_succ, List.set_cons_zero, List.set_cons_succ, Option.some.injEq, V.str.injEq, V.int.injEq, V.bl.injEq, V.ref.injEq, List.cons.injEq, and_true, true_and, exists_eq_left', exists_eq_left, exists_eq, exists_eq', exists_and_left, exists_and_right, and_assoc, exists_const, reduceCtorEq, if_true, if_false, ite_true, ite_false, Bool.false_eq_true, decide_true, decide_false, Bool.not_true, Bool.not_false, cxK, tFldC]
    by_cases z : b = 0
    · rw [if_pos (by simp [z])]
      exact ⟨_, ob, _, rfl, (hM1 _ _ _ _ _).mpr ⟨by unfold Mac.ini; rw [if_pos z], rfl⟩⟩
    · rw [if_neg (by simp [z])]
      exact (hM1 _ _ _ _ _).mpr ⟨by unfold Mac.ini; rw [if_neg z], rfl⟩
  obtain ⟨rfl, rfl⟩ := (hM1 _ _ _ _ _).mp g1
  obtain ⟨Pv, hPv⟩ : ∃ Pv : Nat → L2.St → Hp → Prop, ∀ k σ' H', Pv k σ' H' ↔ ∃ (T : Addr) (la n : Nat) (ths : List (Nat × Nat)) (st : Option (Nat × Nat)) (v7 v8 : Option V), σ' = [some (.ref x), some (.str (S t)), some (.int (b : Nat)), some (.bl go), some (.ref p), some (.int (la : Nat)), some (.int (m.ini (b + k) : Nat)), v7, v8] ∧ Fr [x, dm, db, tl] H3 H' ∧ AutM CA H' p dm db m n ∧ n ≤ N + k * (t.length + 1) ∧ SrT CS H' x p T ths st ∧ Ap CA H' p T ∧ (T = tl ∨ H3 T = none) ∧ SInv m t go b (b + k) ths st ∧ ths.length ≤ k ∧ (b + k < t.length → la = m.la) := ⟨_, fun _ _ _ => Iff.rfl⟩
  simp only [tSeq, tAsg, tCB, tCons, tVar, tNil, gName, tRet, tRetN, tDrop, tNext, tIfS, tTest, tB, tOr, tAnd, tNot, tIf, tOrV, tAndV, tNotV, tChain, rI0, rI, rU, tUn, tC, tOp, rNe, rEq, tCall, tPart, tNoPart, tSl, tM0, tM1, tTup, tLst, tAug, gTup, gCons, gNil, rAdd, rSub, tNever, tBreak, tCont, L2.start, scSS, scII, scBB, ipI, sS, dS, d1, mkS, sL, nc1, nc2, Int.natCast_inj, List.map_cons, List.map_nil, List.length_cons, List.length_nil, List.replicate, List.cons_append, List.nil_append, List.append_nil, List.getElem?_cons_zero, List.getElem?_cons_succ, List.set_cons_zero, List.set_cons_succ, Option.some.injEq, V.str.injEq, V.int.injEq, V.bl.injEq, V.ref.injEq, List.cons.injEq, and_true, true_and, exists_eq_left', exists_eq_left, exists_eq, exists_eq', exists_and_left, exists_and_right, and_assoc, exists_const, reduceCtorEq, if_true, if_false, ite_true, ite_false, Bool.false_eq_true, decide_true, decide_false, Bool.not_true, Bool.not_false, cxK, eFoR2, sL]
  refine ⟨tlz, by omega, by omega, by omega, by omega, ?_⟩
  rw [show ((t.length : Int) - (b : Int)).toNat = t.length - b by omega]
  refine foR Pv ((hPv _ _ _).mpr ⟨tl, _, N, [], none, none, none, rfl, .refl, hA, by omega, hS, hap, .inl rfl, SInv.start, Nat.le_refl _, fun _ => rfl⟩) (fun k σ' H' hk g => ?_) (fun σ' H' g => ?_)
  · obtain ⟨T, la, n, ths, st, v7, v8, rfl, fr, kA, nl, kS, kap, kT, si, ll, lal⟩ := (hPv _ _ _).mp g
    have lal := lal (by omega)
    subst lal
    rw [show (b : Int) + (k : Int) = ((b + k : Nat) : Int) by omega]
    obtain ⟨c, hc⟩ : ∃ c, t[b + k]? = some c := ⟨_, List.getElem?_eq_getElem (by omega)⟩
    obtain ⟨w0, w1, w4, ob1⟩ := kA.ob
    obtain ⟨d1, o1, dg1, oo1⟩ := kA.mask c
    have kN : (k + 1) * (t.length + 1) ≤ (t.length + 1) * (t.length + 1) := Nat.mul_le_mul_right _ (by omega)
    rw [Nat.succ_mul] at kN
    obtain ⟨B, hB⟩ : ∃ B : Addr → Nat → V → Nat → List (Nat × Nat) → Option (Nat × Nat) → L2.St → Hp → Prop, ∀ T la v8 n' th' st' σ' G, B T la v8 n' th' st' σ' G ↔ σ' = [some (.ref x), some (.str (S t)), some (.int (b : Nat)), some (.bl go), some (.ref p), some (.int (la : Nat)), some (.int (m.ini (b + k) : Nat)), some (.int ((b + k : Nat) : Int)), some v8] ∧ Fr [x, dm, db, tl] H3 G ∧ AutM CA G p dm db m n' ∧ SrT CS G x p T th' st' ∧ Ap CA G p T ∧ (T = tl ∨ H3 T = none) := ⟨_, fun _ _ _ _ _ _ _ _ => Iff.rfl⟩
    refine ⟨fun σ' G => B T m.la (o1.getD .non) n ths st σ' G, ?_, fun σ5 H5 g5 => ?_⟩
    · simp only [tSeq, tAsg, tCB, tCons, tVar, tNil, gName, tRet, tRetN, tDrop, tNext, tIfS, tTest, tB, tOr, tAnd, tNot, tIf, tOrV, tAndV, tNotV, tChain, rI0, rI, rU, tUn, tC, tOp, rNe, rEq, tCall, tPart, tNoPart, tSl, tM0, tM1, tTup, tLst, tAug, gTup, gCons, gNil, rAdd, rSub, tNever, tBreak, tCont, L2.start, scSS, scII, scBB, ipI, sS, dS, d1, mkS, sL, nc1, nc2, Int.natCast_inj, List.map_cons, List.map_nil, List.length_cons, List.length_nil, List.replicate, List.cons_append, List.nil_append, List.append_nil, List.getElem?_cons_zero, List.getElem?_cons_succ, List.set_cons_zero, List.set_cons_succ, Option.some.injEq, V.str.injEq, V.int.injEq, V.bl.injEq, V.ref.injEq, List.cons.injEq, and_true, true_and, exists_eq_left', exists_eq_left, exists_eq, exists_eq', exists_and_left, exists_and_right, and_assoc, exists_const, reduceCtorEq, if_true, if_false, ite_true, ite_false, Bool.false_eq_true, decide_true, decide_false, Bool.not_true, Bool.not_false, cxK, tFldC, tDGet1, rIxS, sL]
      exact ⟨_, ob1, _, rfl, dm, rfl, d1, tlz, c, atI_nat hc, o1, dg1, (hB _ _ _ _ _ _ _ _).mpr ⟨rfl, fr, kA, kS, kap, kT⟩⟩
    obtain ⟨rfl, fr5, k5, S5, ap5, kT⟩ := (hB _ _ _ _ _ _ _ _).mp g5
    obtain ⟨_, _, _, ob5⟩ := k5.ob
    refine ⟨fun σ' G => B T m.la (.int (standM m.se c : Nat)) (n + 1) ths st σ' G, ?_, fun σ6 H6 g6 => ?_⟩
    · simp only [tSeq, tAsg, tCB, tCons, tVar, tNil, gName, tRet, tRetN, tDrop, tNext, tIfS, tTest, tB, tOr, tAnd, tNot, tIf, tOrV, tAndV, tNotV, tChain, rI0, rI, rU, tUn, tC, tOp, rNe, rEq, tCall, tPart, tNoPart, tSl, tM0, tM1, tTup, tLst, tAug, gTup, gCons, gNil, rAdd, rSub, tNever, tBreak, tCont, L2.start, scSS, scII, scBB, ipI, sS, dS, d1, mkS, sL, nc1, nc2, Int.natCast_inj, List.map_cons, List.map_nil, List.length_cons, List.length_nil, List.replicate, List.cons_append, List.nil_append, List.append_nil, List.getElem?_cons_zero, List.getElem?_cons_succ, List.set_cons_zero, List.set_cons_succ, Option.some.injEq, V.str.injEq, V.int.injEq, V.bl.injEq, V.ref.injEq, List.cons.injEq, and_true, true_and, exists_eq_left', exists_eq_left, exists_eq, exists_eq', exists_and_left, exists_and_right, and_assoc, exists_const, reduceCtorEq, if_true, if_false, ite_true, ite_false, Bool.false_eq_true, decide_true, decide_false, Bool.not_true, Bool.not_false, cxK, tMetC, sp_stand, rIxS, sL]
      rcases oo1 with rfl | rfl
      · rw [if_pos (by rfl)]
        exact ⟨⟨_, ob5⟩, tlz, c, atI_nat hc, dm, db, m, n, k5, by omega, by omega, fun G f1 k1 => (hB _ _ _ _ _ _ _ _).mpr ⟨rfl, fr5.trans (f1.mono (by simp)), k1, S5.fr f1 (fun a ha => by cases List.mem_singleton.mp ha; exact k5.dk.1), ap5.fr f1 (by simpa using (k5.nd.2.1 ob5).1), kT⟩⟩
      · rw [if_neg (by simp)]
        exact (hB _ _ _ _ _ _ _ _).mpr ⟨rfl, fr5, k5.le (by omega), S5, ap5, kT⟩
    obtain ⟨rfl, fr6, k6, S6, ap6, kT⟩ := (hB _ _ _ _ _ _ _ _).mp g6
    obtain ⟨_, _, _, ob6⟩ := k6.ob
    obtain ⟨la, hla⟩ : ∃ la, la = m.lst (decide (b + k + 1 = t.length) && !go) := ⟨_, rfl⟩
    refine ⟨fun σ' G => B T la (.int (standM m.se c : Nat)) (n + 1) ths st σ' G, ?_, fun σ7 H7 g7 => ?_⟩
    · simp only [tSeq, tAsg, tCB, tCons, tVar, tNil, gName, tRet, tRetN, tDrop, tNext, tIfS, tTest, tB, tOr, tAnd, tNot, tIf, tOrV, tAndV, tNotV, tChain, rI0, rI, rU, tUn, tC, tOp, rNe, rEq, tCall, tPart, tNoPart, tSl, tM0, tM1, tTup, tLst, tAug, gTup, gCons, gNil, rAdd, rSub, tNever, tBreak, tCont, L2.start, scSS, scII, scBB, ipI, sS, dS, d1, mkS, sL, nc1, nc2, Int.natCast_inj, List.map_cons, List.map_nil, List.length_cons, List.length_nil, List.replicate, List.cons_append, List.nil_append, List.append_nil, List.getElem?_cons_zero, List.getElem?_cons_succ, List.set_cons_zero, List.set_cons_succ, Option.some.injEq, V.str.injEq, V.int.injEq, V.bl.injEq, V.ref.injEq, List.cons.injEq, and_true, true_and, exists_eq_left', exists_eq_left, exists_eq, exists_eq', exists_and_left, exists_and_right, and_assoc, exists_const, reduceCtorEq, if_true, if_false, ite_true, ite_false, Bool.false_eq_true, decide_true, decide_false, Bool.not_true, Bool.not_false, cxK, tFldC, sL]
      refine ⟨tlz, ?_⟩
      by_cases z1 : b + k + 1 = t.length
      · rw [if_pos (decide_eq_true z1)]
        rw [decide_eq_true z1] at hla
        cases go with
        | true =>
          rw [if_neg (by decide), hla]
          exact (hB _ _ _ _ _ _ _ _).mpr ⟨rfl, fr6, k6, S6, ap6, kT⟩
        | false =>
          rw [if_pos (by decide), hla]
          exact ⟨_, ob6, _, rfl, (hB _ _ _ _ _ _ _ _).mpr ⟨rfl, fr6, k6, S6, ap6, kT⟩⟩
      · rw [if_neg (by simpa using z1)]
        rw [decide_eq_false z1] at hla
        rw [hla]
        exact (hB _ _ _ _ _ _ _ _).mpr ⟨rfl, fr6, k6, S6, ap6, kT⟩
    obtain ⟨rfl, fr7, k7, S7, ap7, kT⟩ := (hB _ _ _ _ _ _ _ _).mp g7
    obtain ⟨NA, hNA⟩ : ∃ NA : L2.St → Hp → Prop, ∀ σ' G, NA σ' G ↔ ∃ th', B T la (.int (standM m.se c : Nat)) (n + 1) th' st σ' G ∧ SMid m t go b (b + k) th' st ∧ th'.length ≤ k + 1 := ⟨_, fun _ _ => Iff.rfl⟩
    refine ⟨NA, ?_, fun σ8 H8 g8 => ?_⟩
    · simp only [tSeq, tAsg, tCB, tCons, tVar, tNil, gName, tRet, tRetN, tDrop, tNext, tIfS, tTest, tB, tOr, tAnd, tNot, tIf, tOrV, tAndV, tNotV, tChain, rI0, rI, rU, tUn, tC, tOp, rNe, rEq, tCall, tPart, tNoPart, tSl, tM0, tM1, tTup, tLst, tAug, gTup, gCons, gNil, rAdd, rSub, tNever, tBreak, tCont, L2.start, scSS, scII, scBB, ipI, sS, dS, d1, mkS, sL, nc1, nc2, Int.natCast_inj, List.map_cons, List.map_nil, List.length_cons, List.length_nil, List.replicate, List.cons_append, List.nil_append, List.append_nil, List.getElem?_cons_zero, List.getElem?_cons_succ, List.set_cons_zero, List.set_cons_succ, Option.some.injEq, V.str.injEq, V.int.injEq, V.bl.injEq, V.ref.injEq, List.cons.injEq, and_true, true_and, exists_eq_left', exists_eq_left, exists_eq, exists_eq', exists_and_left, exists_and_right, and_assoc, exists_const, reduceCtorEq, if_true, if_false, ite_true, ite_false, Bool.false_eq_true, decide_true, decide_false, Bool.not_true, Bool.not_false, cxK, tFldC, rN, tru_nat, tBM, rAppend]
      obtain ⟨sv7, tv7, i7, e7, ta7, st7⟩ := S7.ex
      refine ⟨_, i7, _, rfl, ?_⟩
      have noad : (st = none → m.ini (b + k) &&& standM m.se c = 0) → NA [some (.ref x), some (.str (S t)), some (.int (b : Nat)), some (.bl go), some (.ref p), some (.int (la : Nat)), some (.int (m.ini (b + k) : Nat)), some (.int ((b + k : Nat) : Int)), some (.int (standM m.se c : Nat))] H7 := fun z => (hNA _ _).mpr ⟨ths, (hB _ _ _ _ _ _ _ _).mpr ⟨rfl, fr7, k7, S7, ap7, kT⟩, si.noadd hc z, by omega⟩
      cases st with
      | some z =>
        obtain ⟨a, rfl, _⟩ := st7
        rw [if_neg (by simp)]
        exact noad fun e => by cases e
      | none =>
        cases st7
        rw [if_pos (by rfl)]
        by_cases z2 : m.ini (b + k) &&& standM m.se c = 0
        · rw [if_neg (by simp [z2])]
          exact noad fun _ => z2
        · rw [if_pos (decide_eq_true z2)]
          refine ⟨_, i7, _, rfl, .inl ⟨rfl, _, SqL.of e7⟩, by decide, fun pa npa => ?_⟩
          have sp := same_upd (o := .tup [V.int ((b + k : Nat) : Int), V.int (m.ini (b + k) : Nat)]) npa
          have e7' := sp _ _ e7
          have xT := insL_ne i7 e7
          have up1 : Fr [T] (upd H7 pa (.tup [V.int ((b + k : Nat) : Int), V.int (m.ini (b + k) : Nat)])) (upd (upd H7 pa (.tup [V.int ((b + k : Nat) : Int), V.int (m.ini (b + k) : Nat)])) T (.lst (tv7 ++ [.ref pa]))) := Fr.refl.upd (.inl (.head _)) e7' rfl
          have up : Fr [x, dm, db, tl] H3 (upd (upd H7 pa (.tup [V.int ((b + k : Nat) : Int), V.int (m.ini (b + k) : Nat)])) T (.lst (tv7 ++ [.ref pa]))) := (fr7.same sp).upd (kT.elim (fun z => .inl (by rw [z]; simp)) .inr) e7' rfl
          have pT : p ≠ T := by
            obtain ⟨_, _, _, ob7⟩ := k7.ob
            exact insL_ne ob7 e7
          refine ⟨T, rfl, _, e7', sz5 (show tv7.length + 1 ≤ 100000 by rw [ta7.len]; omega), (hNA _ _).mpr ⟨ths ++ [(b + k, m.ini (b + k))], (hB _ _ _ _ _ _ _ _).mpr ⟨rfl, up, (k7.same sp).updT (ap7.fr (A := []) (.of sp) (by simp)) e7', ⟨.non, _, insL_at (insL_s sp i7) (upd_ne xT), upd_same, ?_, rfl⟩, (ap7.fr (A := []) (.of sp) (by simp)).fr up1 (by simpa using pT), kT⟩, si.add (by omega), by rw [List.length_append, List.length_singleton]; omega⟩⟩
          exact ((ta7.fr (A := []) (.of sp)).snoc (.inl upd_same)).fr up1
    obtain ⟨th', g8, mid, tll⟩ := (hNA _ _).mp g8
    obtain ⟨rfl, fr8, k8, S8, ap8, kT⟩ := (hB _ _ _ _ _ _ _ _).mp g8
    obtain ⟨NB, hNB⟩ : ∃ NB : L2.St → Hp → Prop, ∀ σ' G, NB σ' G ↔ ∃ T th' st' n', B T la (.int (standM m.se c : Nat)) n' th' st' σ' G ∧ SInv m t go b (b + k + 1) th' st' ∧ th'.length ≤ k + 1 ∧ n' ≤ N + (k + 1) * (t.length + 1) := ⟨_, fun _ _ => Iff.rfl⟩
    refine ⟨NB, ?_, fun σ9 H9 g9 => ?_⟩
    · simp only [tSeq, tAsg, tCB, tCons, tVar, tNil, gName, tRet, tRetN, tDrop, tNext, tIfS, tTest, tB, tOr, tAnd, tNot, tIf, tOrV, tAndV, tNotV, tChain, rI0, rI, rU, tUn, tC, tOp, rNe, rEq, tCall, tPart, tNoPart, tSl, tM0, tM1, tTup, tLst, tAug, gTup, gCons, gNil, rAdd, rSub, tNever, tBreak, tCont, L2.start, scSS, scII, scBB, ipI, sS, dS, d1, mkS, sL, nc1, nc2, Int.natCast_inj, List.map_cons, List.map_nil, List.length_cons, List.length_nil, List.replicate, List.cons_append, List.nil_append, List.append_nil, List.getElem?_cons_zero, List.getElem?_cons_succ, List.set_cons_zero, List.set_cons_succ, Option.some.injEq, V.str.injEq, V.int.injEq, V.bl.injEq, V.ref.injEq, List.cons.injEq, and_true, true_and, exists_eq_left', exists_eq_left, exists_eq, exists_eq', exists_and_left, exists_and_right, and_assoc, exists_const, reduceCtorEq, if_true, if_false, ite_true, ite_false, Bool.false_eq_true, decide_true, decide_false, Bool.not_true, Bool.not_false, cxK, tFldC, tMetC, sp_take]
      obtain ⟨sv8, tv8, i8, e8, ta8, st8⟩ := S8.ex
      refine ⟨_, i8, _, rfl, _, tru_list e8, ?_⟩
      cases tv8 with
      | cons y ys =>
        rw [if_pos (by rfl)]
        have thN : th'.length ≤ k + 1 := tll
        refine ⟨⟨_, i8⟩, p, dm, db, m, n + 1, t, go, b, b + k, c, rfl, hla, rfl, k8, th', st, S8.a, mid, hc, hse, hfo, by omega, by omega, fun G T9 th9 st9 n9 f9 k9 nl9 S9 nT9 si9 tl9 => (hNB _ _).mpr ⟨T9, th9, st9, n9, (hB _ _ _ _ _ _ _ _).mpr ⟨rfl, fr8.trans (f9.mono (by simp)), k9, S9, (k8.ap nT9).fr f9 (k8.pout hAS i8), ?_⟩, si9, by omega, by rw [Nat.succ_mul]; omega⟩⟩
        by_cases zT : T9 = tl
        · exact .inl zT
        · refine .inr (fr_none fr8 (fun z => ?_) nT9)
          simp only [List.mem_cons, List.not_mem_nil, or_false] at z
          rcases z with z | z | z | z
          · obtain ⟨dx, g, _⟩ := i8; rw [← z, nT9] at g; cases g
          · exact (k8.nd.2.2 nT9).1 z
          · exact (k8.nd.2.2 nT9).2 z
          · exact zT z
      | nil =>
        rw [if_neg (by decide)]
        have th0 : th' = [] := by
          have := ta8.len
          exact List.length_eq_zero_iff.mp this.symm
        subst th0
        refine ⟨_, i8, _, rfl, ?_⟩
        cases st with
        | none =>
          cases st8
          rw [if_neg (by decide)]
          exact (hNB _ _).mpr ⟨T, [], none, n + 1, (hB _ _ _ _ _ _ _ _).mpr ⟨rfl, fr8, k8, S8, ap8, kT⟩, mid.empty hc, Nat.zero_le _, by rw [Nat.succ_mul]; omega⟩
        | some z =>
          obtain ⟨a, rfl, _⟩ := st8
          rw [if_pos (by simp)]
          exact q H8 [] (some z) (n + 1) fr8 k8 (by omega) S8.a mid.stop (.inr ⟨rfl, z, rfl⟩)
    obtain ⟨T9, th9, st9, n9, g9, si9, tl9, nl9⟩ := (hNB _ _).mp g9
    obtain ⟨rfl, fr9, k9, S9, ap9, kT9⟩ := (hB _ _ _ _ _ _ _ _).mp g9
    obtain ⟨_, _, _, ob9⟩ := k9.ob
    simp only [tSeq, tAsg, tCB, tCons, tVar, tNil, gName, tRet, tRetN, tDrop, tNext, tIfS, tTest, tB, tOr, tAnd, tNot, tIf, tOrV, tAndV, tNotV, tChain, rI0, rI, rU, tUn, tC, tOp, rNe, rEq, tCall, tPart, tNoPart, tSl, tM0, tM1, tTup, tLst, tAug, gTup, gCons, gNil, rAdd, rSub, tNever, tBreak, tCont, L2.start, scSS, scII, scBB, ipI, sS, dS, d1, mkS, sL, nc1, nc2, Int.natCast_inj, List.map_cons, List.map_nil, List.length_cons, List.length_nil, List.replicate, List.cons_append, List.nil_append, List.append_nil, List.getElem?_cons_zero, List.getElem?_cons_succ, List.set_cons_zero, List.set_cons_succ, Option.some.injEq, V.str.injEq, V.int.injEq, V.bl.injEq, V.ref.injEq, List.cons.injEq, and_true, true_and, exists_eq_left', exists_eq_left, exists_eq, exists_eq', exists_and_left, exists_and_right, and_assoc, exists_const, reduceCtorEq, if_true, if_false, ite_true, ite_false, Bool.false_eq_true, decide_true, decide_false, Bool.not_true, Bool.not_false, cxK, tFldC]
    refine ⟨_, ob9, _, rfl, (hPv _ _ _).mpr ⟨T9, la, n9, th9, st9, some (.int ((b + k : Nat) : Int)), some (.int (standM m.se c : Nat)), ?_, fr9, k9, nl9, S9, ap9, kT9, si9, tl9, fun hl => ?_⟩⟩
    · rw [show m.ini (b + (k + 1)) = m.fi from ini_next (i := b + k)]
    · rw [hla, decide_eq_false (by omega)]
      rfl
  · obtain ⟨T, la, n, ths, st, v7, v8, rfl, fr, kA, nl, kS, kap, kT, si, ll, lal⟩ := (hPv _ _ _).mp g
    simp only [tSeq, tAsg, tCB, tCons, tVar, tNil, gName, tRet, tRetN, tDrop, tNext, tIfS, tTest, tB, tOr, tAnd, tNot, tIf, tOrV, tAndV, tNotV, tChain, rI0, rI, rU, tUn, tC, tOp, rNe, rEq, tCall, tPart, tNoPart, tSl, tM0, tM1, tTup, tLst, tAug, gTup, gCons, gNil, rAdd, rSub, tNever, tBreak, tCont, L2.start, scSS, scII, scBB, ipI, sS, dS, d1, mkS, sL, nc1, nc2, Int.natCast_inj, List.map_cons, List.map_nil, List.length_cons, List.length_nil, List.replicate, List.cons_append, List.nil_append, List.append_nil, List.getElem?_cons_zero, List.getElem?_cons_succ, List.set_cons_zero, List.set_cons_succ, Option.some.injEq, V.str.injEq, V.int.injEq, V.bl.injEq, V.ref.injEq, List.cons.injEq, and_true, true_and, exists_eq_left', exists_eq_left, exists_eq, exists_eq', exists_and_left, exists_and_right, and_assoc, exists_const, reduceCtorEq, if_true, if_false, ite_true, ite_false, Bool.false_eq_true, decide_true, decide_false, Bool.not_true, Bool.not_false, cxK]
    rw [show b + (t.length - b) = t.length by omega] at si
    have : (t.length - b) * (t.length + 1) ≤ (t.length + 1) * (t.length + 1) := Nat.mul_le_mul_right _ (by omega)
    exact q H' ths st n fr kA (by omega) kS.a (si.fin (Nat.le_refl _)) (.inl si)
end
end Pd

namespace Pd
open PySem PySem.Spec PyProof.Rows L2
open SX (S)
section
variable {P : Program} {w : World} {K : PySem.W.Frag} {mg : Str → Option Value} {base : Heap} {CE CA CS : Addr}
def sp_sinit (CA CS : Addr) : Sp := fun vs H Q _ => ∃ (x p dm db : Addr) (m : Mac) (N : Nat) (t : List Nat) (go : Bool) (b : Nat), vs = [.ref x, .ref p, .str (S t), .int (b : Nat), .bl go] ∧ InsL CS nsS H x [] ∧
  AutM CA H p dm db m N ∧ m.se.length = m.fo.length ∧ m.fo.length ≤ 50000 ∧ t.length ≤ 100 ∧ b ≤ t.length ∧ N + (t.length + 1) * (t.length + 1) < 90000 ∧
  ∀ H' ths st N', Fr [x, dm, db] H H' → AutM CA H' p dm db m N' → N' ≤ N + (t.length + 1) * (t.length + 1) → SrA CS H' x p ths st → Fin m t go b st → (SInv m t go b t.length ths st ∨ (ths = [] ∧ ∃ z, st = some z)) → Q .non H'
theorem scSearch_init : FnScope ["self", "automaton", "text", "begin", "goes_on"] ["self", "automaton", "text", "begin", "goes_on"] (defScope (inClass (topS 16) 0)) := ⟨rfl, rfl, rfl, by decide +kernel, rfl, by decide +kernel, by decide +kernel⟩
theorem ok_sinit (hAS : CS ≠ CA) (o_Search : OCls K CS nsS) (M_Search_look : MetC P w K mg base 3 CS "look" (sp_look CA CS)) (D : Mdf K CS "__init__" "Search.__init__" (inClass (topS 16) 0) ["self", "automaton", "text", "begin", "goes_on"]) : MetC P w K mg base 4 CS "__init__" (sp_sinit CA CS) := by
  refine met_of D scSearch_init (fun vs H Q E h => ?_) (fun f cdv A outer s H vs Q E hr h => ?_)
  · obtain ⟨x, p, dm, db, m, N, t, go, b, rfl, _⟩ := h
    rfl
  obtain ⟨x, p, dm, db, m, N, t, go, b, rfl, hx, hA, hse, hfo, htl, hb, hN, q⟩ := h
  refine ⟨_, (pss_cons (ps_fldC (k := 0) o_Search (pv 0) (pv 1) rfl)
      (pss_cons (ps_fldC (k := 1) o_Search (pv 0) pe_non rfl)
      (pss_cons (ps_fldC (k := 2) o_Search (pv 0) (pe_lst pa_nil) rfl)
      (pss_one (ps_expr (pm M_Search_look o_Search (by decide +kernel) mono_var hr (by decide) (pv 0) (pa_cons (pv 2) (pa_cons (pv 3) (pa_cons (pv 4) pa_nil))))))))), ?_⟩
  simp only [tSeq, tAsg, tCB, tCons, tVar, tNil, gName, tRet, tRetN, tDrop, tNext, tIfS, tTest, tB, tOr, tAnd, tNot, tIf, tOrV, tAndV, tNotV, tChain, rI0, rI, rU, tUn, tC, tOp, rNe, rEq, tCall, tPart, tNoPart, tSl, tM0, tM1, tTup, tLst, tAug, gTup, gCons, gNil, rAdd, rSub, tNever, tBreak, tCont, L2.start, scSS, scII, scBB, ipI, sS, dS, d1, mkS, sL, nc1, nc2, Int.natCast_inj, List.map_cons, List.map_nil, List.length_cons, List.length_nil, List.replicate, List.cons_append, List.nil_append, List.append_nil, List.getElem?_cons_zero, List.getElem?_cons_succ, List.set_cons_zero, List.set_cons_succ, Option.some.injEq, V.str.injEq, V.int.injEq, V.bl.injEq, V.ref.injEq, List.cons.injEq, and_true, true_and, exists_eq_left', exists_eq_left, exists_eq, exists_eq', exists_and_left, exists_and_right, and_assoc, exists_const, reduceCtorEq, if_true, if_false, ite_true, ite_false, Bool.false_eq_true, decide_true, decide_false, Bool.not_true, Bool.not_false, cxK, sFldC, tMetC, sp_look]
  refine ⟨_, hx, Nat.zero_le _, fun H1 s1 i1 => ⟨_, i1, Nat.le_refl 1, fun H2 s2 i2 => ⟨Nat.zero_le _, fun tl ntl => ⟨_, insL_s (same_upd ntl) i2, Nat.le_refl 2, fun H3 s3 i3 => ?_⟩⟩⟩⟩
  obtain ⟨f1, k1⟩ := hA.putS hAS hx s1
  obtain ⟨f2, k2⟩ := k1.putS hAS i1 s2
  have sp := same_upd (o := .lst []) ntl
  obtain ⟨f3, k3⟩ := (k2.same sp).putS hAS (insL_s sp i2) s3
  have xt := insL_new i2 ntl
  have f12 : Fr [x] H H2 := f1.trans f2
  have nH : H tl = none := fr_none f12 (by simpa using xt.symm) ntl
  have ft : Fr [x] H H3 := (f12.same sp).trans f3
  have px : p ∉ [x] := fun z => by
    obtain ⟨v0, v1, v4, ob⟩ := hA.ob
    cases List.mem_singleton.mp z
    obtain ⟨dx, e, _⟩ := ob
    obtain ⟨dx', e', _⟩ := hx
    have e2 := Option.some.inj (e.symm.trans e')
    injection e2 with h1
    exact hAS h1.symm
  refine ⟨⟨_, i3⟩, p, dm, db, m, N, k3, tl, ⟨.non, [], i3, (s3 _ xt.symm).trans upd_same, .nil, rfl⟩, (hA.ap nH).fr ft px, hse, hfo, htl, hb, hN, fun G ths st N' fG kG nG sG fin inv => ?_⟩
  refine q G ths st N' ⟨fun a o e na => ?_, fun a xs h => fG.tup a xs (ft.tup a xs h)⟩ kG nG sG fin inv
  have na1 : a ≠ x := fun z => na (by rw [z]; simp)
  refine fG.keep a o (ft.keep a o e (by simpa using na1)) fun z => ?_
  simp only [List.mem_cons, List.not_mem_nil, or_false] at z na
  rcases z with z | z | z | z
  · exact na (.inl z)
  · exact na (.inr (.inl z))
  · exact na (.inr (.inr z))
  · subst z; rw [nH] at e; cases e
/-! ### the empty ones -/
theorem eLcR2 {ta : TA} {g : TG} {tt : TT} {te : TE} {vs : List Nat} {σ : L2.St} {H : Hp} {Q : VK} : tLc (iRng2 ta) g tt te vs σ H Q = ta σ H fun ws H1 => ∃ i j : Int, ws = [.int i, .int j] ∧ (-(2 ^ 62) ≤ i ∧ i < 2 ^ 62 ∧ -(2 ^ 62) ≤ j ∧ j < 2 ^ 62) ∧ LcJ (Itr i (j - i).toNat) g tt te vs σ H1 Q := rfl
theorem emL_snoc {nu n a k : Nat} : ((List.range' a (k + 1)).filter fun x => nu.testBit (nuI x n)).map (fun x => (x, x)) = ((List.range' a k).filter fun x => nu.testBit (nuI x n)).map (fun x => (x, x)) ++ (if nu.testBit (nuI (a + k) n) = true then [(a + k, a + k)] else []) := by
  rw [List.range'_concat, List.filter_append, List.map_append]
  congr 1
  rw [Nat.one_mul]
  by_cases z : nu.testBit (nuI (a + k) n) = true
  · rw [if_pos z]; simp [z]
  · rw [if_neg z]; simp [z]
def emL (nu n a b : Nat) : List (Nat × Nat) := ((List.range' a (b - a)).filter fun x => nu.testBit (nuI x n)).map fun x => (x, x)
def sp_empty (CA : Addr) : Sp := fun vs H Q _ => ∃ (p dm db : Addr) (m : Mac) (N : Nat) (t : List Nat) (a b : Nat), vs = [.ref p, .str (S t), .int (a : Nat), .int (b : Nat)] ∧ AutM CA H p dm db m N ∧ t.length ≤ 100 ∧ a ≤ 1000 ∧ b ≤ 1000 ∧
  ∀ H' r lv, Same H H' → H r = none → H' r = some (.lst lv) → ThA H' lv (emL m.nu t.length a b) → Q (.ref r) H'
theorem scempty_ones : FnScope ["automaton", "text", "first", "end", "at"] ["automaton", "text", "first", "end"] (defScope (topS 19)) := ⟨rfl, rfl, rfl, by decide +kernel, rfl, by decide +kernel, by decide +kernel⟩
theorem ok_empty (T : BiA mg) (o_Automaton : OCls K CA nsA) (M_Automaton_takes_empty : MetC P w K mg base 1 CA "takes_empty" (sp_tempty CA)) (D : Dfn K mg "empty_ones" (topS 19) ["automaton", "text", "first", "end"]) : Cal P w K mg base 2 "empty_ones" (sp_empty CA) := by
  refine cal_of D scempty_ones (fun vs H Q E h => ?_) (fun f cdv A outer s H vs Q E hr h => ?_)
  · obtain ⟨p, dm, db, m, N, t, a, b, rfl, _⟩ := h
    rfl
  obtain ⟨p, dm, db, m, N, t, a, b, rfl, hA, htl, ha, hb, q⟩ := h
  refine ⟨_, (pss_cons (ps_if (pt_cmpR op_eq (pe_fldC (k := 5) o_Automaton (pv 0) rfl) pe_int (nomark _)) (pss_one (ps_ret (pe_lst pa_nil))) pss_nil)
      (pss_one (ps_ret (pe_lc (own := [("at", 4)]) (g := gName 4) (tt := _) rfl scempty_ones.nd (pi_range2 (by rfl) T.b_range (pa_cons (pv 2) (pa_cons (pv 3) pa_nil))) (blkOk_by (N := ["automaton", "text", "first", "end", "at"]) (sc := defScope (topS 19)) (by decide +kernel)) (fun _ _ _ _ _ => (pg_name (i := 4) scempty_ones.nd rfl (Or.inl rfl))) (fun _ _ _ _ _ => (pts_one (pt_val (pm M_Automaton_takes_empty o_Automaton (by decide +kernel) mono_var hr (by decide) (pv 0) (pa_cons (pv 4) (pa_cons (pe_callB call_len_str (by rfl) T.b_len (by decide +kernel) (pa_cons (pv 1) pa_nil)) pa_nil)))))) (fun _ _ _ _ _ => (pe_tup (pa_cons (pv 4) (pa_cons (pv 4) pa_nil)))))))), ?_⟩
  have tlz : t.length ≤ sizeLine := sz5 (by omega)
  obtain ⟨v0, v1, v4, ob⟩ := hA.ob
  simp only [tSeq, tAsg, tCB, tCons, tVar, tNil, gName, tRet, tRetN, tDrop, tNext, tIfS, tTest, tB, tOr, tAnd, tNot, tIf, tOrV, tAndV, tNotV, tChain, rI0, rI, rU, tUn, tC, tOp, rNe, rEq, tCall, tPart, tNoPart, tSl, tM0, tM1, tTup, tLst, tAug, gTup, gCons, gNil, rAdd, rSub, tNever, tBreak, tCont, L2.start, scSS, scII, scBB, ipI, sS, dS, d1, mkS, sL, nc1, nc2, Int.natCast_inj, List.map_cons, List.map_nil, List.length_cons, List.length_nil, List.replicate, List.cons_append, List.nil_append, List.append_nil, List.getElem?_cons_zero, List.getElem?_cons_succ, List.set_cons_zero, List.set_cons_succ, Option.some.injEq, V.str.injEq, V.int.injEq, V.bl.injEq, V.ref.injEq, List.cons.injEq, and_true, true_and, exists_eq_left', exists_eq_left, exists_eq, exists_eq', exists_and_left, exists_and_right, and_assoc, exists_const, reduceCtorEq, if_true, if_false, ite_true, ite_false, Bool.false_eq_true, decide_true, decide_false, Bool.not_true, Bool.not_false, cxK, tFldC, eLcR2]
  refine ⟨_, ob, _, rfl, rfl, ?_⟩
  by_cases z : m.nu = 0
  · rw [if_pos (by simp [z])]
    refine ⟨Nat.zero_le _, fun r nr => q _ r [] (same_upd nr) nr upd_same ?_⟩
    have : emL m.nu t.length a b = [] := by
      unfold emL
      rw [z]
      simp
    rw [this]
    exact .nil
  rw [if_neg (by simp [z])]
  refine ⟨by omega, by omega, by omega, by omega, ?_⟩
  rw [show ((b : Int) - (a : Int)).toNat = b - a by omega]
  refine lcR fun Da nD => ?_
  obtain ⟨Pv, hPv⟩ : ∃ Pv : Nat → Hp → Prop, ∀ i H', Pv i H' ↔ ∃ lv, Same H H' ∧ H' Da = some (.lst lv) ∧ ThA H' lv (((List.range' a i).filter fun x => m.nu.testBit (nuI x t.length)).map fun x => (x, x)) := ⟨_, fun _ _ => Iff.rfl⟩
  refine ⟨Pv, (hPv _ _).mpr ⟨[], same_upd nD, upd_same, .nil⟩, fun i H' hi g => ?_, fun H' g => ?_⟩
  · obtain ⟨lv, s, e, th⟩ := (hPv _ _).mp g
    simp only [tSeq, tAsg, tCB, tCons, tVar, tNil, gName, tRet, tRetN, tDrop, tNext, tIfS, tTest, tB, tOr, tAnd, tNot, tIf, tOrV, tAndV, tNotV, tChain, rI0, rI, rU, tUn, tC, tOp, rNe, rEq, tCall, tPart, tNoPart, tSl, tM0, tM1, tTup, tLst, tAug, gTup, gCons, gNil, rAdd, rSub, tNever, tBreak, tCont, L2.start, scSS, scII, scBB, ipI, sS, dS, d1, mkS, sL, nc1, nc2, Int.natCast_inj, List.map_cons, List.map_nil, List.length_cons, List.length_nil, List.replicate, List.cons_append, List.nil_append, List.append_nil, List.getElem?_cons_zero, List.getElem?_cons_succ, List.set_cons_zero, List.set_cons_succ, Option.some.injEq, V.str.injEq, V.int.injEq, V.bl.injEq, V.ref.injEq, List.cons.injEq, and_true, true_and, exists_eq_left', exists_eq_left, exists_eq, exists_eq', exists_and_left, exists_and_right, and_assoc, exists_const, reduceCtorEq, if_true, if_false, ite_true, ite_false, Bool.false_eq_true, decide_true, decide_false, Bool.not_true, Bool.not_false, cxK, tMetC, sp_tempty, wipe, sL]
    rw [show (a : Int) + (i : Int) = ((a + i : Nat) : Int) by omega]
    refine ⟨⟨_, insL_s s ob⟩, tlz, dm, db, m, N, a + i, rfl, hA.same s, ?_⟩
    have sn := emL_snoc (nu := m.nu) (n := t.length) (a := a) (k := i)
    by_cases z2 : m.nu.testBit (nuI (a + i) t.length) = true
    · rw [if_pos z2]
      rw [if_pos z2] at sn
      refine ⟨by decide, fun pa npa => ?_⟩
      have sp := same_upd (o := .tup [V.int ((a + i : Nat) : Int), V.int ((a + i : Nat) : Int)]) npa
      have e' := sp _ _ e
      have up1 : Fr [Da] (upd H' pa (.tup [V.int ((a + i : Nat) : Int), V.int ((a + i : Nat) : Int)])) (upd (upd H' pa (.tup [V.int ((a + i : Nat) : Int), V.int ((a + i : Nat) : Int)])) Da (.lst (lv ++ [.ref pa]))) := Fr.refl.upd (.inl (.head _)) e' rfl
      have ln : lv.length ≤ 1000 := by
        rw [th.len, List.length_map]
        exact Nat.le_trans (List.length_filter_le _ _) (by rw [List.length_range']; omega)
      refine ⟨_, e', sz5 (show lv.length + 1 ≤ 100000 by omega), (hPv _ _).mpr ⟨_, ?_, upd_same, ?_⟩⟩
      · intro c o ec
        rw [upd_ne (fun h => by subst h; rw [nD] at ec; cases ec)]
        exact sp _ _ (s _ _ ec)
      · rw [sn]
        exact ((th.fr (A := []) (.of sp)).snoc (.inl upd_same)).fr up1
    · rw [if_neg z2]
      rw [if_neg z2, List.append_nil] at sn
      exact (hPv _ _).mpr ⟨lv, s, e, by rw [sn]; exact th⟩
  · obtain ⟨lv, s, e, th⟩ := (hPv _ _).mp g
    exact q H' Da lv s nD e th
end
end Pd

namespace Pd
open PySem PySem.Spec PyProof.Rows L2
open SX (S)
/-- one stretch behind the other -/
inductive Cts (m : Mac) (t : List Nat) : Option (Nat × Nat) → List (Nat × Nat) → Prop
  | nil : Cts m t none []
  | cons {z : Nat × Nat} {st : Option (Nat × Nat)} {l : List (Nat × Nat)} (f : Fin m t false z.2 st) (h : Cts m t st l) : Cts m t (some z) (z :: l)
/-- a frame of new ones -/
theorem Fr.new {A : List Addr} {H H' : Hp} (f : Fr A H H') (n : ∀ a ∈ A, H a = none) : Same H H' := fun b o e => f.keep b o e fun z => by rw [n b z] at e; cases e
theorem Fr.bir {A : List Addr} {H H2 H' : Hp} {x : Addr} (s : Same H H2) (f : Fr (x :: A) H2 H') (n : H x = none) : Fr A H H' := by
  refine ⟨fun b o e nb => f.keep b o (s _ _ e) fun z => ?_, fun b xs h => f.tup b xs ((Fr.of (A := []) s).tup b xs h)⟩
  rcases List.mem_cons.mp z with z | z
  · subst z; rw [n] at e; cases e
  · exact nb z
section
variable {P : Program} {w : World} {K : PySem.W.Frag} {mg : Str → Option Value} {base : Heap} {CE CA CS : Addr}
def sp_cutsin (CA : Addr) : Sp := fun vs H Q _ => ∃ (p dm db : Addr) (m : Mac) (N : Nat) (t : List Nat), vs = [.ref p, .str (S t)] ∧ AutM CA H p dm db m N ∧ m.se.length = m.fo.length ∧ m.fo.length ≤ 50000 ∧ t.length ≤ 40 ∧ N ≤ 1000 ∧
  ∀ H' r lv st l N', Fr [dm, db] H H' → AutM CA H' p dm db m N' → H r = none → H' r = some (.lst lv) → ThA H' lv l → Fin m t false 0 st → Cts m t st l → l.length ≤ t.length → Q (.ref r) H'
theorem sccuts_in : FnScope ["automaton", "text", "rows", "stretch"] ["automaton", "text"] (defScope (topS 17)) := ⟨rfl, rfl, rfl, by decide +kernel, rfl, by decide +kernel, by decide +kernel⟩
theorem ok_cutsin (hAS : CS ≠ CA) (o_Search : OCls K CS nsS) (K_Search : MakC P w K mg base 4 CS "Search" (sp_sinit CA CS)) (D : Dfn K mg "cuts_in" (topS 17) ["automaton", "text"]) : Cal P w K mg base 6 "cuts_in" (sp_cutsin CA) := by
  refine cal_of D sccuts_in (fun vs H Q E h => ?_) (fun f cdv A outer s H vs Q E hr h => ?_)
  · obtain ⟨p, dm, db, m, N, t, rfl, _⟩ := h
    rfl
  obtain ⟨p, dm, db, m, N, t, rfl, hA, hse, hfo, htl, hN, q⟩ := h
  refine ⟨_, (C8.pss_cut (ps_set (i := 2) sccuts_in.nd rfl (Or.inl rfl) (pe_lst pa_nil))
      (C8.pss_cut (ps_set (i := 3) sccuts_in.nd rfl (Or.inl rfl) (pe_fldC (k := 1) o_Search (pmk (ns := nsS) K_Search hr (by decide) (by rfl) (pa_cons (pv 0) (pa_cons (pv 1) (pa_cons pe_int (pa_cons pe_bl pa_nil))))) rfl))
      (C8.pss_cut (ps_while PassesOwn.never (pt_cmpR op_notN (pv 3) pe_non (nomark _)) (pss_cons (ps_expr (pe_bm PySem.F.plainAttrs_list PySem.F.slot_list_append PySem.F.type_list_append mt_append (pv 2) (pa_cons (pv 3) pa_nil)))
      (pss_one (ps_set (i := 3) sccuts_in.nd rfl (Or.inl rfl) (pe_fldC (k := 1) o_Search (pmk (ns := nsS) K_Search hr (by decide) (by rfl) (pa_cons (pv 0) (pa_cons (pv 1) (pa_cons (pe_ix ix_tup (pv 3) pe_int (fun _ _ => rfl)) (pa_cons pe_bl pa_nil))))) rfl)))))
      (pss_one (ps_ret (pv 2)))))), ?_⟩
  have sq : (t.length + 1) * (t.length + 1) ≤ 41 * 41 := Nat.mul_le_mul (by omega) (by omega)
  obtain ⟨M1, hM1⟩ : ∃ M : L2.St → Hp → Prop, ∀ σ' H', M σ' H' ↔ ∃ r : Addr, σ' = [some (.ref p), some (.str (S t)), some (.ref r), none] ∧ Same H H' ∧ H r = none ∧ H' r = some (.lst []) := ⟨_, fun _ _ => Iff.rfl⟩
  refine ⟨M1, ?_, fun σ1 H1 g1 => ?_⟩
  · simp only [tSeq, tAsg, tCB, tCons, tVar, tNil, gName, tRet, tRetN, tDrop, tNext, tIfS, tTest, tB, tOr, tAnd, tNot, tIf, tOrV, tAndV, tNotV, tChain, rI0, rI, rU, tUn, tC, tOp, rNe, rEq, tCall, tPart, tNoPart, tSl, tM0, tM1, tTup, tLst, tAug, gTup, gCons, gNil, rAdd, rSub, tNever, tBreak, tCont, L2.start, scSS, scII, scBB, ipI, sS, dS, d1, mkS, sL, nc1, nc2, Int.natCast_inj, List.map_cons, List.map_nil, List.length_cons, List.length_nil, List.replicate, List.cons_append, List.nil_append, List.append_nil, List.getElem?_cons_zero, List.getElem?_cons_succ, List.set_cons_zero, List.set_cons_succ, Option.some.injEq, V.str.injEq, V.int.injEq, V.bl.injEq, V.ref.injEq, List.cons.injEq, and_true, true_and, exists_eq_left', exists_eq_left, exists_eq, exists_eq', exists_and_left, exists_and_right, and_assoc, exists_const, reduceCtorEq, if_true, if_false, ite_true, ite_false, Bool.false_eq_true, decide_true, decide_false, Bool.not_true, Bool.not_false, cxK]
    exact ⟨Nat.zero_le _, fun r nr => (hM1 _ _).mpr ⟨r, rfl, same_upd nr, nr, upd_same⟩⟩
  obtain ⟨r, rfl, s1, nr, er⟩ := (hM1 _ _).mp g1
  obtain ⟨Pv, hPv⟩ : ∃ Pv : Nat → L2.St → Hp → Prop, ∀ b σ' H', Pv b σ' H' ↔ ∃ (sv : V) (st : Option (Nat × Nat)) (lv : List V) (l : List (Nat × Nat)) (n : Nat), σ' = [some (.ref p), some (.str (S t)), some (.ref r), some sv] ∧ Fr [dm, db] H H' ∧ AutM CA H' p dm db m n ∧ n ≤ N + (l.length + 1) * ((t.length + 1) * (t.length + 1)) ∧ H' r = some (.lst lv) ∧ ThA H' lv l ∧ StV H' sv st ∧ l.length ≤ b ∧ b ≤ t.length ∧ Fin m t false b st ∧ ∃ st0, Fin m t false 0 st0 ∧ ∀ l2, Cts m t st l2 → Cts m t st0 (l ++ l2) := ⟨_, fun _ _ _ => Iff.rfl⟩
  refine ⟨Pv 0, ?_, fun σ2 H2 g2 => ?_⟩
  · simp only [tSeq, tAsg, tCB, tCons, tVar, tNil, gName, tRet, tRetN, tDrop, tNext, tIfS, tTest, tB, tOr, tAnd, tNot, tIf, tOrV, tAndV, tNotV, tChain, rI0, rI, rU, tUn, tC, tOp, rNe, rEq, tCall, tPart, tNoPart, tSl, tM0, tM1, tTup, tLst, tAug, gTup, gCons, gNil, rAdd, rSub, tNever, tBreak, tCont, L2.start, scSS, scII, scBB, ipI, sS, dS, d1, mkS, sL, nc1, nc2, Int.natCast_inj, List.map_cons, List.map_nil, List.length_cons, List.length_nil, List.replicate, List.cons_append, List.nil_append, List.append_nil, List.getElem?_cons_zero, List.getElem?_cons_succ, List.set_cons_zero, List.set_cons_succ, Option.some.injEq, V.str.injEq, V.int.injEq, V.bl.injEq, V.ref.injEq, List.cons.injEq, and_true, true_and, exists_eq_left', exists_eq_left, exists_eq, exists_eq', exists_and_left, exists_and_right, and_assoc, exists_const, reduceCtorEq, if_true, if_false, ite_true, ite_false, Bool.false_eq_true, decide_true, decide_false, Bool.not_true, Bool.not_false, cxK, tFldC, tMakC, sp_sinit]
    intro x H2 nx sx ix
    have k2 := (hA.same s1).same sx
    have nxH : H x = none := fr_none (A := []) (.of s1) (by simp) nx
    refine ⟨dm, db, m, N, false, 0, rfl, rfl, ix, k2, hse, hfo, by omega, Nat.zero_le _, by omega, fun H' ths st N' fr kA nN sA fin _ => ?_⟩
    obtain ⟨sv, T, tv, i, e, _, sv1⟩ := sA.ex
    have er2 := sx _ _ er
    have nd := k2.nd.1 er2
    have er' : H' r = some (.lst []) := fr.keep _ _ er2 (by
      simp only [List.mem_cons, List.not_mem_nil, or_false, not_or]
      exact ⟨(fun z => by subst z; rw [er] at nx; cases nx), nd.1, nd.2⟩)
    exact ⟨_, i, _, rfl, (hPv _ _ _).mpr ⟨sv, st, [], [], N', rfl, (Fr.bir (s1.trans sx) fr nxH), kA, by simp only [List.length_nil]; omega, er', .nil, sv1, Nat.zero_le _, Nat.zero_le _, fin, st, fin, fun l2 h => h⟩⟩
  refine ⟨fun σ' H' => ∃ b, Pv b σ' H' ∧ ∃ st : Option (Nat × Nat), st = none ∧ σ'[3]? = some (some .non), ?_, fun σ3 H3 g3 => ?_⟩
  · simp only [tSeq, tAsg, tCB, tCons, tVar, tNil, gName, tRet, tRetN, tDrop, tNext, tIfS, tTest, tB, tOr, tAnd, tNot, tIf, tOrV, tAndV, tNotV, tChain, rI0, rI, rU, tUn, tC, tOp, rNe, rEq, tCall, tPart, tNoPart, tSl, tM0, tM1, tTup, tLst, tAug, gTup, gCons, gNil, rAdd, rSub, tNever, tBreak, tCont, L2.start, scSS, scII, scBB, ipI, sS, dS, d1, mkS, sL, nc1, nc2, Int.natCast_inj, List.map_cons, List.map_nil, List.length_cons, List.length_nil, List.replicate, List.cons_append, List.nil_append, List.append_nil, List.getElem?_cons_zero, List.getElem?_cons_succ, List.set_cons_zero, List.set_cons_succ, Option.some.injEq, V.str.injEq, V.int.injEq, V.bl.injEq, V.ref.injEq, List.cons.injEq, and_true, true_and, exists_eq_left', exists_eq_left, exists_eq, exists_eq', exists_and_left, exists_and_right, and_assoc, exists_const, reduceCtorEq, if_true, if_false, ite_true, ite_false, Bool.false_eq_true, decide_true, decide_false, Bool.not_true, Bool.not_false, cxK]
    refine ⟨fun n σ' H' => ∃ b, n + b = t.length ∧ Pv b σ' H', ⟨t.length, 0, rfl, g2⟩, fun mm σ' H' ⟨b, hb, g⟩ => ?_⟩
    obtain ⟨sv, st, lv, l, n, rfl, fr, kA, nl, er3, th, stv, lb, bt, fin, st0, fin0, ct⟩ := (hPv _ _ _).mp g
    simp only [tSeq, tAsg, tCB, tCons, tVar, tNil, gName, tRet, tRetN, tDrop, tNext, tIfS, tTest, tB, tOr, tAnd, tNot, tIf, tOrV, tAndV, tNotV, tChain, rI0, rI, rU, tUn, tC, tOp, rNe, rEq, tCall, tPart, tNoPart, tSl, tM0, tM1, tTup, tLst, tAug, gTup, gCons, gNil, rAdd, rSub, tNever, tBreak, tCont, L2.start, scSS, scII, scBB, ipI, sS, dS, d1, mkS, sL, nc1, nc2, Int.natCast_inj, List.map_cons, List.map_nil, List.length_cons, List.length_nil, List.replicate, List.cons_append, List.nil_append, List.append_nil, List.getElem?_cons_zero, List.getElem?_cons_succ, List.set_cons_zero, List.set_cons_succ, Option.some.injEq, V.str.injEq, V.int.injEq, V.bl.injEq, V.ref.injEq, List.cons.injEq, and_true, true_and, exists_eq_left', exists_eq_left, exists_eq, exists_eq', exists_and_left, exists_and_right, and_assoc, exists_const, reduceCtorEq, if_true, if_false, ite_true, ite_false, Bool.false_eq_true, decide_true, decide_false, Bool.not_true, Bool.not_false, cxK]
    cases st with
    | none =>
      cases stv
      rw [if_neg (by decide)]
      exact ⟨⟨b, (hPv _ _ _).mpr ⟨.non, none, lv, l, n, rfl, fr, kA, nl, er3, th, rfl, lb, bt, fin, st0, fin0, ct⟩⟩, rfl⟩
    | some z =>
      obtain ⟨a, rfl, ra⟩ := stv
      rw [if_pos (by simp)]
      have zlt := Mac.Mat_lt (fin.som z rfl).2.1
      have zb := (fin.som z rfl).1
      refine ⟨fun σ' G => ∃ b', b < b' ∧ Pv b' σ' G, fun σ' G ⟨b', h1, h2⟩ => ⟨t.length - b', ?_, b', ?_, h2⟩, ?_⟩
      · obtain ⟨_, _, _, _, _, _, _, _, _, _, _, _, _, bt', _⟩ := (hPv _ _ _).mp h2
        omega
      · obtain ⟨_, _, _, _, _, _, _, _, _, _, _, _, _, bt', _⟩ := (hPv _ _ _).mp h2
        omega
      simp only [tSeq, tAsg, tCB, tCons, tVar, tNil, gName, tRet, tRetN, tDrop, tNext, tIfS, tTest, tB, tOr, tAnd, tNot, tIf, tOrV, tAndV, tNotV, tChain, rI0, rI, rU, tUn, tC, tOp, rNe, rEq, tCall, tPart, tNoPart, tSl, tM0, tM1, tTup, tLst, tAug, gTup, gCons, gNil, rAdd, rSub, tNever, tBreak, tCont, L2.start, scSS, scII, scBB, ipI, sS, dS, d1, mkS, sL, nc1, nc2, Int.natCast_inj, List.map_cons, List.map_nil, List.length_cons, List.length_nil, List.replicate, List.cons_append, List.nil_append, List.append_nil, List.getElem?_cons_zero, List.getElem?_cons_succ, List.set_cons_zero, List.set_cons_succ, Option.some.injEq, V.str.injEq, V.int.injEq, V.bl.injEq, V.ref.injEq, List.cons.injEq, and_true, true_and, exists_eq_left', exists_eq_left, exists_eq, exists_eq', exists_and_left, exists_and_right, and_assoc, exists_const, reduceCtorEq, if_true, if_false, ite_true, ite_false, Bool.false_eq_true, decide_true, decide_false, Bool.not_true, Bool.not_false, cxK, tBM, rAppend, tFldC, tMakC, sp_sinit, rIxT]
      have up1 : Fr [r] H' (upd H' r (.lst (lv ++ [.ref a]))) := Fr.refl.upd (.inl (.head _)) er3 rfl
      have up : Fr [dm, db] H (upd H' r (.lst (lv ++ [.ref a]))) := fr.upd (.inr nr) er3 rfl
      have kU : AutM CA (upd H' r (.lst (lv ++ [.ref a]))) p dm db m n := hA.updN (o := .lst []) fr (fun z => by
        obtain ⟨v0, v1, v4, ob⟩ := hA.ob
        have := hA.nd.2.1 ob
        simp only [List.mem_cons, List.not_mem_nil, or_false] at z
        exact z.elim this.1 this.2) kA nr
      have thU : ThA (upd H' r (.lst (lv ++ [.ref a]))) (lv ++ [.ref a]) (l ++ [z]) := (th.snoc ra).fr up1
      have raU := up1.tup _ _ ra
      refine ⟨.inl ⟨rfl, _, SqL.of er3⟩, _, er3, sz5 (show lv.length + 1 ≤ 100000 by rw [th.len]; omega), _, .inl raU, _, atI_nat (j := 1) rfl, ?_⟩
      intro x H2 nx sx ix
      have k2 := kU.same sx
      have nxH : H x = none := fr_none up (fun z => by
        have := kU.nd.2.2 nx
        simp only [List.mem_cons, List.not_mem_nil, or_false] at z
        exact z.elim this.1 this.2) nx
      have bn : (l.length + 1) * ((t.length + 1) * (t.length + 1)) ≤ 41 * (41 * 41) := Nat.mul_le_mul (by omega) sq
      refine ⟨dm, db, m, n, false, z.2, rfl, rfl, ix, k2, hse, hfo, by omega, zlt.2, by omega, fun G ths st N' fG kG nN sA fin' _ => ?_⟩
      obtain ⟨sv, T, tv, i, e, _, sv1⟩ := sA.ex
      have er2 := sx _ _ (show upd H' r (.lst (lv ++ [.ref a])) r = _ from upd_same)
      have nd := k2.nd.1 er2
      have er' : G r = some (.lst (lv ++ [.ref a])) := fG.keep _ _ er2 (by
        simp only [List.mem_cons, List.not_mem_nil, or_false, not_or]
        exact ⟨(fun z => by subst z; rw [upd_same] at nx; cases nx), nd.1, nd.2⟩)
      have fN : Fr [dm, db] H G := by
        refine ⟨fun b o eb nb => fG.keep b o (sx _ _ (up.keep b o eb nb)) fun z => ?_, fun b xs h => fG.tup b xs ((Fr.of (A := []) sx).tup b xs (up.tup b xs h))⟩
        rcases List.mem_cons.mp z with z | z
        · subst z; rw [nxH] at eb; cases eb
        · exact nb z
      refine ⟨_, i, _, rfl, z.2, by omega, (hPv _ _ _).mpr ⟨sv, st, _, l ++ [z], N', rfl, fN, kG, ?_, er', (thU.fr (A := []) (.of sx)).fr fG, sv1, ?_, zlt.2, fin', st0, fin0, fun l2 h => ?_⟩⟩
      · rw [List.length_append, List.length_singleton, Nat.succ_mul (l.length + 1)]
        omega
      · rw [List.length_append, List.length_singleton]
        omega
      · rw [List.append_assoc]
        exact ct _ (.cons fin' h)
  obtain ⟨b, g3, _, _, hv⟩ := g3
  obtain ⟨sv, st, lv, l, n, rfl, fr, kA, nl, er3, th, stv, lb, bt, fin, st0, fin0, ct⟩ := (hPv _ _ _).mp g3
  simp only [tSeq, tAsg, tCB, tCons, tVar, tNil, gName, tRet, tRetN, tDrop, tNext, tIfS, tTest, tB, tOr, tAnd, tNot, tIf, tOrV, tAndV, tNotV, tChain, rI0, rI, rU, tUn, tC, tOp, rNe, rEq, tCall, tPart, tNoPart, tSl, tM0, tM1, tTup, tLst, tAug, gTup, gCons, gNil, rAdd, rSub, tNever, tBreak, tCont, L2.start, scSS, scII, scBB, ipI, sS, dS, d1, mkS, sL, nc1, nc2, Int.natCast_inj, List.map_cons, List.map_nil, List.length_cons, List.length_nil, List.replicate, List.cons_append, List.nil_append, List.append_nil, List.getElem?_cons_zero, List.getElem?_cons_succ, List.set_cons_zero, List.set_cons_succ, Option.some.injEq, V.str.injEq, V.int.injEq, V.bl.injEq, V.ref.injEq, List.cons.injEq, and_true, true_and, exists_eq_left', exists_eq_left, exists_eq, exists_eq', exists_and_left, exists_and_right, and_assoc, exists_const, reduceCtorEq, if_true, if_false, ite_true, ite_false, Bool.false_eq_true, decide_true, decide_false, Bool.not_true, Bool.not_false, cxK]
  have e0 : sv = .non := by simpa using hv
  subst e0
  have est : st = none := by
    cases st with
    | none => rfl
    | some z => obtain ⟨a, e, _⟩ := stv; cases e
  subst est
  have := ct [] .nil
  rw [List.append_nil] at this
  exact q H3 r lv st0 l n fr kA nr er3 th fin0 this (by omega)
end
end Pd

namespace Pd
open PySem PySem.Spec PyProof.Rows L2
open SX (S)
theorem Cts.in_ {m : Mac} {t : List Nat} : ∀ {st : Option (Nat × Nat)} {l : List (Nat × Nat)} {b : Nat}, Fin m t false b st → Cts m t st l → ∀ z ∈ l, z.1 < z.2 ∧ z.2 ≤ t.length
  | _, _, b, f, .nil, z, h => by cases h
  | _, _, b, f, .cons g c, z, h => by
    rcases List.mem_cons.mp h with h | h
    · subst h
      have := Mac.Mat_lt (f.som _ rfl).2.1
      exact this
    · exact Cts.in_ g c z h
/-- all stretches: empty ones between -/
def strL (nu n : Nat) : Nat → List (Nat × Nat) → List (Nat × Nat)
  | f, [] => emL nu n f (n + 1)
  | f, z :: l => emL nu n f z.1 ++ (z :: strL nu n (z.2 + 1) l)
theorem emL_len {nu n a b : Nat} : (emL nu n a b).length ≤ b - a := by
  unfold emL
  rw [List.length_map]
  exact Nat.le_trans (List.length_filter_le _ _) (by rw [List.length_range']; omega)
theorem ThA.app {H : Hp} {vs us : List V} {a b : List (Nat × Nat)} (h : ThA H vs a) (g : ThA H us b) : ThA H (vs ++ us) (a ++ b) := by
  refine ⟨by simp [h.len, g.len], fun i z e => ?_⟩
  by_cases k : i < a.length
  · rw [List.getElem?_append_left k] at e
    obtain ⟨c, h1, h2⟩ := h.at_ i z e
    exact ⟨c, by rw [List.getElem?_append_left (by rw [h.len]; exact k)]; exact h1, h2⟩
  · rw [List.getElem?_append_right (by omega)] at e
    obtain ⟨c, h1, h2⟩ := g.at_ _ z e
    exact ⟨c, by rw [List.getElem?_append_right (by rw [h.len]; omega), h.len]; exact h1, h2⟩
section
variable {P : Program} {w : World} {K : PySem.W.Frag} {mg : Str → Option Value} {base : Heap} {CE CA CS : Addr}
def sp_strin (CA : Addr) : Sp := fun vs H Q _ => ∃ (p dm db : Addr) (m : Mac) (N : Nat) (t : List Nat), vs = [.ref p, .str (S t)] ∧ AutM CA H p dm db m N ∧ m.se.length = m.fo.length ∧ m.fo.length ≤ 50000 ∧ t.length ≤ 40 ∧ N ≤ 1000 ∧
  ∀ H' r lv st l N', Fr [dm, db] H H' → AutM CA H' p dm db m N' → H r = none → H' r = some (.lst lv) → ThA H' lv (strL m.nu t.length 0 l) → Fin m t false 0 st → Cts m t st l → Q (.ref r) H'
theorem scstretches_in : FnScope ["automaton", "text", "rows", "first", "start", "end"] ["automaton", "text"] (defScope (topS 18)) := ⟨rfl, rfl, rfl, by decide +kernel, rfl, by decide +kernel, by decide +kernel⟩
theorem ok_strin (T : BiA mg) (c_cuts_in : Cal P w K mg base 6 "cuts_in" (sp_cutsin CA)) (c_empty_ones : Cal P w K mg base 2 "empty_ones" (sp_empty CA)) (D : Dfn K mg "stretches_in" (topS 18) ["automaton", "text"]) : Cal P w K mg base 7 "stretches_in" (sp_strin CA) := by
  refine cal_of D scstretches_in (fun vs H Q E h => ?_) (fun f cdv A outer s H vs Q E hr h => ?_)
  · obtain ⟨p, dm, db, m, N, t, rfl, _⟩ := h
    rfl
  obtain ⟨p, dm, db, m, N, t, rfl, hA, hse, hfo, htl, hN, q⟩ := h
  refine ⟨_, (C8.pss_cut (ps_set (i := 2) scstretches_in.nd rfl (Or.inl rfl) (pe_lst pa_nil))
      (C8.pss_cut (ps_set (i := 3) scstretches_in.nd rfl (Or.inl rfl) pe_int)
      (C8.pss_cut (ps_for PassesOwn.never rfl (pi_list (pc c_cuts_in hr (by decide) rfl (pa_cons (pv 0) (pa_cons (pv 1) pa_nil)))) (pg_tupK (n := 2) rfl rfl (pgs_cons (pg_name (i := 4) scstretches_in.nd rfl (Or.inl rfl)) (pgs_cons (pg_name (i := 5) scstretches_in.nd rfl (Or.inl rfl)) pgs_nil))) (C8.pss_cut (ps_expr (pe_bm PySem.F.plainAttrs_list PySem.F.slot_list_extend PySem.F.type_list_extend mt_extend (pv 2) (pa_cons (pc c_empty_ones hr (by decide) rfl (pa_cons (pv 0) (pa_cons (pv 1) (pa_cons (pv 3) (pa_cons (pv 4) pa_nil))))) pa_nil)))
      (C8.pss_cut (ps_expr (pe_bm PySem.F.plainAttrs_list PySem.F.slot_list_append PySem.F.type_list_append mt_append (pv 2) (pa_cons (pe_tup (pa_cons (pv 4) (pa_cons (pv 5) pa_nil))) pa_nil)))
      (pss_one (ps_set (i := 3) scstretches_in.nd rfl (Or.inl rfl) (pe_op op_add (pv 5) pe_int))))))
      (pss_one (ps_ret (pe_op op_cat (pv 2) (pc c_empty_ones hr (by decide) rfl (pa_cons (pv 0) (pa_cons (pv 1) (pa_cons (pv 3) (pa_cons (pe_op op_add (pe_callB call_len_str (by rfl) T.b_len (by decide +kernel) (pa_cons (pv 1) pa_nil)) pe_int) pa_nil))))))))))), ?_⟩
  have tlz : t.length ≤ sizeLine := sz5 (by omega)
  obtain ⟨M1, hM1⟩ : ∃ M : Option V → L2.St → Hp → Prop, ∀ v σ' H', M v σ' H' ↔ ∃ r : Addr, σ' = [some (.ref p), some (.str (S t)), some (.ref r), v, none, none] ∧ Same H H' ∧ H r = none ∧ H' r = some (.lst []) := ⟨_, fun _ _ _ => Iff.rfl⟩
  refine ⟨M1 none, ?_, fun σ1 H1 g1 => ?_⟩
  · simp only [tSeq, tAsg, tCB, tCons, tVar, tNil, gName, tRet, tRetN, tDrop, tNext, tIfS, tTest, tB, tOr, tAnd, tNot, tIf, tOrV, tAndV, tNotV, tChain, rI0, rI, rU, tUn, tC, tOp, rNe, rEq, tCall, tPart, tNoPart, tSl, tM0, tM1, tTup, tLst, tAug, gTup, gCons, gNil, rAdd, rSub, tNever, tBreak, tCont, L2.start, scSS, scII, scBB, ipI, sS, dS, d1, mkS, sL, nc1, nc2, Int.natCast_inj, List.map_cons, List.map_nil, List.length_cons, List.length_nil, List.replicate, List.cons_append, List.nil_append, List.append_nil, List.getElem?_cons_zero, List.getElem?_cons_succ, List.set_cons_zero, List.set_cons_succ, Option.some.injEq, V.str.injEq, V.int.injEq, V.bl.injEq, V.ref.injEq, List.cons.injEq, and_true, true_and, exists_eq_left', exists_eq_left, exists_eq, exists_eq', exists_and_left, exists_and_right, and_assoc, exists_const, reduceCtorEq, if_true, if_false, ite_true, ite_false, Bool.false_eq_true, decide_true, decide_false, Bool.not_true, Bool.not_false, cxK]
    exact ⟨Nat.zero_le _, fun r nr => (hM1 _ _ _).mpr ⟨r, rfl, same_upd nr, nr, upd_same⟩⟩
  obtain ⟨r, rfl, s1, nr, er⟩ := (hM1 _ _ _).mp g1
  refine ⟨M1 (some (.int 0)), ?_, fun σ1 H1 g1 => ?_⟩
  · simp only [tSeq, tAsg, tCB, tCons, tVar, tNil, gName, tRet, tRetN, tDrop, tNext, tIfS, tTest, tB, tOr, tAnd, tNot, tIf, tOrV, tAndV, tNotV, tChain, rI0, rI, rU, tUn, tC, tOp, rNe, rEq, tCall, tPart, tNoPart, tSl, tM0, tM1, tTup, tLst, tAug, gTup, gCons, gNil, rAdd, rSub, tNever, tBreak, tCont, L2.start, scSS, scII, scBB, ipI, sS, dS, d1, mkS, sL, nc1, nc2, Int.natCast_inj, List.map_cons, List.map_nil, List.length_cons, List.length_nil, List.replicate, List.cons_append, List.nil_append, List.append_nil, List.getElem?_cons_zero, List.getElem?_cons_succ, List.set_cons_zero, List.set_cons_succ, Option.some.injEq, V.str.injEq, V.int.injEq, V.bl.injEq, V.ref.injEq, List.cons.injEq, and_true, true_and, exists_eq_left', exists_eq_left, exists_eq, exists_eq', exists_and_left, exists_and_right, and_assoc, exists_const, reduceCtorEq, if_true, if_false, ite_true, ite_false, Bool.false_eq_true, decide_true, decide_false, Bool.not_true, Bool.not_false, cxK]
    exact (hM1 _ _ _).mpr ⟨r, rfl, s1, nr, er⟩
  obtain ⟨r, rfl, s1, nr, er⟩ := (hM1 _ _ _).mp g1
  obtain ⟨Me, hMe⟩ : ∃ M : L2.St → Hp → Prop, ∀ σ' H', M σ' H' ↔ ∃ (f n : Nat) (lv : List V) (acc l : List (Nat × Nat)) (st : Option (Nat × Nat)) (v4 v5 : Option V), σ' = [some (.ref p), some (.str (S t)), some (.ref r), some (.int (f : Nat)), v4, v5] ∧ Fr [dm, db] H H' ∧ AutM CA H' p dm db m n ∧ H' r = some (.lst lv) ∧ ThA H' lv acc ∧ Fin m t false 0 st ∧ Cts m t st l ∧ acc ++ emL m.nu t.length f (t.length + 1) = strL m.nu t.length 0 l ∧ f ≤ 100 ∧ acc.length ≤ 5000 := ⟨_, fun _ _ => Iff.rfl⟩
  refine ⟨Me, ?_, fun σ3 H3 g3 => ?_⟩
  · simp only [tSeq, tAsg, tCB, tCons, tVar, tNil, gName, tRet, tRetN, tDrop, tNext, tIfS, tTest, tB, tOr, tAnd, tNot, tIf, tOrV, tAndV, tNotV, tChain, rI0, rI, rU, tUn, tC, tOp, rNe, rEq, tCall, tPart, tNoPart, tSl, tM0, tM1, tTup, tLst, tAug, gTup, gCons, gNil, rAdd, rSub, tNever, tBreak, tCont, L2.start, scSS, scII, scBB, ipI, sS, dS, d1, mkS, sL, nc1, nc2, Int.natCast_inj, List.map_cons, List.map_nil, List.length_cons, List.length_nil, List.replicate, List.cons_append, List.nil_append, List.append_nil, List.getElem?_cons_zero, List.getElem?_cons_succ, List.set_cons_zero, List.set_cons_succ, Option.some.injEq, V.str.injEq, V.int.injEq, V.bl.injEq, V.ref.injEq, List.cons.injEq, and_true, true_and, exists_eq_left', exists_eq_left, exists_eq, exists_eq', exists_and_left, exists_and_right, and_assoc, exists_const, reduceCtorEq, if_true, if_false, ite_true, ite_false, Bool.false_eq_true, decide_true, decide_false, Bool.not_true, Bool.not_false, cxK, sp_cutsin, eFoL]
    refine ⟨dm, db, m, N, hA.same s1, hse, hfo, htl, hN, fun H2 c cv st l n2 f2 k2 nc ec thc fin ct ll => ⟨⟨_, SqL.of ec⟩, ?_⟩⟩
    have fH : Fr [dm, db] H H2 := (Fr.of s1).trans f2
    have nd1 := (hA.same s1).nd.1 er
    have er2 : H2 r = some (.lst []) := f2.keep _ _ er (by simp only [List.mem_cons, List.not_mem_nil, or_false, not_or]; exact nd1)
    have cr : c ≠ r := fun z => by rw [z, er] at nc; cases nc
    have inz := ct.in_ fin
    obtain ⟨Pv, hPv⟩ : ∃ Pv : Nat → L2.St → Hp → Prop, ∀ i σ' H', Pv i σ' H' ↔ ∃ (f n : Nat) (lv : List V) (acc : List (Nat × Nat)) (v4 v5 : Option V), σ' = [some (.ref p), some (.str (S t)), some (.ref r), some (.int (f : Nat)), v4, v5] ∧ Fr [dm, db] H H' ∧ AutM CA H' p dm db m n ∧ H' r = some (.lst lv) ∧ ThA H' lv acc ∧ H' c = some (.lst cv) ∧ ThA H' cv l ∧ acc ++ strL m.nu t.length f (l.drop i) = strL m.nu t.length 0 l ∧ f ≤ 100 ∧ acc.length ≤ i * 100 := ⟨_, fun _ _ _ => Iff.rfl⟩
    have pD : p ∉ [dm, db] := fun z => by
      obtain ⟨v0, v1, v4, ob⟩ := hA.ob
      have := hA.nd.2.1 ob
      simp only [List.mem_cons, List.not_mem_nil, or_false] at z
      exact z.elim this.1 this.2
    refine foL cv Pv ((hPv _ _ _).mpr ⟨0, n2, [], [], none, none, rfl, fH, k2, er2, .nil, ec, thc, by simp, by omega, Nat.zero_le _⟩) (fun i σ' H' _ g => ?_) (fun i y σ' H' hy g => ?_) (fun σ' H' g => ?_)
    · obtain ⟨_, _, _, _, _, _, rfl, _, _, _, _, e, _⟩ := (hPv _ _ _).mp g
      exact SqL.of e
    · obtain ⟨f, n, lv, acc, v4, v5, rfl, fr, kA, e1, th, e2, thl, eq, fl, al⟩ := (hPv _ _ _).mp g
      have il : i < l.length := by rw [← thl.len]; exact (List.getElem?_eq_some_iff.mp hy).1
      obtain ⟨z, hz⟩ : ∃ z, l[i]? = some z := ⟨_, List.getElem?_eq_getElem il⟩
      obtain ⟨a, h1, h2⟩ := thl.at_ i z hz
      rw [hy] at h1
      cases h1
      have zz := inz z (List.mem_of_getElem? hz)
      have dr : l.drop i = z :: l.drop (i + 1) := by
        rw [List.drop_eq_getElem_cons il]
        congr 1
        rw [List.getElem?_eq_getElem il] at hz
        exact Option.some.inj hz
      rw [dr, strL] at eq
      obtain ⟨N1, hN1⟩ : ∃ M : L2.St → Hp → Prop, ∀ σ' G, M σ' G ↔ ∃ lv1, σ' = [some (.ref p), some (.str (S t)), some (.ref r), some (.int (f : Nat)), some (.int (z.1 : Nat)), some (.int (z.2 : Nat))] ∧ Fr [dm, db] H G ∧ AutM CA G p dm db m n ∧ G r = some (.lst lv1) ∧ ThA G lv1 (acc ++ emL m.nu t.length f z.1) ∧ G c = some (.lst cv) ∧ ThA G cv l := ⟨_, fun _ _ => Iff.rfl⟩
      have el := @emL_len m.nu t.length f z.1
      simp only [tSeq, tAsg, tCB, tCons, tVar, tNil, gName, tRet, tRetN, tDrop, tNext, tIfS, tTest, tB, tOr, tAnd, tNot, tIf, tOrV, tAndV, tNotV, tChain, rI0, rI, rU, tUn, tC, tOp, rNe, rEq, tCall, tPart, tNoPart, tSl, tM0, tM1, tTup, tLst, tAug, gTup, gCons, gNil, rAdd, rSub, tNever, tBreak, tCont, L2.start, scSS, scII, scBB, ipI, sS, dS, d1, mkS, sL, nc1, nc2, Int.natCast_inj, List.map_cons, List.map_nil, List.length_cons, List.length_nil, List.replicate, List.cons_append, List.nil_append, List.append_nil, List.getElem?_cons_zero, List.getElem?_cons_succ, List.set_cons_zero, List.set_cons_succ, Option.some.injEq, V.str.injEq, V.int.injEq, V.bl.injEq, V.ref.injEq, List.cons.injEq, and_true, true_and, exists_eq_left', exists_eq_left, exists_eq, exists_eq', exists_and_left, exists_and_right, and_assoc, exists_const, reduceCtorEq, if_true, if_false, ite_true, ite_false, Bool.false_eq_true, decide_true, decide_false, Bool.not_true, Bool.not_false, cxK]
      refine ⟨_, .inl h2, rfl, _, _, rfl, _, _, rfl, rfl, N1, ?_, fun σ5 H5 g5 => ?_⟩
      · simp only [tSeq, tAsg, tCB, tCons, tVar, tNil, gName, tRet, tRetN, tDrop, tNext, tIfS, tTest, tB, tOr, tAnd, tNot, tIf, tOrV, tAndV, tNotV, tChain, rI0, rI, rU, tUn, tC, tOp, rNe, rEq, tCall, tPart, tNoPart, tSl, tM0, tM1, tTup, tLst, tAug, gTup, gCons, gNil, rAdd, rSub, tNever, tBreak, tCont, L2.start, scSS, scII, scBB, ipI, sS, dS, d1, mkS, sL, nc1, nc2, Int.natCast_inj, List.map_cons, List.map_nil, List.length_cons, List.length_nil, List.replicate, List.cons_append, List.nil_append, List.append_nil, List.getElem?_cons_zero, List.getElem?_cons_succ, List.set_cons_zero, List.set_cons_succ, Option.some.injEq, V.str.injEq, V.int.injEq, V.bl.injEq, V.ref.injEq, List.cons.injEq, and_true, true_and, exists_eq_left', exists_eq_left, exists_eq, exists_eq', exists_and_left, exists_and_right, and_assoc, exists_const, reduceCtorEq, if_true, if_false, ite_true, ite_false, Bool.false_eq_true, decide_true, decide_false, Bool.not_true, Bool.not_false, cxK, tBM, rExtend, sp_empty]
        refine ⟨.inl ⟨rfl, _, SqL.of e1⟩, dm, db, m, ⟨n, kA⟩, by omega, by omega, by omega, fun G r1 l1 sG n1 eG th1 => ?_⟩
        have eG1 := sG _ _ e1
        have rn : r1 ≠ r := fun h => by rw [h, e1] at n1; cases n1
        have up1 : Fr [r] G (upd G r (.lst (lv ++ l1))) := Fr.refl.upd (.inl (.head _)) eG1 rfl
        have al2 : i * 100 ≤ 40 * 100 := Nat.mul_le_mul_right _ (by omega)
        refine ⟨lv, eG1, l1, eG, by rw [th.len, th1.len]; exact sz5 (by omega), (hN1 _ _).mpr ⟨_, rfl, (fr.same sG).upd (.inr nr) eG1 rfl, ?_, upd_same, ?_, (upd_ne cr).trans (sG _ _ e2), (thl.fr (A := []) (.of sG)).fr up1⟩⟩
        · exact hA.updN (o := .lst []) (fr.same sG) pD (kA.same sG) nr
        · exact ((th.fr (A := []) (.of sG)).app th1).fr up1
      obtain ⟨lv1, rfl, fr5, k5, e5, th5, c5, thl5⟩ := (hN1 _ _).mp g5
      obtain ⟨N2, hN2⟩ : ∃ M : L2.St → Hp → Prop, ∀ σ' G, M σ' G ↔ ∃ lv1, σ' = [some (.ref p), some (.str (S t)), some (.ref r), some (.int (f : Nat)), some (.int (z.1 : Nat)), some (.int (z.2 : Nat))] ∧ Fr [dm, db] H G ∧ AutM CA G p dm db m n ∧ G r = some (.lst lv1) ∧ ThA G lv1 (acc ++ emL m.nu t.length f z.1 ++ [z]) ∧ G c = some (.lst cv) ∧ ThA G cv l := ⟨_, fun _ _ => Iff.rfl⟩
      have al2 : i * 100 ≤ 40 * 100 := Nat.mul_le_mul_right _ (by omega)
      refine ⟨N2, ?_, fun σ6 H6 g6 => ?_⟩
      · simp only [tSeq, tAsg, tCB, tCons, tVar, tNil, gName, tRet, tRetN, tDrop, tNext, tIfS, tTest, tB, tOr, tAnd, tNot, tIf, tOrV, tAndV, tNotV, tChain, rI0, rI, rU, tUn, tC, tOp, rNe, rEq, tCall, tPart, tNoPart, tSl, tM0, tM1, tTup, tLst, tAug, gTup, gCons, gNil, rAdd, rSub, tNever, tBreak, tCont, L2.start, scSS, scII, scBB, ipI, sS, dS, d1, mkS, sL, nc1, nc2, Int.natCast_inj, List.map_cons, List.map_nil, List.length_cons, List.length_nil, List.replicate, List.cons_append, List.nil_append, List.append_nil, List.getElem?_cons_zero, List.getElem?_cons_succ, List.set_cons_zero, List.set_cons_succ, Option.some.injEq, V.str.injEq, V.int.injEq, V.bl.injEq, V.ref.injEq, List.cons.injEq, and_true, true_and, exists_eq_left', exists_eq_left, exists_eq, exists_eq', exists_and_left, exists_and_right, and_assoc, exists_const, reduceCtorEq, if_true, if_false, ite_true, ite_false, Bool.false_eq_true, decide_true, decide_false, Bool.not_true, Bool.not_false, cxK, tBM, rAppend]
        refine ⟨.inl ⟨rfl, _, SqL.of e5⟩, by decide, fun pa npa => ?_⟩
        have sp := same_upd (o := .tup [V.int (z.1 : Nat), V.int (z.2 : Nat)]) npa
        have e5' := sp _ _ e5
        have up1 : Fr [r] (upd H5 pa (.tup [V.int (z.1 : Nat), V.int (z.2 : Nat)])) (upd (upd H5 pa (.tup [V.int (z.1 : Nat), V.int (z.2 : Nat)])) r (.lst (lv1 ++ [.ref pa]))) := Fr.refl.upd (.inl (.head _)) e5' rfl
        refine ⟨lv1, e5', sz5 (show lv1.length + 1 ≤ 100000 by rw [th5.len, List.length_append]; omega), (hN2 _ _).mpr ⟨_, rfl, (fr5.same sp).upd (.inr nr) e5' rfl, hA.updN (o := .lst []) (fr5.same sp) pD (k5.same sp) nr, upd_same, ?_, (upd_ne cr).trans (sp _ _ c5), (thl5.fr (A := []) (.of sp)).fr up1⟩⟩
        exact ((th5.fr (A := []) (.of sp)).snoc (.inl upd_same)).fr up1
      obtain ⟨lv2, rfl, fr6, k6, e6, th6, c6, thl6⟩ := (hN2 _ _).mp g6
      simp only [tSeq, tAsg, tCB, tCons, tVar, tNil, gName, tRet, tRetN, tDrop, tNext, tIfS, tTest, tB, tOr, tAnd, tNot, tIf, tOrV, tAndV, tNotV, tChain, rI0, rI, rU, tUn, tC, tOp, rNe, rEq, tCall, tPart, tNoPart, tSl, tM0, tM1, tTup, tLst, tAug, gTup, gCons, gNil, rAdd, rSub, tNever, tBreak, tCont, L2.start, scSS, scII, scBB, ipI, sS, dS, d1, mkS, sL, nc1, nc2, Int.natCast_inj, List.map_cons, List.map_nil, List.length_cons, List.length_nil, List.replicate, List.cons_append, List.nil_append, List.append_nil, List.getElem?_cons_zero, List.getElem?_cons_succ, List.set_cons_zero, List.set_cons_succ, Option.some.injEq, V.str.injEq, V.int.injEq, V.bl.injEq, V.ref.injEq, List.cons.injEq, and_true, true_and, exists_eq_left', exists_eq_left, exists_eq, exists_eq', exists_and_left, exists_and_right, and_assoc, exists_const, reduceCtorEq, if_true, if_false, ite_true, ite_false, Bool.false_eq_true, decide_true, decide_false, Bool.not_true, Bool.not_false, cxK]
      refine (hPv _ _ _).mpr ⟨z.2 + 1, n, lv2, _, _, _, rfl, fr6, k6, e6, th6, c6, thl6, ?_, by omega, ?_⟩
      · rw [← eq]
        simp only [List.append_assoc, List.singleton_append]
      · simp only [List.length_append, List.length_singleton]
        rw [Nat.succ_mul]
        omega
    · obtain ⟨f, n, lv, acc, v4, v5, rfl, fr, kA, e1, th, e2, thl, eq, fl, al⟩ := (hPv _ _ _).mp g
      rw [thl.len, List.drop_length, strL] at eq
      rw [thl.len] at al
      have : l.length * 100 ≤ 40 * 100 := Nat.mul_le_mul_right _ (by omega)
      exact (hMe _ _).mpr ⟨f, n, lv, acc, l, st, v4, v5, rfl, fr, kA, e1, th, fin, ct, eq, fl, by omega⟩
  obtain ⟨f, n, lv, acc, l, st, v4, v5, rfl, fr, kA, er3, th, fin, ct, eq, fl, al⟩ := (hMe _ _).mp g3
  simp only [tSeq, tAsg, tCB, tCons, tVar, tNil, gName, tRet, tRetN, tDrop, tNext, tIfS, tTest, tB, tOr, tAnd, tNot, tIf, tOrV, tAndV, tNotV, tChain, rI0, rI, rU, tUn, tC, tOp, rNe, rEq, tCall, tPart, tNoPart, tSl, tM0, tM1, tTup, tLst, tAug, gTup, gCons, gNil, rAdd, rSub, tNever, tBreak, tCont, L2.start, scSS, scII, scBB, ipI, sS, dS, d1, mkS, sL, nc1, nc2, Int.natCast_inj, List.map_cons, List.map_nil, List.length_cons, List.length_nil, List.replicate, List.cons_append, List.nil_append, List.append_nil, List.getElem?_cons_zero, List.getElem?_cons_succ, List.set_cons_zero, List.set_cons_succ, Option.some.injEq, V.str.injEq, V.int.injEq, V.bl.injEq, V.ref.injEq, List.cons.injEq, and_true, true_and, exists_eq_left', exists_eq_left, exists_eq, exists_eq', exists_and_left, exists_and_right, and_assoc, exists_const, reduceCtorEq, if_true, if_false, ite_true, ite_false, Bool.false_eq_true, decide_true, decide_false, Bool.not_true, Bool.not_false, cxK, sp_empty, sL]
  have el := @emL_len m.nu t.length f (t.length + 1)
  refine ⟨tlz, dm, db, m, ⟨n, kA⟩, by omega, by omega, by omega, fun G r1 l1 sG n1 e1 th1 => ⟨r, r1, lv, l1, rfl, rfl, sG _ _ er3, e1, by rw [th.len, th1.len]; exact sz5 (by omega), fun r2 n2 => ?_⟩⟩
  have s2 := same_upd (o := .lst (lv ++ l1)) n2
  have fG : Fr [dm, db] H (upd G r2 (.lst (lv ++ l1))) := (fr.same sG).same s2
  refine q _ r2 _ st l n fG ((kA.same sG).same s2) (fr_none (fr.same sG) (fun z => ?_) n2) upd_same ?_ fin ct
  · have := (kA.same sG).nd.2.2 n2
    simp only [List.mem_cons, List.not_mem_nil, or_false] at z
    exact z.elim this.1 this.2
  · rw [← eq]
    exact ((th.fr (A := []) (.of sG)).fr (A := []) (.of s2)).app (th1.fr (A := []) (.of s2))
end
end Pd

namespace Pd
open PySem PySem.Spec PyProof.Rows L2
open SX (S)
/-- the first stretch at b or behind it, as long as it can be -/
structure Fo (R : Rl) (n b : Nat) (r : Option (Nat × Nat)) : Prop where
  non : r = none → ∀ s e, b ≤ s → s ≤ e → e ≤ n → ¬ R s e
  som : ∀ z, r = some z → b ≤ z.1 ∧ z.1 ≤ z.2 ∧ z.2 ≤ n ∧ R z.1 z.2 ∧ (∀ s e, b ≤ s → s < z.1 → s ≤ e → e ≤ n → ¬ R s e) ∧ (∀ e, z.1 ≤ e → e ≤ n → R z.1 e → e ≤ z.2)
theorem Fo.uniq {R : Rl} {n b : Nat} {r r' : Option (Nat × Nat)} (h : Fo R n b r) (g : Fo R n b r') : r = r' := by
  cases r with
  | none => cases r' with
    | none => rfl
    | some z => obtain ⟨h1, h2, h3, h4, _⟩ := g.som z rfl; exact absurd h4 (h.non rfl _ _ h1 h2 h3)
  | some z => cases r' with
    | none => obtain ⟨h1, h2, h3, h4, _⟩ := h.som z rfl; exact absurd h4 (g.non rfl _ _ h1 h2 h3)
    | some y =>
      obtain ⟨h1, h2, h3, h4, h5, h6⟩ := h.som z rfl
      obtain ⟨g1, g2, g3, g4, g5, g6⟩ := g.som y rfl
      have e1 : z.1 = y.1 := by
        rcases Nat.lt_trichotomy z.1 y.1 with q | q | q
        · exact absurd h4 (g5 _ _ h1 q h2 h3)
        · exact q
        · exact absurd g4 (h5 _ _ g1 q g2 g3)
      have e2 := h6 y.2 (by omega) g3 (by rw [e1]; exact g4)
      have e3 := g6 z.2 (by omega) h3 (by rw [← e1]; exact h4)
      congr 1
      exact Prod.ext e1 (by omega)
/-- .. by the search, where nothing is empty at b -/
theorem fo_search {m : Mac} {t : List Nat} {R : Rl} {b : Nat} {st : Option (Nat × Nat)} (k : Mk m t R) (hb : b ≤ t.length) (hn : ¬ R b b) (f : Fin m t false b st) : Fo R t.length b (if st = none ∧ m.nu.testBit (nuI t.length t.length) = true then some (t.length, t.length) else st) := by
  -- no empty stretch ahead of the end
  have mid : ∀ s, b ≤ s → s < t.length → ¬ R s s := fun s h1 h2 h3 => by
    have e3 := (k.em s (by omega)).mp h3
    rw [decide_eq_false (show ¬ s = t.length by omega)] at e3
    by_cases z : s = 0
    · exact hn (by
        have : b = s := by omega
        rw [this]; exact h3)
    · rw [decide_eq_false z] at e3
      have up := k.n0 e3
      refine hn ((k.em b hb).mpr ?_)
      cases decide (b = 0) <;> cases decide (b = t.length)
      · exact e3
      · exact up.2.1
      · exact up.1
      · exact up.2.2
  have long : ∀ {s e}, s < e → e ≤ t.length → (m.Mat t false s e ↔ R s e) := fun h1 h2 => k.mat h1 h2
  cases st with
  | some z =>
    rw [if_neg (by simp)]
    obtain ⟨h1, h2, h3, h4⟩ := f.som z rfl
    have lt := Mac.Mat_lt h2
    refine ⟨fun e => (by cases e), fun y hy => ?_⟩
    cases hy
    refine ⟨h1, by omega, lt.2, (long lt.1 lt.2).mp h2, fun s e g1 g2 g3 g4 g5 => ?_, fun e g1 g2 g3 => ?_⟩
    · by_cases q : s = e
      · subst q; exact mid s g1 (by omega) g5
      · exact h3 s e g1 g2 ((long (by omega) g4).mpr g5)
    · by_cases q : z.1 = e
      · omega
      · exact h4 e ((long (by omega) g2).mpr g3)
  | none =>
    have non := f.non rfl
    by_cases z : m.nu.testBit (nuI t.length t.length) = true
    · rw [if_pos ⟨rfl, z⟩]
      refine ⟨fun e => (by cases e), fun y hy => ?_⟩
      cases hy
      refine ⟨hb, Nat.le_refl _, Nat.le_refl _, (k.em _ (Nat.le_refl _)).mpr z, fun s e g1 g2 g3 g4 g5 => ?_, fun e g1 g2 _ => g2⟩
      by_cases q : s = e
      · subst q; exact mid s g1 g2 g5
      · exact non s e g1 ((long (by omega) g4).mpr g5)
    · rw [if_neg (fun h => z h.2)]
      refine ⟨fun _ s e g1 g2 g3 g4 => ?_, fun y hy => by cases hy⟩
      by_cases q : s = e
      · subst q
        by_cases q2 : s = t.length
        · rw [q2] at g4
          exact z ((k.em _ (Nat.le_refl _)).mp g4)
        · exact mid s g1 (by omega) g4
      · exact non s e g1 ((long (by omega) g3).mpr g4)
section
variable {P : Program} {w : World} {K : PySem.W.Frag} {mg : Str → Option Value} {base : Heap} {CE CA CS : Addr}
def sp_foundin (CA : Addr) : Sp := fun vs H Q _ => ∃ (p dm db : Addr) (m : Mac) (N : Nat) (t : List Nat) (R : Rl) (b : Nat), vs = [.ref p, .str (S t), .int (b : Nat)] ∧ AutM CA H p dm db m N ∧ OnT m t R ∧ N ≤ 1000 ∧ b ≤ t.length ∧
  ∀ H' v r N', Fr [dm, db] H H' → AutM CA H' p dm db m N' → StV H' v r → Fo R t.length b r → Q v H'
theorem scfound_in : FnScope ["automaton", "text", "begin", "stretch"] ["automaton", "text", "begin"] (defScope (topS 20)) := ⟨rfl, rfl, rfl, by decide +kernel, rfl, by decide +kernel, by decide +kernel⟩
theorem ok_foundin (hAS : CS ≠ CA) (T : BiA mg) (o_Automaton : OCls K CA nsA) (o_Search : OCls K CS nsS) (K_Search : MakC P w K mg base 4 CS "Search" (sp_sinit CA CS)) (M_Automaton_takes_empty : MetC P w K mg base 1 CA "takes_empty" (sp_tempty CA)) (c_longest_from : Cal P w K mg base 2 "longest_from" (sp_long CA)) (D : Dfn K mg "found_in" (topS 20) ["automaton", "text", "begin"]) : Cal P w K mg base 6 "found_in" (sp_foundin CA) := by
  refine cal_of D scfound_in (fun vs H Q E h => ?_) (fun f cdv A outer s H vs Q E hr h => ?_)
  · obtain ⟨p, dm, db, m, N, t, R, b, rfl, _⟩ := h
    rfl
  obtain ⟨p, dm, db, m, N, t, R, b, rfl, hA, hO, hN, hb, q⟩ := h
  refine ⟨_, (C8.pss_cut (ps_if (pt_val (pm M_Automaton_takes_empty o_Automaton (by decide +kernel) mono_var hr (by decide) (pv 0) (pa_cons (pv 2) (pa_cons (pe_callB call_len_str (by rfl) T.b_len (by decide +kernel) (pa_cons (pv 1) pa_nil)) pa_nil)))) (pss_one (ps_ret (pe_tup (pa_cons (pv 2) (pa_cons (pc c_longest_from hr (by decide) rfl (pa_cons (pv 0) (pa_cons (pv 1) (pa_cons (pv 2) pa_nil)))) pa_nil))))) pss_nil)
      (C8.pss_cut (ps_set (i := 3) scfound_in.nd rfl (Or.inl rfl) (pe_fldC (k := 1) o_Search (pmk (ns := nsS) K_Search hr (by decide) (by rfl) (pa_cons (pv 0) (pa_cons (pv 1) (pa_cons (pv 2) (pa_cons pe_bl pa_nil))))) rfl))
      (C8.pss_cut (ps_if (PW.pt (pw_and (pt_cmpR op_isN (pv 3) pe_non (nomark _)) (pw_and1 (pt_val (pm M_Automaton_takes_empty o_Automaton (by decide +kernel) mono_var hr (by decide) (pv 0) (pa_cons (pe_callB call_len_str (by rfl) T.b_len (by decide +kernel) (pa_cons (pv 1) pa_nil)) (pa_cons (pe_callB call_len_str (by rfl) T.b_len (by decide +kernel) (pa_cons (pv 1) pa_nil)) pa_nil))))))) (pss_one (ps_ret (pe_tup (pa_cons (pe_callB call_len_str (by rfl) T.b_len (by decide +kernel) (pa_cons (pv 1) pa_nil)) (pa_cons (pe_callB call_len_str (by rfl) T.b_len (by decide +kernel) (pa_cons (pv 1) pa_nil)) pa_nil))))) pss_nil)
      (pss_one (ps_ret (pv 3)))))), ?_⟩
  have htl := hO.tl
  have tlz : t.length ≤ sizeLine := sz5 (by omega)
  obtain ⟨v0, v1, v4, ob⟩ := hA.ob
  obtain ⟨M1, hM1⟩ : ∃ M : L2.St → Hp → Prop, ∀ σ' H', M σ' H' ↔ σ' = [some (.ref p), some (.str (S t)), some (.int (b : Nat)), none] ∧ H' = H ∧ ¬ R b b := ⟨_, fun _ _ => Iff.rfl⟩
  refine ⟨M1, ?_, fun σ1 H1 g1 => ?_⟩
  · simp only [tSeq, tAsg, tCB, tCons, tVar, tNil, gName, tRet, tRetN, tDrop, tNext, tIfS, tTest, tB, tOr, tAnd, tNot, tIf, tOrV, tAndV, tNotV, tChain, rI0, rI, rU, tUn, tC, tOp, rNe, rEq, tCall, tPart, tNoPart, tSl, tM0, tM1, tTup, tLst, tAug, gTup, gCons, gNil, rAdd, rSub, tNever, tBreak, tCont, L2.start, scSS, scII, scBB, ipI, sS, dS, d1, mkS, sL, nc1, nc2, Int.natCast_inj, List.map_cons, List.map_nil, List.length_cons, List.length_nil, List.replicate, List.cons_append, List.nil_append, List.append_nil, List.getElem?_cons_zero, List.getElem?_cons_succ, List.set_cons_zero, List.set_cons_succ, Option.some.injEq, V.str.injEq, V.int.injEq, V.bl.injEq, V.ref.injEq, List.cons.injEq, and_true, true_and, exists_eq_left', exists_eq_left, exists_eq, exists_eq', exists_and_left, exists_and_right, and_assoc, exists_const, reduceCtorEq, if_true, if_false, ite_true, ite_false, Bool.false_eq_true, decide_true, decide_false, Bool.not_true, Bool.not_false, cxK, tMetC, sp_tempty, sp_long, sL]
    refine ⟨⟨_, ob⟩, tlz, dm, db, m, ⟨N, hA⟩, ?_⟩
    have em := hO.ok.em b hb
    by_cases z : m.nu.testBit (nuI b t.length) = true
    · rw [if_pos z]
      refine ⟨dm, db, m, N, hA, R, hO, hN, hb, fun G n r fG kG lg => ⟨by decide, fun pa npa => ?_⟩⟩
      have sp := same_upd (o := .tup [V.int (b : Nat), optNV r]) npa
      have Rb := em.mpr z
      cases r with
      | none => exact absurd Rb (lg.non rfl b (Nat.le_refl _) hb)
      | some e =>
        obtain ⟨h1, h2, h3, h4⟩ := lg.som e rfl
        refine q _ (.ref pa) (some (b, e)) n (fG.same sp) (kG.same sp) ⟨pa, rfl, .inl upd_same⟩ ⟨fun e => (by cases e), fun y hy => ?_⟩
        cases hy
        exact ⟨Nat.le_refl _, h1, h2, h3, fun s e' g1 g2 => (by simp only at g2; omega), fun e' g1 g2 g3 => h4 e' g1 g2 g3⟩
    · rw [if_neg z]
      exact (hM1 _ _).mpr ⟨rfl, rfl, fun h => z (em.mp h)⟩
  obtain ⟨rfl, rfl, hn⟩ := (hM1 _ _).mp g1
  obtain ⟨M2, hM2⟩ : ∃ M : L2.St → Hp → Prop, ∀ σ' H', M σ' H' ↔ ∃ (sv : V) (st : Option (Nat × Nat)) (n : Nat), σ' = [some (.ref p), some (.str (S t)), some (.int (b : Nat)), some sv] ∧ Fr [dm, db] H1 H' ∧ AutM CA H' p dm db m n ∧ StV H' sv st ∧ Fin m t false b st := ⟨_, fun _ _ => Iff.rfl⟩
  refine ⟨M2, ?_, fun σ2 H2 g2 => ?_⟩
  · simp only [tSeq, tAsg, tCB, tCons, tVar, tNil, gName, tRet, tRetN, tDrop, tNext, tIfS, tTest, tB, tOr, tAnd, tNot, tIf, tOrV, tAndV, tNotV, tChain, rI0, rI, rU, tUn, tC, tOp, rNe, rEq, tCall, tPart, tNoPart, tSl, tM0, tM1, tTup, tLst, tAug, gTup, gCons, gNil, rAdd, rSub, tNever, tBreak, tCont, L2.start, scSS, scII, scBB, ipI, sS, dS, d1, mkS, sL, nc1, nc2, Int.natCast_inj, List.map_cons, List.map_nil, List.length_cons, List.length_nil, List.replicate, List.cons_append, List.nil_append, List.append_nil, List.getElem?_cons_zero, List.getElem?_cons_succ, List.set_cons_zero, List.set_cons_succ, Option.some.injEq, V.str.injEq, V.int.injEq, V.bl.injEq, V.ref.injEq, List.cons.injEq, and_true, true_and, exists_eq_left', exists_eq_left, exists_eq, exists_eq', exists_and_left, exists_and_right, and_assoc, exists_const, reduceCtorEq, if_true, if_false, ite_true, ite_false, Bool.false_eq_true, decide_true, decide_false, Bool.not_true, Bool.not_false, cxK, tFldC, tMakC, sp_sinit]
    intro x H2 nx sx ix
    have k2 := hA.same sx
    have sq : (t.length + 1) * (t.length + 1) ≤ 101 * 101 := Nat.mul_le_mul (by omega) (by omega)
    refine ⟨ix, dm, db, m, N, k2, hO.sl, hO.fl, by omega, hb, by omega, fun H' ths st N' fr kA nN sA fin _ => ?_⟩
    obtain ⟨sv, T, tv, i, e, _, sv1⟩ := sA.ex
    exact ⟨_, i, _, rfl, (hM2 _ _).mpr ⟨sv, st, N', rfl, Fr.bir sx fr nx, kA, sv1, fin⟩⟩
  obtain ⟨sv, st, n, rfl, fr, kA, stv, fin⟩ := (hM2 _ _).mp g2
  obtain ⟨_, _, _, ob2⟩ := kA.ob
  have fo := fo_search hO.ok hb hn fin
  obtain ⟨M3, hM3⟩ : ∃ M : L2.St → Hp → Prop, ∀ σ' H', M σ' H' ↔ σ' = [some (.ref p), some (.str (S t)), some (.int (b : Nat)), some sv] ∧ H' = H2 ∧ ¬ (st = none ∧ m.nu.testBit (nuI t.length t.length) = true) := ⟨_, fun _ _ => Iff.rfl⟩
  refine ⟨M3, ?_, fun σ3 H3 g3 => ?_⟩
  · simp only [tSeq, tAsg, tCB, tCons, tVar, tNil, gName, tRet, tRetN, tDrop, tNext, tIfS, tTest, tB, tOr, tAnd, tNot, tIf, tOrV, tAndV, tNotV, tChain, rI0, rI, rU, tUn, tC, tOp, rNe, rEq, tCall, tPart, tNoPart, tSl, tM0, tM1, tTup, tLst, tAug, gTup, gCons, gNil, rAdd, rSub, tNever, tBreak, tCont, L2.start, scSS, scII, scBB, ipI, sS, dS, d1, mkS, sL, nc1, nc2, Int.natCast_inj, List.map_cons, List.map_nil, List.length_cons, List.length_nil, List.replicate, List.cons_append, List.nil_append, List.append_nil, List.getElem?_cons_zero, List.getElem?_cons_succ, List.set_cons_zero, List.set_cons_succ, Option.some.injEq, V.str.injEq, V.int.injEq, V.bl.injEq, V.ref.injEq, List.cons.injEq, and_true, true_and, exists_eq_left', exists_eq_left, exists_eq, exists_eq', exists_and_left, exists_and_right, and_assoc, exists_const, reduceCtorEq, if_true, if_false, ite_true, ite_false, Bool.false_eq_true, decide_true, decide_false, Bool.not_true, Bool.not_false, cxK, tMetC, sp_tempty, sL]
    cases st with
    | some z =>
      obtain ⟨a, rfl, _⟩ := stv
      rw [if_neg (by simp)]
      exact (hM3 _ _).mpr ⟨rfl, rfl, fun h => by cases h.1⟩
    | none =>
      cases stv
      rw [if_pos (by rfl)]
      refine ⟨⟨_, ob2⟩, tlz, tlz, dm, db, m, ⟨n, kA⟩, ?_⟩
      by_cases z : m.nu.testBit (nuI t.length t.length) = true
      · rw [if_pos z]
        rw [if_pos ⟨rfl, z⟩] at fo
        refine ⟨tlz, tlz, by decide, fun pa npa => ?_⟩
        have sp := same_upd (o := .tup [V.int (t.length : Nat), V.int (t.length : Nat)]) npa
        exact q _ (.ref pa) (some (t.length, t.length)) n (fr.same sp) (kA.same sp) ⟨pa, rfl, .inl upd_same⟩ fo
      · rw [if_neg z]
        exact (hM3 _ _).mpr ⟨rfl, rfl, fun h => z h.2⟩
  obtain ⟨rfl, rfl, hne⟩ := (hM3 _ _).mp g3
  rw [if_neg hne] at fo
  simp only [tSeq, tAsg, tCB, tCons, tVar, tNil, gName, tRet, tRetN, tDrop, tNext, tIfS, tTest, tB, tOr, tAnd, tNot, tIf, tOrV, tAndV, tNotV, tChain, rI0, rI, rU, tUn, tC, tOp, rNe, rEq, tCall, tPart, tNoPart, tSl, tM0, tM1, tTup, tLst, tAug, gTup, gCons, gNil, rAdd, rSub, tNever, tBreak, tCont, L2.start, scSS, scII, scBB, ipI, sS, dS, d1, mkS, sL, nc1, nc2, Int.natCast_inj, List.map_cons, List.map_nil, List.length_cons, List.length_nil, List.replicate, List.cons_append, List.nil_append, List.append_nil, List.getElem?_cons_zero, List.getElem?_cons_succ, List.set_cons_zero, List.set_cons_succ, Option.some.injEq, V.str.injEq, V.int.injEq, V.bl.injEq, V.ref.injEq, List.cons.injEq, and_true, true_and, exists_eq_left', exists_eq_left, exists_eq, exists_eq', exists_and_left, exists_and_right, and_assoc, exists_const, reduceCtorEq, if_true, if_false, ite_true, ite_false, Bool.false_eq_true, decide_true, decide_false, Bool.not_true, Bool.not_false, cxK]
  exact q H3 sv st n fr kA stv fo
end
end Pd

namespace Pd
open PySem PySem.Spec PyProof.Rows L2
/-- a def of the text with one default -/
structure DfD (v : V) (K : PySem.W.Frag) (mg : Str → Option Value) (x : Str) (st : Stmt) (ps : List Str) : Prop where
  ex : ∃ (f : Addr) (fd : FuncData), FunD K x x (defArgs st) (defBody st) (defScope st) [v] [] f fd ∧ mg x = some (.ref f) ∧ ps = psOf fd
section
variable {P : Program} {w : World} {K : PySem.W.Frag} {mg : Str → Option Value} {base : Heap}
theorem recD {v : V} {x : Str} {st : Stmt} {f : Addr} {fd : FuncData} (F : FunD K x x (defArgs st) (defBody st) (defScope st) [v] [] f fd) : Rec K f fd := by
  obtain ⟨oc, od, dV, kV, doc, pm, an, cdv, ct, osl, _, l, _⟩ := F.ex
  exact ⟨oc, od, osl, l⟩
theorem cal_ofD {v : V} {x : Str} {st : Stmt} {N ps : List Str} {k : Nat} {sp : Sp} (D : DfD v K mg x st ps) (hb : ∀ f fd, FunD K x x (defArgs st) (defBody st) (defScope st) [v] [] f fd → Binds K fd ps []) (Sc : FnScope N ps (defScope st)) (len : ∀ vs H Q E, sp vs H Q E → vs.length = ps.length)
    (hbody : ∀ (f : Addr) (cdv : Value) (A : Around) (outer : List Env) (s : Shared) (H : Hp) (vs : List V) (Q : VK) (E : XK), Room k (A.deeper (envOfC x (defScope st) s.heap.objs.size f cdv)) → sp vs H Q E →
      ∃ t, PSs (cxOf CX0 P w K mg base N x (defScope st) f cdv A outer s H E).nox (defBody st) t ∧ t { nx := fun _ H' => Q .non H', rt := Q } (start N vs) H) : Cal P w K mg base (k + 1) x sp := by
  obtain ⟨f, fd, F, m, e⟩ := D.ex
  exact ⟨f, fd, ps, F.ok Sc len (fun cdv A outer s H vs Q E hr h => by
    obtain ⟨t, h1, q⟩ := hbody f cdv A outer s H vs Q E hr h
    exact ⟨t, h1.nox, q⟩), m, F.kp, hb f fd F, recD F, e⟩
/-- n values and keywords ks fill every parameter -/
structure KP (K : PySem.W.Frag) (mg : Str → Option Value) (x : Str) (n : Nat) (ks ps : List Str) : Prop where
  ex : ∃ (f : Addr) (fd : FuncData), mg x = some (.ref f) ∧ Rec K f fd ∧ ps = psOf fd ∧ KBn K fd ps n ks (· ++ ·) (· ++ ·)
end
section
variable {X : Cx} {k j n : Nat} {sp : Sp} {x : Str} {ks ps : List Str} {p pos : Pos} {e : Expr} {es : List Expr} {kws : List Keyword} {t tk : TA}
theorem pkP (c : Cal X.prog X.w X.K X.mg X.base k x sp) (b : KP X.K X.mg x n ks ps) (hr : Room j X.A) (hk : k ≤ j) (hg : Gl X x) (ha : PA X (e :: es) t) (hkw : PK X kws tk)
    (hall : (backToKw pos (keywordEach kws X.env)).all (·.1.isSome) = true := by rfl) (hks : (backToKw pos (keywordEach kws X.env)).filterMap (·.1) = ks := by rfl)
    (hdb : (x == ("__debug__" : Str)) = false := by decide) (he : starEach (e :: es) X.env = (false, eval e X.env) :: starEach es X.env := by rfl)
    (hpl : ((backTo pos (starEach (e :: es) X.env)).any (·.1) || (backToKw pos (keywordEach kws X.env)).any (·.1.isNone)) = false := by rfl) :
    PE X (.Call (.Name x p) (e :: es) kws pos) (tCallN n ks.length sp (· ++ ·) E0 t tk) := by
  obtain ⟨f, fd, ps1, F, hm, kp, bi, ⟨oc, od, osl, r⟩, eps⟩ := c.ex
  obtain ⟨f', fd', hm', ⟨oc', od', osl', r'⟩, eq, B⟩ := b.ex
  obtain rfl : f = f' := by
    rw [hm] at hm'
    cases hm'
    rfl
  obtain rfl : fd = fd' := by
    rw [r] at r'
    injection r' with h1
    injection h1 with h2 h3 h4 h5
    injection h4
  have ep : ps1 = ps := eps.trans eq.symm
  subst ep
  exact pe_callN F (hr.mono hk) hg hm kp B (fun pins σ H s e s' I c => c.elim) ha hkw hall hks hdb he hpl
end
end Pd

namespace Pd
open PySem PySem.Spec PyProof.Rows L2
open SX (S)
/-! ### what is told of a pattern on a text hangs on what it takes alone -/
theorem onT {t : List Nat} {pat : Pat} (w : pat.Wf) (n : pat.n ≤ 50000) (ht : ∀ c ∈ t, c ∈ allSigns) (tl : t.length ≤ 100) : OnT (macOf pat) t (M t pat) := by
  have z := built_sz pat ⟨[], []⟩ rfl
  have f := z.fo
  exact ⟨macOf_ok ht w, z.eq, by show (built pat ⟨[], []⟩).1.fo.length ≤ 50000; rw [f]; show 0 + pat.n ≤ 50000; omega, tl⟩
def Alike (n : Nat) (R S : Rl) : Prop := ∀ s e, s ≤ e → e ≤ n → (R s e ↔ S s e)
theorem OnT.mat {m : Mac} {t : List Nat} {R : Rl} (h : OnT m t R) (s e : Nat) : m.Mat t false s e ↔ s < e ∧ e ≤ t.length ∧ R s e := by
  constructor
  · intro k
    have := Mac.Mat_lt k
    exact ⟨this.1, this.2, (h.ok.mat this.1 this.2).mp k⟩
  · rintro ⟨h1, h2, h3⟩
    exact (h.ok.mat h1 h2).mpr h3
theorem mat_alike {m m' : Mac} {t : List Nat} {R R' : Rl} (h : OnT m t R) (h' : OnT m' t R') (a : Alike t.length R R') (s e : Nat) : m.Mat t false s e ↔ m'.Mat t false s e := by
  rw [h.mat, h'.mat]
  exact ⟨fun ⟨a1, a2, a3⟩ => ⟨a1, a2, (a s e (by omega) a2).mp a3⟩, fun ⟨a1, a2, a3⟩ => ⟨a1, a2, (a s e (by omega) a2).mpr a3⟩⟩
theorem fin_uniq {m m' : Mac} {t : List Nat} {R R' : Rl} (h : OnT m t R) (h' : OnT m' t R') (a : Alike t.length R R') {b : Nat} {st st' : Option (Nat × Nat)} (f : Fin m t false b st) (f' : Fin m' t false b st') : st = st' := by
  have e := mat_alike h h' a
  cases st with
  | none => cases st' with
    | none => rfl
    | some z => obtain ⟨g1, g2, _⟩ := f'.som z rfl; exact absurd ((e _ _).mpr g2) (f.non rfl _ _ g1)
  | some z => cases st' with
    | none => obtain ⟨g1, g2, _⟩ := f.som z rfl; exact absurd ((e _ _).mp g2) (f'.non rfl _ _ g1)
    | some y =>
      obtain ⟨h1, h2, h3, h4⟩ := f.som z rfl
      obtain ⟨g1, g2, g3, g4⟩ := f'.som y rfl
      have e1 : z.1 = y.1 := by
        rcases Nat.lt_trichotomy z.1 y.1 with q | q | q
        · exact absurd ((e _ _).mp h2) (g3 _ _ h1 q)
        · exact q
        · exact absurd ((e _ _).mpr g2) (h3 _ _ g1 q)
      have e2 := h4 y.2 (by rw [e1]; exact (e _ _).mpr g2)
      have e3 := g4 z.2 (by rw [← e1]; exact (e _ _).mp h2)
      congr 1
      exact Prod.ext e1 (by omega)
theorem cts_uniq {m m' : Mac} {t : List Nat} {R R' : Rl} (h : OnT m t R) (h' : OnT m' t R') (a : Alike t.length R R') : ∀ {st : Option (Nat × Nat)} {l l' : List (Nat × Nat)}, Cts m t st l → Cts m' t st l' → l = l'
  | _, _, _, .nil, .nil => rfl
  | _, _, _, .cons f c, .cons f' c' => by
    have := fin_uniq h h' a f f'
    subst this
    rw [cts_uniq h h' a c c']
def CutsOf (R : Rl) (t : List Nat) (l : List (Nat × Nat)) : Prop := ∃ m st, OnT m t R ∧ Fin m t false 0 st ∧ Cts m t st l
def StrsOf (R : Rl) (t : List Nat) (l : List (Nat × Nat)) : Prop := ∃ m st l0, OnT m t R ∧ Fin m t false 0 st ∧ Cts m t st l0 ∧ l = strL m.nu t.length 0 l0
theorem CutsOf.uniq {R R' : Rl} {t : List Nat} {l l' : List (Nat × Nat)} (h : CutsOf R t l) (g : CutsOf R' t l') (a : Alike t.length R R') : l = l' := by
  obtain ⟨m, st, o, f, c⟩ := h
  obtain ⟨m', st', o', f', c'⟩ := g
  have := fin_uniq o o' a f f'
  subst this
  exact cts_uniq o o' a c c'
theorem emL_alike {m m' : Mac} {t : List Nat} {R R' : Rl} (h : OnT m t R) (h' : OnT m' t R') (al : Alike t.length R R') {a b : Nat} (hb : b ≤ t.length + 1) : emL m.nu t.length a b = emL m'.nu t.length a b := by
  unfold emL
  congr 1
  refine List.filter_congr fun x hx => ?_
  have hx : x ≤ t.length := by
    rw [List.mem_range'] at hx
    obtain ⟨i, h1, h2⟩ := hx
    omega
  have e : m.nu.testBit (nuI x t.length) = true ↔ m'.nu.testBit (nuI x t.length) = true := (h.ok.em x hx).symm.trans ((al x x (Nat.le_refl _) hx).trans (h'.ok.em x hx))
  cases h1 : m.nu.testBit (nuI x t.length) <;> cases h2 : m'.nu.testBit (nuI x t.length) <;> simp_all
theorem strL_alike {m m' : Mac} {t : List Nat} {R R' : Rl} (h : OnT m t R) (h' : OnT m' t R') (al : Alike t.length R R') : ∀ (l : List (Nat × Nat)) (f : Nat), (∀ z ∈ l, z.1 < z.2 ∧ z.2 ≤ t.length) → strL m.nu t.length f l = strL m'.nu t.length f l
  | [], f, _ => emL_alike h h' al (Nat.le_refl _)
  | z :: l, f, hl => by
    rw [strL, strL, emL_alike h h' al (by have := hl z (.head _); omega), strL_alike h h' al l _ fun y hy => hl y (.tail _ hy)]
theorem StrsOf.uniq {R R' : Rl} {t : List Nat} {l l' : List (Nat × Nat)} (h : StrsOf R t l) (g : StrsOf R' t l') (a : Alike t.length R R') : l = l' := by
  obtain ⟨m, st, l0, o, f, c, rfl⟩ := h
  obtain ⟨m', st', l1, o', f', c', rfl⟩ := g
  have := fin_uniq o o' a f f'
  subst this
  have := cts_uniq o o' a c c'
  subst this
  exact strL_alike o o' a l0 0 (c.in_ f)
theorem Lg.alike {R R' : Rl} {s n : Nat} {r r' : Option Nat} (h : Lg R s n r) (g : Lg R' s n r') (a : Alike n R R') : r = r' :=
  h.uniq ⟨fun e e' h1 h2 h3 => g.non e e' h1 h2 ((a _ _ h1 h2).mp h3), fun e he => by
    obtain ⟨h1, h2, h3, h4⟩ := g.som e he
    exact ⟨h1, h2, (a _ _ h1 h2).mpr h3, fun e' g1 g2 g3 => h4 e' g1 g2 ((a _ _ g1 g2).mp g3)⟩⟩
theorem Fo.alike {R R' : Rl} {n b : Nat} {r r' : Option (Nat × Nat)} (h : Fo R n b r) (g : Fo R' n b r') (a : Alike n R R') : r = r' :=
  h.uniq ⟨fun e s e' h1 h2 h3 h4 => g.non e s e' h1 h2 h3 ((a _ _ h2 h3).mp h4), fun z hz => by
    obtain ⟨h1, h2, h3, h4, h5, h6⟩ := g.som z hz
    exact ⟨h1, h2, h3, (a _ _ h2 h3).mpr h4, fun s e g1 g2 g3 g4 g5 => h5 s e g1 g2 g3 g4 ((a _ _ g3 g4).mp g5), fun e g1 g2 g3 => h6 e g1 g2 ((a _ _ g1 g2).mp g3)⟩⟩
/-- a pattern and a text that a function of patterns is asked of -/
structure Ask (K : PySem.W.Frag) (H : Hp) (v : V) (pat : Pat) (t : List Nat) : Prop where
  pt : PtD K H v pat
  d : pat.d < 12
  n : pat.n ≤ 50000
  ts : ∀ c ∈ t, c ∈ allSigns
  tl : t.length ≤ 40
section
variable {P : Program} {w : World} {K : PySem.W.Frag} {mg : Str → Option Value} {base : Heap} {CE CA CS : Addr}
theorem PtD.same {H H' : Hp} {v : V} {p : Pat} (h : PtD K H v p) (s : Same H H') : PtD K H' v p := ⟨dp_same s _ _ h.dp, h.wf, h.sm⟩
/-- Automaton(pattern), then what is asked of it -/
theorem frAut {H H2 H3 H4 : Hp} {x dm db : Addr} (nx : H x = none) (sx : Same H H2) (f : Fr [x] H2 H3) (n1 : H2 dm = none) (n2 : H2 db = none) (g : Fr [dm, db] H3 H4) : Same H H4 := fun b o e => by
  have e2 := sx _ _ e
  refine g.keep b o (f.keep b o e2 fun z => ?_) fun z => ?_
  · cases List.mem_singleton.mp z; rw [nx] at e; cases e
  · simp only [List.mem_cons, List.not_mem_nil, or_false] at z
    rcases z with rfl | rfl
    · rw [n1] at e2; cases e2
    · rw [n2] at e2; cases e2
def sp_takes (K : PySem.W.Frag) : Sp := fun vs H Q _ => ∃ (v : V) (pat : Pat) (t : List Nat) (s e : Nat), vs = [v, .str (S t), .int (s : Nat), .int (e : Nat)] ∧ Ask K H v pat t ∧ s ≤ e ∧ e ≤ t.length ∧ ∀ H' (b : Bool), Same H H' → (b = true ↔ M t pat s e) → Q (.bl b) H'
theorem sctakes : FnScope ["pattern", "text", "start", "end"] ["pattern", "text", "start", "end"] (defScope (topS 22)) := ⟨rfl, rfl, rfl, by decide +kernel, rfl, by decide +kernel, by decide +kernel⟩
theorem ok_takes (K_Automaton : MakC P w K mg base 30 CA "Automaton" (sp_ainit K CA)) (c_is_taken : Cal P w K mg base 2 "is_taken" (sp_taken CA)) (D : Dfn K mg "takes" (topS 22) ["pattern", "text", "start", "end"]) : Cal P w K mg base 32 "takes" (sp_takes K) := by
  refine cal_of D sctakes (fun vs H Q E h => ?_) (fun f cdv A outer s H vs Q E hr h => ?_)
  · obtain ⟨v, pat, t, s, e, rfl, _⟩ := h
    rfl
  obtain ⟨v, pat, t, a, e, rfl, hk, hae, het, q⟩ := h
  refine ⟨_, (pss_one (ps_ret (pc c_is_taken hr (by decide) rfl (pa_cons (pmk (ns := nsA) K_Automaton hr (by decide) (by rfl) (pa_cons (pv 0) pa_nil)) (pa_cons (pv 1) (pa_cons (pv 2) (pa_cons (pv 3) pa_nil))))))), ?_⟩
  simp only [tSeq, tAsg, tCB, tCons, tVar, tNil, gName, tRet, tRetN, tDrop, tNext, tIfS, tTest, tB, tOr, tAnd, tNot, tIf, tOrV, tAndV, tNotV, tChain, rI0, rI, rU, tUn, tC, tOp, rNe, rEq, tCall, tPart, tNoPart, tSl, tM0, tM1, tTup, tLst, tAug, gTup, gCons, gNil, rAdd, rSub, tNever, tBreak, tCont, L2.start, scSS, scII, scBB, ipI, sS, dS, d1, mkS, sL, nc1, nc2, Int.natCast_inj, List.map_cons, List.map_nil, List.length_cons, List.length_nil, List.replicate, List.cons_append, List.nil_append, List.append_nil, List.getElem?_cons_zero, List.getElem?_cons_succ, List.set_cons_zero, List.set_cons_succ, Option.some.injEq, V.str.injEq, V.int.injEq, V.bl.injEq, V.ref.injEq, List.cons.injEq, and_true, true_and, exists_eq_left', exists_eq_left, exists_eq, exists_eq', exists_and_left, exists_and_right, and_assoc, exists_const, reduceCtorEq, if_true, if_false, ite_true, ite_false, Bool.false_eq_true, decide_true, decide_false, Bool.not_true, Bool.not_false, cxK, tMakC, sp_ainit, sp_taken]
  intro x H2 nx sx ix
  refine ⟨ix, pat, hk.pt.same sx, hk.d, hk.n, fun H3 dm db f3 k3 n1 n2 => ?_⟩
  have on := onT hk.pt.wf hk.n hk.ts (by have := hk.tl; omega)
  exact ⟨dm, db, macOf pat, 1, k3, M t pat, on, by omega, hae, het, (by obtain ⟨_, _, _, _, _, _, _, _, _, _, _, _, _, _, ne⟩ := k3.ex; exact ne), fun H4 N' b f4 k4 hb => q H4 b (frAut nx sx f3 n1 n2 f4) hb⟩
def sp_longest (K : PySem.W.Frag) : Sp := fun vs H Q _ => ∃ (v : V) (pat : Pat) (t : List Nat) (s : Nat), vs = [v, .str (S t), .int (s : Nat)] ∧ Ask K H v pat t ∧ s ≤ t.length ∧ ∀ H' r, Same H H' → Lg (M t pat) s t.length r → Q (optNV r) H'
theorem sclongest : FnScope ["pattern", "text", "start"] ["pattern", "text", "start"] (defScope (topS 23)) := ⟨rfl, rfl, rfl, by decide +kernel, rfl, by decide +kernel, by decide +kernel⟩
theorem ok_longest (K_Automaton : MakC P w K mg base 30 CA "Automaton" (sp_ainit K CA)) (c_longest_from : Cal P w K mg base 2 "longest_from" (sp_long CA)) (D : Dfn K mg "longest" (topS 23) ["pattern", "text", "start"]) : Cal P w K mg base 32 "longest" (sp_longest K) := by
  refine cal_of D sclongest (fun vs H Q E h => ?_) (fun f cdv A outer s H vs Q E hr h => ?_)
  · obtain ⟨v, pat, t, s, rfl, _⟩ := h
    rfl
  obtain ⟨v, pat, t, a, rfl, hk, hat, q⟩ := h
  refine ⟨_, (pss_one (ps_ret (pc c_longest_from hr (by decide) rfl (pa_cons (pmk (ns := nsA) K_Automaton hr (by decide) (by rfl) (pa_cons (pv 0) pa_nil)) (pa_cons (pv 1) (pa_cons (pv 2) pa_nil)))))), ?_⟩
  simp only [tSeq, tAsg, tCB, tCons, tVar, tNil, gName, tRet, tRetN, tDrop, tNext, tIfS, tTest, tB, tOr, tAnd, tNot, tIf, tOrV, tAndV, tNotV, tChain, rI0, rI, rU, tUn, tC, tOp, rNe, rEq, tCall, tPart, tNoPart, tSl, tM0, tM1, tTup, tLst, tAug, gTup, gCons, gNil, rAdd, rSub, tNever, tBreak, tCont, L2.start, scSS, scII, scBB, ipI, sS, dS, d1, mkS, sL, nc1, nc2, Int.natCast_inj, List.map_cons, List.map_nil, List.length_cons, List.length_nil, List.replicate, List.cons_append, List.nil_append, List.append_nil, List.getElem?_cons_zero, List.getElem?_cons_succ, List.set_cons_zero, List.set_cons_succ, Option.some.injEq, V.str.injEq, V.int.injEq, V.bl.injEq, V.ref.injEq, List.cons.injEq, and_true, true_and, exists_eq_left', exists_eq_left, exists_eq, exists_eq', exists_and_left, exists_and_right, and_assoc, exists_const, reduceCtorEq, if_true, if_false, ite_true, ite_false, Bool.false_eq_true, decide_true, decide_false, Bool.not_true, Bool.not_false, cxK, tMakC, sp_ainit, sp_long]
  intro x H2 nx sx ix
  refine ⟨ix, pat, hk.pt.same sx, hk.d, hk.n, fun H3 dm db f3 k3 n1 n2 => ?_⟩
  have on := onT hk.pt.wf hk.n hk.ts (by have := hk.tl; omega)
  exact ⟨dm, db, macOf pat, 1, k3, M t pat, on, by omega, hat, fun H4 N' r f4 k4 hb => q H4 r (frAut nx sx f3 n1 n2 f4) hb⟩
def sp_found (K : PySem.W.Frag) : Sp := fun vs H Q _ => ∃ (v : V) (pat : Pat) (t : List Nat) (s : Nat), vs = [v, .str (S t), .int (s : Nat)] ∧ Ask K H v pat t ∧ s ≤ t.length ∧ ∀ H' u r, Same H H' → StV H' u r → Fo (M t pat) t.length s r → Q u H'
theorem scfound : FnScope ["pattern", "text", "start"] ["pattern", "text", "start"] (defScope (topS 24)) := ⟨rfl, rfl, rfl, by decide +kernel, rfl, by decide +kernel, by decide +kernel⟩
theorem bi_found (f : Addr) (fd : FuncData) (F : FunD K "found" "found" (defArgs (topS 24)) (defBody (topS 24)) (defScope (topS 24)) [V.int 0] [] f fd) : Binds K fd ["pattern", "text", "start"] [] := by
  obtain ⟨ds, v, b⟩ := F.binds1 (ps := ["pattern", "text", "start"]) 3 1 (by simp) rfl (fun T kV doc pm an cdv ct us its h1 h2 => by
    match us, its, h1, h2 with
    | [u1, u2, u3], [i1], _, _ => exact ⟨_, rfl, rfl⟩)
  cases v
  exact b
theorem kp_found (D : DfD (.int 0) K mg "found" (topS 24) ["pattern", "text", "start"]) : KP K mg "found" 2 ["start"] ["pattern", "text", "start"] := by
  obtain ⟨f, fd, F, m, e⟩ := D.ex
  refine ⟨f, fd, m, recD F, e, ?_⟩
  obtain ⟨its, b⟩ := F.kbindsD (ps := ["pattern", "text", "start"]) 2 ["start"] (fun us _ ws => us ++ ws) (by simp) (fun a _ c => a.append c) (fun T kV doc pm an cdv ct us its ws h1 h2 h3 => by
    match us, its, ws, h1, h2, h3 with
    | [u1, u2], [i1], [w1], _, _, _ => exact ⟨_, rfl, rfl⟩)
  exact b
theorem ok_found (K_Automaton : MakC P w K mg base 30 CA "Automaton" (sp_ainit K CA)) (c_found_in : Cal P w K mg base 6 "found_in" (sp_foundin CA)) (D : DfD (.int 0) K mg "found" (topS 24) ["pattern", "text", "start"]) : Cal P w K mg base 32 "found" (sp_found K) := by
  refine cal_ofD D bi_found scfound (fun vs H Q E h => ?_) (fun f cdv A outer s H vs Q E hr h => ?_)
  · obtain ⟨v, pat, t, s, rfl, _⟩ := h
    rfl
  obtain ⟨v, pat, t, a, rfl, hk, hat, q⟩ := h
  refine ⟨_, (pss_one (ps_ret (pc c_found_in hr (by decide) rfl (pa_cons (pmk (ns := nsA) K_Automaton hr (by decide) (by rfl) (pa_cons (pv 0) pa_nil)) (pa_cons (pv 1) (pa_cons (pv 2) pa_nil)))))), ?_⟩
  simp only [tSeq, tAsg, tCB, tCons, tVar, tNil, gName, tRet, tRetN, tDrop, tNext, tIfS, tTest, tB, tOr, tAnd, tNot, tIf, tOrV, tAndV, tNotV, tChain, rI0, rI, rU, tUn, tC, tOp, rNe, rEq, tCall, tPart, tNoPart, tSl, tM0, tM1, tTup, tLst, tAug, gTup, gCons, gNil, rAdd, rSub, tNever, tBreak, tCont, L2.start, scSS, scII, scBB, ipI, sS, dS, d1, mkS, sL, nc1, nc2, Int.natCast_inj, List.map_cons, List.map_nil, List.length_cons, List.length_nil, List.replicate, List.cons_append, List.nil_append, List.append_nil, List.getElem?_cons_zero, List.getElem?_cons_succ, List.set_cons_zero, List.set_cons_succ, Option.some.injEq, V.str.injEq, V.int.injEq, V.bl.injEq, V.ref.injEq, List.cons.injEq, and_true, true_and, exists_eq_left', exists_eq_left, exists_eq, exists_eq', exists_and_left, exists_and_right, and_assoc, exists_const, reduceCtorEq, if_true, if_false, ite_true, ite_false, Bool.false_eq_true, decide_true, decide_false, Bool.not_true, Bool.not_false, cxK, tMakC, sp_ainit, sp_foundin]
  intro x H2 nx sx ix
  refine ⟨ix, pat, hk.pt.same sx, hk.d, hk.n, fun H3 dm db f3 k3 n1 n2 => ?_⟩
  have on := onT hk.pt.wf hk.n hk.ts (by have := hk.tl; omega)
  exact ⟨dm, db, macOf pat, 1, k3, M t pat, on, by omega, hat, fun H4 u r N' f4 k4 hs hb => q H4 u r (frAut nx sx f3 n1 n2 f4) hs hb⟩
def sp_stretches (K : PySem.W.Frag) : Sp := fun vs H Q _ => ∃ (v : V) (pat : Pat) (t : List Nat), vs = [v, .str (S t)] ∧ Ask K H v pat t ∧ ∀ H' r lv l, Same H H' → H r = none → H' r = some (.lst lv) → ThA H' lv l → StrsOf (M t pat) t l → Q (.ref r) H'
theorem scstretches : FnScope ["pattern", "text"] ["pattern", "text"] (defScope (topS 25)) := ⟨rfl, rfl, rfl, by decide +kernel, rfl, by decide +kernel, by decide +kernel⟩
theorem ok_stretches (K_Automaton : MakC P w K mg base 30 CA "Automaton" (sp_ainit K CA)) (c_stretches_in : Cal P w K mg base 7 "stretches_in" (sp_strin CA)) (D : Dfn K mg "stretches" (topS 25) ["pattern", "text"]) : Cal P w K mg base 32 "stretches" (sp_stretches K) := by
  refine cal_of D scstretches (fun vs H Q E h => ?_) (fun f cdv A outer s H vs Q E hr h => ?_)
  · obtain ⟨v, pat, t, rfl, _⟩ := h
    rfl
  obtain ⟨v, pat, t, rfl, hk, q⟩ := h
  refine ⟨_, (pss_one (ps_ret (pc c_stretches_in hr (by decide) rfl (pa_cons (pmk (ns := nsA) K_Automaton hr (by decide) (by rfl) (pa_cons (pv 0) pa_nil)) (pa_cons (pv 1) pa_nil))))), ?_⟩
  simp only [tSeq, tAsg, tCB, tCons, tVar, tNil, gName, tRet, tRetN, tDrop, tNext, tIfS, tTest, tB, tOr, tAnd, tNot, tIf, tOrV, tAndV, tNotV, tChain, rI0, rI, rU, tUn, tC, tOp, rNe, rEq, tCall, tPart, tNoPart, tSl, tM0, tM1, tTup, tLst, tAug, gTup, gCons, gNil, rAdd, rSub, tNever, tBreak, tCont, L2.start, scSS, scII, scBB, ipI, sS, dS, d1, mkS, sL, nc1, nc2, Int.natCast_inj, List.map_cons, List.map_nil, List.length_cons, List.length_nil, List.replicate, List.cons_append, List.nil_append, List.append_nil, List.getElem?_cons_zero, List.getElem?_cons_succ, List.set_cons_zero, List.set_cons_succ, Option.some.injEq, V.str.injEq, V.int.injEq, V.bl.injEq, V.ref.injEq, List.cons.injEq, and_true, true_and, exists_eq_left', exists_eq_left, exists_eq, exists_eq', exists_and_left, exists_and_right, and_assoc, exists_const, reduceCtorEq, if_true, if_false, ite_true, ite_false, Bool.false_eq_true, decide_true, decide_false, Bool.not_true, Bool.not_false, cxK, tMakC, sp_ainit, sp_strin]
  intro x H2 nx sx ix
  refine ⟨ix, pat, hk.pt.same sx, hk.d, hk.n, fun H3 dm db f3 k3 n1 n2 => ?_⟩
  have on := onT hk.pt.wf hk.n hk.ts (by have := hk.tl; omega)
  refine ⟨dm, db, macOf pat, 1, k3, on.sl, on.fl, hk.tl, by omega, fun H4 r lv st l N' f4 k4 n4 e4 th fin ct => q H4 r lv _ (frAut nx sx f3 n1 n2 f4) ?_ e4 th ⟨_, st, l, on, fin, ct, rfl⟩⟩
  cases e : H r with
  | none => rfl
  | some o =>
    have e3 := sx _ _ e
    rw [f3.keep r o e3 (fun z => by cases List.mem_singleton.mp z; rw [nx] at e; cases e)] at n4
    cases n4
def sp_cuts (K : PySem.W.Frag) : Sp := fun vs H Q _ => ∃ (v : V) (pat : Pat) (t : List Nat), vs = [v, .str (S t)] ∧ Ask K H v pat t ∧ ∀ H' r lv l, Same H H' → H r = none → H' r = some (.lst lv) → ThA H' lv l → CutsOf (M t pat) t l → Q (.ref r) H'
theorem sccuts : FnScope ["pattern", "text"] ["pattern", "text"] (defScope (topS 26)) := ⟨rfl, rfl, rfl, by decide +kernel, rfl, by decide +kernel, by decide +kernel⟩
theorem ok_cuts (K_Automaton : MakC P w K mg base 30 CA "Automaton" (sp_ainit K CA)) (c_cuts_in : Cal P w K mg base 6 "cuts_in" (sp_cutsin CA)) (D : Dfn K mg "cuts" (topS 26) ["pattern", "text"]) : Cal P w K mg base 32 "cuts" (sp_cuts K) := by
  refine cal_of D sccuts (fun vs H Q E h => ?_) (fun f cdv A outer s H vs Q E hr h => ?_)
  · obtain ⟨v, pat, t, rfl, _⟩ := h
    rfl
  obtain ⟨v, pat, t, rfl, hk, q⟩ := h
  refine ⟨_, (pss_one (ps_ret (pc c_cuts_in hr (by decide) rfl (pa_cons (pmk (ns := nsA) K_Automaton hr (by decide) (by rfl) (pa_cons (pv 0) pa_nil)) (pa_cons (pv 1) pa_nil))))), ?_⟩
  simp only [tSeq, tAsg, tCB, tCons, tVar, tNil, gName, tRet, tRetN, tDrop, tNext, tIfS, tTest, tB, tOr, tAnd, tNot, tIf, tOrV, tAndV, tNotV, tChain, rI0, rI, rU, tUn, tC, tOp, rNe, rEq, tCall, tPart, tNoPart, tSl, tM0, tM1, tTup, tLst, tAug, gTup, gCons, gNil, rAdd, rSub, tNever, tBreak, tCont, L2.start, scSS, scII, scBB, ipI, sS, dS, d1, mkS, sL, nc1, nc2, Int.natCast_inj, List.map_cons, List.map_nil, List.length_cons, List.length_nil, List.replicate, List.cons_append, List.nil_append, List.append_nil, List.getElem?_cons_zero, List.getElem?_cons_succ, List.set_cons_zero, List.set_cons_succ, Option.some.injEq, V.str.injEq, V.int.injEq, V.bl.injEq, V.ref.injEq, List.cons.injEq, and_true, true_and, exists_eq_left', exists_eq_left, exists_eq, exists_eq', exists_and_left, exists_and_right, and_assoc, exists_const, reduceCtorEq, if_true, if_false, ite_true, ite_false, Bool.false_eq_true, decide_true, decide_false, Bool.not_true, Bool.not_false, cxK, tMakC, sp_ainit, sp_cutsin]
  intro x H2 nx sx ix
  refine ⟨ix, pat, hk.pt.same sx, hk.d, hk.n, fun H3 dm db f3 k3 n1 n2 => ?_⟩
  have on := onT hk.pt.wf hk.n hk.ts (by have := hk.tl; omega)
  refine ⟨dm, db, macOf pat, 1, k3, on.sl, on.fl, hk.tl, by omega, fun H4 r lv st l N' f4 k4 n4 e4 th fin ct _ => q H4 r lv l (frAut nx sx f3 n1 n2 f4) ?_ e4 th ⟨_, st, on, fin, ct⟩⟩
  cases e : H r with
  | none => rfl
  | some o =>
    have e3 := sx _ _ e
    rw [f3.keep r o e3 (fun z => by cases List.mem_singleton.mp z; rw [nx] at e; cases e)] at n4
    cases n4
end
end Pd

namespace Pd
open PySem PySem.Spec PyProof.Rows L2
open SX (S)
/-- int(i) of an int -/
theorem call_intI {X : Cx} : CallR X (.type "int") (fun xs H Q => ∃ i : Int, xs = [.int i] ∧ Q (.int i) H) := fun pins s σ H xs us Q I r h => call_int1 pins s σ H xs us Q I r (.inl h)
/-- .. of a truth value -/
theorem call_intB {X : Cx} : CallR X (.type "int") (fun xs H Q => ∃ b : Bool, xs = [.bl b] ∧ Q (.int (if b = true then 1 else 0)) H) := fun pins s σ H xs us Q I r h => call_int1 pins s σ H xs us Q I r (.inr h)
theorem ite2 {A B : Bool} {X Y : Prop} (h1 : X) (h2 : Y) : if A = true then (if B = true then X else Y) else Y := by
  cases A <;> cases B <;> first | exact h1 | exact h2
theorem mod_lt' {i : Int} {m : Nat} (h : 0 < m) : ∃ n : Nat, Int.fmod i m = (n : Int) ∧ n < m := fmod_pos h
section
variable {P : Program} {w : World} {K : PySem.W.Frag} {mg : Str → Option Value} {base : Heap}
def DrL (ns : List Nat) : Prop := ∀ n ∈ ns, n < 1441440
def sp_drops : Sp := fun vs H Q _ => ∃ (z : Int) (m : Nat), vs = [.int z, .int (m : Nat)] ∧ m ≤ 1000 ∧ ∀ H' p ns, H p = none → Same H H' → H' p = some (.lst (iL ns)) → ns.length = m → DrL ns → Q (.ref p) H'
theorem sclaw_drops : FnScope ["_law_cell", "_law_many", "_law_drops_here", "_law_left", "_law_stir", "_law_k"] ["_law_cell", "_law_many"] (defScope (topS 31)) := ⟨rfl, rfl, rfl, by decide +kernel, rfl, by decide +kernel, by decide +kernel⟩
theorem ok_drops (T : BiA mg) (D : Dfn K mg "_law_drops" (topS 31) ["_law_cell", "_law_many"]) : Cal P w K mg base 1 "_law_drops" sp_drops := by
  refine cal_of D sclaw_drops (fun vs H Q E h => ?_) (fun f cdv A outer s H vs Q E hr h => ?_)
  · obtain ⟨z, m, rfl, _⟩ := h
    rfl
  obtain ⟨z, m, rfl, hm, q⟩ := h
  refine ⟨_, (C8.pss_cut (ps_set (i := 2) sclaw_drops.nd rfl (Or.inl rfl) (pe_lst pa_nil))
      (C8.pss_cut (ps_set (i := 3) sclaw_drops.nd rfl (Or.inl rfl) pe_int)
      (C8.pss_cut (ps_if (pt_cmpR op_ge (pe_callB call_abs (by rfl) T.b_abs (by decide +kernel) (pa_cons (pv 0) pa_nil)) (pe_op op_pow pe_int pe_int) (nomark _)) (pss_one (ps_set (i := 3) sclaw_drops.nd rfl (Or.inl rfl) (pe_callB call_abs (by rfl) T.b_abs (by decide +kernel) (pa_cons (pe_callTy call_intI (by rfl) T.b_int (by decide +kernel) (pa_cons (pv 0) pa_nil)) pa_nil)))) pss_nil)
      (C8.pss_cut (ps_set (i := 4) sclaw_drops.nd rfl (Or.inl rfl) (pe_op op_modN (pe_callTy call_intI (by rfl) T.b_int (by decide +kernel) (pa_cons (pv 0) pa_nil)) pe_int))
      (pss_cons (ps_for PassesOwn.never rfl (pi_range1 (by rfl) T.b_range (pa_cons (pv 1) pa_nil)) (pg_name (i := 5) sclaw_drops.nd rfl (Or.inl rfl)) (pss_one (ps_if (pt_cmpR op_gt (pv 3) pe_int (nomark _)) (pss_cons (ps_expr (pe_bm PySem.F.plainAttrs_list PySem.F.slot_list_append PySem.F.type_list_append mt_append (pv 2) (pa_cons (pe_op op_modN (pe_callTy call_intI (by rfl) T.b_int (by decide +kernel) (pa_cons (pv 3) pa_nil)) pe_int) pa_nil)))
      (pss_one (ps_set (i := 3) sclaw_drops.nd rfl (Or.inl rfl) (pe_op op_fdivW (pv 3) pe_int)))) (pss_cons (ps_set (i := 4) sclaw_drops.nd rfl (Or.inl rfl) (pe_op op_modN (pe_callTy call_intI (by rfl) T.b_int (by decide +kernel) (pa_cons (pe_op op_add (pe_op op_add (pe_op op_add (pe_op op_mulW (pv 4) pe_int) (pv 0)) (pe_op op_mulW (pe_op op_mulW (pe_op op_mulW pe_int (pv 5)) (pv 5)) (pv 5))) pe_int) pa_nil)) pe_int))
      (pss_one (ps_expr (pe_bm PySem.F.plainAttrs_list PySem.F.slot_list_append PySem.F.type_list_append mt_append (pv 2) (pa_cons (pe_op op_modN (pe_op op_fdivW (pe_op op_modN (pe_callTy call_intI (by rfl) T.b_int (by decide +kernel) (pa_cons (pe_op op_mulW (pv 4) (pe_op op_add (pe_op op_fdivW (pv 4) pe_int) pe_int)) pa_nil)) pe_int) pe_int) pe_int) pa_nil))))))))
      (pss_one (ps_ret (pv 2)))))))), ?_⟩
  obtain ⟨M1, hM1⟩ : ∃ M : Option V → Option V → L2.St → Hp → Prop, ∀ x y σ' H', M x y σ' H' ↔ ∃ lq : Addr, σ' = [some (.int z), some (.int (m : Nat)), some (.ref lq), x, y, none] ∧ H lq = none ∧ H' = upd H lq (.lst []) := ⟨_, fun _ _ _ _ => Iff.rfl⟩
  refine ⟨M1 none none, ?_, fun σ1 H1 g1 => ?_⟩
  · simp only [tSeq, tAsg, tCB, tCons, tVar, tNil, gName, tRet, tRetN, tDrop, tNext, tIfS, tTest, tB, tOr, tAnd, tNot, tIf, tOrV, tAndV, tNotV, tChain, rI0, rI, rU, tUn, tC, tOp, rNe, rEq, tCall, tPart, tNoPart, tSl, tM0, tM1, tTup, tLst, tAug, gTup, gCons, gNil, rAdd, rSub, tNever, tBreak, tCont, L2.start, scSS, scII, scBB, ipI, sS, dS, d1, mkS, sL, nc1, nc2, Int.natCast_inj, List.map_cons, List.map_nil, List.length_cons, List.length_nil, List.replicate, List.cons_append, List.nil_append, List.append_nil, List.getElem?_cons_zero, List.getElem?_cons_succ, List.set_cons_zero, List.set_cons_succ, Option.some.injEq, V.str.injEq, V.int.injEq, V.bl.injEq, V.ref.injEq, List.cons.injEq, and_true, true_and, exists_eq_left', exists_eq_left, exists_eq, exists_eq', exists_and_left, exists_and_right, and_assoc, exists_const, reduceCtorEq, if_true, if_false, ite_true, ite_false, Bool.false_eq_true, decide_true, decide_false, Bool.not_true, Bool.not_false, cxK, ]
    exact ⟨Nat.zero_le _, fun lq nq => (hM1 _ _ _ _).mpr ⟨lq, rfl, nq, rfl⟩⟩
  obtain ⟨lq, rfl, nq, rfl⟩ := (hM1 _ _ _ _).mp g1
  refine ⟨M1 (some (.int 0)) none, ?_, fun σ1 H1 g1 => ?_⟩
  · simp only [tSeq, tAsg, tCB, tCons, tVar, tNil, gName, tRet, tRetN, tDrop, tNext, tIfS, tTest, tB, tOr, tAnd, tNot, tIf, tOrV, tAndV, tNotV, tChain, rI0, rI, rU, tUn, tC, tOp, rNe, rEq, tCall, tPart, tNoPart, tSl, tM0, tM1, tTup, tLst, tAug, gTup, gCons, gNil, rAdd, rSub, tNever, tBreak, tCont, L2.start, scSS, scII, scBB, ipI, sS, dS, d1, mkS, sL, nc1, nc2, Int.natCast_inj, List.map_cons, List.map_nil, List.length_cons, List.length_nil, List.replicate, List.cons_append, List.nil_append, List.append_nil, List.getElem?_cons_zero, List.getElem?_cons_succ, List.set_cons_zero, List.set_cons_succ, Option.some.injEq, V.str.injEq, V.int.injEq, V.bl.injEq, V.ref.injEq, List.cons.injEq, and_true, true_and, exists_eq_left', exists_eq_left, exists_eq, exists_eq', exists_and_left, exists_and_right, and_assoc, exists_const, reduceCtorEq, if_true, if_false, ite_true, ite_false, Bool.false_eq_true, decide_true, decide_false, Bool.not_true, Bool.not_false, cxK, ]
    exact (hM1 _ _ _ _).mpr ⟨lq, rfl, nq, rfl⟩
  obtain ⟨lq, rfl, nq, rfl⟩ := (hM1 _ _ _ _).mp g1
  refine ⟨fun σ' H' => ∃ left : Int, M1 (some (.int left)) none σ' H', ?_, fun σ1 H1 g1 => ?_⟩
  · simp only [tSeq, tAsg, tCB, tCons, tVar, tNil, gName, tRet, tRetN, tDrop, tNext, tIfS, tTest, tB, tOr, tAnd, tNot, tIf, tOrV, tAndV, tNotV, tChain, rI0, rI, rU, tUn, tC, tOp, rNe, rEq, tCall, tPart, tNoPart, tSl, tM0, tM1, tTup, tLst, tAug, gTup, gCons, gNil, rAdd, rSub, tNever, tBreak, tCont, L2.start, scSS, scII, scBB, ipI, sS, dS, d1, mkS, sL, nc1, nc2, Int.natCast_inj, List.map_cons, List.map_nil, List.length_cons, List.length_nil, List.replicate, List.cons_append, List.nil_append, List.append_nil, List.getElem?_cons_zero, List.getElem?_cons_succ, List.set_cons_zero, List.set_cons_succ, Option.some.injEq, V.str.injEq, V.int.injEq, V.bl.injEq, V.ref.injEq, List.cons.injEq, and_true, true_and, exists_eq_left', exists_eq_left, exists_eq, exists_eq', exists_and_left, exists_and_right, and_assoc, exists_const, reduceCtorEq, if_true, if_false, ite_true, ite_false, Bool.false_eq_true, decide_true, decide_false, Bool.not_true, Bool.not_false, cxK, ]
    refine ⟨⟨by decide, by decide, by decide⟩, ?_⟩
    generalize (if z < 0 then -z else z) = az
    by_cases zz : (10 : Int) ^ Int.toNat 18 ≤ az
    · rw [if_pos (decide_eq_true zz)]
      exact ⟨_, (hM1 _ _ _ _).mpr ⟨lq, rfl, nq, rfl⟩⟩
    · rw [if_neg (by rw [decide_eq_false zz]; decide)]
      exact ⟨_, (hM1 _ _ _ _).mpr ⟨lq, rfl, nq, rfl⟩⟩
  obtain ⟨left, g1⟩ := g1
  obtain ⟨lq, rfl, nq, rfl⟩ := (hM1 _ _ _ _).mp g1
  refine ⟨fun σ' H' => ∃ st : Nat, st < 2147483629 ∧ M1 (some (.int left)) (some (.int (st : Nat))) σ' H', ?_, fun σ1 H1 g1 => ?_⟩
  · simp only [tSeq, tAsg, tCB, tCons, tVar, tNil, gName, tRet, tRetN, tDrop, tNext, tIfS, tTest, tB, tOr, tAnd, tNot, tIf, tOrV, tAndV, tNotV, tChain, rI0, rI, rU, tUn, tC, tOp, rNe, rEq, tCall, tPart, tNoPart, tSl, tM0, tM1, tTup, tLst, tAug, gTup, gCons, gNil, rAdd, rSub, tNever, tBreak, tCont, L2.start, scSS, scII, scBB, ipI, sS, dS, d1, mkS, sL, nc1, nc2, Int.natCast_inj, List.map_cons, List.map_nil, List.length_cons, List.length_nil, List.replicate, List.cons_append, List.nil_append, List.append_nil, List.getElem?_cons_zero, List.getElem?_cons_succ, List.set_cons_zero, List.set_cons_succ, Option.some.injEq, V.str.injEq, V.int.injEq, V.bl.injEq, V.ref.injEq, List.cons.injEq, and_true, true_and, exists_eq_left', exists_eq_left, exists_eq, exists_eq', exists_and_left, exists_and_right, and_assoc, exists_const, reduceCtorEq, if_true, if_false, ite_true, ite_false, Bool.false_eq_true, decide_true, decide_false, Bool.not_true, Bool.not_false, cxK, ]
    obtain ⟨r, f, h⟩ := mod_lt' (i := z) (m := 2147483629) (by decide)
    rw [show ((2147483629 : Nat) : Int) = 2147483629 from rfl] at f
    exact ⟨by decide, r, h, (hM1 _ _ _ _).mpr ⟨lq, by rw [f], nq, rfl⟩⟩
  obtain ⟨st0, hs0, g1⟩ := g1
  obtain ⟨lq, rfl, nq, rfl⟩ := (hM1 _ _ _ _).mp g1
  simp only [tSeq, tAsg, tCB, tCons, tVar, tNil, gName, tRet, tRetN, tDrop, tNext, tIfS, tTest, tB, tOr, tAnd, tNot, tIf, tOrV, tAndV, tNotV, tChain, rI0, rI, rU, tUn, tC, tOp, rNe, rEq, tCall, tPart, tNoPart, tSl, tM0, tM1, tTup, tLst, tAug, gTup, gCons, gNil, rAdd, rSub, tNever, tBreak, tCont, L2.start, scSS, scII, scBB, ipI, sS, dS, d1, mkS, sL, nc1, nc2, Int.natCast_inj, List.map_cons, List.map_nil, List.length_cons, List.length_nil, List.replicate, List.cons_append, List.nil_append, List.append_nil, List.getElem?_cons_zero, List.getElem?_cons_succ, List.set_cons_zero, List.set_cons_succ, Option.some.injEq, V.str.injEq, V.int.injEq, V.bl.injEq, V.ref.injEq, List.cons.injEq, and_true, true_and, exists_eq_left', exists_eq_left, exists_eq, exists_eq', exists_and_left, exists_and_right, and_assoc, exists_const, reduceCtorEq, if_true, if_false, ite_true, ite_false, Bool.false_eq_true, decide_true, decide_false, Bool.not_true, Bool.not_false, cxK, eFoR, ]
  refine ⟨by omega, by omega, ?_⟩
  rw [Int.toNat_natCast]
  have s1 := same_upd (o := .lst []) nq
  obtain ⟨Pv, hPv⟩ : ∃ Pv : Nat → L2.St → Hp → Prop, ∀ i σ H', Pv i σ H' ↔ ∃ (rest : Int) (stir : Nat) (v5 : Option V) (ns : List Nat), σ = [some (.int z), some (.int (m : Nat)), some (.ref lq), some (.int rest), some (.int (stir : Nat)), v5] ∧ stir < 2147483647 ∧ H' lq = some (.lst (iL ns)) ∧ ns.length = i ∧ DrL ns ∧ Same H H' := ⟨_, fun _ _ _ => Iff.rfl⟩
  refine foR (lo := 0) (n := m) Pv ((hPv _ _ _).mpr ⟨left, st0, none, [], rfl, by omega, upd_same, rfl, (fun n h => by cases h), s1⟩) (fun i σ' H' hi g => ?_) (fun σ' H' g => ?_)
  · obtain ⟨rest, stir, v5, ns, rfl, hst, e1, e2, e3, s2⟩ := (hPv _ _ _).mp g
    simp only [tSeq, tAsg, tCB, tCons, tVar, tNil, gName, tRet, tRetN, tDrop, tNext, tIfS, tTest, tB, tOr, tAnd, tNot, tIf, tOrV, tAndV, tNotV, tChain, rI0, rI, rU, tUn, tC, tOp, rNe, rEq, tCall, tPart, tNoPart, tSl, tM0, tM1, tTup, tLst, tAug, gTup, gCons, gNil, rAdd, rSub, tNever, tBreak, tCont, L2.start, scSS, scII, scBB, ipI, sS, dS, d1, mkS, sL, nc1, nc2, Int.natCast_inj, List.map_cons, List.map_nil, List.length_cons, List.length_nil, List.replicate, List.cons_append, List.nil_append, List.append_nil, List.getElem?_cons_zero, List.getElem?_cons_succ, List.set_cons_zero, List.set_cons_succ, Option.some.injEq, V.str.injEq, V.int.injEq, V.bl.injEq, V.ref.injEq, List.cons.injEq, and_true, true_and, exists_eq_left', exists_eq_left, exists_eq, exists_eq', exists_and_left, exists_and_right, and_assoc, exists_const, reduceCtorEq, if_true, if_false, ite_true, ite_false, Bool.false_eq_true, decide_true, decide_false, Bool.not_true, Bool.not_false, cxK, tBM, rAppend, Int.zero_add, ]
    have app : ∀ n : Nat, n < 1441440 → (iL ns ++ [V.int (n : Nat)]) = iL (ns ++ [n]) ∧ (ns ++ [n]).length = i + 1 ∧ DrL (ns ++ [n]) := fun n hn => ⟨by rw [iL_app]; rfl, by rw [List.length_append, e2]; rfl, fun k hk => by
      rcases List.mem_append.1 hk with h | h
      · exact e3 k h
      · rw [List.mem_singleton.1 h]
        exact hn⟩
    have hll : (iL ns).length < sizeLine := by
      rw [iL_len]
      exact sz5 (show ns.length + 1 ≤ 100000 by omega)
    have sm : ∀ k : Nat, k ≤ 1000000000000 → ((k : Nat) : Int).natAbs < BB := fun k hk => by rw [Int.natAbs_natCast]; exact bb_small hk
    have ty : tyV K "list" (V.ref lq) H' := .inl ⟨rfl, _, SqL.of e1⟩
    by_cases zr : (0 : Int) < rest
    · rw [if_pos (decide_eq_true zr)]
      obtain ⟨r2, f2, h2⟩ := mod_lt' (i := rest) (m := 1441440) (by decide)
      rw [show ((1441440 : Nat) : Int) = 1441440 from rfl] at f2
      obtain ⟨a1, a2, a3⟩ := app r2 h2
      refine ⟨ty, by decide, _, e1, hll, divw (by decide) (bb_small (by decide)), ?_⟩
      rw [f2, a1]
      exact (hPv _ _ _).mpr ⟨_, stir, some (.int (i : Int)), _, rfl, hst, upd_same, a2, a3, same_mut s2 nq⟩
    · rw [if_neg (by simpa using zr)]
      obtain ⟨s', es, hs'⟩ := mod_lt' (i := (stir : Int) * 69621 + z + 5 * (i : Int) * (i : Int) * (i : Int) + 3) (m := 2147483647) (by decide)
      rw [show ((2147483647 : Nat) : Int) = 2147483647 from rfl] at es
      have s8 : ((s' : Int) / 8 + 1) = ((s' / 8 + 1 : Nat) : Int) := by omega
      obtain ⟨r1, f1, h1⟩ := mod_lt' (i := (s' : Int) * ((s' / 8 + 1 : Nat) : Int)) (m := 2147483629) (by decide)
      rw [show ((2147483629 : Nat) : Int) = 2147483629 from rfl] at f1
      obtain ⟨r2, f2, h2⟩ := mod_lt' (i := (r1 : Int) / 3) (m := 1441440) (by decide)
      rw [show ((1441440 : Nat) : Int) = 1441440 from rfl] at f2
      obtain ⟨a1, a2, a3⟩ := app r2 h2
      have k1 : (5 : Int) * (i : Int) = ((5 * i : Nat) : Int) := by omega
      have k2 : (5 : Int) * (i : Int) * (i : Int) = ((5 * i * i : Nat) : Int) := by rw [k1]; simp
      have i1 : 5 * i * i ≤ 5000 * 1000 := Nat.mul_le_mul (by omega) (by omega)
      refine ⟨mulw (sm _ (by omega)) (bb_small (by decide)), mulw (bb_small (by decide)) (sm _ (by omega)), mulw (by rw [k1]; exact sm _ (by omega)) (sm _ (by omega)), mulw (by rw [k2]; exact sm _ (by omega)) (sm _ (by omega)), by decide, ty, ?_⟩
      rw [es, s8]
      refine ⟨divw (by decide) (bb_small (by decide)), mulw (sm _ (by omega)) (sm _ (by omega)), by decide, divw (by decide) (bb_small (by decide)), by decide, _, e1, hll, ?_⟩
      rw [f1, f2, a1]
      exact (hPv _ _ _).mpr ⟨rest, s', some (.int (i : Int)), _, rfl, hs', upd_same, a2, a3, same_mut s2 nq⟩
  · obtain ⟨rest, stir, v5, ns, rfl, hst, e1, e2, e3, s2⟩ := (hPv _ _ _).mp g
    simp only [tSeq, tAsg, tCB, tCons, tVar, tNil, gName, tRet, tRetN, tDrop, tNext, tIfS, tTest, tB, tOr, tAnd, tNot, tIf, tOrV, tAndV, tNotV, tChain, rI0, rI, rU, tUn, tC, tOp, rNe, rEq, tCall, tPart, tNoPart, tSl, tM0, tM1, tTup, tLst, tAug, gTup, gCons, gNil, rAdd, rSub, tNever, tBreak, tCont, L2.start, scSS, scII, scBB, ipI, sS, dS, d1, mkS, sL, nc1, nc2, Int.natCast_inj, List.map_cons, List.map_nil, List.length_cons, List.length_nil, List.replicate, List.cons_append, List.nil_append, List.append_nil, List.getElem?_cons_zero, List.getElem?_cons_succ, List.set_cons_zero, List.set_cons_succ, Option.some.injEq, V.str.injEq, V.int.injEq, V.bl.injEq, V.ref.injEq, List.cons.injEq, and_true, true_and, exists_eq_left', exists_eq_left, exists_eq, exists_eq', exists_and_left, exists_and_right, and_assoc, exists_const, reduceCtorEq, if_true, if_false, ite_true, ite_false, Bool.false_eq_true, decide_true, decide_false, Bool.not_true, Bool.not_false, cxK]
    exact q H' lq ns nq s2 e1 e2 e3
end
/-- a comprehension over a text -/
theorem lc_str {x : List Nat} {g : TG} {tt : TT} {te : TE} {vs : List Nat} {σ : L2.St} {H1 : Hp} {D : Addr} {Qd : Hp → Prop} (Pv : Nat → Hp → Prop) (h0 : Pv 0 (upd H1 D (.lst [])))
    (hs : ∀ i c H, x[i]? = some c → Pv i H → g (.str (S [c])) (wipe σ vs) H fun σ2 H2 => wipe σ2 vs = wipe σ vs ∧ tt σ2 H2 fun b H3 =>
      if b = true then te σ2 H3 fun y H4 => ∃ acc, H4 D = some (.lst acc) ∧ acc.length < sizeLine ∧ Pv (i + 1) (upd H4 D (.lst (acc ++ [y]))) else Pv (i + 1) H3) (hd : ∀ H, Pv x.length H → Qd H) :
    ∃ W : Nat → Nat → Hp → Prop, (∃ m, W 0 m (upd H1 D (.lst []))) ∧ ∀ i m H, W i m H →
      ((Its (S x)).stop i H ∧ Qd H) ∨ ((Its (S x)).go i H ∧ ∃ Nx : Hp → Prop, (∀ H', Nx H' → ∃ m', m' < m ∧ W (i + 1) m' H') ∧ ∀ y H', (Its (S x)).yld i H y H' → g y (wipe σ vs) H' fun σ2 H2 => wipe σ2 vs = wipe σ vs ∧ tt σ2 H2 fun b H3 =>
        if b = true then te σ2 H3 fun y H4 => ∃ acc, H4 D = some (.lst acc) ∧ acc.length < sizeLine ∧ Nx (upd H4 D (.lst (acc ++ [y]))) else Nx H3) := by
  have sz : (S x).cps.size = x.length := by simp [S]
  refine ⟨fun i m H => m = x.length - i ∧ i ≤ x.length ∧ Pv i H, ⟨x.length, by simp, Nat.zero_le _, h0⟩, ?_⟩
  rintro i m H ⟨rfl, hi, p⟩
  by_cases hlt : i < x.length
  · refine .inr ⟨by show i < (S x).cps.size; omega, Pv (i + 1), fun H' p' => ⟨x.length - (i + 1), by omega, rfl, hlt, p'⟩, fun y H' hy => ?_⟩
    obtain ⟨rfl, c, hc, rfl⟩ := hy
    exact hs i c _ (by simpa [S] using hc) p
  · have e : i = x.length := by omega
    subst e
    exact .inl ⟨by show (S x).cps.size ≤ x.length; omega, hd H p⟩
section
variable {te : TE} {g : TG} {tt : TT} {tv : TE} {vs : List Nat} {σ : L2.St} {H : Hp} {Q : VK}
theorem eLcS : tLc (iStr te) g tt tv vs σ H Q = te σ H fun v H1 => ∃ x, v = .str x ∧ LcJ (Its x) g tt tv vs σ H1 Q := rfl
theorem lcS {x : List Nat} (h : ∀ D, H D = none → ∃ (Pv : Nat → Hp → Prop), Pv 0 (upd H D (.lst [])) ∧ (∀ i c H, x[i]? = some c → Pv i H → g (.str (S [c])) (wipe σ vs) H fun σ2 H2 => wipe σ2 vs = wipe σ vs ∧ tt σ2 H2 fun b H3 =>
      if b = true then tv σ2 H3 fun y H4 => ∃ acc, H4 D = some (.lst acc) ∧ acc.length < sizeLine ∧ Pv (i + 1) (upd H4 D (.lst (acc ++ [y]))) else Pv (i + 1) H3) ∧ ∀ H, Pv x.length H → Q (.ref D) H) : LcJ (Its (S x)) g tt tv vs σ H Q := fun D nD => by
  obtain ⟨Pv, h0, hs, hd⟩ := h D nD
  exact lc_str Pv h0 hs hd
end
section
variable {P : Program} {w : World} {K : PySem.W.Frag} {mg : Str → Option Value} {base : Heap}
theorem flat1 : ∀ l : List Nat, (l.map fun c => [c]).flatten = l
  | [] => rfl
  | c :: l => by rw [List.map_cons, List.flatten_cons, flat1 l] <;> rfl
theorem join_ones (cs : List Nat) : Txt.join (S []) (cs.map fun c => S [c]) = S cs := by
  have := join_nil (ls := cs.map fun c => [c])
  rw [List.map_map] at this
  rw [show (cs.map fun c => S [c]) = cs.map (S ∘ fun c => [c]) from rfl, this, flat1]
theorem sum_ones : ∀ cs : List Nat, ((cs.map fun c => S [c]).map fun x => x.length).sum = cs.length
  | [] => rfl
  | c :: cs => by
    simp only [List.map_cons, List.sum_cons, sum_ones cs, sL, List.length_cons, List.length_nil]
    omega
/-! ### letters, classes, leaves -/
def sp_signs : Sp := fun vs H Q _ => vs = [] ∧ Q (.str (S allSigns)) H
theorem sclaw_signs : FnScope [] [] (defScope (topS 32)) := ⟨rfl, rfl, rfl, by decide +kernel, rfl, by decide +kernel, by decide +kernel⟩
theorem ok_signs (D : Dfn K mg "_law_signs" (topS 32) []) : Cal P w K mg base 1 "_law_signs" sp_signs := by
  refine cal_of D sclaw_signs (fun vs H Q E h => ?_) (fun f cdv A outer s H vs Q E hr h => ?_)
  · rw [h.1]
    rfl
  obtain ⟨rfl, q⟩ := h
  refine ⟨_, (pss_one (ps_ret pe_str)), ?_⟩
  simp only [tSeq, tAsg, tCB, tCons, tVar, tNil, gName, tRet, tRetN, tDrop, tNext, tIfS, tTest, tB, tOr, tAnd, tNot, tIf, tOrV, tAndV, tNotV, tChain, rI0, rI, rU, tUn, tC, tOp, rNe, rEq, tCall, tPart, tNoPart, tSl, tM0, tM1, tTup, tLst, tAug, gTup, gCons, gNil, rAdd, rSub, tNever, tBreak, tCont, L2.start, scSS, scII, scBB, ipI, sS, dS, d1, mkS, sL, nc1, nc2, Int.natCast_inj, List.map_cons, List.map_nil, List.length_cons, List.length_nil, List.replicate, List.cons_append, List.nil_append, List.append_nil, List.getElem?_cons_zero, List.getElem?_cons_succ, List.set_cons_zero, List.set_cons_succ, Option.some.injEq, V.str.injEq, V.int.injEq, V.bl.injEq, V.ref.injEq, List.cons.injEq, and_true, true_and, exists_eq_left', exists_eq_left, exists_eq, exists_eq', exists_and_left, exists_and_right, and_assoc, exists_const, reduceCtorEq, if_true, if_false, ite_true, ite_false, Bool.false_eq_true, decide_true, decide_false, Bool.not_true, Bool.not_false, cxK, l_1]
  exact q
def sp_letter : Sp := fun vs H Q _ => ∃ n : Nat, vs = [.int (n : Nat)] ∧ ∀ c, c ∈ allSigns → Q (.str (S [c])) H
theorem sclaw_letter : FnScope ["_law_drop"] ["_law_drop"] (defScope (topS 33)) := ⟨rfl, rfl, rfl, by decide +kernel, rfl, by decide +kernel, by decide +kernel⟩
theorem ok_letter (T : BiA mg) (c_law_signs : Cal P w K mg base 1 "_law_signs" sp_signs) (D : Dfn K mg "_law_letter" (topS 33) ["_law_drop"]) : Cal P w K mg base 2 "_law_letter" sp_letter := by
  refine cal_of D sclaw_letter (fun vs H Q E h => ?_) (fun f cdv A outer s H vs Q E hr h => ?_)
  · obtain ⟨n, rfl, _⟩ := h
    rfl
  obtain ⟨n, rfl, q⟩ := h
  refine ⟨_, (pss_cons (ps_if (pt_cmpR op_eq (pe_op op_modN (pe_callTy call_intI (by rfl) T.b_int (by decide +kernel) (pa_cons (pv 0) pa_nil)) pe_int) pe_int (nomark _)) (pss_one (ps_ret (pe_ix ix_str (pc0 c_law_signs hr (by decide) rfl) (pe_op op_modN (pe_callTy call_intI (by rfl) T.b_int (by decide +kernel) (pa_cons (pe_op op_fdivW (pv 0) pe_int) pa_nil)) pe_int) (fun _ _ => rfl)))) pss_nil)
      (pss_one (ps_ret (pe_ix ix_str pe_str (pe_op op_modN (pe_callTy call_intI (by rfl) T.b_int (by decide +kernel) (pa_cons (pe_op op_fdivW (pv 0) pe_int) pa_nil)) pe_int) (fun _ _ => rfl))))), ?_⟩
  simp only [tSeq, tAsg, tCB, tCons, tVar, tNil, gName, tRet, tRetN, tDrop, tNext, tIfS, tTest, tB, tOr, tAnd, tNot, tIf, tOrV, tAndV, tNotV, tChain, rI0, rI, rU, tUn, tC, tOp, rNe, rEq, tCall, tPart, tNoPart, tSl, tM0, tM1, tTup, tLst, tAug, gTup, gCons, gNil, rAdd, rSub, tNever, tBreak, tCont, L2.start, scSS, scII, scBB, ipI, sS, dS, d1, mkS, sL, nc1, nc2, Int.natCast_inj, List.map_cons, List.map_nil, List.length_cons, List.length_nil, List.replicate, List.cons_append, List.nil_append, List.append_nil, List.getElem?_cons_zero, List.getElem?_cons_succ, List.set_cons_zero, List.set_cons_succ, Option.some.injEq, V.str.injEq, V.int.injEq, V.bl.injEq, V.ref.injEq, List.cons.injEq, and_true, true_and, exists_eq_left', exists_eq_left, exists_eq, exists_eq', exists_and_left, exists_and_right, and_assoc, exists_const, reduceCtorEq, if_true, if_false, ite_true, ite_false, Bool.false_eq_true, decide_true, decide_false, Bool.not_true, Bool.not_false, cxK, sp_signs, rIxS, sL, l_7]
  have al : allSigns.length = 96 := by decide
  refine ⟨by decide, ?_⟩
  obtain ⟨r, f1, h1⟩ := mod_lt' (i := (n : Int) / 8) (m := 96) (by decide)
  rw [show ((96 : Nat) : Int) = 96 from rfl] at f1
  obtain ⟨r2, f2, h2⟩ := mod_lt' (i := (n : Int) / 8) (m := 7) (by decide)
  rw [show ((7 : Nat) : Int) = 7 from rfl] at f2
  rw [f1, f2]
  by_cases z : (n : Int).fmod 8 = 7
  · rw [if_pos (decide_eq_true z)]
    have hl : r < allSigns.length := by rw [al]; exact h1
    exact ⟨divw (by decide) (bb_small (by decide)), by decide, by rw [al]; decide, _, atI_nat (List.getElem?_eq_getElem hl), q _ (List.getElem_mem hl)⟩
  · rw [if_neg (by rw [decide_eq_false z]; decide)]
    have hl : r2 < [97, 98, 99, 97, 98, 97, 99].length := h2
    refine ⟨divw (by decide) (bb_small (by decide)), by decide, by decide, _, atI_nat (List.getElem?_eq_getElem hl), q _ ?_⟩
    have : ∀ c ∈ [97, 98, 99, 97, 98, 97, 99], c ∈ allSigns := by decide
    exact this _ (List.getElem_mem hl)
def sp_class (K : PySem.W.Frag) : Sp := fun vs H Q _ => ∃ n : Nat, vs = [.int (n : Nat)] ∧ n < 1000000000 ∧ ∀ H' p cs, Same H H' → PtD K H' (.ref p) (.cls cs) → Q (.ref p) H'
theorem sclaw_class : FnScope ["_law_drop", "_law_way", "_law_rest", "_law_picked", "_law_many", "_law_low", "_law_chosen", "_law_sign"] ["_law_drop"] (defScope (topS 34)) := ⟨rfl, rfl, rfl, by decide +kernel, rfl, by decide +kernel, by decide +kernel⟩
theorem ok_class (T : BiA mg) (c_law_signs : Cal P w K mg base 1 "_law_signs" sp_signs) (D : Dfn K mg "_law_class" (topS 34) ["_law_drop"]) : Cal P w K mg base 2 "_law_class" (sp_class K) := by
  refine cal_of D sclaw_class (fun vs H Q E h => ?_) (fun f cdv A outer s H vs Q E hr h => ?_)
  · obtain ⟨n, rfl, _⟩ := h
    rfl
  obtain ⟨n, rfl, hn, q⟩ := h
  refine ⟨_, (C8.pss_cut (ps_set (i := 1) sclaw_class.nd rfl (Or.inr rfl) (pe_op op_modN (pe_callTy call_intI (by rfl) T.b_int (by decide +kernel) (pa_cons (pv 0) pa_nil)) pe_int))
      (C8.pss_cut (ps_set (i := 2) sclaw_class.nd rfl (Or.inl rfl) (pe_op op_fdivW (pv 0) pe_int))
      (C8.pss_cut (ps_set (i := 3) sclaw_class.nd rfl (Or.inr rfl) (pe_ix ix_list (pe_lst (pa_cons pe_str (pa_cons pe_str (pa_cons pe_str (pa_cons pe_str (pa_cons pe_str (pa_cons pe_str (pa_cons pe_str (pa_cons pe_str pa_nil))))))))) (pe_op op_modN (pe_callTy call_intI (by rfl) T.b_int (by decide +kernel) (pa_cons (pv 2) pa_nil)) pe_int) (fun _ _ => rfl)))
      (C8.pss_cut (ps_if (pt_cmpR op_gt (pv 1) pe_int (nomark _)) (pss_cons (ps_set (i := 4) sclaw_class.nd rfl (Or.inl rfl) (pe_op op_add pe_int (pe_op op_modN (pe_callTy call_intI (by rfl) T.b_int (by decide +kernel) (pa_cons (pv 2) pa_nil)) pe_int)))
      (pss_cons (ps_if (pt_cmpR op_eq (pe_op op_modN (pe_callTy call_intI (by rfl) T.b_int (by decide +kernel) (pa_cons (pe_op op_fdivW (pv 2) pe_int) pa_nil)) pe_int) pe_int (nomark _)) (pss_one (ps_set (i := 4) sclaw_class.nd rfl (Or.inl rfl) (pe_op op_add pe_int (pe_op op_modN (pe_callTy call_intI (by rfl) T.b_int (by decide +kernel) (pa_cons (pv 4) pa_nil)) pe_int)))) pss_nil)
      (pss_cons (ps_set (i := 5) sclaw_class.nd rfl (Or.inl rfl) (pe_op op_modN (pe_callTy call_intI (by rfl) T.b_int (by decide +kernel) (pa_cons (pe_op op_add (pe_op op_mulW (pv 2) (pv 2)) (pv 0)) pa_nil)) (pe_op op_sub pe_int (pv 4))))
      (pss_one (ps_set (i := 3) sclaw_class.nd rfl (Or.inr rfl) (pe_slice sl_str (pc0 c_law_signs hr (by decide) rfl) (po_some (pv 5)) (po_some (pe_op op_add (pv 5) (pv 4))))))))) pss_nil)
      (pss_cons (ps_setLc (i := 6) (own := [("_law_sign", 7)]) (g := gName 7) (tt := _) rfl sclaw_class.nd rfl rfl (sw_true rfl rfl rfl (by decide +kernel)) (pi_str (pc0 c_law_signs hr (by decide) rfl)) (blkOk_by (N := ["_law_drop", "_law_way", "_law_rest", "_law_picked", "_law_many", "_law_low", "_law_chosen", "_law_sign"]) (sc := defScope (topS 34)) (by decide +kernel)) (fun _ _ _ _ _ => (pg_name (i := 7) sclaw_class.nd rfl (Or.inl rfl))) (fun _ _ _ _ _ => (pts_one (pt_cmpR op_ne (pe_cmpR op_in_sign (pv 7) (pv 3) (by rfl)) (pe_and (pe_cmpR op_eq (pe_op op_modN (pe_callTy call_intI (by rfl) T.b_int (by decide +kernel) (pa_cons (pv 1) pa_nil)) pe_int) pe_int (nomark _)) (pe_one (pe_cmpR op_lt (pe_callB call_len_str (by rfl) T.b_len (by decide +kernel) (pa_cons (pv 3) pa_nil)) pe_int (nomark _)))) (nomark _)))) (fun _ _ _ _ _ => (pv 7)))
      (pss_one (ps_ret (pe_tup (pa_cons pe_str (pa_cons (pe_join pe_str (pv 6)) pa_nil)))))))))), ?_⟩
  obtain ⟨M1, hM1⟩ : ∃ M : Nat → Nat → Option V → Option V → Option V → L2.St → Hp → Prop, ∀ a b x y z σ' H', M a b x y z σ' H' ↔ σ' = [some (.int (n : Nat)), some (.int (a : Nat)), some (.int (b : Nat)), x, y, z, none, none] ∧ Same H H' := ⟨_, fun _ _ _ _ _ _ _ => Iff.rfl⟩
  have sm : ∀ k : Nat, k ≤ 1000000000000 → ((k : Nat) : Int).natAbs < BB := fun k hk => by rw [Int.natAbs_natCast]; exact bb_small hk
  obtain ⟨M0, hM0⟩ : ∃ M : L2.St → Hp → Prop, ∀ σ' H', M σ' H' ↔ ∃ a : Nat, σ' = [some (.int (n : Nat)), some (.int (a : Nat)), none, none, none, none, none, none] ∧ H' = H := ⟨_, fun _ _ => Iff.rfl⟩
  refine ⟨M0, ?_, fun σ1 H1 g1 => ?_⟩
  · simp only [tSeq, tAsg, tCB, tCons, tVar, tNil, gName, tRet, tRetN, tDrop, tNext, tIfS, tTest, tB, tOr, tAnd, tNot, tIf, tOrV, tAndV, tNotV, tChain, rI0, rI, rU, tUn, tC, tOp, rNe, rEq, tCall, tPart, tNoPart, tSl, tM0, tM1, tTup, tLst, tAug, gTup, gCons, gNil, rAdd, rSub, tNever, tBreak, tCont, L2.start, scSS, scII, scBB, ipI, sS, dS, d1, mkS, sL, nc1, nc2, Int.natCast_inj, List.map_cons, List.map_nil, List.length_cons, List.length_nil, List.replicate, List.cons_append, List.nil_append, List.append_nil, List.getElem?_cons_zero, List.getElem?_cons_succ, List.set_cons_zero, List.set_cons_succ, Option.some.injEq, V.str.injEq, V.int.injEq, V.bl.injEq, V.ref.injEq, List.cons.injEq, and_true, true_and, exists_eq_left', exists_eq_left, exists_eq, exists_eq', exists_and_left, exists_and_right, and_assoc, exists_const, reduceCtorEq, if_true, if_false, ite_true, ite_false, Bool.false_eq_true, decide_true, decide_false, Bool.not_true, Bool.not_false, cxK, l_0, l_2, l_3, l_4, l_5, l_6, l_8, l_10, l_12, l_13]
    obtain ⟨r, f, h⟩ := mod_lt' (i := (n : Int)) (m := 4) (by decide)
    rw [show ((4 : Nat) : Int) = 4 from rfl] at f
    exact ⟨by decide, (hM0 _ _).mpr ⟨r, by rw [f], rfl⟩⟩
  obtain ⟨way, rfl, rfl⟩ := (hM0 _ _).mp g1
  refine ⟨M1 way (n / 4) none none none, ?_, fun σ1 H2 g1 => ?_⟩
  · simp only [tSeq, tAsg, tCB, tCons, tVar, tNil, gName, tRet, tRetN, tDrop, tNext, tIfS, tTest, tB, tOr, tAnd, tNot, tIf, tOrV, tAndV, tNotV, tChain, rI0, rI, rU, tUn, tC, tOp, rNe, rEq, tCall, tPart, tNoPart, tSl, tM0, tM1, tTup, tLst, tAug, gTup, gCons, gNil, rAdd, rSub, tNever, tBreak, tCont, L2.start, scSS, scII, scBB, ipI, sS, dS, d1, mkS, sL, nc1, nc2, Int.natCast_inj, List.map_cons, List.map_nil, List.length_cons, List.length_nil, List.replicate, List.cons_append, List.nil_append, List.append_nil, List.getElem?_cons_zero, List.getElem?_cons_succ, List.set_cons_zero, List.set_cons_succ, Option.some.injEq, V.str.injEq, V.int.injEq, V.bl.injEq, V.ref.injEq, List.cons.injEq, and_true, true_and, exists_eq_left', exists_eq_left, exists_eq, exists_eq', exists_and_left, exists_and_right, and_assoc, exists_const, reduceCtorEq, if_true, if_false, ite_true, ite_false, Bool.false_eq_true, decide_true, decide_false, Bool.not_true, Bool.not_false, cxK, l_0, l_2, l_3, l_4, l_5, l_6, l_8, l_10, l_12, l_13]
    refine ⟨divw (by decide) (bb_small (by decide)), (hM1 _ _ _ _ _ _ _).mpr ⟨?_, Same.refl _⟩⟩
    rw [show (n : Int) / 4 = ((n / 4 : Nat) : Int) by omega]
  obtain ⟨rfl, s2⟩ := (hM1 _ _ _ _ _ _ _).mp g1
  refine ⟨fun σ' H' => ∃ pk : List Nat, pk.length ≤ 96 ∧ M1 way (n / 4) (some (.str (S pk))) none none σ' H', ?_, fun σ1 H2 g1 => ?_⟩
  · simp only [tSeq, tAsg, tCB, tCons, tVar, tNil, gName, tRet, tRetN, tDrop, tNext, tIfS, tTest, tB, tOr, tAnd, tNot, tIf, tOrV, tAndV, tNotV, tChain, rI0, rI, rU, tUn, tC, tOp, rNe, rEq, tCall, tPart, tNoPart, tSl, tM0, tM1, tTup, tLst, tAug, gTup, gCons, gNil, rAdd, rSub, tNever, tBreak, tCont, L2.start, scSS, scII, scBB, ipI, sS, dS, d1, mkS, sL, nc1, nc2, Int.natCast_inj, List.map_cons, List.map_nil, List.length_cons, List.length_nil, List.replicate, List.cons_append, List.nil_append, List.append_nil, List.getElem?_cons_zero, List.getElem?_cons_succ, List.set_cons_zero, List.set_cons_succ, Option.some.injEq, V.str.injEq, V.int.injEq, V.bl.injEq, V.ref.injEq, List.cons.injEq, and_true, true_and, exists_eq_left', exists_eq_left, exists_eq, exists_eq', exists_and_left, exists_and_right, and_assoc, exists_const, reduceCtorEq, if_true, if_false, ite_true, ite_false, Bool.false_eq_true, decide_true, decide_false, Bool.not_true, Bool.not_false, cxK, rIxL, l_0, l_2, l_3, l_4, l_5, l_6, l_8, l_10, l_12, l_13]
    obtain ⟨r, f, h⟩ := mod_lt' (i := ((n / 4 : Nat) : Int)) (m := 8) (by decide)
    rw [show ((8 : Nat) : Int) = 8 from rfl] at f
    rw [f]
    refine ⟨by decide, fun p np => ⟨by decide, _, SqL.of upd_same, ?_⟩⟩
    have : r = 0 ∨ r = 1 ∨ r = 2 ∨ r = 3 ∨ r = 4 ∨ r = 5 ∨ r = 6 ∨ r = 7 := by omega
    rcases this with rfl | rfl | rfl | rfl | rfl | rfl | rfl | rfl <;> exact ⟨_, atI_nat rfl, _, by decide, (hM1 _ _ _ _ _ _ _).mpr ⟨rfl, s2.trans (same_upd np)⟩⟩
  obtain ⟨pk, hpk, g1⟩ := g1
  obtain ⟨rfl, s2⟩ := (hM1 _ _ _ _ _ _ _).mp g1
  refine ⟨fun σ' H' => ∃ (pk : List Nat) (y z : Option V), pk.length ≤ 96 ∧ M1 way (n / 4) (some (.str (S pk))) y z σ' H', ?_, fun σ1 H2 g1 => ?_⟩
  · simp only [tSeq, tAsg, tCB, tCons, tVar, tNil, gName, tRet, tRetN, tDrop, tNext, tIfS, tTest, tB, tOr, tAnd, tNot, tIf, tOrV, tAndV, tNotV, tChain, rI0, rI, rU, tUn, tC, tOp, rNe, rEq, tCall, tPart, tNoPart, tSl, tM0, tM1, tTup, tLst, tAug, gTup, gCons, gNil, rAdd, rSub, tNever, tBreak, tCont, L2.start, scSS, scII, scBB, ipI, sS, dS, d1, mkS, sL, nc1, nc2, Int.natCast_inj, List.map_cons, List.map_nil, List.length_cons, List.length_nil, List.replicate, List.cons_append, List.nil_append, List.append_nil, List.getElem?_cons_zero, List.getElem?_cons_succ, List.set_cons_zero, List.set_cons_succ, Option.some.injEq, V.str.injEq, V.int.injEq, V.bl.injEq, V.ref.injEq, List.cons.injEq, and_true, true_and, exists_eq_left', exists_eq_left, exists_eq, exists_eq', exists_and_left, exists_and_right, and_assoc, exists_const, reduceCtorEq, if_true, if_false, ite_true, ite_false, Bool.false_eq_true, decide_true, decide_false, Bool.not_true, Bool.not_false, cxK, sp_signs, rSlS, sL, l_0, l_2, l_3, l_4, l_5, l_6, l_8, l_10, l_12, l_13]
    have al : allSigns.length = 96 := by decide
    obtain ⟨r, f, h⟩ := mod_lt' (i := ((n / 4 : Nat) : Int)) (m := 96) (by decide)
    rw [show ((96 : Nat) : Int) = 96 from rfl] at f
    have ml : CMulW ((n / 4 : Nat) : Int) ((n / 4 : Nat) : Int) := mulw (sm _ (by omega)) (sm _ (by omega))
    have fin : ∀ mn : Nat, 1 ≤ mn → mn ≤ 96 → ∃ pk' : List Nat, cutS (S allSigns) (some ((((n / 4 : Nat) : Int) * ((n / 4 : Nat) : Int) + (n : Int)).fmod (97 - (mn : Int)))) (some ((((n / 4 : Nat) : Int) * ((n / 4 : Nat) : Int) + (n : Int)).fmod (97 - (mn : Int)) + (mn : Int))) = S pk' ∧ pk'.length ≤ 96 := fun mn h1 h2 => by
      obtain ⟨lo, f2, h3⟩ := mod_lt' (i := ((n / 4 : Nat) : Int) * ((n / 4 : Nat) : Int) + (n : Int)) (m := 97 - mn) (by omega)
      rw [show ((97 - mn : Nat) : Int) = 97 - (mn : Int) by omega] at f2
      rw [f2, show (lo : Int) + (mn : Int) = ((lo + mn : Nat) : Int) by omega, cut_ab (by omega) (by omega)]
      exact ⟨_, rfl, by rw [List.length_take, List.length_drop]; omega⟩
    rw [f]
    by_cases z : (1 : Int) < (way : Int)
    · rw [if_pos (decide_eq_true z)]
      refine ⟨by decide, divw (by decide) (bb_small (by decide)), by decide, ?_⟩
      by_cases z2 : (((n / 4 : Nat) : Int) / 96).fmod 3 = 1
      · rw [if_pos (decide_eq_true z2)]
        obtain ⟨r2, f2, h2⟩ := mod_lt' (i := (1 : Int) + (r : Int)) (m := 7) (by decide)
        rw [show ((7 : Nat) : Int) = 7 from rfl] at f2
        obtain ⟨pk', e1, e2⟩ := fin (45 + r2) (by omega) (by omega)
        rw [f2, show (45 : Int) + (r2 : Int) = ((45 + r2 : Nat) : Int) by omega, e1]
        exact ⟨by decide, ml, by omega, by rw [al]; decide, pk', e2, _, _, (hM1 _ _ _ _ _ _ _).mpr ⟨rfl, s2⟩⟩
      · rw [if_neg (by rw [decide_eq_false z2]; decide)]
        obtain ⟨pk', e1, e2⟩ := fin (1 + r) (by omega) (by omega)
        rw [show (1 : Int) + (r : Int) = ((1 + r : Nat) : Int) by omega, e1]
        exact ⟨ml, by omega, by rw [al]; decide, pk', e2, _, _, (hM1 _ _ _ _ _ _ _).mpr ⟨rfl, s2⟩⟩
    · rw [if_neg (by rw [decide_eq_false z]; decide)]
      exact ⟨pk, hpk, _, _, (hM1 _ _ _ _ _ _ _).mpr ⟨rfl, s2⟩⟩
  obtain ⟨pk, y, z, hpk, g1⟩ := g1
  obtain ⟨rfl, s2⟩ := (hM1 _ _ _ _ _ _ _).mp g1
  simp only [tSeq, tAsg, tCB, tCons, tVar, tNil, gName, tRet, tRetN, tDrop, tNext, tIfS, tTest, tB, tOr, tAnd, tNot, tIf, tOrV, tAndV, tNotV, tChain, rI0, rI, rU, tUn, tC, tOp, rNe, rEq, tCall, tPart, tNoPart, tSl, tM0, tM1, tTup, tLst, tAug, gTup, gCons, gNil, rAdd, rSub, tNever, tBreak, tCont, L2.start, scSS, scII, scBB, ipI, sS, dS, d1, mkS, sL, nc1, nc2, Int.natCast_inj, List.map_cons, List.map_nil, List.length_cons, List.length_nil, List.replicate, List.cons_append, List.nil_append, List.append_nil, List.getElem?_cons_zero, List.getElem?_cons_succ, List.set_cons_zero, List.set_cons_succ, Option.some.injEq, V.str.injEq, V.int.injEq, V.bl.injEq, V.ref.injEq, List.cons.injEq, and_true, true_and, exists_eq_left', exists_eq_left, exists_eq, exists_eq', exists_and_left, exists_and_right, and_assoc, exists_const, reduceCtorEq, if_true, if_false, ite_true, ite_false, Bool.false_eq_true, decide_true, decide_false, Bool.not_true, Bool.not_false, cxK, sp_signs, eLcS, sL, l_0, l_2, l_3, l_4, l_5, l_6, l_8, l_10, l_12, l_13]
  refine lcS fun Da nD => ?_
  obtain ⟨Pv, hPv⟩ : ∃ Pv : Nat → Hp → Prop, ∀ i H', Pv i H' ↔ ∃ acc : List Nat, Same H2 H' ∧ H' Da = some (.lst ((acc.map fun c => S [c]).map V.str)) ∧ acc.length ≤ i := ⟨_, fun _ _ => Iff.rfl⟩
  have al : allSigns.length = 96 := by decide
  refine ⟨Pv, (hPv _ _).mpr ⟨[], same_upd nD, upd_same, Nat.le_refl _⟩, fun i c H' hc g => ?_, fun H' g => ?_⟩
  · obtain ⟨acc, s, e, l⟩ := (hPv _ _).mp g
    have hi : i < 96 := by rw [← al]; exact (List.getElem?_eq_some_iff.mp hc).1
    simp only [tSeq, tAsg, tCB, tCons, tVar, tNil, gName, tRet, tRetN, tDrop, tNext, tIfS, tTest, tB, tOr, tAnd, tNot, tIf, tOrV, tAndV, tNotV, tChain, rI0, rI, rU, tUn, tC, tOp, rNe, rEq, tCall, tPart, tNoPart, tSl, tM0, tM1, tTup, tLst, tAug, gTup, gCons, gNil, rAdd, rSub, tNever, tBreak, tCont, L2.start, scSS, scII, scBB, ipI, sS, dS, d1, mkS, sL, nc1, nc2, Int.natCast_inj, List.map_cons, List.map_nil, List.length_cons, List.length_nil, List.replicate, List.cons_append, List.nil_append, List.append_nil, List.getElem?_cons_zero, List.getElem?_cons_succ, List.set_cons_zero, List.set_cons_succ, Option.some.injEq, V.str.injEq, V.int.injEq, V.bl.injEq, V.ref.injEq, List.cons.injEq, and_true, true_and, exists_eq_left', exists_eq_left, exists_eq, exists_eq', exists_and_left, exists_and_right, and_assoc, exists_const, reduceCtorEq, if_true, if_false, ite_true, ite_false, Bool.false_eq_true, decide_true, decide_false, Bool.not_true, Bool.not_false, cxK, wipe, sL, l_0, l_2, l_3, l_4, l_5, l_6, l_8, l_10, l_12, l_13]
    have yes : ∃ acc, H' Da = some (.lst acc) ∧ acc.length < sizeLine ∧ Pv (i + 1) (upd H' Da (.lst (acc ++ [V.str (S [c])]))) := by
      refine ⟨_, e, sz5 (show _ + 1 ≤ 100000 by simp only [List.length_map]; omega), (hPv _ _).mpr ⟨acc ++ [c], same_mut s nD, ?_, by rw [List.length_append, List.length_singleton]; omega⟩⟩
      rw [upd_same]
      simp
    have no : Pv (i + 1) H' := (hPv _ _).mpr ⟨acc, s, e, by omega⟩
    refine ⟨by decide, ?_⟩
    by_cases z1 : (way : Int).fmod 2 = 1
    · rw [if_pos (decide_eq_true z1)]
      refine ⟨sz5 (by omega), ?_⟩
      by_cases z2 : (!decide (decide (c ∈ pk) = decide ((pk.length : Int) < 96))) = true
      · rw [if_pos z2]; exact yes
      · rw [if_neg z2]; exact no
    · rw [if_neg (by rw [decide_eq_false z1]; decide)]
      by_cases z2 : (!decide (decide (c ∈ pk) = false)) = true
      · rw [if_pos z2]; exact yes
      · rw [if_neg z2]; exact no
  · obtain ⟨acc, s, e, l⟩ := (hPv _ _).mp g
    rw [al] at l
    refine ⟨Da, rfl, acc.map fun c => S [c], .inl (SqL.of e), ?_, by decide, fun p np => ?_⟩
    · rw [sum_ones]; omega
    · have sp := same_upd (o := .tup [V.str (S [99, 108, 97, 115, 115]), V.str (Txt.join (S []) (acc.map fun c => S [c]))]) np
      refine q _ p acc ((s2.trans s).trans sp) ⟨?_, by simp [Pat.Wf], by simp [Pat.Sm]⟩
      rw [join_ones] at sp ⊢
      rw [patD]
      exact .tup (SqT.of upd_same) (.cons (.str _) (.cons (.str _) .nil))
end
end Pd

namespace Pd
open PySem PySem.Spec PyProof.Rows L2
open SX (S)
mutual
/-- how many nodes -/
def Pat.z : Pat → Nat
  | .row ps => zL ps + 1
  | .alt ps => zL ps + 1
  | .rep p _ _ => p.z + 1
  | _ => 1
def zL : List Pat → Nat
  | [] => 0
  | p :: ps => p.z + zL ps
end
mutual
/-- how many nodes it has written out -/
def Pat.y : Pat → Nat
  | .row ps => yL ps + 1
  | .alt ps => yL ps + 1
  | .rep p l m => (copiesOf l m + 1) * (p.y + 1) + 1
  | _ => 1
def yL : List Pat → Nat
  | [] => 0
  | p :: ps => p.y + yL ps
end
/-- a drawn pattern's bounds -/
structure PtB (p : Pat) (d n z y : Nat) : Prop where
  wf : p.Wf
  sm : p.Sm
  d : p.d ≤ d
  n : p.n ≤ n
  z : p.z ≤ z
  y : p.y ≤ y
section
variable {P : Program} {w : World} {K : PySem.W.Frag} {mg : Str → Option Value} {base : Heap}
def sp_leaf (K : PySem.W.Frag) : Sp := fun vs H Q _ => ∃ n : Nat, vs = [.int (n : Nat)] ∧ n < 1000000000 ∧ ∀ H' v pat, Same H H' → PtD K H' v pat → PtB pat 1 1 1 1 → Q v H'
theorem sclaw_leaf : FnScope ["_law_drop", "_law_way"] ["_law_drop"] (defScope (topS 35)) := ⟨rfl, rfl, rfl, by decide +kernel, rfl, by decide +kernel, by decide +kernel⟩
theorem ok_leaf (T : BiA mg) (c_law_letter : Cal P w K mg base 2 "_law_letter" sp_letter) (c_law_class : Cal P w K mg base 2 "_law_class" (sp_class K)) (D : Dfn K mg "_law_leaf" (topS 35) ["_law_drop"]) : Cal P w K mg base 3 "_law_leaf" (sp_leaf K) := by
  refine cal_of D sclaw_leaf (fun vs H Q E h => ?_) (fun f cdv A outer s H vs Q E hr h => ?_)
  · obtain ⟨n, rfl, _⟩ := h
    rfl
  obtain ⟨n, rfl, hn, q⟩ := h
  refine ⟨_, (C8.pss_cut (ps_set (i := 1) sclaw_leaf.nd rfl (Or.inl rfl) (pe_op op_modN (pe_callTy call_intI (by rfl) T.b_int (by decide +kernel) (pa_cons (pv 0) pa_nil)) pe_int))
      (pss_cons (ps_if (pt_cmpR op_lt (pv 1) pe_int (nomark _)) (pss_one (ps_ret (pe_tup (pa_cons pe_str (pa_cons (pc c_law_letter hr (by decide) rfl (pa_cons (pe_op op_fdivW (pv 0) pe_int) pa_nil)) pa_nil))))) pss_nil)
      (pss_cons (ps_if (pt_cmpR op_lt (pv 1) pe_int (nomark _)) (pss_one (ps_ret (pe_tup (pa_cons pe_str pa_nil)))) pss_nil)
      (pss_cons (ps_if (pt_cmpR op_lt (pv 1) pe_int (nomark _)) (pss_one (ps_ret (pc c_law_class hr (by decide) rfl (pa_cons (pe_op op_fdivW (pv 0) pe_int) pa_nil)))) pss_nil)
      (pss_one (ps_ret (pe_ix ix_list (pe_lst (pa_cons (pe_tup (pa_cons pe_str pa_nil)) (pa_cons (pe_tup (pa_cons pe_str pa_nil)) (pa_cons (pe_tup (pa_cons pe_str (pa_cons (pe_tup pa_nil) pa_nil))) pa_nil)))) (pe_op op_sub (pv 1) pe_int) (fun _ _ => rfl)))))))), ?_⟩
  obtain ⟨M0, hM0⟩ : ∃ M : L2.St → Hp → Prop, ∀ σ' H', M σ' H' ↔ ∃ a : Nat, a < 13 ∧ σ' = [some (.int (n : Nat)), some (.int (a : Nat))] ∧ H' = H := ⟨_, fun _ _ => Iff.rfl⟩
  refine ⟨M0, ?_, fun σ1 H1 g1 => ?_⟩
  · simp only [tSeq, tAsg, tCB, tCons, tVar, tNil, gName, tRet, tRetN, tDrop, tNext, tIfS, tTest, tB, tOr, tAnd, tNot, tIf, tOrV, tAndV, tNotV, tChain, rI0, rI, rU, tUn, tC, tOp, rNe, rEq, tCall, tPart, tNoPart, tSl, tM0, tM1, tTup, tLst, tAug, gTup, gCons, gNil, rAdd, rSub, tNever, tBreak, tCont, L2.start, scSS, scII, scBB, ipI, sS, dS, d1, mkS, sL, nc1, nc2, Int.natCast_inj, List.map_cons, List.map_nil, List.length_cons, List.length_nil, List.replicate, List.cons_append, List.nil_append, List.append_nil, List.getElem?_cons_zero, List.getElem?_cons_succ, List.set_cons_zero, List.set_cons_succ, Option.some.injEq, V.str.injEq, V.int.injEq, V.bl.injEq, V.ref.injEq, List.cons.injEq, and_true, true_and, exists_eq_left', exists_eq_left, exists_eq, exists_eq', exists_and_left, exists_and_right, and_assoc, exists_const, reduceCtorEq, if_true, if_false, ite_true, ite_false, Bool.false_eq_true, decide_true, decide_false, Bool.not_true, Bool.not_false, cxK, l_9, l_11, l_14, l_22, l_23]
    obtain ⟨r, f, h⟩ := mod_lt' (i := (n : Int)) (m := 13) (by decide)
    rw [show ((13 : Nat) : Int) = 13 from rfl] at f
    exact ⟨by decide, (hM0 _ _).mpr ⟨r, h, by rw [f], rfl⟩⟩
  obtain ⟨way, hw, rfl, rfl⟩ := (hM0 _ _).mp g1
  have e13 : (n : Int) / 13 = ((n / 13 : Nat) : Int) := by omega
  simp only [tSeq, tAsg, tCB, tCons, tVar, tNil, gName, tRet, tRetN, tDrop, tNext, tIfS, tTest, tB, tOr, tAnd, tNot, tIf, tOrV, tAndV, tNotV, tChain, rI0, rI, rU, tUn, tC, tOp, rNe, rEq, tCall, tPart, tNoPart, tSl, tM0, tM1, tTup, tLst, tAug, gTup, gCons, gNil, rAdd, rSub, tNever, tBreak, tCont, L2.start, scSS, scII, scBB, ipI, sS, dS, d1, mkS, sL, nc1, nc2, Int.natCast_inj, List.map_cons, List.map_nil, List.length_cons, List.length_nil, List.replicate, List.cons_append, List.nil_append, List.append_nil, List.getElem?_cons_zero, List.getElem?_cons_succ, List.set_cons_zero, List.set_cons_succ, Option.some.injEq, V.str.injEq, V.int.injEq, V.bl.injEq, V.ref.injEq, List.cons.injEq, and_true, true_and, exists_eq_left', exists_eq_left, exists_eq, exists_eq', exists_and_left, exists_and_right, and_assoc, exists_const, reduceCtorEq, if_true, if_false, ite_true, ite_false, Bool.false_eq_true, decide_true, decide_false, Bool.not_true, Bool.not_false, cxK, sp_letter, sp_class, rIxL, l_9, l_11, l_14, l_22, l_23]
  have dv : CDivW (n : Int) 13 := divw (by decide) (bb_small (by decide))
  have mk0 : ∀ {H' : Hp} {a : Addr} {tag : List Nat} {pat : Pat}, SqT K H' a [.str (S tag)] → patD pat = .tuple [.str (S tag)] → pat.Wf → pat.Sm → PtD K H' (.ref a) pat := fun {H' a tag pat} h e w s => ⟨by rw [e]; exact .tup h (.cons (.str _) .nil), w, s⟩
  by_cases z1 : (way : Int) < 6
  · rw [if_pos (decide_eq_true z1)]
    refine ⟨dv, ⟨n / 13, e13⟩, fun c hc => ⟨by decide, fun p np => q _ (.ref p) (.sign c) (same_upd np) ⟨?_, by simp [Pat.Wf], by simp [Pat.Sm]⟩ ⟨by simp [Pat.Wf], by simp [Pat.Sm], by simp [Pat.d], by simp [Pat.n], by simp [Pat.z], by simp [Pat.y]⟩⟩⟩
    rw [patD]
    exact .tup (SqT.of upd_same) (.cons (.str _) (.cons (.str _) .nil))
  rw [if_neg (by rw [decide_eq_false z1]; decide)]
  by_cases z2 : (way : Int) < 7
  · rw [if_pos (decide_eq_true z2)]
    exact ⟨by decide, fun p np => q _ (.ref p) .any (same_upd np) (mk0 (SqT.of upd_same) (by rw [patD]) (by simp [Pat.Wf]) (by simp [Pat.Sm])) ⟨by simp [Pat.Wf], by simp [Pat.Sm], by simp [Pat.d], by simp [Pat.n], by simp [Pat.z], by simp [Pat.y]⟩⟩
  rw [if_neg (by rw [decide_eq_false z2]; decide)]
  by_cases z3 : (way : Int) < 10
  · rw [if_pos (decide_eq_true z3)]
    exact ⟨dv, n / 13, e13, by omega, fun H' p cs s k => q H' _ (.cls cs) s k ⟨by simp [Pat.Wf], by simp [Pat.Sm], by simp [Pat.d], by simp [Pat.n], by simp [Pat.z], by simp [Pat.y]⟩⟩
  rw [if_neg (by rw [decide_eq_false z3]; decide)]
  refine ⟨by decide, fun p np => ⟨by decide, fun p1 np1 => ⟨by decide, fun p2 np2 => ⟨by decide, fun p3 np3 => ⟨by decide, fun p4 np4 => ⟨_, SqL.of upd_same, ?_⟩⟩⟩⟩⟩⟩
  have t0 := same_upd (o := .tup [V.str (S [98, 101, 103, 105, 110])]) np
  have t1 := same_upd (o := .tup [V.str (S [101, 110, 100])]) np1
  have t2 := same_upd (o := .tup []) np2
  have t3 := same_upd (o := .tup [V.str (S [114, 111, 119]), V.ref p2]) np3
  have t4 := same_upd (o := .lst [V.ref p, V.ref p1, V.ref p3]) np4
  have sA := (((t0.trans t1).trans t2).trans t3).trans t4
  have : way = 10 ∨ way = 11 ∨ way = 12 := by omega
  rcases this with rfl | rfl | rfl
  · refine ⟨_, atI_nat (j := 0) rfl, q _ _ .bg sA (mk0 (SqT.of (t4 _ _ (t3 _ _ (t2 _ _ (t1 _ _ upd_same))))) (by rw [patD]) (by simp [Pat.Wf]) (by simp [Pat.Sm])) ⟨by simp [Pat.Wf], by simp [Pat.Sm], by simp [Pat.d], by simp [Pat.n], by simp [Pat.z], by simp [Pat.y]⟩⟩
  · refine ⟨_, atI_nat (j := 1) rfl, q _ _ .en sA (mk0 (SqT.of (t4 _ _ (t3 _ _ (t2 _ _ upd_same)))) (by rw [patD]) (by simp [Pat.Wf]) (by simp [Pat.Sm])) ⟨by simp [Pat.Wf], by simp [Pat.Sm], by simp [Pat.d], by simp [Pat.n], by simp [Pat.z], by simp [Pat.y]⟩⟩
  · refine ⟨_, atI_nat (j := 2) rfl, q _ _ (.row []) sA ⟨?_, by simp [Pat.Wf, WfL], by simp [Pat.Sm, SmL]⟩ ⟨by simp [Pat.Wf, WfL], by simp [Pat.Sm, SmL], by simp [Pat.d, dLs], by simp [Pat.n, nL], by simp [Pat.z, zL], by simp [Pat.y, yL]⟩⟩
    rw [patD, patDs]
    exact .tup (SqT.of (t4 _ _ upd_same)) (.cons (.str _) (.cons (.tup (SqT.of (t4 _ _ (t3 _ _ upd_same))) .nil) .nil))
/-! ### one row, one choice of many -/
/-- what a part brings -/
def inP (al : Bool) (p : Pat) : List Pat := match p with
  | .row qs => if al then [p] else qs
  | .alt qs => if al then qs else [p]
  | _ => [p]
def mkP (al : Bool) (ps : List Pat) : Pat := if al then .alt ps else .row ps
def flatP (al : Bool) (ps : List Pat) : Pat := match ps.flatMap (inP al) with
  | [p] => p
  | l => mkP al l
def wdP (al : Bool) : List Nat := if al then [111, 114] else [114, 111, 119]
theorem z_pos : ∀ p : Pat, 1 ≤ p.z
  | .any => by simp [Pat.z]
  | .sign _ => by simp [Pat.z]
  | .cls _ => by simp [Pat.z]
  | .bg => by simp [Pat.z]
  | .en => by simp [Pat.z]
  | .row ps => by simp [Pat.z]
  | .alt ps => by simp [Pat.z]
  | .rep p l m => by simp [Pat.z]
theorem len_z : ∀ ps : List Pat, ps.length ≤ zL ps
  | [] => Nat.zero_le _
  | p :: ps => by
    rw [zL, List.length_cons]
    have := z_pos p
    have := len_z ps
    omega
theorem inP_len (al : Bool) (p : Pat) : (inP al p).length ≤ p.z := by
  have h := z_pos p
  cases p <;> simp only [inP] <;> try (simpa using h)
  · cases al
    · rw [Pat.z]; have := len_z (by assumption); simp only [Bool.false_eq_true, if_false]; omega
    · simpa using h
  · cases al
    · simpa using h
    · rw [Pat.z]; have := len_z (by assumption); simp only [if_true]; omega
theorem zL_app : ∀ (ps qs : List Pat), zL (ps ++ qs) = zL ps + zL qs
  | [], qs => by simp [zL]
  | p :: ps, qs => by rw [List.cons_append, zL, zL, zL_app ps qs]; omega
theorem zL_take (ps : List Pat) (i : Nat) : zL (ps.take i) ≤ zL ps := by
  have := zL_app (ps.take i) (ps.drop i)
  rw [List.take_append_drop] at this
  omega
theorem zL_get {ps : List Pat} {i : Nat} {p : Pat} (h : ps[i]? = some p) : zL (ps.take i) + p.z ≤ zL ps := by
  have := zL_take ps (i + 1)
  rw [List.take_add_one, h, zL_app] at this
  simp only [Option.toList_some, zL] at this
  omega
theorem flat_len (al : Bool) : ∀ ps : List Pat, (ps.flatMap (inP al)).length ≤ zL ps
  | [] => Nat.zero_le _
  | p :: ps => by
    rw [List.flatMap_cons, List.length_append, zL]
    have := inP_len al p
    have := flat_len al ps
    omega
theorem patDs_app : ∀ ps qs : List Pat, patDs (ps ++ qs) = patDs ps ++ patDs qs
  | [], _ => rfl
  | p :: ps, qs => by rw [List.cons_append, patDs, patDs, patDs_app ps qs]; rfl
theorem inP_eq {al : Bool} {p : Pat} (h : tagOf p = wdP al) : p = mkP al (inP al p) := by
  cases p <;> cases al <;> first | rfl | (revert h; simp [tagOf, wdP])
theorem inP_ne {al : Bool} {p : Pat} (h : tagOf p ≠ wdP al) : inP al p = [p] := by
  cases p <;> cases al <;> first | rfl | exact absurd rfl h
theorem mkP_data (al : Bool) (qs : List Pat) : patD (mkP al qs) = .tuple [.str (S (wdP al)), .tuple (patDs qs)] := by
  cases al
  · show patD (.row qs) = _; rw [patD]; rfl
  · show patD (.alt qs) = _; rw [patD]; rfl
theorem WfL_app : ∀ {ps qs : List Pat}, WfL ps → WfL qs → WfL (ps ++ qs)
  | [], _, _, h => h
  | p :: ps, qs, h, g => by rw [WfL] at h; rw [List.cons_append, WfL]; exact ⟨h.1, WfL_app h.2 g⟩
theorem SmL_app : ∀ {ps qs : List Pat}, SmL ps → SmL qs → SmL (ps ++ qs)
  | [], _, _, h => h
  | p :: ps, qs, h, g => by rw [SmL] at h; rw [List.cons_append, SmL]; exact ⟨h.1, SmL_app h.2 g⟩
theorem inP_wf {al : Bool} {p : Pat} (h : p.Wf) : WfL (inP al p) := by
  have one : WfL [p] := by rw [WfL]; exact ⟨h, by rw [WfL]; trivial⟩
  cases p <;> cases al <;> first | exact one | (rw [Pat.Wf] at h; exact h)
theorem inP_sm {al : Bool} {p : Pat} (h : p.Sm) : SmL (inP al p) := by
  have one : SmL [p] := by rw [SmL]; exact ⟨h, by rw [SmL]; trivial⟩
  cases p <;> cases al <;> first | exact one | (rw [Pat.Sm] at h; exact h.1)
theorem flat_wf (al : Bool) : ∀ {ps : List Pat}, WfL ps → WfL (ps.flatMap (inP al))
  | [], h => h
  | p :: ps, h => by rw [WfL] at h; rw [List.flatMap_cons]; exact WfL_app (inP_wf h.1) (flat_wf al h.2)
theorem flat_sm (al : Bool) : ∀ {ps : List Pat}, SmL ps → SmL (ps.flatMap (inP al))
  | [], h => h
  | p :: ps, h => by rw [SmL] at h; rw [List.flatMap_cons]; exact SmL_app (inP_sm h.1) (flat_sm al h.2)
theorem flatP_one {al : Bool} {ps : List Pat} {p : Pat} (h : ps.flatMap (inP al) = [p]) : flatP al ps = p := by unfold flatP; rw [h]
theorem flatP_many {al : Bool} {ps : List Pat} (h : (ps.flatMap (inP al)).length ≠ 1) : flatP al ps = mkP al (ps.flatMap (inP al)) := by
  unfold flatP
  cases e : ps.flatMap (inP al) with
  | nil => rfl
  | cons p l => cases l with
    | nil => rw [e] at h; simp at h
    | cons q l => rfl
theorem mkP_wf {al : Bool} {ps : List Pat} (h : WfL ps) : (mkP al ps).Wf := by cases al <;> (simp only [mkP, Bool.false_eq_true, if_false, if_true]; rw [Pat.Wf]; exact h)
theorem mkP_sm {al : Bool} {ps : List Pat} (h : SmL ps) (l : ps.length ≤ 1000) : (mkP al ps).Sm := by cases al <;> (simp only [mkP, Bool.false_eq_true, if_false, if_true]; rw [Pat.Sm]; exact ⟨h, l⟩)
/-- a list of patterns -/
structure PtL (K : PySem.W.Frag) (H : Hp) (a : Addr) (ps : List Pat) : Prop where
  ex : ∃ vs : List V, H a = some (.lst vs) ∧ DpAll K H vs (patDs ps)
  wf : WfL ps
  sm : SmL ps
def sp_flat (K : PySem.W.Frag) : Sp := fun vs H Q _ => ∃ (al : Bool) (a : Addr) (ps : List Pat), vs = [.str (S (wdP al)), .ref a] ∧ PtL K H a ps ∧ zL ps ≤ 1000 ∧ ∀ H' v, Same H H' → PtD K H' v (flatP al ps) → Q v H'
theorem sclaw_flat : FnScope ["_law_word", "_law_parts", "_law_told", "_law_part"] ["_law_word", "_law_parts"] (defScope (topS 36)) := ⟨rfl, rfl, rfl, by decide +kernel, rfl, by decide +kernel, by decide +kernel⟩
theorem ok_flat (T : BiA mg) (D : Dfn K mg "_law_flat" (topS 36) ["_law_word", "_law_parts"]) : Cal P w K mg base 1 "_law_flat" (sp_flat K) := by
  refine cal_of D sclaw_flat (fun vs H Q E h => ?_) (fun f cdv A outer s H vs Q E hr h => ?_)
  · obtain ⟨al, a, ps, rfl, _⟩ := h
    rfl
  obtain ⟨al, a, ps, rfl, hp, hz, q⟩ := h
  refine ⟨_, (C8.pss_cut (ps_set (i := 2) sclaw_flat.nd rfl (Or.inl rfl) (pe_lst pa_nil))
      (C8.pss_cut (ps_for PassesOwn.never rfl (pi_list (pv 1)) (pg_name (i := 3) sclaw_flat.nd rfl (Or.inl rfl)) (pss_one (ps_if (pt_cmpR op_eq (pe_ix ix_tup (pv 3) pe_int (fun _ _ => rfl)) (pv 0) (nomark _)) (pss_one (ps_set (i := 2) sclaw_flat.nd rfl (Or.inl rfl) (pe_op op_cat (pv 2) (pe_callTy call_list_of (by rfl) T.b_list (by decide +kernel) (pa_cons (pe_ix ix_tup (pv 3) pe_int (fun _ _ => rfl)) pa_nil))))) (pss_one (ps_expr (pe_bm PySem.F.plainAttrs_list PySem.F.slot_list_append PySem.F.type_list_append mt_append (pv 2) (pa_cons (pv 3) pa_nil)))))))
      (pss_cons (ps_if (pt_cmpR op_eq (pe_callB call_len_seq (by rfl) T.b_len (by decide +kernel) (pa_cons (pv 2) pa_nil)) pe_int (nomark _)) (pss_one (ps_ret (pe_ix ix_list (pv 2) pe_int (fun _ _ => rfl)))) pss_nil)
      (pss_one (ps_ret (pe_tup (pa_cons (pv 0) (pa_cons (pe_callTy call_tuple_of (by rfl) T.b_tuple (by decide +kernel) (pa_cons (pv 2) pa_nil)) pa_nil)))))))), ?_⟩
  obtain ⟨vs, ea, dv⟩ := hp.ex
  have vl : vs.length = ps.length := by rw [dv.len, patDs_len]
  obtain ⟨M1, hM1⟩ : ∃ M : L2.St → Hp → Prop, ∀ σ' H', M σ' H' ↔ ∃ r : Addr, σ' = [some (.str (S (wdP al))), some (.ref a), some (.ref r), none] ∧ H' = upd H r (.lst []) ∧ H r = none := ⟨_, fun _ _ => Iff.rfl⟩
  refine ⟨M1, ?_, fun σ1 H1 g1 => ?_⟩
  · simp only [tSeq, tAsg, tCB, tCons, tVar, tNil, gName, tRet, tRetN, tDrop, tNext, tIfS, tTest, tB, tOr, tAnd, tNot, tIf, tOrV, tAndV, tNotV, tChain, rI0, rI, rU, tUn, tC, tOp, rNe, rEq, tCall, tPart, tNoPart, tSl, tM0, tM1, tTup, tLst, tAug, gTup, gCons, gNil, rAdd, rSub, tNever, tBreak, tCont, L2.start, scSS, scII, scBB, ipI, sS, dS, d1, mkS, sL, nc1, nc2, Int.natCast_inj, List.map_cons, List.map_nil, List.length_cons, List.length_nil, List.replicate, List.cons_append, List.nil_append, List.append_nil, List.getElem?_cons_zero, List.getElem?_cons_succ, List.set_cons_zero, List.set_cons_succ, Option.some.injEq, V.str.injEq, V.int.injEq, V.bl.injEq, V.ref.injEq, List.cons.injEq, and_true, true_and, exists_eq_left', exists_eq_left, exists_eq, exists_eq', exists_and_left, exists_and_right, and_assoc, exists_const, reduceCtorEq, if_true, if_false, ite_true, ite_false, Bool.false_eq_true, decide_true, decide_false, Bool.not_true, Bool.not_false, cxK, ]
    exact ⟨Nat.zero_le _, fun r nr => (hM1 _ _).mpr ⟨r, rfl, rfl, nr⟩⟩
  obtain ⟨r0, rfl, rfl, nr0⟩ := (hM1 _ _).mp g1
  have s0 := same_upd (o := .lst []) nr0
  obtain ⟨Pv, hPv⟩ : ∃ Pv : Nat → L2.St → Hp → Prop, ∀ i σ' H', Pv i σ' H' ↔ ∃ (r : Addr) (ts : List V) (v3 : Option V), σ' = [some (.str (S (wdP al))), some (.ref a), some (.ref r), v3] ∧ Same H H' ∧ H r = none ∧ H' r = some (.lst ts) ∧ DpAll K H' ts (patDs ((ps.take i).flatMap (inP al))) := ⟨_, fun _ _ _ => Iff.rfl⟩
  obtain ⟨Me, hMe⟩ : ∃ M : L2.St → Hp → Prop, ∀ σ' H', M σ' H' ↔ ∃ i, i = ps.length ∧ Pv i σ' H' := ⟨_, fun _ _ => Iff.rfl⟩
  refine ⟨Me, ?_, fun σ1 H1 g1 => ?_⟩
  · simp only [tSeq, tAsg, tCB, tCons, tVar, tNil, gName, tRet, tRetN, tDrop, tNext, tIfS, tTest, tB, tOr, tAnd, tNot, tIf, tOrV, tAndV, tNotV, tChain, rI0, rI, rU, tUn, tC, tOp, rNe, rEq, tCall, tPart, tNoPart, tSl, tM0, tM1, tTup, tLst, tAug, gTup, gCons, gNil, rAdd, rSub, tNever, tBreak, tCont, L2.start, scSS, scII, scBB, ipI, sS, dS, d1, mkS, sL, nc1, nc2, Int.natCast_inj, List.map_cons, List.map_nil, List.length_cons, List.length_nil, List.replicate, List.cons_append, List.nil_append, List.append_nil, List.getElem?_cons_zero, List.getElem?_cons_succ, List.set_cons_zero, List.set_cons_succ, Option.some.injEq, V.str.injEq, V.int.injEq, V.bl.injEq, V.ref.injEq, List.cons.injEq, and_true, true_and, exists_eq_left', exists_eq_left, exists_eq, exists_eq', exists_and_left, exists_and_right, and_assoc, exists_const, reduceCtorEq, if_true, if_false, ite_true, ite_false, Bool.false_eq_true, decide_true, decide_false, Bool.not_true, Bool.not_false, cxK, eFoL, ]
    refine ⟨⟨_, SqL.of (s0 _ _ ea)⟩, foL vs Pv ((hPv _ _ _).mpr ⟨r0, [], none, rfl, s0, nr0, upd_same, .nil⟩) (fun i σ' H' _ g => ?_) (fun i y σ' H' hy g => ?_) (fun σ' H' g => (hMe _ _).mpr ⟨_, vl, g⟩)⟩
    · obtain ⟨_, _, _, rfl, s, _⟩ := (hPv _ _ _).mp g
      exact SqL.of (s _ _ ea)
    · obtain ⟨r, ts, v3, rfl, s, nr, er, dt⟩ := (hPv _ _ _).mp g
      obtain ⟨dy, edy, ky⟩ := dv.at hy
      rw [patDs_get] at edy
      obtain ⟨pi, epi, rfl⟩ := Option.map_eq_some_iff.mp edy
      have pt : PtD K H' y pi := ⟨dp_same s _ _ ky, WfL_get hp.wf epi, SmL_get hp.sm epi⟩
      obtain ⟨pa, xs, ds, rfl, hx, hds, hxs⟩ := pt.at
      have step : (ps.take (i + 1)).flatMap (inP al) = (ps.take i).flatMap (inP al) ++ inP al pi := by
        rw [List.take_add_one, epi]
        simp
      simp only [tSeq, tAsg, tCB, tCons, tVar, tNil, gName, tRet, tRetN, tDrop, tNext, tIfS, tTest, tB, tOr, tAnd, tNot, tIf, tOrV, tAndV, tNotV, tChain, rI0, rI, rU, tUn, tC, tOp, rNe, rEq, tCall, tPart, tNoPart, tSl, tM0, tM1, tTup, tLst, tAug, gTup, gCons, gNil, rAdd, rSub, tNever, tBreak, tCont, L2.start, scSS, scII, scBB, ipI, sS, dS, d1, mkS, sL, nc1, nc2, Int.natCast_inj, List.map_cons, List.map_nil, List.length_cons, List.length_nil, List.replicate, List.cons_append, List.nil_append, List.append_nil, List.getElem?_cons_zero, List.getElem?_cons_succ, List.set_cons_zero, List.set_cons_succ, Option.some.injEq, V.str.injEq, V.int.injEq, V.bl.injEq, V.ref.injEq, List.cons.injEq, and_true, true_and, exists_eq_left', exists_eq_left, exists_eq, exists_eq', exists_and_left, exists_and_right, and_assoc, exists_const, reduceCtorEq, if_true, if_false, ite_true, ite_false, Bool.false_eq_true, decide_true, decide_false, Bool.not_true, Bool.not_false, cxK, rIxT, tBM, rAppend, ]
      have zg := zL_get epi
      have l1 := flat_len al (ps.take i)
      have l2 := inP_len al pi
      have tsl : ts.length ≤ zL (ps.take i) := by rw [dt.len, patDs_len]; exact l1
      by_cases ht : tagOf pi = wdP al
      · refine ⟨_, hx, _, atI_nat (j := 0) rfl, by rfl, ?_⟩
        rw [if_pos (by rw [ht]; exact decide_eq_true rfl)]
        have e2 := inP_eq ht
        have hd2 : patD pi = .tuple [.str (S (wdP al)), .tuple (patDs (inP al pi))] := by rw [← mkP_data, ← e2]
        have hd3 : PyData.tuple (.str (S (tagOf pi)) :: ds) = .tuple [.str (S (wdP al)), .tuple (patDs (inP al pi))] := hds.symm.trans hd2
        rw [ht] at hd3
        injection hd3 with hd4
        injection hd4 with _ hd5
        subst hd5
        obtain ⟨x1, xs, rfl, hx1, hxs⟩ := hxs.c1
        cases hxs.c0
        obtain ⟨pb, ys, rfl, hy2, hys⟩ := hx1.tupI
        have yl : ys.length = (inP al pi).length := by rw [hys.len, patDs_len]
        refine ⟨_, hx, _, atI_nat (j := 1) rfl, _, rfl, ys, .inr hy2, fun l nl => ?_⟩
        have sl := same_upd (o := .lst ys) nl
        refine ⟨r, l, ts, ys, rfl, rfl, sl _ _ er, upd_same, sz5 (by omega), fun p2 n2 => ?_⟩
        have s2 := same_upd (o := .lst (ts ++ ys)) n2
        have sA := (s.trans sl).trans s2
        refine (hPv _ _ _).mpr ⟨p2, ts ++ ys, _, rfl, sA, fr_none (A := []) (.of (s.trans sl)) (by simp) n2, upd_same, ?_⟩
        rw [step, patDs_app]
        exact (dp_sameAll (sl.trans s2) _ _ dt).app (dp_sameAll (sl.trans s2) _ _ hys)
      · refine ⟨_, hx, _, atI_nat (j := 0) rfl, by rfl, ?_⟩
        rw [if_neg (by simpa [SX.S_inj] using ht)]
        refine ⟨.inl ⟨rfl, _, SqL.of er⟩, ts, er, sz5 (show ts.length + 1 ≤ 100000 by have := z_pos pi; omega), (hPv _ _ _).mpr ⟨r, ts ++ [.ref pa], _, rfl, same_mut s nr, nr, upd_same, ?_⟩⟩
        rw [step, inP_ne ht, patDs_app]
        have f1 : Fr [r] H' (upd H' r (.lst (ts ++ [.ref pa]))) := Fr.refl.upd (.inl (.head _)) er rfl
        exact (dp_frAll f1 _ _ (noL_pats _) dt).app (.cons (dp_fr f1 _ _ (noL_pat pi) pt.dp) .nil)
  obtain ⟨i, rfl, g1⟩ := (hMe _ _).mp g1
  obtain ⟨r, ts, v3, rfl, s, nr, er, dt⟩ := (hPv _ _ _).mp g1
  rw [List.take_length] at dt
  simp only [tSeq, tAsg, tCB, tCons, tVar, tNil, gName, tRet, tRetN, tDrop, tNext, tIfS, tTest, tB, tOr, tAnd, tNot, tIf, tOrV, tAndV, tNotV, tChain, rI0, rI, rU, tUn, tC, tOp, rNe, rEq, tCall, tPart, tNoPart, tSl, tM0, tM1, tTup, tLst, tAug, gTup, gCons, gNil, rAdd, rSub, tNever, tBreak, tCont, L2.start, scSS, scII, scBB, ipI, sS, dS, d1, mkS, sL, nc1, nc2, Int.natCast_inj, List.map_cons, List.map_nil, List.length_cons, List.length_nil, List.replicate, List.cons_append, List.nil_append, List.append_nil, List.getElem?_cons_zero, List.getElem?_cons_succ, List.set_cons_zero, List.set_cons_succ, Option.some.injEq, V.str.injEq, V.int.injEq, V.bl.injEq, V.ref.injEq, List.cons.injEq, and_true, true_and, exists_eq_left', exists_eq_left, exists_eq, exists_eq', exists_and_left, exists_and_right, and_assoc, exists_const, reduceCtorEq, if_true, if_false, ite_true, ite_false, Bool.false_eq_true, decide_true, decide_false, Bool.not_true, Bool.not_false, cxK, rIxL, ]
  have fl := flat_len al ps
  have tl : ts.length = (ps.flatMap (inP al)).length := by rw [dt.len, patDs_len]
  refine ⟨ts, .inl (SqL.of er), ?_⟩
  by_cases z : ts.length = 1
  · rw [if_pos (by rw [z]; rfl)]
    obtain ⟨p, hp1⟩ : ∃ p, ps.flatMap (inP al) = [p] := by
      cases e : ps.flatMap (inP al) with
      | nil => rw [e, z] at tl; cases tl
      | cons p l => cases l with
        | nil => exact ⟨p, rfl⟩
        | cons q l => rw [e, z] at tl; simp at tl
    rw [hp1, patDs, patDs] at dt
    obtain ⟨x, xs, rfl, hx, hxs⟩ := dt.c1
    have w1 := flat_wf al hp.wf
    have m1 := flat_sm al hp.sm
    rw [hp1, WfL] at w1
    rw [hp1, SmL] at m1
    exact ⟨_, SqL.of er, x, atI_nat (j := 0) rfl, q H1 x s (by rw [flatP_one hp1]; exact ⟨hx, w1.1, m1.1⟩)⟩
  · rw [if_neg (by rw [decide_eq_false (by omega)]; decide)]
    refine ⟨ts, .inl ⟨SqL.of er, fun l nl => ⟨by decide, fun p np => ?_⟩⟩⟩
    have sl := same_upd (o := .tup ts) nl
    have sp := same_upd (o := .tup [V.str (S (wdP al)), V.ref l]) np
    refine q _ (.ref p) ((s.trans sl).trans sp) ?_
    rw [flatP_many (by rw [← tl]; exact z)]
    refine ⟨?_, mkP_wf (flat_wf al hp.wf), mkP_sm (flat_sm al hp.sm) (Nat.le_trans fl hz)⟩
    rw [mkP_data]
    exact .tup (SqT.of upd_same) (.cons (.str _) (.cons (.tup (SqT.of (sp _ _ upd_same)) (dp_sameAll (sl.trans sp) _ _ dt)) .nil))
end
end Pd

namespace Pd
open PySem PySem.Spec PyProof.Rows L2
open SX (S)
structure PsB (ps : List Pat) (d n z y : Nat) : Prop where
  wf : WfL ps
  sm : SmL ps
  d : dLs ps ≤ d
  n : nL ps ≤ n
  z : zL ps ≤ z
  y : yL ps ≤ y
theorem PsB.nil : PsB [] 0 0 0 0 := ⟨by rw [WfL]; trivial, by rw [SmL]; trivial, by rw [dLs]; exact Nat.le_refl _, by rw [nL]; exact Nat.le_refl _, by rw [zL]; exact Nat.le_refl _, by rw [yL]; exact Nat.le_refl _⟩
theorem dLs_app : ∀ ps qs : List Pat, dLs (ps ++ qs) = max (dLs ps) (dLs qs)
  | [], qs => by simp [dLs]
  | p :: ps, qs => by rw [List.cons_append, dLs, dLs, dLs_app ps qs]; omega
theorem yL_app : ∀ ps qs : List Pat, yL (ps ++ qs) = yL ps + yL qs
  | [], qs => by simp [yL]
  | p :: ps, qs => by rw [List.cons_append, yL, yL, yL_app ps qs]; omega
theorem PsB.app {ps qs : List Pat} {d n z y d' n' z' y' : Nat} (h : PsB ps d n z y) (g : PsB qs d' n' z' y') : PsB (ps ++ qs) (max d d') (n + n') (z + z') (y + y') :=
  ⟨WfL_app h.wf g.wf, SmL_app h.sm g.sm, by rw [dLs_app]; have := h.d; have := g.d; omega, by rw [nL_app]; have := h.n; have := g.n; omega, by rw [zL_app]; have := h.z; have := g.z; omega, by rw [yL_app]; have := h.y; have := g.y; omega⟩
theorem PtB.one {p : Pat} {d n z y : Nat} (h : PtB p d n z y) : PsB [p] d n z y :=
  ⟨by rw [WfL, WfL]; exact ⟨h.wf, trivial⟩, by rw [SmL, SmL]; exact ⟨h.sm, trivial⟩, by rw [dLs, dLs]; have := h.d; omega, by rw [nL, nL]; have := h.n; omega, by rw [zL, zL]; have := h.z; omega, by rw [yL, yL]; have := h.y; omega⟩
theorem PsB.up {ps : List Pat} {d n z y d' n' z' y' : Nat} (h : PsB ps d n z y) (a : d ≤ d') (b : n ≤ n') (c : z ≤ z') (e : y ≤ y') : PsB ps d' n' z' y' := ⟨h.wf, h.sm, Nat.le_trans h.d a, Nat.le_trans h.n b, Nat.le_trans h.z c, Nat.le_trans h.y e⟩
theorem PtB.up {p : Pat} {d n z y d' n' z' y' : Nat} (h : PtB p d n z y) (a : d ≤ d') (b : n ≤ n') (c : z ≤ z') (e : y ≤ y') : PtB p d' n' z' y' := ⟨h.wf, h.sm, Nat.le_trans h.d a, Nat.le_trans h.n b, Nat.le_trans h.z c, Nat.le_trans h.y e⟩
theorem inP_B (al : Bool) (p : Pat) : dLs (inP al p) ≤ p.d ∧ nL (inP al p) ≤ p.n ∧ zL (inP al p) ≤ p.z ∧ yL (inP al p) ≤ p.y := by
  cases p <;> cases al <;> simp [inP, dLs, nL, zL, yL, Pat.d, Pat.n, Pat.z, Pat.y]
theorem flat_B (al : Bool) : ∀ ps : List Pat, dLs (ps.flatMap (inP al)) ≤ dLs ps ∧ nL (ps.flatMap (inP al)) ≤ nL ps ∧ zL (ps.flatMap (inP al)) ≤ zL ps ∧ yL (ps.flatMap (inP al)) ≤ yL ps
  | [] => by simp
  | p :: ps => by
    rw [List.flatMap_cons, dLs_app, nL_app, zL_app, yL_app, dLs, nL, zL, yL]
    have := inP_B al p
    have := flat_B al ps
    omega
theorem PsB.flat {ps : List Pat} {d n z y : Nat} (al : Bool) (h : PsB ps d n z y) (hz : z ≤ 1000) : PtB (flatP al ps) (d + 1) n (z + 1) (y + 1) := by
  obtain ⟨b1, b2, b3, b4⟩ := flat_B al ps
  have h4 := h.y
  have w1 := flat_wf al h.wf
  have m1 := flat_sm al h.sm
  have h1 := h.d
  have h2 := h.n
  have h3 := h.z
  by_cases z1 : (ps.flatMap (inP al)).length = 1
  · obtain ⟨p, hp1⟩ : ∃ p, ps.flatMap (inP al) = [p] := by
      cases e : ps.flatMap (inP al) with
      | nil => rw [e] at z1; cases z1
      | cons p l => cases l with
        | nil => exact ⟨p, rfl⟩
        | cons q l => rw [e] at z1; simp at z1
    rw [flatP_one hp1]
    rw [hp1] at b1 b2 b3 b4 w1 m1
    rw [WfL] at w1
    rw [SmL] at m1
    rw [dLs, dLs] at b1
    rw [nL, nL] at b2
    rw [zL, zL] at b3
    rw [yL, yL] at b4
    exact ⟨w1.1, m1.1, by omega, by omega, by omega, by omega⟩
  · rw [flatP_many z1]
    have fl := flat_len al ps
    refine ⟨mkP_wf w1, mkP_sm m1 (by omega), ?_, ?_, ?_, ?_⟩
    · cases al <;> simp only [mkP, Bool.false_eq_true, if_false, if_true, Pat.d] <;> omega
    · cases al <;> simp only [mkP, Bool.false_eq_true, if_false, if_true, Pat.n] <;> omega
    · cases al <;> simp only [mkP, Bool.false_eq_true, if_false, if_true, Pat.z] <;> omega
    · cases al <;> simp only [mkP, Bool.false_eq_true, if_false, if_true, Pat.y] <;> omega
theorem PtB.rep {p : Pat} {d n z y l : Nat} {m : Option Nat} (h : PtB p d n z y) (hl : l ≤ 1000) (hm : ∀ x, m = some x → l ≤ x ∧ x ≤ 1000) : PtB (.rep p l m) (d + 1) (copiesOf l m * n) (z + 1) ((copiesOf l m + 1) * (y + 1) + 1) :=
  ⟨by rw [Pat.Wf]; exact ⟨h.wf, fun x hx => (hm x hx).1⟩, by rw [Pat.Sm]; exact ⟨h.sm, hl, fun x hx => (hm x hx).2⟩, by rw [Pat.d]; have := h.d; omega, by rw [Pat.n]; exact Nat.mul_le_mul_left _ h.n, by rw [Pat.z]; have := h.z; omega, by rw [Pat.y]; exact Nat.succ_le_succ (Nat.mul_le_mul_left _ (Nat.succ_le_succ h.y))⟩
section
variable {P : Program} {w : World} {K : PySem.W.Frag} {mg : Str → Option Value} {base : Heap}
def zT : Nat → Nat
  | 0 => 1
  | d + 1 => 3 * zT d + 1
def yT : Nat → Nat
  | 0 => 1
  | d + 1 => 5 * yT d + 6
def sp_tree (K : PySem.W.Frag) (b d : Nat) : Sp := fun vs H Q _ => ∃ (a sp : Addr) (ns : List Nat) (k room : Nat), vs = [.ref a, .ref sp, .int (room : Nat), .int (d : Nat)] ∧ d < b ∧ H a = some (.lst (iL ns)) ∧ DrL ns ∧ 0 < ns.length ∧ ns.length ≤ 1000 ∧ H sp = some (.lst [.int (k : Nat)]) ∧ sp ≠ a ∧ room ≤ 4 ∧ 0 < room ∧ k + zT d ≤ 1000 ∧ d ≤ 2 ∧
  ∀ H' v pat k', Fr [sp] H H' → H' sp = some (.lst [.int (k' : Nat)]) → k' ≤ k + zT d → PtD K H' v pat → PtB pat (d + 1) (4 ^ d) (zT d) (yT d) → Q v H'
theorem sclaw_tree : FnScope ["_law_drops_here", "_law_spot", "_law_room", "_law_deep", "_law_drop", "_law_way", "_law_rest", "_law_many", "_law_parts", "_law_least", "_law_most", "_law_copies_here", "_law_k"] ["_law_drops_here", "_law_spot", "_law_room", "_law_deep"] (defScope (topS 37)) := ⟨rfl, rfl, rfl, by decide +kernel, rfl, by decide +kernel, by decide +kernel⟩
theorem dp_optN {K : PySem.W.Frag} {H : Hp} (m : Option Nat) : Dp K H (optNV m) (optN m) := by
  cases m
  · exact .non
  · exact .int _
theorem ok_tree1 (T : BiA mg) (c_law_leaf : Cal P w K mg base 3 "_law_leaf" (sp_leaf K)) (c_law_flat : Cal P w K mg base 1 "_law_flat" (sp_flat K)) (b L : Nat) (hL : 3 ≤ L) (c_law_tree : Cal P w K mg base L "_law_tree" (fun vs H Q E => ∃ d, sp_tree K b d vs H Q E)) (D : Dfn K mg "_law_tree" (topS 37) ["_law_drops_here", "_law_spot", "_law_room", "_law_deep"]) : Cal P w K mg base (L + 1) "_law_tree" (fun vs H Q E => ∃ d, sp_tree K (b + 1) d vs H Q E) := by
  refine cal_of D sclaw_tree (fun vs H Q E h => ?_) (fun f cdv A outer s H vs Q E hr h => ?_)
  · obtain ⟨d, a, sp, ns, k, room, rfl, _⟩ := h
    rfl
  obtain ⟨d, a, sp, ns, k, room, rfl, hb, ha, hn, hn0, hn1, hs, nsa, hr1, hr0, hk, hd, q⟩ := h
  refine ⟨_, (C8.pss_cut (ps_set (i := 4) sclaw_tree.nd rfl (Or.inl rfl) (pe_ix ix_list (pv 0) (pe_op op_modN (pe_callTy call_intI (by rfl) T.b_int (by decide +kernel) (pa_cons (pe_ix ix_list (pv 1) pe_int (fun _ _ => rfl)) pa_nil)) (pe_callB call_len_seq (by rfl) T.b_len (by decide +kernel) (pa_cons (pv 0) pa_nil))) (fun _ _ => rfl)))
      (C8.pss_cut (ps_asg (pe_op op_add (pe_ix ix_list (pv 1) pe_int (fun _ _ => rfl)) pe_int) (pg_sub (pv 1) pe_int set_list))
      (C8.pss_cut (ps_set (i := 5) sclaw_tree.nd rfl (Or.inl rfl) (pe_op op_modN (pe_callTy call_intI (by rfl) T.b_int (by decide +kernel) (pa_cons (pv 4) pa_nil)) pe_int))
      (C8.pss_cut (ps_set (i := 6) sclaw_tree.nd rfl (Or.inl rfl) (pe_op op_fdivW (pv 4) pe_int))
      (C8.pss_cut (ps_if (PW.pt (pw_or (pt_cmpR op_eq (pv 3) pe_int (nomark _)) (pw_or (pt_cmpR op_lt (pv 2) pe_int (nomark _)) (pw_or1 (pt_cmpR op_lt (pv 5) pe_int (nomark _)))))) (pss_one (ps_ret (pc c_law_leaf hr (by omega) rfl (pa_cons (pv 6) pa_nil)))) pss_nil)
      (C8.pss_cut (ps_if (pt_cmpR op_lt (pv 5) pe_int (nomark _)) (C8.pss_cut (ps_set (i := 7) sclaw_tree.nd rfl (Or.inr rfl) (pe_callB (call_min2 rfl) (by rfl) T.b_min (by decide +kernel) (pa_cons (pv 2) (pa_cons (pe_op op_add pe_int (pe_op op_modN (pe_callTy call_intI (by rfl) T.b_int (by decide +kernel) (pa_cons (pv 6) pa_nil)) pe_int)) pa_nil))))
      (C8.pss_cut (ps_setLc (i := 8) (own := [("_law_k", 12)]) (g := gName 12) (tt := tYes) rfl sclaw_tree.nd rfl rfl (sw_true rfl rfl rfl (by decide +kernel)) (pi_range1 (by rfl) T.b_range (pa_cons (pv 7) pa_nil)) (blkOk_by (N := ["_law_drops_here", "_law_spot", "_law_room", "_law_deep", "_law_drop", "_law_way", "_law_rest", "_law_many", "_law_parts", "_law_least", "_law_most", "_law_copies_here", "_law_k"]) (sc := defScope (topS 37)) (by decide +kernel)) (fun _ _ _ _ _ => (pg_name (i := 12) sclaw_tree.nd rfl (Or.inl rfl))) (fun _ _ _ _ _ => pts_nil) (fun _ _ _ _ _ => (pc c_law_tree hr (by omega) rfl (pa_cons (pv 0) (pa_cons (pv 1) (pa_cons (pe_callB (call_max2 rfl) (by rfl) T.b_max (by decide +kernel) (pa_cons pe_int (pa_cons (pe_op op_fdivW (pv 2) (pv 7)) pa_nil))) (pa_cons (pe_op op_sub (pv 3) pe_int) pa_nil)))))))
      (pss_one (ps_ret (pc c_law_flat hr (by omega) rfl (pa_cons (pe_ix ix_list (pe_lst (pa_cons pe_str (pa_cons pe_str pa_nil))) (pe_callTy call_intB (by rfl) T.b_int (by decide +kernel) (pa_cons (pe_cmpR op_gt (pv 5) pe_int (nomark _)) pa_nil)) (fun _ _ => rfl)) (pa_cons (pv 8) pa_nil))))))) pss_nil)
      (C8.pss_cut (ps_set (i := 9) sclaw_tree.nd rfl (Or.inl rfl) (pe_op op_modN (pe_callTy call_intI (by rfl) T.b_int (by decide +kernel) (pa_cons (pv 6) pa_nil)) (pe_callB (call_min2 rfl) (by rfl) T.b_min (by decide +kernel) (pa_cons pe_int (pa_cons (pe_op op_add (pv 2) pe_int) pa_nil)))))
      (C8.pss_cut (ps_set (i := 10) sclaw_tree.nd rfl (Or.inl rfl) (pe_ix ix_list (pe_lst (pa_cons pe_non (pa_cons pe_non (pa_cons (pv 9) (pa_cons (pe_op op_add (pv 9) (pe_op op_modN (pe_callTy call_intI (by rfl) T.b_int (by decide +kernel) (pa_cons (pe_op op_fdivW (pv 6) pe_int) pa_nil)) pe_int)) pa_nil))))) (pe_op op_modN (pe_callTy call_intI (by rfl) T.b_int (by decide +kernel) (pa_cons (pe_op op_fdivW (pv 6) pe_int) pa_nil)) pe_int) (fun _ _ => rfl)))
      (C8.pss_cut (ps_if (pt_cmpR op_isN (pv 10) pe_non (nomark _)) (pss_one (ps_set (i := 11) sclaw_tree.nd rfl (Or.inl rfl) (pe_callB (call_max2 rfl) (by rfl) T.b_max (by decide +kernel) (pa_cons pe_int (pa_cons (pv 9) pa_nil))))) (pss_cons (ps_set (i := 10) sclaw_tree.nd rfl (Or.inl rfl) (pe_callB (call_min2 rfl) (by rfl) T.b_min (by decide +kernel) (pa_cons (pv 10) (pa_cons (pv 2) pa_nil))))
      (pss_cons (ps_set (i := 9) sclaw_tree.nd rfl (Or.inl rfl) (pe_callB (call_min2 rfl) (by rfl) T.b_min (by decide +kernel) (pa_cons (pv 9) (pa_cons (pv 10) pa_nil))))
      (pss_one (ps_set (i := 11) sclaw_tree.nd rfl (Or.inl rfl) (pe_callB (call_max2 rfl) (by rfl) T.b_max (by decide +kernel) (pa_cons pe_int (pa_cons (pv 10) pa_nil))))))))
      (pss_one (ps_ret (pe_tup (pa_cons pe_str (pa_cons (pc c_law_tree hr (by omega) rfl (pa_cons (pv 0) (pa_cons (pv 1) (pa_cons (pe_callB (call_max2 rfl) (by rfl) T.b_max (by decide +kernel) (pa_cons pe_int (pa_cons (pe_op op_fdivW (pv 2) (pv 11)) pa_nil))) (pa_cons (pe_op op_sub (pv 3) pe_int) pa_nil))))) (pa_cons (pv 9) (pa_cons (pv 10) pa_nil)))))))))))))))), ?_⟩
  obtain ⟨spR, hspR⟩ : ∃ spR : Sp, spR = (fun vs H Q E => ∃ d, sp_tree K b d vs H Q E) := ⟨_, rfl⟩
  rw [← hspR]
  obtain ⟨B, hB⟩ : ∃ B : Nat → Option V → Option V → Option V → Option V → Option V → Option V → Option V → Option V → Option V → L2.St → Hp → Prop, ∀ k' v4 v5 v6 v7 v8 v9 v10 v11 v12 σ' H', B k' v4 v5 v6 v7 v8 v9 v10 v11 v12 σ' H' ↔ σ' = [some (.ref a), some (.ref sp), some (.int (room : Nat)), some (.int (d : Nat)), v4, v5, v6, v7, v8, v9, v10, v11, v12] ∧ Fr [sp] H H' ∧ H' sp = some (.lst [.int (k' : Nat)]) ∧ H' a = some (.lst (iL ns)) := ⟨_, fun _ _ _ _ _ _ _ _ _ _ _ _ => Iff.rfl⟩
  refine ⟨fun σ' H' => ∃ n4 : Nat, n4 < 1441440 ∧ B k (some (.int (n4 : Nat))) none none none none none none none none σ' H', ?_, fun σ1 H1 g1 => ?_⟩
  · simp only [tSeq, tAsg, tCB, tCons, tVar, tNil, gName, tRet, tRetN, tDrop, tNext, tIfS, tTest, tB, tOr, tAnd, tNot, tIf, tOrV, tAndV, tNotV, tChain, rI0, rI, rU, tUn, tC, tOp, rNe, rEq, tCall, tPart, tNoPart, tSl, tM0, tM1, tTup, tLst, tAug, gTup, gCons, gNil, rAdd, rSub, tNever, tBreak, tCont, L2.start, scSS, scII, scBB, ipI, sS, dS, d1, mkS, sL, nc1, nc2, Int.natCast_inj, List.map_cons, List.map_nil, List.length_cons, List.length_nil, List.replicate, List.cons_append, List.nil_append, List.append_nil, List.getElem?_cons_zero, List.getElem?_cons_succ, List.set_cons_zero, List.set_cons_succ, Option.some.injEq, V.str.injEq, V.int.injEq, V.bl.injEq, V.ref.injEq, List.cons.injEq, and_true, true_and, exists_eq_left', exists_eq_left, exists_eq, exists_eq', exists_and_left, exists_and_right, and_assoc, exists_const, reduceCtorEq, if_true, if_false, ite_true, ite_false, Bool.false_eq_true, decide_true, decide_false, Bool.not_true, Bool.not_false, cxK, rIxL, l_16, l_21, l_22]
    obtain ⟨r, f, hr⟩ := mod_lt' (i := (k : Int)) (m := ns.length) hn0
    obtain ⟨n4, h4⟩ : ∃ n4, ns[r]? = some n4 := ⟨_, List.getElem?_eq_getElem hr⟩
    have nz : ((iL ns).length : Int) ≠ 0 := by rw [iL_len]; omega
    refine ⟨_, SqL.of hs, _, atI_nat (j := 0) rfl, _, rfl, _, .inl (SqL.of ha), nz, _, SqL.of ha, _, ?_, n4, hn n4 (List.mem_of_getElem? h4), (hB _ _ _ _ _ _ _ _ _ _ _ _).mpr ⟨rfl, .refl, hs, ha⟩⟩
    rw [iL_len, f]
    exact atI_nat (iL_get h4)
  obtain ⟨n4, hn4, g1⟩ := g1
  obtain ⟨rfl, f1, e1, a1⟩ := (hB _ _ _ _ _ _ _ _ _ _ _ _).mp g1
  refine ⟨B (k + 1) (some (.int (n4 : Nat))) none none none none none none none none, ?_, fun σ1 H1 g1 => ?_⟩
  · simp only [tSeq, tAsg, tCB, tCons, tVar, tNil, gName, tRet, tRetN, tDrop, tNext, tIfS, tTest, tB, tOr, tAnd, tNot, tIf, tOrV, tAndV, tNotV, tChain, rI0, rI, rU, tUn, tC, tOp, rNe, rEq, tCall, tPart, tNoPart, tSl, tM0, tM1, tTup, tLst, tAug, gTup, gCons, gNil, rAdd, rSub, tNever, tBreak, tCont, L2.start, scSS, scII, scBB, ipI, sS, dS, d1, mkS, sL, nc1, nc2, Int.natCast_inj, List.map_cons, List.map_nil, List.length_cons, List.length_nil, List.replicate, List.cons_append, List.nil_append, List.append_nil, List.getElem?_cons_zero, List.getElem?_cons_succ, List.set_cons_zero, List.set_cons_succ, Option.some.injEq, V.str.injEq, V.int.injEq, V.bl.injEq, V.ref.injEq, List.cons.injEq, and_true, true_and, exists_eq_left', exists_eq_left, exists_eq, exists_eq', exists_and_left, exists_and_right, and_assoc, exists_const, reduceCtorEq, if_true, if_false, ite_true, ite_false, Bool.false_eq_true, decide_true, decide_false, Bool.not_true, Bool.not_false, cxK, rIxL, gSub, rSetL, l_16, l_21, l_22]
    refine ⟨_, SqL.of e1, _, atI_nat (j := 0) rfl, _, rfl, _, e1, 0, rfl, ?_⟩
    have f2 : Fr [sp] H (upd H1 sp (.lst [.int ((k + 1 : Nat) : Int)])) := f1.upd (.inl (.head _)) e1 rfl
    exact (hB _ _ _ _ _ _ _ _ _ _ _ _).mpr ⟨rfl, f2, upd_same, f2.keep a _ ha (by simp only [List.mem_singleton]; exact fun z => nsa z.symm)⟩
  obtain ⟨rfl, f1, e1, a1⟩ := (hB _ _ _ _ _ _ _ _ _ _ _ _).mp g1
  refine ⟨fun σ' H' => ∃ n5 : Nat, n5 < 10 ∧ B (k + 1) (some (.int (n4 : Nat))) (some (.int (n5 : Nat))) none none none none none none none σ' H', ?_, fun σ1 H1 g1 => ?_⟩
  · simp only [tSeq, tAsg, tCB, tCons, tVar, tNil, gName, tRet, tRetN, tDrop, tNext, tIfS, tTest, tB, tOr, tAnd, tNot, tIf, tOrV, tAndV, tNotV, tChain, rI0, rI, rU, tUn, tC, tOp, rNe, rEq, tCall, tPart, tNoPart, tSl, tM0, tM1, tTup, tLst, tAug, gTup, gCons, gNil, rAdd, rSub, tNever, tBreak, tCont, L2.start, scSS, scII, scBB, ipI, sS, dS, d1, mkS, sL, nc1, nc2, Int.natCast_inj, List.map_cons, List.map_nil, List.length_cons, List.length_nil, List.replicate, List.cons_append, List.nil_append, List.append_nil, List.getElem?_cons_zero, List.getElem?_cons_succ, List.set_cons_zero, List.set_cons_succ, Option.some.injEq, V.str.injEq, V.int.injEq, V.bl.injEq, V.ref.injEq, List.cons.injEq, and_true, true_and, exists_eq_left', exists_eq_left, exists_eq, exists_eq', exists_and_left, exists_and_right, and_assoc, exists_const, reduceCtorEq, if_true, if_false, ite_true, ite_false, Bool.false_eq_true, decide_true, decide_false, Bool.not_true, Bool.not_false, cxK, l_16, l_21, l_22]
    obtain ⟨r, f, hr⟩ := mod_lt' (i := (n4 : Int)) (m := 10) (by decide)
    rw [show ((10 : Nat) : Int) = 10 from rfl] at f
    exact ⟨by decide, r, hr, (hB _ _ _ _ _ _ _ _ _ _ _ _).mpr ⟨by rw [f], f1, e1, a1⟩⟩
  obtain ⟨n5, hn5, g1⟩ := g1
  obtain ⟨rfl, f1, e1, a1⟩ := (hB _ _ _ _ _ _ _ _ _ _ _ _).mp g1
  refine ⟨fun σ' H' => ∃ n6 : Nat, n6 < 1441440 ∧ B (k + 1) (some (.int (n4 : Nat))) (some (.int (n5 : Nat))) (some (.int (n6 : Nat))) none none none none none none σ' H', ?_, fun σ1 H1 g1 => ?_⟩
  · simp only [tSeq, tAsg, tCB, tCons, tVar, tNil, gName, tRet, tRetN, tDrop, tNext, tIfS, tTest, tB, tOr, tAnd, tNot, tIf, tOrV, tAndV, tNotV, tChain, rI0, rI, rU, tUn, tC, tOp, rNe, rEq, tCall, tPart, tNoPart, tSl, tM0, tM1, tTup, tLst, tAug, gTup, gCons, gNil, rAdd, rSub, tNever, tBreak, tCont, L2.start, scSS, scII, scBB, ipI, sS, dS, d1, mkS, sL, nc1, nc2, Int.natCast_inj, List.map_cons, List.map_nil, List.length_cons, List.length_nil, List.replicate, List.cons_append, List.nil_append, List.append_nil, List.getElem?_cons_zero, List.getElem?_cons_succ, List.set_cons_zero, List.set_cons_succ, Option.some.injEq, V.str.injEq, V.int.injEq, V.bl.injEq, V.ref.injEq, List.cons.injEq, and_true, true_and, exists_eq_left', exists_eq_left, exists_eq, exists_eq', exists_and_left, exists_and_right, and_assoc, exists_const, reduceCtorEq, if_true, if_false, ite_true, ite_false, Bool.false_eq_true, decide_true, decide_false, Bool.not_true, Bool.not_false, cxK, l_16, l_21, l_22]
    have e10 : (n4 : Int) / 10 = ((n4 / 10 : Nat) : Int) := by omega
    exact ⟨divw (by decide) (bb_small (by decide)), n4 / 10, by omega, (hB _ _ _ _ _ _ _ _ _ _ _ _).mpr ⟨by rw [e10], f1, e1, a1⟩⟩
  obtain ⟨n6, hn6, g1⟩ := g1
  obtain ⟨rfl, f1, e1, a1⟩ := (hB _ _ _ _ _ _ _ _ _ _ _ _).mp g1
  have zp : 1 ≤ zT d := by cases d <;> rw [zT] <;> omega
  have yp : 1 ≤ yT d := by cases d <;> rw [yT] <;> omega
  have np : 1 ≤ 4 ^ d := Nat.pos_of_ne_zero (by simp)
  refine ⟨fun σ' H' => 2 ≤ room ∧ 0 < d ∧ B (k + 1) (some (.int (n4 : Nat))) (some (.int (n5 : Nat))) (some (.int (n6 : Nat))) none none none none none none σ' H', ?_, fun σ1 H1 g1 => ?_⟩
  · simp only [tSeq, tAsg, tCB, tCons, tVar, tNil, gName, tRet, tRetN, tDrop, tNext, tIfS, tTest, tB, tOr, tAnd, tNot, tIf, tOrV, tAndV, tNotV, tChain, rI0, rI, rU, tUn, tC, tOp, rNe, rEq, tCall, tPart, tNoPart, tSl, tM0, tM1, tTup, tLst, tAug, gTup, gCons, gNil, rAdd, rSub, tNever, tBreak, tCont, L2.start, scSS, scII, scBB, ipI, sS, dS, d1, mkS, sL, nc1, nc2, Int.natCast_inj, List.map_cons, List.map_nil, List.length_cons, List.length_nil, List.replicate, List.cons_append, List.nil_append, List.append_nil, List.getElem?_cons_zero, List.getElem?_cons_succ, List.set_cons_zero, List.set_cons_succ, Option.some.injEq, V.str.injEq, V.int.injEq, V.bl.injEq, V.ref.injEq, List.cons.injEq, and_true, true_and, exists_eq_left', exists_eq_left, exists_eq, exists_eq', exists_and_left, exists_and_right, and_assoc, exists_const, reduceCtorEq, if_true, if_false, ite_true, ite_false, Bool.false_eq_true, decide_true, decide_false, Bool.not_true, Bool.not_false, cxK, l_16, l_21, l_22]
    have lf : ∀ (H' : Hp) (v : V) (pat : Pat), Same H1 H' → PtD K H' v pat → PtB pat 1 1 1 1 → Q v H' := fun H' v pat s p b => q H' v pat (k + 1) (f1.same s) (s _ _ e1) (by omega) p (b.up (by omega) np zp yp)
    have lc : sp_leaf K [.int (n6 : Nat)] H1 Q E0 := ⟨n6, rfl, by omega, lf⟩
    by_cases z1 : (d : Int) = 0
    · rw [if_pos (decide_eq_true z1)]; exact lc
    rw [if_neg (by rw [decide_eq_false z1]; decide)]
    by_cases z2 : (room : Int) < 2
    · rw [if_pos (decide_eq_true z2)]; exact lc
    rw [if_neg (by rw [decide_eq_false z2]; decide)]
    by_cases z3 : (n5 : Int) < 2
    · rw [if_pos (decide_eq_true z3)]; exact lc
    rw [if_neg (by rw [decide_eq_false z3]; decide)]
    exact ⟨by omega, by omega, (hB _ _ _ _ _ _ _ _ _ _ _ _).mpr ⟨rfl, f1, e1, a1⟩⟩
  obtain ⟨hr2, hd0, g1⟩ := g1
  obtain ⟨rfl, f1, e1, a1⟩ := (hB _ _ _ _ _ _ _ _ _ _ _ _).mp g1
  obtain ⟨d, rfl⟩ : ∃ d', d = d' + 1 := ⟨d - 1, by omega⟩
  have ed1 : (((d + 1 : Nat) : Int) - 1) = (d : Nat) := by omega
  have sub : ∀ (H' : Hp) (kk rm : Nat) (Q' : VK), Fr [sp] H H' → H' sp = some (.lst [.int (kk : Nat)]) → H' a = some (.lst (iL ns)) → kk + zT d ≤ 1000 → 0 < rm → rm ≤ 4 →
      (∀ H2 v pat k', Fr [sp] H' H2 → H2 sp = some (.lst [.int (k' : Nat)]) → H2 a = some (.lst (iL ns)) → k' ≤ kk + zT d → PtD K H2 v pat → PtB pat (d + 1) (4 ^ d) (zT d) (yT d) → Q' v H2) → spR [.ref a, .ref sp, .int (rm : Nat), .int (d : Nat)] H' Q' E0 := by
    intro H' kk rm Q' f e ea hk hr0 hr1 q'
    rw [hspR]
    exact ⟨d, a, sp, ns, kk, rm, rfl, by omega, ea, hn, hn0, hn1, e, nsa, hr1, hr0, hk, by omega, fun H2 v pat k' g e' hk' p b => q' H2 v pat k' g e' (g.keep a _ ea (by simp only [List.mem_singleton]; exact fun z => nsa z.symm)) hk' p b⟩
  refine ⟨B (k + 1) (some (.int (n4 : Nat))) (some (.int (n5 : Nat))) (some (.int (n6 : Nat))) none none none none none none, ?_, fun σ1 H1 g1 => ?_⟩
  · rw [show (C8.tCut : _) = C8.tCut from rfl]
    simp only [tSeq, tAsg, tCB, tCons, tVar, tNil, gName, tRet, tRetN, tDrop, tNext, tIfS, tTest, tB, tOr, tAnd, tNot, tIf, tOrV, tAndV, tNotV, tChain, rI0, rI, rU, tUn, tC, tOp, rNe, rEq, tCall, tPart, tNoPart, tSl, tM0, tM1, tTup, tLst, tAug, gTup, gCons, gNil, rAdd, rSub, tNever, tBreak, tCont, L2.start, scSS, scII, scBB, ipI, sS, dS, d1, mkS, sL, nc1, nc2, Int.natCast_inj, List.map_cons, List.map_nil, List.length_cons, List.length_nil, List.replicate, List.cons_append, List.nil_append, List.append_nil, List.getElem?_cons_zero, List.getElem?_cons_succ, List.set_cons_zero, List.set_cons_succ, Option.some.injEq, V.str.injEq, V.int.injEq, V.bl.injEq, V.ref.injEq, List.cons.injEq, and_true, true_and, exists_eq_left', exists_eq_left, exists_eq, exists_eq', exists_and_left, exists_and_right, and_assoc, exists_const, reduceCtorEq, if_true, if_false, ite_true, ite_false, Bool.false_eq_true, decide_true, decide_false, Bool.not_true, Bool.not_false, cxK, sp_flat, rIxL, l_16, l_21, l_22]
    by_cases z1 : (n5 : Int) < 7
    · rw [if_pos (decide_eq_true z1)]
      refine ⟨fun σ' H' => ∃ n7 : Nat, 0 < n7 ∧ n7 ≤ 3 ∧ B (k + 1) (some (.int (n4 : Nat))) (some (.int (n5 : Nat))) (some (.int (n6 : Nat))) (some (.int (n7 : Nat))) none none none none none σ' H', ?_, fun σ1 H1 g1 => ?_⟩
      · simp only [tSeq, tAsg, tCB, tCons, tVar, tNil, gName, tRet, tRetN, tDrop, tNext, tIfS, tTest, tB, tOr, tAnd, tNot, tIf, tOrV, tAndV, tNotV, tChain, rI0, rI, rU, tUn, tC, tOp, rNe, rEq, tCall, tPart, tNoPart, tSl, tM0, tM1, tTup, tLst, tAug, gTup, gCons, gNil, rAdd, rSub, tNever, tBreak, tCont, L2.start, scSS, scII, scBB, ipI, sS, dS, d1, mkS, sL, nc1, nc2, Int.natCast_inj, List.map_cons, List.map_nil, List.length_cons, List.length_nil, List.replicate, List.cons_append, List.nil_append, List.append_nil, List.getElem?_cons_zero, List.getElem?_cons_succ, List.set_cons_zero, List.set_cons_succ, Option.some.injEq, V.str.injEq, V.int.injEq, V.bl.injEq, V.ref.injEq, List.cons.injEq, and_true, true_and, exists_eq_left', exists_eq_left, exists_eq, exists_eq', exists_and_left, exists_and_right, and_assoc, exists_const, reduceCtorEq, if_true, if_false, ite_true, ite_false, Bool.false_eq_true, decide_true, decide_false, Bool.not_true, Bool.not_false, cxK, l_16, l_21, l_22]
        obtain ⟨r, f, hr⟩ := mod_lt' (i := (n6 : Int)) (m := 2) (by decide)
        rw [show ((2 : Nat) : Int) = 2 from rfl] at f
        rw [f, show (if 2 + (r : Int) < (room : Int) then 2 + (r : Int) else (room : Int)) = ((min (2 + r) room : Nat) : Int) from by split <;> omega]
        exact ⟨by decide, _, by omega, by omega, (hB _ _ _ _ _ _ _ _ _ _ _ _).mpr ⟨rfl, f1, e1, a1⟩⟩
      obtain ⟨n7, h70, h73, g1⟩ := g1
      obtain ⟨rfl, f1, e1, a1⟩ := (hB _ _ _ _ _ _ _ _ _ _ _ _).mp g1
      refine ⟨fun σ' H' => ∃ (k' : Nat) (r : Addr) (ps : List Pat), k' ≤ k + 1 + 3 * zT d ∧ PtL K H' r ps ∧ PsB ps (d + 1) (n7 * 4 ^ d) (n7 * zT d) (n7 * yT d) ∧ B k' (some (.int (n4 : Nat))) (some (.int (n5 : Nat))) (some (.int (n6 : Nat))) (some (.int (n7 : Nat))) (some (.ref r)) none none none none σ' H', ?_, fun σ1 H1 g1 => ?_⟩
      · simp only [tSeq, tAsg, tCB, tCons, tVar, tNil, gName, tRet, tRetN, tDrop, tNext, tIfS, tTest, tB, tOr, tAnd, tNot, tIf, tOrV, tAndV, tNotV, tChain, rI0, rI, rU, tUn, tC, tOp, rNe, rEq, tCall, tPart, tNoPart, tSl, tM0, tM1, tTup, tLst, tAug, gTup, gCons, gNil, rAdd, rSub, tNever, tBreak, tCont, L2.start, scSS, scII, scBB, ipI, sS, dS, d1, mkS, sL, nc1, nc2, Int.natCast_inj, List.map_cons, List.map_nil, List.length_cons, List.length_nil, List.replicate, List.cons_append, List.nil_append, List.append_nil, List.getElem?_cons_zero, List.getElem?_cons_succ, List.set_cons_zero, List.set_cons_succ, Option.some.injEq, V.str.injEq, V.int.injEq, V.bl.injEq, V.ref.injEq, List.cons.injEq, and_true, true_and, exists_eq_left', exists_eq_left, exists_eq, exists_eq', exists_and_left, exists_and_right, and_assoc, exists_const, reduceCtorEq, if_true, if_false, ite_true, ite_false, Bool.false_eq_true, decide_true, decide_false, Bool.not_true, Bool.not_false, cxK, eLcR, l_16, l_21, l_22]
        refine ⟨by omega, by omega, ?_⟩
        rw [Int.toNat_natCast]
        refine lcR fun Da nD => ?_
        have sD := same_upd (o := .lst []) nD
        obtain ⟨Pv, hPv⟩ : ∃ Pv : Nat → Hp → Prop, ∀ i H', Pv i H' ↔ ∃ (k' : Nat) (ps : List Pat), k' ≤ k + 1 + i * zT d ∧ Fr [sp] H1 H' ∧ H' sp = some (.lst [.int (k' : Nat)]) ∧ H' a = some (.lst (iL ns)) ∧ PtL K H' Da ps ∧ PsB ps (d + 1) (i * 4 ^ d) (i * zT d) (i * yT d) := ⟨_, fun _ _ => Iff.rfl⟩
        refine ⟨Pv, (hPv _ _).mpr ⟨k + 1, [], by omega, .of sD, sD _ _ e1, sD _ _ a1, ⟨⟨[], upd_same, .nil⟩, PsB.nil.wf, PsB.nil.sm⟩, PsB.nil.up (by omega) (by omega) (by omega) (by omega)⟩, fun i H' hi g => ?_, fun H' g => ?_⟩
        · obtain ⟨k', ps, hk', f2, e2, a2, pl, pb⟩ := (hPv _ _).mp g
          obtain ⟨us, eu, du⟩ := pl.ex
          simp only [tSeq, tAsg, tCB, tCons, tVar, tNil, gName, tRet, tRetN, tDrop, tNext, tIfS, tTest, tB, tOr, tAnd, tNot, tIf, tOrV, tAndV, tNotV, tChain, rI0, rI, rU, tUn, tC, tOp, rNe, rEq, tCall, tPart, tNoPart, tSl, tM0, tM1, tTup, tLst, tAug, gTup, gCons, gNil, rAdd, rSub, tNever, tBreak, tCont, L2.start, scSS, scII, scBB, ipI, sS, dS, d1, mkS, sL, nc1, nc2, Int.natCast_inj, List.map_cons, List.map_nil, List.length_cons, List.length_nil, List.replicate, List.cons_append, List.nil_append, List.append_nil, List.getElem?_cons_zero, List.getElem?_cons_succ, List.set_cons_zero, List.set_cons_succ, Option.some.injEq, V.str.injEq, V.int.injEq, V.bl.injEq, V.ref.injEq, List.cons.injEq, and_true, true_and, exists_eq_left', exists_eq_left, exists_eq, exists_eq', exists_and_left, exists_and_right, and_assoc, exists_const, reduceCtorEq, if_true, if_false, ite_true, ite_false, Bool.false_eq_true, decide_true, decide_false, Bool.not_true, Bool.not_false, cxK, wipe, l_16, l_21, l_22]
          rw [ed1]
          have ec : (room : Int) / (n7 : Int) = ((room / n7 : Nat) : Int) := by rw [Int.natCast_ediv]
          rw [ec, show (if ((room / n7 : Nat) : Int) > 1 then ((room / n7 : Nat) : Int) else 1) = ((max 1 (room / n7) : Nat) : Int) from by split <;> omega]
          have rc : room / n7 ≤ room := Nat.div_le_self _ _
          have z1 : zT (d + 1) = 3 * zT d + 1 := rfl
          have iz : i * zT d ≤ 2 * zT d := Nat.mul_le_mul_right _ (by omega)
          have i1 : (i + 1) * zT d = i * zT d + zT d := Nat.succ_mul _ _
          have i3 : (i + 1) * yT d = i * yT d + yT d := Nat.succ_mul _ _
          have i2 : (i + 1) * 4 ^ d = i * 4 ^ d + 4 ^ d := Nat.succ_mul _ _
          refine ⟨divw (by omega) (bb_small (by omega)), sub H' _ _ _ (f1.trans f2) e2 a2 (by omega) (by omega) (by omega) fun H2 v pat k2 f3 e3 a3 hk2 pt pb2 => ?_⟩
          have nDs : Da ∉ [sp] := by
            simp only [List.mem_singleton]
            rintro rfl
            rw [e1] at nD
            cases nD
          have eD := f3.keep Da _ eu nDs
          have ul : us.length ≤ 1000 := by
            rw [du.len, patDs_len]
            have := len_z ps
            have := pb.z
            omega
          refine ⟨us, eD, sz5 (by omega), (hPv _ _).mpr ⟨k2, ps ++ [pat], by omega, ?_, ?_, ?_, ?_, ?_⟩⟩
          · exact (f2.trans f3).upd (.inr nD) eD rfl
          · rw [upd_ne (fun z => nDs (by rw [z]; exact .head _))]; exact e3
          · rw [upd_ne]; exact a3
            rintro rfl
            rw [a1] at nD
            cases nD
          · have fx : Fr [Da] H2 (upd H2 Da (.lst (us ++ [v]))) := Fr.refl.upd (.inl (.head _)) eD rfl
            refine ⟨⟨_, upd_same, ?_⟩, WfL_app pl.wf pb2.one.wf, SmL_app pl.sm pb2.one.sm⟩
            rw [patDs_app]
            exact (dp_frAll fx _ _ (noL_pats _) (dp_frAll f3 _ _ (noL_pats _) du)).app (.cons (dp_fr fx _ _ (noL_pat _) pt.dp) .nil)
          · exact (pb.app pb2.one).up (by omega) (by omega) (by omega) (by omega)
        · obtain ⟨k', ps, hk', f2, e2, a2, pl, pb⟩ := (hPv _ _).mp g
          have i3 : n7 * zT d ≤ 3 * zT d := Nat.mul_le_mul_right _ h73
          exact ⟨k', by omega, Da, ps, pl, pb, (hB _ _ _ _ _ _ _ _ _ _ _ _).mpr ⟨rfl, f1.trans f2, e2, a2⟩⟩
      obtain ⟨k', r, ps, hk', pl, pb, g1⟩ := g1
      obtain ⟨rfl, f1, e1, a1⟩ := (hB _ _ _ _ _ _ _ _ _ _ _ _).mp g1
      simp only [tSeq, tAsg, tCB, tCons, tVar, tNil, gName, tRet, tRetN, tDrop, tNext, tIfS, tTest, tB, tOr, tAnd, tNot, tIf, tOrV, tAndV, tNotV, tChain, rI0, rI, rU, tUn, tC, tOp, rNe, rEq, tCall, tPart, tNoPart, tSl, tM0, tM1, tTup, tLst, tAug, gTup, gCons, gNil, rAdd, rSub, tNever, tBreak, tCont, L2.start, scSS, scII, scBB, ipI, sS, dS, d1, mkS, sL, nc1, nc2, Int.natCast_inj, List.map_cons, List.map_nil, List.length_cons, List.length_nil, List.replicate, List.cons_append, List.nil_append, List.append_nil, List.getElem?_cons_zero, List.getElem?_cons_succ, List.set_cons_zero, List.set_cons_succ, Option.some.injEq, V.str.injEq, V.int.injEq, V.bl.injEq, V.ref.injEq, List.cons.injEq, and_true, true_and, exists_eq_left', exists_eq_left, exists_eq, exists_eq', exists_and_left, exists_and_right, and_assoc, exists_const, reduceCtorEq, if_true, if_false, ite_true, ite_false, Bool.false_eq_true, decide_true, decide_false, Bool.not_true, Bool.not_false, cxK, sp_flat, rIxL, l_16, l_21, l_22]
      have z1' : zT (d + 1) = 3 * zT d + 1 := rfl
      have i3 : n7 * zT d ≤ 3 * zT d := Nat.mul_le_mul_right _ h73
      have i4 : n7 * 4 ^ d ≤ 4 ^ (d + 1) := by rw [Nat.pow_succ, Nat.mul_comm]; exact Nat.mul_le_mul_left _ (by omega)
      refine ⟨by decide, fun p np => ⟨_, SqL.of upd_same, ?_⟩⟩
      have s2 := same_upd (o := .lst [V.str (S [114, 111, 119]), V.str (S [111, 114])]) np
      have pb2 := pb.z
      have fin : ∀ al H' v, Same (upd H1 p (.lst [V.str (S [114, 111, 119]), V.str (S [111, 114])])) H' → PtD K H' v (flatP al ps) → Q v H' := fun al H' v s pt =>
        q H' v _ k' (f1.same (s2.trans s)) ((s2.trans s) _ _ e1) (by omega) pt ((pb.flat al (by omega)).up (Nat.le_refl _) i4 (by omega) (by rw [yT]; have : n7 * yT d ≤ 3 * yT d := Nat.mul_le_mul_right _ h73; omega))
      obtain ⟨us, eu, du⟩ := pl.ex
      have pl2 : PtL K (upd H1 p (.lst [V.str (S [114, 111, 119]), V.str (S [111, 114])])) r ps := ⟨⟨us, s2 _ _ eu, dp_sameAll s2 _ _ du⟩, pl.wf, pl.sm⟩
      by_cases z4 : (4 : Int) < (n5 : Int)
      · rw [if_pos (decide_eq_true z4)]
        exact ⟨_, atI_nat (j := 1) rfl, true, rfl, ps, pl2, by omega, fin true⟩
      · rw [if_neg (by rw [decide_eq_false z4]; decide)]
        exact ⟨_, atI_nat (j := 0) rfl, false, rfl, ps, pl2, by omega, fin false⟩
    · rw [if_neg (by rw [decide_eq_false z1]; decide)]
      exact (hB _ _ _ _ _ _ _ _ _ _ _ _).mpr ⟨rfl, f1, e1, a1⟩
  obtain ⟨rfl, f1, e1, a1⟩ := (hB _ _ _ _ _ _ _ _ _ _ _ _).mp g1
  refine ⟨fun σ' H' => ∃ n9 : Nat, n9 ≤ 3 ∧ n9 ≤ room ∧ B (k + 1) (some (.int (n4 : Nat))) (some (.int (n5 : Nat))) (some (.int (n6 : Nat))) none none (some (.int (n9 : Nat))) none none none σ' H', ?_, fun σ1 H1 g1 => ?_⟩
  · simp only [tSeq, tAsg, tCB, tCons, tVar, tNil, gName, tRet, tRetN, tDrop, tNext, tIfS, tTest, tB, tOr, tAnd, tNot, tIf, tOrV, tAndV, tNotV, tChain, rI0, rI, rU, tUn, tC, tOp, rNe, rEq, tCall, tPart, tNoPart, tSl, tM0, tM1, tTup, tLst, tAug, gTup, gCons, gNil, rAdd, rSub, tNever, tBreak, tCont, L2.start, scSS, scII, scBB, ipI, sS, dS, d1, mkS, sL, nc1, nc2, Int.natCast_inj, List.map_cons, List.map_nil, List.length_cons, List.length_nil, List.replicate, List.cons_append, List.nil_append, List.append_nil, List.getElem?_cons_zero, List.getElem?_cons_succ, List.set_cons_zero, List.set_cons_succ, Option.some.injEq, V.str.injEq, V.int.injEq, V.bl.injEq, V.ref.injEq, List.cons.injEq, and_true, true_and, exists_eq_left', exists_eq_left, exists_eq, exists_eq', exists_and_left, exists_and_right, and_assoc, exists_const, reduceCtorEq, if_true, if_false, ite_true, ite_false, Bool.false_eq_true, decide_true, decide_false, Bool.not_true, Bool.not_false, cxK, l_16, l_21, l_22]
    obtain ⟨mm, em, hm1, hm2, hm3⟩ : ∃ mm : Nat, (if ((room + 1 : Nat) : Int) < 4 then ((room + 1 : Nat) : Int) else 4) = (mm : Int) ∧ 0 < mm ∧ mm ≤ 4 ∧ mm ≤ room + 1 := by
      split
      · exact ⟨room + 1, rfl, by omega, by omega, by omega⟩
      · exact ⟨4, rfl, by omega, by omega, by omega⟩
    rw [em]
    obtain ⟨r, f, hr⟩ := mod_lt' (i := (n6 : Int)) (m := mm) hm1
    exact ⟨by omega, r, by omega, by omega, (hB _ _ _ _ _ _ _ _ _ _ _ _).mpr ⟨by rw [f], f1, e1, a1⟩⟩
  obtain ⟨n9, h93, h9r, g1⟩ := g1
  obtain ⟨rfl, f1, e1, a1⟩ := (hB _ _ _ _ _ _ _ _ _ _ _ _).mp g1
  refine ⟨fun σ' H' => ∃ m : Option Nat, (∀ x, m = some x → n9 ≤ x ∧ x ≤ n9 + 2) ∧ B (k + 1) (some (.int (n4 : Nat))) (some (.int (n5 : Nat))) (some (.int (n6 : Nat))) none none (some (.int (n9 : Nat))) (some (optNV m)) none none σ' H', ?_, fun σ1 H1 g1 => ?_⟩
  · simp only [tSeq, tAsg, tCB, tCons, tVar, tNil, gName, tRet, tRetN, tDrop, tNext, tIfS, tTest, tB, tOr, tAnd, tNot, tIf, tOrV, tAndV, tNotV, tChain, rI0, rI, rU, tUn, tC, tOp, rNe, rEq, tCall, tPart, tNoPart, tSl, tM0, tM1, tTup, tLst, tAug, gTup, gCons, gNil, rAdd, rSub, tNever, tBreak, tCont, L2.start, scSS, scII, scBB, ipI, sS, dS, d1, mkS, sL, nc1, nc2, Int.natCast_inj, List.map_cons, List.map_nil, List.length_cons, List.length_nil, List.replicate, List.cons_append, List.nil_append, List.append_nil, List.getElem?_cons_zero, List.getElem?_cons_succ, List.set_cons_zero, List.set_cons_succ, Option.some.injEq, V.str.injEq, V.int.injEq, V.bl.injEq, V.ref.injEq, List.cons.injEq, and_true, true_and, exists_eq_left', exists_eq_left, exists_eq, exists_eq', exists_and_left, exists_and_right, and_assoc, exists_const, reduceCtorEq, if_true, if_false, ite_true, ite_false, Bool.false_eq_true, decide_true, decide_false, Bool.not_true, Bool.not_false, cxK, rIxL, l_16, l_21, l_22]
    refine ⟨divw (by decide) (bb_small (by decide)), by decide, by decide, fun p np => ⟨divw (by decide) (bb_small (by decide)), by decide, _, SqL.of upd_same, ?_⟩⟩
    have e4 : (n6 : Int) / 4 = ((n6 / 4 : Nat) : Int) := by omega
    have e12 : (n6 : Int) / 12 = ((n6 / 12 : Nat) : Int) := by omega
    obtain ⟨r, f, hr⟩ := mod_lt' (i := ((n6 / 4 : Nat) : Int)) (m := 3) (by decide)
    obtain ⟨j, f2, hj⟩ := mod_lt' (i := ((n6 / 12 : Nat) : Int)) (m := 4) (by decide)
    rw [show ((3 : Nat) : Int) = 3 from rfl] at f
    rw [show ((4 : Nat) : Int) = 4 from rfl] at f2
    rw [e4, e12, f, f2]
    have s2 := same_upd (o := .lst [V.non, V.non, V.int (n9 : Nat), V.int ((n9 : Int) + r)]) np
    have g2 : ∀ m, B (k + 1) (some (.int (n4 : Nat))) (some (.int (n5 : Nat))) (some (.int (n6 : Nat))) none none (some (.int (n9 : Nat))) (some (optNV m)) none none [some (.ref a), some (.ref sp), some (.int (room : Nat)), some (.int ((d + 1 : Nat) : Int)), some (.int (n4 : Nat)), some (.int (n5 : Nat)), some (.int (n6 : Nat)), none, none, some (.int (n9 : Nat)), some (optNV m), none, none] (upd H1 p (.lst [V.non, V.non, V.int (n9 : Nat), V.int ((n9 : Int) + r)])) := fun m => (hB _ _ _ _ _ _ _ _ _ _ _ _).mpr ⟨rfl, f1.same s2, s2 _ _ e1, s2 _ _ a1⟩
    have : j = 0 ∨ j = 1 ∨ j = 2 ∨ j = 3 := by omega
    rcases this with rfl | rfl | rfl | rfl
    · exact ⟨_, atI_nat rfl, none, (fun x hx => by cases hx), g2 none⟩
    · exact ⟨_, atI_nat rfl, none, (fun x hx => by cases hx), g2 none⟩
    · exact ⟨_, atI_nat rfl, some n9, (fun x hx => by cases hx; omega), g2 (some n9)⟩
    · exact ⟨_, atI_nat rfl, some (n9 + r), (fun x hx => by cases hx; omega), by have := g2 (some (n9 + r)); rwa [show optNV (some (n9 + r)) = V.int ((n9 : Int) + r) from by rw [optNV, Int.natCast_add]] at this⟩
  obtain ⟨m0, hm0, g1⟩ := g1
  obtain ⟨rfl, f1, e1, a1⟩ := (hB _ _ _ _ _ _ _ _ _ _ _ _).mp g1
  refine ⟨fun σ' H' => ∃ (l c : Nat) (m : Option Nat), l ≤ 4 ∧ (∀ x, m = some x → l ≤ x ∧ x ≤ 4) ∧ 0 < c ∧ c ≤ 1000 ∧ copiesOf l m ≤ 4 ∧ B (k + 1) (some (.int (n4 : Nat))) (some (.int (n5 : Nat))) (some (.int (n6 : Nat))) none none (some (.int (l : Nat))) (some (optNV m)) (some (.int (c : Nat))) none σ' H', ?_, fun σ1 H1 g1 => ?_⟩
  · simp only [tSeq, tAsg, tCB, tCons, tVar, tNil, gName, tRet, tRetN, tDrop, tNext, tIfS, tTest, tB, tOr, tAnd, tNot, tIf, tOrV, tAndV, tNotV, tChain, rI0, rI, rU, tUn, tC, tOp, rNe, rEq, tCall, tPart, tNoPart, tSl, tM0, tM1, tTup, tLst, tAug, gTup, gCons, gNil, rAdd, rSub, tNever, tBreak, tCont, L2.start, scSS, scII, scBB, ipI, sS, dS, d1, mkS, sL, nc1, nc2, Int.natCast_inj, List.map_cons, List.map_nil, List.length_cons, List.length_nil, List.replicate, List.cons_append, List.nil_append, List.append_nil, List.getElem?_cons_zero, List.getElem?_cons_succ, List.set_cons_zero, List.set_cons_succ, Option.some.injEq, V.str.injEq, V.int.injEq, V.bl.injEq, V.ref.injEq, List.cons.injEq, and_true, true_and, exists_eq_left', exists_eq_left, exists_eq, exists_eq', exists_and_left, exists_and_right, and_assoc, exists_const, reduceCtorEq, if_true, if_false, ite_true, ite_false, Bool.false_eq_true, decide_true, decide_false, Bool.not_true, Bool.not_false, cxK, l_16, l_21, l_22]
    cases m0 with
    | none =>
      rw [if_pos (by rfl)]
      refine ⟨n9, by omega, max 1 n9, none, (fun x hx => by cases hx), by omega, by omega, by show max 1 n9 ≤ 4; omega, (hB _ _ _ _ _ _ _ _ _ _ _ _).mpr ⟨?_, f1, e1, a1⟩⟩
      rw [show (if (n9 : Int) > 1 then (n9 : Int) else 1) = ((max 1 n9 : Nat) : Int) from by split <;> omega]
    | some y =>
      obtain ⟨y1, y2⟩ := hm0 y rfl
      rw [if_neg (by simp [optNV])]
      rw [optNV]
      refine ⟨_, rfl, ?_⟩
      rw [show (if (room : Int) < (y : Int) then (room : Int) else (y : Int)) = ((min y room : Nat) : Int) from by split <;> omega]
      rw [show (if ((min y room : Nat) : Int) < (n9 : Int) then ((min y room : Nat) : Int) else (n9 : Int)) = ((min n9 (min y room) : Nat) : Int) from by split <;> omega]
      rw [show (if ((min y room : Nat) : Int) > 1 then ((min y room : Nat) : Int) else 1) = ((max 1 (min y room) : Nat) : Int) from by split <;> omega]
      exact ⟨_, by omega, _, some (min y room), (fun x hx => by cases hx; omega), by omega, by omega, by show min y room ≤ 4; omega, (hB _ _ _ _ _ _ _ _ _ _ _ _).mpr ⟨rfl, f1, e1, a1⟩⟩
  obtain ⟨l, c, m, hl, hm, hc0, hc1, hcn, g1⟩ := g1
  obtain ⟨rfl, f1, e1, a1⟩ := (hB _ _ _ _ _ _ _ _ _ _ _ _).mp g1
  simp only [tSeq, tAsg, tCB, tCons, tVar, tNil, gName, tRet, tRetN, tDrop, tNext, tIfS, tTest, tB, tOr, tAnd, tNot, tIf, tOrV, tAndV, tNotV, tChain, rI0, rI, rU, tUn, tC, tOp, rNe, rEq, tCall, tPart, tNoPart, tSl, tM0, tM1, tTup, tLst, tAug, gTup, gCons, gNil, rAdd, rSub, tNever, tBreak, tCont, L2.start, scSS, scII, scBB, ipI, sS, dS, d1, mkS, sL, nc1, nc2, Int.natCast_inj, List.map_cons, List.map_nil, List.length_cons, List.length_nil, List.replicate, List.cons_append, List.nil_append, List.append_nil, List.getElem?_cons_zero, List.getElem?_cons_succ, List.set_cons_zero, List.set_cons_succ, Option.some.injEq, V.str.injEq, V.int.injEq, V.bl.injEq, V.ref.injEq, List.cons.injEq, and_true, true_and, exists_eq_left', exists_eq_left, exists_eq, exists_eq', exists_and_left, exists_and_right, and_assoc, exists_const, reduceCtorEq, if_true, if_false, ite_true, ite_false, Bool.false_eq_true, decide_true, decide_false, Bool.not_true, Bool.not_false, cxK, l_16, l_21, l_22]
  rw [ed1]
  have ec : (room : Int) / (c : Int) = ((room / c : Nat) : Int) := by rw [Int.natCast_ediv]
  rw [ec, show (if ((room / c : Nat) : Int) > 1 then ((room / c : Nat) : Int) else 1) = ((max 1 (room / c) : Nat) : Int) from by split <;> omega]
  have z1 : zT (d + 1) = 3 * zT d + 1 := rfl
  have rc : room / c ≤ room := Nat.div_le_self _ _
  have z1 : zT (d + 1) = 3 * zT d + 1 := rfl
  refine ⟨divw (by omega) (bb_small (by omega)), sub H1 _ _ _ f1 e1 a1 (by omega) (by omega) (by omega) fun H2 v pat k' f2 e2 a2 hk' pt pb => ⟨by decide, fun p np => ?_⟩⟩
  have s3 := same_upd (o := .tup [V.str (S [114, 101, 112, 101, 97, 116]), v, V.int (l : Nat), optNV m]) np
  have rb := pb.rep (l := l) (m := m) (by omega) (fun x hx => by have := hm x hx; omega)
  refine q _ (.ref p) (.rep pat l m) k' ((f1.trans f2).same s3) (s3 _ _ e2) (by omega) ⟨?_, rb.wf, rb.sm⟩ (rb.up (Nat.le_refl _) ?_ (by omega) (by rw [yT]; have : (copiesOf l m + 1) * (yT d + 1) ≤ 5 * (yT d + 1) := Nat.mul_le_mul_right _ (by omega); omega))
  · rw [patD]
    exact .tup (SqT.of upd_same) (.cons (.str _) (.cons (dp_same s3 _ _ pt.dp) (.cons (.int _) (.cons (dp_optN m) .nil))))
  · rw [Nat.pow_succ, Nat.mul_comm]
    exact Nat.mul_le_mul_left _ hcn
def sp_treeN (K : PySem.W.Frag) (b : Nat) : Sp := fun vs H Q E => ∃ d, sp_tree K b d vs H Q E
theorem tree_base (D : Dfn K mg "_law_tree" (topS 37) ["_law_drops_here", "_law_spot", "_law_room", "_law_deep"]) : Cal P w K mg base 3 "_law_tree" (sp_treeN K 0) := by
  refine cal_of D sclaw_tree (fun vs H Q E h => ?_) (fun f cdv A outer s H vs Q E hr h => ?_)
  · obtain ⟨d, a, sp, ns, k, room, rfl, _⟩ := h
    rfl
  obtain ⟨d, a, sp, ns, k, room, _, hb, _⟩ := h
  omega
theorem ok_tree (T : BiA mg) (c_law_leaf : Cal P w K mg base 3 "_law_leaf" (sp_leaf K)) (c_law_flat : Cal P w K mg base 1 "_law_flat" (sp_flat K)) (D : Dfn K mg "_law_tree" (topS 37) ["_law_drops_here", "_law_spot", "_law_room", "_law_deep"]) : Cal P w K mg base 6 "_law_tree" (sp_treeN K 3) :=
  ok_tree1 T c_law_leaf c_law_flat 2 5 (by omega) (ok_tree1 T c_law_leaf c_law_flat 1 4 (by omega) (ok_tree1 T c_law_leaf c_law_flat 0 3 (by omega) (tree_base D) D) D) D
end
end Pd

namespace Pd
open PySem PySem.Spec PyProof.Rows L2
open SX (S)
inductive Sh : Nat → PyData → Prop
  | non {n} : Sh n .none
  | int {n i} : Sh n (.int i)
  | tup {n ds} : ds.length ≤ 100000 → (∀ x ∈ ds, Sh n x) → Sh (n + 1) (.tuple ds)
  | lst {n ds} : ds.length ≤ 100000 → (∀ x ∈ ds, Sh n x) → Sh (n + 1) (.list ds)
section
variable {P : Program} {w : World} {K : PySem.W.Frag} {mg : Str → Option Value} {base : Heap}
theorem sqL_same {H H' : Hp} {a : Addr} {xs : List V} (e : Same H H') (h : SqL K H a xs) : SqL K H' a xs := by
  rcases h with (h | ⟨o, h⟩) | h
  · exact .inl (.inl (e _ _ h))
  · exact .inl (.inr ⟨o, e _ _ h⟩)
  · exact .inr h
theorem dp_lstI {H : Hp} {v : V} {ds : List PyData} (h : Dp K H v (.list ds)) : ∃ a xs, v = .ref a ∧ SqL K H a xs ∧ DpAll K H xs ds := by
  cases h with
  | lst hs ha => exact ⟨_, _, rfl, hs, ha⟩
theorem tyL {H : Hp} {a : Addr} {xs : List V} (h : SqL K H a xs) : TyX K H (.ref a) (.type "list") := by
  rcases h with (h | ⟨o, h⟩) | ⟨o, its, n, h1, h2, _⟩
  · exact .base (.lst h)
  · exact .base (.frz h)
  · exact .kList h1 h2
theorem tyT {H : Hp} {a : Addr} {xs : List V} (h : SqT K H a xs) : TyX K H (.ref a) (.type "tuple") := by
  rcases h with (h | ⟨o, h⟩) | ⟨o, its, n, h1, h2, _⟩
  · exact .base (.tup h)
  · exact .fTuple h
  · exact .kTuple h1 h2
theorem isi {H : Hp} {x : V} {t c : String} {b : Bool} {Q : VK} (ty : TyX K H x (.type t)) (e : PySem.W.kitOne K (.type t) (.type c) = some b) (q : Q (.bl b) H) : rIsi K [x, .ty c] H Q := ⟨x, _, _, _, b, rfl, .ty _, ty, e, q⟩
theorem isiT {H : Hp} {x : V} {t : String} {b : Bool} {Q : VK} {p : Addr} (hp : H p = some (.tup [.ty "tuple", .ty "list"])) (ty : TyX K H x (.type t)) (e : PySem.W.kitAny K (.type t) [.type "tuple", .type "list"] = some b) (q : Q (.bl b) H) : rIsiT K [x, .ref p] H Q := ⟨x, p, _, _, _, b, rfl, hp, .cons (.ty _) (.cons (.ty _) .nil), ty, e, q⟩
def sp_same (K : PySem.W.Frag) (n : Nat) : Sp := fun vs H Q _ => ∃ (v u : V) (d : PyData), vs = [v, u] ∧ Dp K H v d ∧ Dp K H u d ∧ Sh n d ∧ ∀ H', Same H H' → Q (.bl true) H'
theorem sclaw_same : FnScope ["_law_heard", "_law_due", "_law_k"] ["_law_heard", "_law_due"] (defScope (topS 38)) := ⟨rfl, rfl, rfl, by decide +kernel, rfl, by decide +kernel, by decide +kernel⟩
theorem ok_same1 (T : BiA mg) (T2 : BiA mg) (n L : Nat) (c_law_same : Cal P w K mg base L "_law_same" (fun vs H Q E => ∃ m, m < n ∧ sp_same K m vs H Q E)) (D : Dfn K mg "_law_same" (topS 38) ["_law_heard", "_law_due"]) : Cal P w K mg base (L + 1) "_law_same" (fun vs H Q E => ∃ m, m < n + 1 ∧ sp_same K m vs H Q E) := by
  refine cal_of D sclaw_same (fun vs H Q E h => ?_) (fun f cdv A outer s H vs Q E hr h => ?_)
  · obtain ⟨_, _, v, u, d, rfl, _⟩ := h
    rfl
  obtain ⟨m, hm, v, u, d, rfl, hv, hu, hs, q⟩ := h
  refine ⟨_, (pss_cons (ps_if (pt_val (pe_callB call_isiT (by rfl) T2.b_isinstance (by decide +kernel) (pa_cons (pv 1) (pa_cons (pe_tup (pa_cons (pe_typ (T := "tuple") (by rfl) T.b_tuple (by decide +kernel)) (pa_cons (pe_typ (T := "list") (by rfl) T.b_list (by decide +kernel)) pa_nil))) pa_nil)))) (pss_cons (ps_if (PW.pt (pw_or (pt_cmpR op_ne (pe_callB call_isi (by rfl) T2.b_isinstance (by decide +kernel) (pa_cons (pv 0) (pa_cons (pe_typ (T := "tuple") (by rfl) T.b_tuple (by decide +kernel)) pa_nil))) (pe_callB call_isi (by rfl) T2.b_isinstance (by decide +kernel) (pa_cons (pv 1) (pa_cons (pe_typ (T := "tuple") (by rfl) T.b_tuple (by decide +kernel)) pa_nil))) (nomark _)) (pw_or1 (pt_cmpR op_ne (pe_callB call_isi (by rfl) T2.b_isinstance (by decide +kernel) (pa_cons (pv 0) (pa_cons (pe_typ (T := "list") (by rfl) T.b_list (by decide +kernel)) pa_nil))) (pe_callB call_isi (by rfl) T2.b_isinstance (by decide +kernel) (pa_cons (pv 1) (pa_cons (pe_typ (T := "list") (by rfl) T.b_list (by decide +kernel)) pa_nil))) (nomark _))))) (pss_one (ps_ret pe_bl)) pss_nil)
      (pss_cons (ps_if (pt_cmpR op_ne (pe_callB call_len_seq (by rfl) T.b_len (by decide +kernel) (pa_cons (pv 0) pa_nil)) (pe_callB call_len_seq (by rfl) T.b_len (by decide +kernel) (pa_cons (pv 1) pa_nil)) (nomark _)) (pss_one (ps_ret pe_bl)) pss_nil)
      (pss_cons (ps_for PassesOwn.never rfl (pi_range1 (by rfl) T.b_range (pa_cons (pe_callB call_len_seq (by rfl) T.b_len (by decide +kernel) (pa_cons (pv 1) pa_nil)) pa_nil)) (pg_name (i := 2) sclaw_same.nd rfl (Or.inl rfl)) (pss_one (ps_if (pt_not (pt_val (pc c_law_same hr (Nat.le_refl _) rfl (pa_cons (pe_ix (IxR.or ix_list ix_tup) (pv 0) (pv 2) (fun _ _ => rfl)) (pa_cons (pe_ix (IxR.or ix_list ix_tup) (pv 1) (pv 2) (fun _ _ => rfl)) pa_nil))))) (pss_one (ps_ret pe_bl)) pss_nil)))
      (pss_one (ps_ret pe_bl))))) pss_nil)
      (pss_cons (ps_if (pt_cmpR op_isN (pv 1) pe_non (nomark _)) (pss_one (ps_ret (pe_cmpR op_isN (pv 0) pe_non (nomark _)))) pss_nil)
      (pss_cons (ps_if (pt_val (pe_callB call_isi (by rfl) T2.b_isinstance (by decide +kernel) (pa_cons (pv 1) (pa_cons (pe_typ (T := "bool") (by rfl) T2.b_bool (by decide +kernel)) pa_nil)))) (pss_one (ps_ret (pe_and (pe_callB call_isi (by rfl) T2.b_isinstance (by decide +kernel) (pa_cons (pv 0) (pa_cons (pe_typ (T := "bool") (by rfl) T2.b_bool (by decide +kernel)) pa_nil))) (pe_one (pe_cmpR (op_eqD hr.units) (pv 0) (pv 1) (nomark _)))))) pss_nil)
      (pss_cons (ps_if (pt_val (pe_callB call_isi (by rfl) T2.b_isinstance (by decide +kernel) (pa_cons (pv 1) (pa_cons (pe_typ (T := "int") (by rfl) T.b_int (by decide +kernel)) pa_nil)))) (pss_one (ps_ret (pe_and (pe_callB call_isi (by rfl) T2.b_isinstance (by decide +kernel) (pa_cons (pv 0) (pa_cons (pe_typ (T := "int") (by rfl) T.b_int (by decide +kernel)) pa_nil))) (pe_and (pe_not (pe_callB call_isi (by rfl) T2.b_isinstance (by decide +kernel) (pa_cons (pv 0) (pa_cons (pe_typ (T := "bool") (by rfl) T2.b_bool (by decide +kernel)) pa_nil)))) (pe_one (pe_cmpR (op_eqD hr.units) (pv 0) (pv 1) (nomark _))))))) pss_nil)
      (pss_one (ps_ret (pe_and (pe_callB call_isi (by rfl) T2.b_isinstance (by decide +kernel) (pa_cons (pv 0) (pa_cons (pe_typ (T := "str") (by rfl) T.b_str (by decide +kernel)) pa_nil))) (pe_one (pe_cmpR (op_eqD hr.units) (pv 0) (pv 1) (nomark _)))))))))), ?_⟩
  obtain ⟨spR, hspR⟩ : ∃ spR : Sp, spR = (fun vs H Q E => ∃ m, m < n ∧ sp_same K m vs H Q E) := ⟨_, rfl⟩
  rw [← hspR]
  simp only [tSeq, tAsg, tCB, tCons, tVar, tNil, gName, tRet, tRetN, tDrop, tNext, tIfS, tTest, tB, tOr, tAnd, tNot, tIf, tOrV, tAndV, tNotV, tChain, rI0, rI, rU, tUn, tC, tOp, rNe, rEq, tCall, tPart, tNoPart, tSl, tM0, tM1, tTup, tLst, tAug, gTup, gCons, gNil, rAdd, rSub, tNever, tBreak, tCont, L2.start, scSS, scII, scBB, ipI, sS, dS, d1, mkS, sL, nc1, nc2, Int.natCast_inj, List.map_cons, List.map_nil, List.length_cons, List.length_nil, List.replicate, List.cons_append, List.nil_append, List.append_nil, List.getElem?_cons_zero, List.getElem?_cons_succ, List.set_cons_zero, List.set_cons_succ, Option.some.injEq, V.str.injEq, V.int.injEq, V.bl.injEq, V.ref.injEq, List.cons.injEq, and_true, true_and, exists_eq_left', exists_eq_left, exists_eq, exists_eq', exists_and_left, exists_and_right, and_assoc, exists_const, reduceCtorEq, if_true, if_false, ite_true, ite_false, Bool.false_eq_true, decide_true, decide_false, Bool.not_true, Bool.not_false, cxK, eFoR, rIxT, rIxL, ]
  refine ⟨by decide, fun p np => ?_⟩
  have s1 := same_upd (o := .tup [V.ty "tuple", V.ty "list"]) np
  cases hs with
  | non =>
    cases hv
    cases hu
    refine isiT upd_same (.base .non) (b := false) rfl ⟨false, rfl, ?_⟩
    rw [if_neg (by decide), if_pos (by decide)]
    exact q _ s1
  | int =>
    cases hv
    cases hu
    refine isiT upd_same (.base (.int _)) (b := false) rfl ⟨false, rfl, ?_⟩
    rw [if_neg (by decide), if_neg (by simp)]
    refine isi (.base (.int _)) (b := false) rfl ⟨false, rfl, ?_⟩
    rw [if_neg (by decide)]
    refine isi (.base (.int _)) (b := true) rfl ⟨true, rfl, ?_⟩
    rw [if_pos rfl]
    refine isi (.base (.int _)) (b := true) rfl ⟨true, rfl, ?_⟩
    rw [if_pos rfl]
    refine isi (.base (.int _)) (b := false) rfl ⟨false, rfl, ?_⟩
    rw [if_pos (by decide)]
    exact ⟨_, _, .int _, .int _, rfl, rfl, by rw [PyData.eqv]; simpa using q _ s1⟩
  | tup hl hs =>
    rename_i ds
    obtain ⟨pv, xs, rfl, hx, dx⟩ : ∃ a xs, v = .ref a ∧ SqT K H a xs ∧ DpAll K H xs ds := Dp.tupI hv
    obtain ⟨pu, ys, rfl, hy, dy⟩ : ∃ a xs, u = .ref a ∧ SqT K H a xs ∧ DpAll K H xs ds := Dp.tupI hu
    have ll : xs.length = ys.length := dx.len.trans dy.len.symm
    have hx1 := sqT_same s1 hx
    have hy1 := sqT_same s1 hy
    refine isiT upd_same (tyT hy1) (b := true) rfl ⟨true, rfl, ?_⟩
    rw [if_pos rfl]
    refine isi (tyT hx1) (b := true) rfl (isi (tyT hy1) (b := true) rfl ⟨rfl, ?_⟩)
    rw [if_neg (by decide)]
    refine isi (tyT hx1) (b := false) rfl (isi (tyT hy1) (b := false) rfl ⟨rfl, ?_⟩)
    rw [if_neg (by decide)]
    refine ⟨pv, rfl, xs, .inr hx1, pu, rfl, ys, .inr hy1, ?_⟩
    rw [if_neg (by simp [ll])]
    have yl := dy.len
    refine ⟨pu, rfl, ys, .inr hy1, by omega, by omega, ?_⟩
    rw [Int.toNat_natCast]
    obtain ⟨Pv, hPv⟩ : ∃ Pv : Nat → L2.St → Hp → Prop, ∀ i σ' H', Pv i σ' H' ↔ ∃ v2 : Option V, σ' = [some (.ref pv), some (.ref pu), v2] ∧ Same H H' := ⟨_, fun _ _ _ => Iff.rfl⟩
    refine foR (lo := 0) (n := ys.length) Pv ((hPv _ _ _).mpr ⟨_, rfl, s1⟩) (fun i σ' H' hi g => ?_) (fun σ' H' g => ?_)
    · obtain ⟨v2, rfl, s⟩ := (hPv _ _ _).mp g
      obtain ⟨x, ex⟩ : ∃ x, xs[i]? = some x := ⟨_, List.getElem?_eq_getElem (by omega)⟩
      obtain ⟨y, ey⟩ : ∃ x, ys[i]? = some x := ⟨_, List.getElem?_eq_getElem hi⟩
      obtain ⟨da, ed1, kx⟩ := dx.at ex
      obtain ⟨db, ed2, ky⟩ := dy.at ey
      have := ed1.symm.trans ed2
      cases this
      have g2 : ∀ Q' : VK, (∀ H2, Same H' H2 → Q' (.bl true) H2) → spR [x, y] H' Q' E0 := fun Q' q' => by
        rw [hspR]
        exact ⟨_, by omega, x, y, da, rfl, dp_same s _ _ kx, dp_same s _ _ ky, hs _ (List.mem_of_getElem? ed1), q'⟩
      simp only [tSeq, tAsg, tCB, tCons, tVar, tNil, gName, tRet, tRetN, tDrop, tNext, tIfS, tTest, tB, tOr, tAnd, tNot, tIf, tOrV, tAndV, tNotV, tChain, rI0, rI, rU, tUn, tC, tOp, rNe, rEq, tCall, tPart, tNoPart, tSl, tM0, tM1, tTup, tLst, tAug, gTup, gCons, gNil, rAdd, rSub, tNever, tBreak, tCont, L2.start, scSS, scII, scBB, ipI, sS, dS, d1, mkS, sL, nc1, nc2, Int.natCast_inj, List.map_cons, List.map_nil, List.length_cons, List.length_nil, List.replicate, List.cons_append, List.nil_append, List.append_nil, List.getElem?_cons_zero, List.getElem?_cons_succ, List.set_cons_zero, List.set_cons_succ, Option.some.injEq, V.str.injEq, V.int.injEq, V.bl.injEq, V.ref.injEq, List.cons.injEq, and_true, true_and, exists_eq_left', exists_eq_left, exists_eq, exists_eq', exists_and_left, exists_and_right, and_assoc, exists_const, reduceCtorEq, if_true, if_false, ite_true, ite_false, Bool.false_eq_true, decide_true, decide_false, Bool.not_true, Bool.not_false, cxK, ]
      have e0 : (0 : Int) + (i : Int) = (i : Nat) := by omega
      rw [e0]
      refine .inr ⟨xs, sqT_same s hx, x, atI_nat ex, .inr ⟨ys, sqT_same s hy, y, atI_nat ey, g2 _ fun H2 s2 => ⟨true, rfl, ?_⟩⟩⟩
      rw [if_neg (by decide)]
      exact (hPv _ _ _).mpr ⟨_, rfl, s.trans s2⟩
    · obtain ⟨v2, rfl, s⟩ := (hPv _ _ _).mp g
      simp only [tSeq, tAsg, tCB, tCons, tVar, tNil, gName, tRet, tRetN, tDrop, tNext, tIfS, tTest, tB, tOr, tAnd, tNot, tIf, tOrV, tAndV, tNotV, tChain, rI0, rI, rU, tUn, tC, tOp, rNe, rEq, tCall, tPart, tNoPart, tSl, tM0, tM1, tTup, tLst, tAug, gTup, gCons, gNil, rAdd, rSub, tNever, tBreak, tCont, L2.start, scSS, scII, scBB, ipI, sS, dS, d1, mkS, sL, nc1, nc2, Int.natCast_inj, List.map_cons, List.map_nil, List.length_cons, List.length_nil, List.replicate, List.cons_append, List.nil_append, List.append_nil, List.getElem?_cons_zero, List.getElem?_cons_succ, List.set_cons_zero, List.set_cons_succ, Option.some.injEq, V.str.injEq, V.int.injEq, V.bl.injEq, V.ref.injEq, List.cons.injEq, and_true, true_and, exists_eq_left', exists_eq_left, exists_eq, exists_eq', exists_and_left, exists_and_right, and_assoc, exists_const, reduceCtorEq, if_true, if_false, ite_true, ite_false, Bool.false_eq_true, decide_true, decide_false, Bool.not_true, Bool.not_false, cxK]
      exact q _ s
  | lst hl hs =>
    rename_i ds
    obtain ⟨pv, xs, rfl, hx, dx⟩ : ∃ a xs, v = .ref a ∧ SqL K H a xs ∧ DpAll K H xs ds := dp_lstI hv
    obtain ⟨pu, ys, rfl, hy, dy⟩ : ∃ a xs, u = .ref a ∧ SqL K H a xs ∧ DpAll K H xs ds := dp_lstI hu
    have ll : xs.length = ys.length := dx.len.trans dy.len.symm
    have hx1 := sqL_same s1 hx
    have hy1 := sqL_same s1 hy
    refine isiT upd_same (tyL hy1) (b := true) rfl ⟨true, rfl, ?_⟩
    rw [if_pos rfl]
    refine isi (tyL hx1) (b := false) rfl (isi (tyL hy1) (b := false) rfl ⟨rfl, ?_⟩)
    rw [if_neg (by decide)]
    refine isi (tyL hx1) (b := true) rfl (isi (tyL hy1) (b := true) rfl ⟨rfl, ?_⟩)
    rw [if_neg (by decide)]
    refine ⟨pv, rfl, xs, .inl hx1, pu, rfl, ys, .inl hy1, ?_⟩
    rw [if_neg (by simp [ll])]
    have yl := dy.len
    refine ⟨pu, rfl, ys, .inl hy1, by omega, by omega, ?_⟩
    rw [Int.toNat_natCast]
    obtain ⟨Pv, hPv⟩ : ∃ Pv : Nat → L2.St → Hp → Prop, ∀ i σ' H', Pv i σ' H' ↔ ∃ v2 : Option V, σ' = [some (.ref pv), some (.ref pu), v2] ∧ Same H H' := ⟨_, fun _ _ _ => Iff.rfl⟩
    refine foR (lo := 0) (n := ys.length) Pv ((hPv _ _ _).mpr ⟨_, rfl, s1⟩) (fun i σ' H' hi g => ?_) (fun σ' H' g => ?_)
    · obtain ⟨v2, rfl, s⟩ := (hPv _ _ _).mp g
      obtain ⟨x, ex⟩ : ∃ x, xs[i]? = some x := ⟨_, List.getElem?_eq_getElem (by omega)⟩
      obtain ⟨y, ey⟩ : ∃ x, ys[i]? = some x := ⟨_, List.getElem?_eq_getElem hi⟩
      obtain ⟨da, ed1, kx⟩ := dx.at ex
      obtain ⟨db, ed2, ky⟩ := dy.at ey
      have := ed1.symm.trans ed2
      cases this
      have g2 : ∀ Q' : VK, (∀ H2, Same H' H2 → Q' (.bl true) H2) → spR [x, y] H' Q' E0 := fun Q' q' => by
        rw [hspR]
        exact ⟨_, by omega, x, y, da, rfl, dp_same s _ _ kx, dp_same s _ _ ky, hs _ (List.mem_of_getElem? ed1), q'⟩
      simp only [tSeq, tAsg, tCB, tCons, tVar, tNil, gName, tRet, tRetN, tDrop, tNext, tIfS, tTest, tB, tOr, tAnd, tNot, tIf, tOrV, tAndV, tNotV, tChain, rI0, rI, rU, tUn, tC, tOp, rNe, rEq, tCall, tPart, tNoPart, tSl, tM0, tM1, tTup, tLst, tAug, gTup, gCons, gNil, rAdd, rSub, tNever, tBreak, tCont, L2.start, scSS, scII, scBB, ipI, sS, dS, d1, mkS, sL, nc1, nc2, Int.natCast_inj, List.map_cons, List.map_nil, List.length_cons, List.length_nil, List.replicate, List.cons_append, List.nil_append, List.append_nil, List.getElem?_cons_zero, List.getElem?_cons_succ, List.set_cons_zero, List.set_cons_succ, Option.some.injEq, V.str.injEq, V.int.injEq, V.bl.injEq, V.ref.injEq, List.cons.injEq, and_true, true_and, exists_eq_left', exists_eq_left, exists_eq, exists_eq', exists_and_left, exists_and_right, and_assoc, exists_const, reduceCtorEq, if_true, if_false, ite_true, ite_false, Bool.false_eq_true, decide_true, decide_false, Bool.not_true, Bool.not_false, cxK, ]
      have e0 : (0 : Int) + (i : Int) = (i : Nat) := by omega
      rw [e0]
      refine .inl ⟨xs, sqL_same s hx, x, atI_nat ex, .inl ⟨ys, sqL_same s hy, y, atI_nat ey, g2 _ fun H2 s2 => ⟨true, rfl, ?_⟩⟩⟩
      rw [if_neg (by decide)]
      exact (hPv _ _ _).mpr ⟨_, rfl, s.trans s2⟩
    · obtain ⟨v2, rfl, s⟩ := (hPv _ _ _).mp g
      simp only [tSeq, tAsg, tCB, tCons, tVar, tNil, gName, tRet, tRetN, tDrop, tNext, tIfS, tTest, tB, tOr, tAnd, tNot, tIf, tOrV, tAndV, tNotV, tChain, rI0, rI, rU, tUn, tC, tOp, rNe, rEq, tCall, tPart, tNoPart, tSl, tM0, tM1, tTup, tLst, tAug, gTup, gCons, gNil, rAdd, rSub, tNever, tBreak, tCont, L2.start, scSS, scII, scBB, ipI, sS, dS, d1, mkS, sL, nc1, nc2, Int.natCast_inj, List.map_cons, List.map_nil, List.length_cons, List.length_nil, List.replicate, List.cons_append, List.nil_append, List.append_nil, List.getElem?_cons_zero, List.getElem?_cons_succ, List.set_cons_zero, List.set_cons_succ, Option.some.injEq, V.str.injEq, V.int.injEq, V.bl.injEq, V.ref.injEq, List.cons.injEq, and_true, true_and, exists_eq_left', exists_eq_left, exists_eq, exists_eq', exists_and_left, exists_and_right, and_assoc, exists_const, reduceCtorEq, if_true, if_false, ite_true, ite_false, Bool.false_eq_true, decide_true, decide_false, Bool.not_true, Bool.not_false, cxK]
      exact q _ s
def sp_sameN (K : PySem.W.Frag) (n : Nat) : Sp := fun vs H Q E => ∃ m, m < n ∧ sp_same K m vs H Q E
theorem same_base (D : Dfn K mg "_law_same" (topS 38) ["_law_heard", "_law_due"]) : Cal P w K mg base 1 "_law_same" (sp_sameN K 0) := by
  refine cal_of D sclaw_same (fun vs H Q E h => ?_) (fun f cdv A outer s H vs Q E hr h => ?_)
  · obtain ⟨_, hm, _⟩ := h
    omega
  obtain ⟨_, hm, _⟩ := h
  omega
theorem ok_same (T : BiA mg) (T2 : BiA mg) (D : Dfn K mg "_law_same" (topS 38) ["_law_heard", "_law_due"]) : Cal P w K mg base 4 "_law_same" (sp_sameN K 3) :=
  ok_same1 T T2 2 3 (ok_same1 T T2 1 2 (ok_same1 T T2 0 1 (same_base D) D) D) D
end
end Pd

namespace Pd
open PySem PySem.Spec PyProof.Rows L2
open SX (S)
theorem foldl_nat (its : List Nat) : ∀ (k : Nat) (acc : List Nat), List.foldl (fun x1 x2 => x1 ++ x2) acc.toArray (List.replicate k its.toArray) = (acc ++ (List.replicate k its).flatten).toArray
  | 0, acc => by simp
  | k + 1, acc => by
    rw [List.replicate_succ, List.foldl_cons, show acc.toArray ++ its.toArray = (acc ++ its).toArray by simp, foldl_nat its k, List.replicate_succ, List.flatten_cons, List.append_assoc]
theorem flat_rep (c : Nat) : ∀ k : Nat, (List.replicate k [c]).flatten = List.replicate k c
  | 0 => rfl
  | k + 1 => by
    rw [List.replicate_succ, List.flatten_cons, flat_rep c k]
    rfl
def rMulC : R2 := fun x y H Q => ∃ (c n : Nat), x = .str (S [c]) ∧ y = .int (n : Int) ∧ n ≤ 1000 ∧ Q (.str (S (List.replicate n c))) H
theorem op_mulC {X : Cx} : OpR X (binaryOp .Mult) rMulC := by
  intro pins s σ H x y v u Q I rx ry h
  obtain ⟨c, n, rfl, rfl, h3, q⟩ := h
  obtain ⟨t, rfl⟩ := rx
  obtain ⟨t2, rfl⟩ := ry
  have hx : (S [c]).length = 1 := rfl
  refine PySem.P.mul_str ?_ (fun _ _ => ?_) (fun _ _ => ?_) ?_
  · rw [decide_eq_false (by omega), decide_eq_false (by omega)]
    rfl
  · rw [hx]
    have : (1 : Int) ≤ (2 ^ 63 - 1) / (n : Int) := by
      rw [Int.le_ediv_iff_mul_le (by omega)]
      omega
    omega
  · rw [hx]
    unfold PySem.Builtin.Str.tooLong
    rw [Int.toNat_natCast]
    have : (1000 : Nat) ≤ sizeLine := by decide
    exact decide_eq_false (by omega)
  · by_cases h0 : n = 0
    · subst h0
      rw [if_pos (by decide)]
      exact ⟨by decide, .str (S []), H, I.tok _, ⟨_, rfl⟩, q⟩
    rw [if_neg (by omega)]
    by_cases h1 : n = 1
    · subst h1
      rw [if_pos (by rfl)]
      exact ⟨.str (S [c]), H, I, ⟨_, rfl⟩, q⟩
    rw [if_neg (by simp [hx]; omega)]
    have e : (⟨(List.replicate (n : Int).toNat (S [c]).cps).foldl (fun x1 x2 => x1 ++ x2) #[]⟩ : Str) = S (List.replicate n c) := by
      rw [Int.toNat_natCast]
      have := foldl_nat [c] n []
      rw [List.nil_append, flat_rep] at this
      exact congrArg Str.mk this
    rw [e]
    dsimp only [Made.post]
    exact ⟨by rw [sL, List.length_replicate]; exact Nat.le_trans h3 (by decide), .str (S (List.replicate n c)), H, I.tok _, ⟨_, rfl⟩, q⟩
section
variable {P : Program} {w : World} {K : PySem.W.Frag} {mg : Str → Option Value} {base : Heap}
def sp_text : Sp := fun vs H Q _ => ∃ (a : Addr) (ns : List Nat) (m : Nat), vs = [.ref a, .int (m : Nat)] ∧ H a = some (.lst (iL ns)) ∧ 0 < ns.length ∧ ns.length ≤ 1000 ∧ m ≤ 30 ∧ ∀ H' t, Same H H' → (∀ c ∈ t, c ∈ allSigns) → t.length ≤ 30 → Q (.str (S t)) H'
theorem sclaw_text : FnScope ["_law_drops_here", "_law_many", "_law_drop"] ["_law_drops_here", "_law_many"] (defScope (topS 39)) := ⟨rfl, rfl, rfl, by decide +kernel, rfl, by decide +kernel, by decide +kernel⟩
theorem ok_text (T : BiA mg) (c_law_letter : Cal P w K mg base 2 "_law_letter" sp_letter) (D : Dfn K mg "_law_text" (topS 39) ["_law_drops_here", "_law_many"]) : Cal P w K mg base 3 "_law_text" sp_text := by
  refine cal_of D sclaw_text (fun vs H Q E h => ?_) (fun f cdv A outer s H vs Q E hr h => ?_)
  · obtain ⟨a, ns, m, rfl, _⟩ := h
    rfl
  obtain ⟨a, ns, m, rfl, ha, hn0, hn1, hm, q⟩ := h
  refine ⟨_, (pss_cons (ps_if (pt_cmpR op_eq (pe_op op_modN (pe_callTy call_intI (by rfl) T.b_int (by decide +kernel) (pa_cons (pe_ix ix_list (pv 0) pe_int (fun _ _ => rfl)) pa_nil)) pe_int) pe_int (nomark _)) (pss_one (ps_ret (pe_op op_mulC pe_str (pv 1)))) pss_nil)
      (pss_one (ps_ret (pe_join pe_str (pe_lc (own := [("_law_drop", 2)]) (g := gName 2) (tt := tYes) rfl sclaw_text.nd (pi_list (pe_slice sl_list (pv 0) (po_some pe_int) (po_some (pe_op op_add pe_int (pv 1))))) (blkOk_by (N := ["_law_drops_here", "_law_many", "_law_drop"]) (sc := defScope (topS 39)) (by decide +kernel)) (fun _ _ _ _ _ => (pg_name (i := 2) sclaw_text.nd rfl (Or.inl rfl))) (fun _ _ _ _ _ => pts_nil) (fun _ _ _ _ _ => (pc c_law_letter hr (by decide) rfl (pa_cons (pv 2) pa_nil)))))))), ?_⟩
  simp only [tSeq, tAsg, tCB, tCons, tVar, tNil, gName, tRet, tRetN, tDrop, tNext, tIfS, tTest, tB, tOr, tAnd, tNot, tIf, tOrV, tAndV, tNotV, tChain, rI0, rI, rU, tUn, tC, tOp, rNe, rEq, tCall, tPart, tNoPart, tSl, tM0, tM1, tTup, tLst, tAug, gTup, gCons, gNil, rAdd, rSub, tNever, tBreak, tCont, L2.start, scSS, scII, scBB, ipI, sS, dS, d1, mkS, sL, nc1, nc2, Int.natCast_inj, List.map_cons, List.map_nil, List.length_cons, List.length_nil, List.replicate, List.cons_append, List.nil_append, List.append_nil, List.getElem?_cons_zero, List.getElem?_cons_succ, List.set_cons_zero, List.set_cons_succ, Option.some.injEq, V.str.injEq, V.int.injEq, V.bl.injEq, V.ref.injEq, List.cons.injEq, and_true, true_and, exists_eq_left', exists_eq_left, exists_eq, exists_eq', exists_and_left, exists_and_right, and_assoc, exists_const, reduceCtorEq, if_true, if_false, ite_true, ite_false, Bool.false_eq_true, decide_true, decide_false, Bool.not_true, Bool.not_false, cxK, sp_letter, eLcL, rIxL, rSlL, rMulC, l_0, l_4]
  obtain ⟨n0, h0⟩ : ∃ n, ns[0]? = some n := ⟨_, List.getElem?_eq_getElem hn0⟩
  refine ⟨_, SqL.of ha, _, atI_nat (j := 0) (iL_get h0), _, rfl, by decide, ?_⟩
  by_cases z : ((n0 : Nat) : Int).fmod 4 = 3
  · rw [if_pos (decide_eq_true z)]
    refine ⟨by omega, q H _ (Same.refl _) (fun c hc => ?_) (by rw [List.length_replicate]; exact hm)⟩
    rw [(List.mem_replicate.mp hc).2]
    decide
  rw [if_neg (by rw [decide_eq_false z]; decide)]
  refine ⟨_, SqL.of ha, fun p np => ?_⟩
  obtain ⟨ms, ems, hms⟩ : ∃ ms : List Nat, cutV (iL ns) (some 1) (some (1 + (m : Int))) = iL ms ∧ ms.length ≤ 30 := by
    refine ⟨(ns.drop 1).take m, ?_, by rw [List.length_take]; omega⟩
    unfold cutV iL
    rw [List.length_map, ← List.map_drop, ← List.map_take, show HT.sIx ns.length 0 (some 1) = 1 from by simp [HT.sIx]; omega]
    congr 1
    rw [show (1 : Int) + (m : Int) = ((1 + m : Nat) : Int) from by omega, HT.sIx_nat]
    by_cases h : 1 + m ≤ ns.length
    · rw [Nat.min_eq_left h, Nat.add_sub_cancel_left]
    · rw [Nat.min_eq_right (by omega), List.take_of_length_le (by rw [List.length_drop]; omega), List.take_of_length_le (by rw [List.length_drop]; omega)]
  rw [ems]
  have s1 := same_upd (o := .lst (iL ms)) np
  refine ⟨⟨_, SqL.of upd_same⟩, lcL fun Da nD => ?_⟩
  obtain ⟨Pv, hPv⟩ : ∃ Pv : Nat → Hp → Prop, ∀ i H', Pv i H' ↔ ∃ cs : List Nat, Same (upd H p (.lst (iL ms))) H' ∧ H' Da = some (.lst (cs.map fun c => .str (S [c]))) ∧ cs.length = i ∧ ∀ c ∈ cs, c ∈ allSigns := ⟨_, fun _ _ => Iff.rfl⟩
  refine ⟨iL ms, Pv, (hPv _ _).mpr ⟨[], same_upd nD, upd_same, rfl, fun c hc => by cases hc⟩, fun i H' _ g => ?_, fun i x H' hx g => ?_, fun H' g => ?_⟩
  · obtain ⟨_, s, _⟩ := (hPv _ _).mp g
    exact SqL.of (s _ _ upd_same)
  · obtain ⟨cs, s, e, l, hc⟩ := (hPv _ _).mp g
    obtain ⟨z, hz, rfl⟩ := iL_at hx
    have il : i < ms.length := (List.getElem?_eq_some_iff.mp hz).1
    simp only [tSeq, tAsg, tCB, tCons, tVar, tNil, gName, tRet, tRetN, tDrop, tNext, tIfS, tTest, tB, tOr, tAnd, tNot, tIf, tOrV, tAndV, tNotV, tChain, rI0, rI, rU, tUn, tC, tOp, rNe, rEq, tCall, tPart, tNoPart, tSl, tM0, tM1, tTup, tLst, tAug, gTup, gCons, gNil, rAdd, rSub, tNever, tBreak, tCont, L2.start, scSS, scII, scBB, ipI, sS, dS, d1, mkS, sL, nc1, nc2, Int.natCast_inj, List.map_cons, List.map_nil, List.length_cons, List.length_nil, List.replicate, List.cons_append, List.nil_append, List.append_nil, List.getElem?_cons_zero, List.getElem?_cons_succ, List.set_cons_zero, List.set_cons_succ, Option.some.injEq, V.str.injEq, V.int.injEq, V.bl.injEq, V.ref.injEq, List.cons.injEq, and_true, true_and, exists_eq_left', exists_eq_left, exists_eq, exists_eq', exists_and_left, exists_and_right, and_assoc, exists_const, reduceCtorEq, if_true, if_false, ite_true, ite_false, Bool.false_eq_true, decide_true, decide_false, Bool.not_true, Bool.not_false, cxK, wipe, sp_letter, l_0, l_4]
    refine fun c cA => ⟨_, e, sz5 (by rw [List.length_map]; omega), (hPv _ _).mpr ⟨cs ++ [c], same_mut s nD, ?_, by rw [List.length_append, l]; rfl, fun k hk => ?_⟩⟩
    · rw [List.map_append]
      exact upd_same
    · rcases List.mem_append.1 hk with h | h
      · exact hc k h
      · rw [List.mem_singleton.1 h]
        exact cA
  · obtain ⟨cs, s, e, l, hc⟩ := (hPv _ _).mp g
    rw [iL_len] at l
    have ee : (cs.map fun c => V.str (S [c])) = List.map V.str (cs.map fun c => S [c]) := by rw [List.map_map]; rfl
    rw [ee] at e
    refine ⟨_, rfl, _, .inl (SqL.of e), ?_, ?_⟩
    · rw [sum_ones]
      omega
    · rw [join_ones]
      exact q _ _ (s1.trans s) hc (by omega)
/-- one part, so many times -/
def copP (p : Pat) (l : Nat) (m : Option Nat) : Pat := match m with
  | none => flatP false (List.replicate l p ++ [.rep p 0 none])
  | some x => flatP false (List.replicate l p ++ List.replicate (x - l) (.rep p 0 (some 1)))
def sp_copies (K : PySem.W.Frag) : Sp := fun vs H Q _ => ∃ (v : V) (p : Pat) (l : Nat) (m : Option Nat), vs = [v, .int (l : Nat), optNV m] ∧ PtD K H v p ∧ (∀ x, m = some x → l ≤ x) ∧ (copiesOf l m + 1) * (p.z + 1) ≤ 1000 ∧ ∀ H' v', Same H H' → PtD K H' v' (copP p l m) → Q v' H'
theorem sclaw_copies : FnScope ["_law_part", "_law_least", "_law_most", "_law_parts", "_law_k"] ["_law_part", "_law_least", "_law_most"] (defScope (topS 40)) := ⟨rfl, rfl, rfl, by decide +kernel, rfl, by decide +kernel, by decide +kernel⟩
theorem ok_copies (T : BiA mg) (c_law_flat : Cal P w K mg base 1 "_law_flat" (sp_flat K)) (D : Dfn K mg "_law_copies" (topS 40) ["_law_part", "_law_least", "_law_most"]) : Cal P w K mg base 2 "_law_copies" (sp_copies K) := by
  refine cal_of D sclaw_copies (fun vs H Q E h => ?_) (fun f cdv A outer s H vs Q E hr h => ?_)
  · obtain ⟨v, p, l, m, rfl, _⟩ := h
    rfl
  obtain ⟨v, p, l, m, rfl, hp, hm, hz, q⟩ := h
  have e1 : (copiesOf l m + 1) * (p.z + 1) = copiesOf l m * p.z + copiesOf l m + (p.z + 1) := by rw [Nat.succ_mul, Nat.mul_succ]
  have lc : l ≤ copiesOf l m := by
    cases m with
    | none => show l ≤ max 1 l; omega
    | some x => exact hm x rfl
  have lz : l * p.z ≤ copiesOf l m * p.z := Nat.mul_le_mul_right _ lc
  have hl : l ≤ 1000 := by omega
  refine ⟨_, (pss_cons (ps_setLc (i := 3) (own := [("_law_k", 4)]) (g := gName 4) (tt := tYes) rfl sclaw_copies.nd rfl rfl (sw_true rfl rfl rfl (by decide +kernel)) (pi_range1 (by rfl) T.b_range (pa_cons (pv 1) pa_nil)) (blkOk_by (N := ["_law_part", "_law_least", "_law_most", "_law_parts", "_law_k"]) (sc := defScope (topS 40)) (by decide +kernel)) (fun _ _ _ _ _ => (pg_name (i := 4) sclaw_copies.nd rfl (Or.inl rfl))) (fun _ _ _ _ _ => pts_nil) (fun _ _ _ _ _ => (pv 0)))
      (pss_cons (ps_if (pt_cmpR op_isN (pv 2) pe_non (nomark _)) (pss_one (ps_ret (pc c_law_flat hr (by decide) rfl (pa_cons pe_str (pa_cons (pe_op op_cat (pv 3) (pe_lst (pa_cons (pe_tup (pa_cons pe_str (pa_cons (pv 0) (pa_cons pe_int (pa_cons pe_non pa_nil))))) pa_nil))) pa_nil))))) pss_nil)
      (pss_one (ps_ret (pc c_law_flat hr (by decide) rfl (pa_cons pe_str (pa_cons (pe_op op_cat (pv 3) (pe_lc (own := [("_law_k", 4)]) (g := gName 4) (tt := tYes) rfl sclaw_copies.nd (pi_range1 (by rfl) T.b_range (pa_cons (pe_op op_sub (pv 2) (pv 1)) pa_nil)) (blkOk_by (N := ["_law_part", "_law_least", "_law_most", "_law_parts", "_law_k"]) (sc := defScope (topS 40)) (by decide +kernel)) (fun _ _ _ _ _ => (pg_name (i := 4) sclaw_copies.nd rfl (Or.inl rfl))) (fun _ _ _ _ _ => pts_nil) (fun _ _ _ _ _ => (pe_tup (pa_cons pe_str (pa_cons (pv 0) (pa_cons pe_int (pa_cons pe_int pa_nil)))))))) pa_nil))))))), ?_⟩
  simp only [tSeq, tAsg, tCB, tCons, tVar, tNil, gName, tRet, tRetN, tDrop, tNext, tIfS, tTest, tB, tOr, tAnd, tNot, tIf, tOrV, tAndV, tNotV, tChain, rI0, rI, rU, tUn, tC, tOp, rNe, rEq, tCall, tPart, tNoPart, tSl, tM0, tM1, tTup, tLst, tAug, gTup, gCons, gNil, rAdd, rSub, tNever, tBreak, tCont, L2.start, scSS, scII, scBB, ipI, sS, dS, d1, mkS, sL, nc1, nc2, Int.natCast_inj, List.map_cons, List.map_nil, List.length_cons, List.length_nil, List.replicate, List.cons_append, List.nil_append, List.append_nil, List.getElem?_cons_zero, List.getElem?_cons_succ, List.set_cons_zero, List.set_cons_succ, Option.some.injEq, V.str.injEq, V.int.injEq, V.bl.injEq, V.ref.injEq, List.cons.injEq, and_true, true_and, exists_eq_left', exists_eq_left, exists_eq, exists_eq', exists_and_left, exists_and_right, and_assoc, exists_const, reduceCtorEq, if_true, if_false, ite_true, ite_false, Bool.false_eq_true, decide_true, decide_false, Bool.not_true, Bool.not_false, cxK, sp_flat, eLcR, rCat, l_21, l_22]
  refine ⟨by omega, by omega, ?_⟩
  rw [Int.toNat_natCast]
  have rep_z : ∀ (k : Nat) (p : Pat), zL (List.replicate k p) = k * p.z := fun k p => by
    induction k with
    | zero => rw [List.replicate_zero, zL, Nat.zero_mul]
    | succ k ih => rw [List.replicate_succ, zL, ih, Nat.succ_mul, Nat.add_comm]
  have rep_w : ∀ (k : Nat) (p : Pat), p.Wf → WfL (List.replicate k p) := fun k p h => by
    induction k with
    | zero => rw [List.replicate_zero, WfL]; trivial
    | succ k ih => rw [List.replicate_succ, WfL]; exact ⟨h, ih⟩
  have rep_s : ∀ (k : Nat) (p : Pat), p.Sm → SmL (List.replicate k p) := fun k p h => by
    induction k with
    | zero => rw [List.replicate_zero, SmL]; trivial
    | succ k ih => rw [List.replicate_succ, SmL]; exact ⟨h, ih⟩
  have rep_d : ∀ (k : Nat) (H' : Hp) (v : V) (p : Pat), Dp K H' v (patD p) → DpAll K H' (List.replicate k v) (patDs (List.replicate k p)) := fun k H' v p h => by
    induction k with
    | zero => rw [List.replicate_zero, List.replicate_zero, patDs]; exact .nil
    | succ k ih => rw [List.replicate_succ, List.replicate_succ, patDs]; exact .cons h ih
  refine lcR fun Da nD => ?_
  obtain ⟨Pv, hPv⟩ : ∃ Pv : Nat → Hp → Prop, ∀ i H', Pv i H' ↔ Same H H' ∧ H' Da = some (.lst (List.replicate i v)) := ⟨_, fun _ _ => Iff.rfl⟩
  refine ⟨Pv, (hPv _ _).mpr ⟨same_upd nD, upd_same⟩, fun i H' hi g => ?_, fun H' g => ?_⟩
  · obtain ⟨s, e⟩ := (hPv _ _).mp g
    simp only [tSeq, tAsg, tCB, tCons, tVar, tNil, gName, tRet, tRetN, tDrop, tNext, tIfS, tTest, tB, tOr, tAnd, tNot, tIf, tOrV, tAndV, tNotV, tChain, rI0, rI, rU, tUn, tC, tOp, rNe, rEq, tCall, tPart, tNoPart, tSl, tM0, tM1, tTup, tLst, tAug, gTup, gCons, gNil, rAdd, rSub, tNever, tBreak, tCont, L2.start, scSS, scII, scBB, ipI, sS, dS, d1, mkS, sL, nc1, nc2, Int.natCast_inj, List.map_cons, List.map_nil, List.length_cons, List.length_nil, List.replicate, List.cons_append, List.nil_append, List.append_nil, List.getElem?_cons_zero, List.getElem?_cons_succ, List.set_cons_zero, List.set_cons_succ, Option.some.injEq, V.str.injEq, V.int.injEq, V.bl.injEq, V.ref.injEq, List.cons.injEq, and_true, true_and, exists_eq_left', exists_eq_left, exists_eq, exists_eq', exists_and_left, exists_and_right, and_assoc, exists_const, reduceCtorEq, if_true, if_false, ite_true, ite_false, Bool.false_eq_true, decide_true, decide_false, Bool.not_true, Bool.not_false, cxK, wipe]
    refine ⟨_, e, sz5 (by rw [List.length_replicate]; omega), (hPv _ _).mpr ⟨same_mut s nD, ?_⟩⟩
    rw [← List.replicate_succ']
    exact upd_same
  · obtain ⟨s, e⟩ := (hPv _ _).mp g
    cases m with
    | none =>
      rw [if_pos (by rfl)]
      refine ⟨by decide, fun p1 n1 => ⟨by decide, fun p2 n2 => ?_⟩⟩
      have s1 := same_upd (o := .tup [V.str (S [114, 101, 112, 101, 97, 116]), v, V.int 0, V.non]) n1
      have s2 := same_upd (o := .lst [V.ref p1]) n2
      refine ⟨_, rfl, _, (s1.trans s2) _ _ e, _, upd_same, sz5 (by rw [List.length_replicate, List.length_singleton]; omega), fun p3 n3 => ?_⟩
      have s3 := same_upd (o := .lst (List.replicate l v ++ [V.ref p1])) n3
      have sA := ((s.trans s1).trans s2).trans s3
      have rp : Pat := .rep p 0 none
      refine ⟨false, rfl, List.replicate l p ++ [Pat.rep p 0 none], ⟨⟨_, upd_same, ?_⟩, WfL_app (rep_w _ _ hp.wf) ?_, SmL_app (rep_s _ _ hp.sm) ?_⟩, ?_, fun H2 v' s4 pt => q H2 v' (sA.trans s4) pt⟩
      · rw [patDs_app]
        refine (rep_d _ _ _ _ (dp_same sA _ _ hp.dp)).app ?_
        rw [patDs, patDs, patD]
        exact .cons (.tup (SqT.of ((s2.trans s3) _ _ upd_same)) (.cons (.str _) (.cons (dp_same sA _ _ hp.dp) (.cons (.int _) (.cons .non .nil))))) .nil
      · rw [WfL, WfL, Pat.Wf]
        exact ⟨⟨hp.wf, fun x hx => by cases hx⟩, trivial⟩
      · rw [SmL, SmL, Pat.Sm]
        exact ⟨⟨hp.sm, by omega, fun x hx => by cases hx⟩, trivial⟩
      · rw [zL_app, rep_z, zL, zL, Pat.z]
        omega
    | some y =>
      have y1 := hm y rfl
      rw [show copiesOf l (some y) = y from rfl] at e1 hz lz
      rw [if_neg (by simp [optNV])]
      rw [optNV]
      refine ⟨_, rfl, by omega, by omega, ?_⟩
      rw [show ((y : Int) - (l : Int)).toNat = y - l from by omega]
      refine lcR fun Db nB => ?_
      have ab : Da ≠ Db := fun z => by rw [← z, e] at nB; cases nB
      obtain ⟨Pw, hPw⟩ : ∃ Pw : Nat → Hp → Prop, ∀ i H2, Pw i H2 ↔ ∃ us, Same H' H2 ∧ H2 Db = some (.lst us) ∧ DpAll K H2 us (patDs (List.replicate i (.rep p 0 (some 1)))) := ⟨_, fun _ _ => Iff.rfl⟩
      refine ⟨Pw, (hPw _ _).mpr ⟨[], same_upd nB, upd_same, by rw [List.replicate_zero, patDs]; exact .nil⟩, fun i H2 hi g => ?_, fun H2 g => ?_⟩
      · obtain ⟨us, s2, e2, du⟩ := (hPw _ _).mp g
        have ul : us.length = i := by rw [du.len, patDs_len, List.length_replicate]
        simp only [tSeq, tAsg, tCB, tCons, tVar, tNil, gName, tRet, tRetN, tDrop, tNext, tIfS, tTest, tB, tOr, tAnd, tNot, tIf, tOrV, tAndV, tNotV, tChain, rI0, rI, rU, tUn, tC, tOp, rNe, rEq, tCall, tPart, tNoPart, tSl, tM0, tM1, tTup, tLst, tAug, gTup, gCons, gNil, rAdd, rSub, tNever, tBreak, tCont, L2.start, scSS, scII, scBB, ipI, sS, dS, d1, mkS, sL, nc1, nc2, Int.natCast_inj, List.map_cons, List.map_nil, List.length_cons, List.length_nil, List.replicate, List.cons_append, List.nil_append, List.append_nil, List.getElem?_cons_zero, List.getElem?_cons_succ, List.set_cons_zero, List.set_cons_succ, Option.some.injEq, V.str.injEq, V.int.injEq, V.bl.injEq, V.ref.injEq, List.cons.injEq, and_true, true_and, exists_eq_left', exists_eq_left, exists_eq, exists_eq', exists_and_left, exists_and_right, and_assoc, exists_const, reduceCtorEq, if_true, if_false, ite_true, ite_false, Bool.false_eq_true, decide_true, decide_false, Bool.not_true, Bool.not_false, cxK, wipe, l_21, l_22]
        refine ⟨by decide, fun p1 n1 => ?_⟩
        have s3 := same_upd (o := .tup [V.str (S [114, 101, 112, 101, 97, 116]), v, V.int 0, V.int 1]) n1
        refine ⟨us, s3 _ _ e2, sz5 (by omega), (hPw _ _).mpr ⟨_, same_mut (s2.trans s3) nB, upd_same, ?_⟩⟩
        have fx : Fr [Db] (upd H2 p1 (.tup [V.str (S [114, 101, 112, 101, 97, 116]), v, V.int 0, V.int 1])) (upd (upd H2 p1 (.tup [V.str (S [114, 101, 112, 101, 97, 116]), v, V.int 0, V.int 1])) Db (.lst (us ++ [V.ref p1]))) := Fr.refl.upd (.inl (.head _)) (s3 _ _ e2) rfl
        rw [List.replicate_succ', patDs_app]
        refine (dp_frAll fx _ _ (noL_pats _) (dp_sameAll s3 _ _ du)).app ?_
        have : Dp K (upd H2 p1 (.tup [V.str (S [114, 101, 112, 101, 97, 116]), v, V.int 0, V.int 1])) (.ref p1) (patD (.rep p 0 (some 1))) := by
          rw [patD]
          exact .tup (SqT.of upd_same) (.cons (.str _) (.cons (dp_same ((s.trans s2).trans s3) _ _ hp.dp) (.cons (.int _) (.cons (.int _) .nil))))
        rw [patDs, patDs]
        exact .cons (dp_fr fx _ _ (noL_pat _) this) .nil
      · obtain ⟨us, s2, e2, du⟩ := (hPw _ _).mp g
        have ul : us.length = y - l := by rw [du.len, patDs_len, List.length_replicate]
        refine ⟨_, rfl, _, rfl, _, s2 _ _ e, _, e2, sz5 (by rw [List.length_replicate]; omega), fun p3 n3 => ?_⟩
        have s3 := same_upd (o := .lst (List.replicate l v ++ us)) n3
        have sA := (s.trans s2).trans s3
        have zy : l * p.z + (y - l) * (p.z + 1) ≤ y * (p.z + 1) := by
          have h1 : l * p.z ≤ l * (p.z + 1) := Nat.mul_le_mul_left _ (Nat.le_succ _)
          have h2 : l * (p.z + 1) + (y - l) * (p.z + 1) = y * (p.z + 1) := by rw [← Nat.add_mul, Nat.add_sub_cancel' y1]
          omega
        have e3 : y * (p.z + 1) = y * p.z + y := Nat.mul_succ _ _
        refine ⟨false, rfl, List.replicate l p ++ List.replicate (y - l) (Pat.rep p 0 (some 1)), ⟨⟨_, upd_same, ?_⟩, WfL_app (rep_w _ _ hp.wf) (rep_w _ _ ?_), SmL_app (rep_s _ _ hp.sm) (rep_s _ _ ?_)⟩, ?_, fun H2 v' s4 pt => q H2 v' (sA.trans s4) pt⟩
        · rw [patDs_app]
          exact (rep_d _ _ _ _ (dp_same sA _ _ hp.dp)).app (dp_sameAll s3 _ _ du)
        · rw [Pat.Wf]
          exact ⟨hp.wf, fun x hx => by cases hx; omega⟩
        · rw [Pat.Sm]
          exact ⟨hp.sm, by omega, fun x hx => by cases hx; omega⟩
        · rw [zL_app, rep_z, rep_z, Pat.z]
          omega
end
end Pd

namespace Pd
theorem rl_ext {R Q : Rl} (h : ∀ s e, R s e ↔ Q s e) : R = Q := funext fun s => funext fun e => propext (h s e)
theorem seq_eq {R : Rl} : seqR R (fun s e => s = e) = R := rl_ext fun s e => ⟨fun ⟨j, h, g⟩ => by cases (show j = e from g); exact h, fun h => ⟨e, h, rfl⟩⟩
theorem eq_seq {R : Rl} : seqR (fun s e => s = e) R = R := rl_ext fun s e => ⟨fun ⟨j, h, g⟩ => by cases (show s = j from h); exact g, fun h => ⟨s, rfl, h⟩⟩
theorem seq_asc {A B C : Rl} : seqR (seqR A B) C = seqR A (seqR B C) := rl_ext fun s e => ⟨fun ⟨j, ⟨k, a, b⟩, c⟩ => ⟨k, a, j, b, c⟩, fun ⟨k, a, j, b, c⟩ => ⟨j, ⟨k, a, b⟩, c⟩⟩
theorem or_no {A : Rl} : orR A (fun _ _ => False) = A := rl_ext fun s e => ⟨fun h => h.elim id False.elim, .inl⟩
theorem or_asc {A B C : Rl} : orR (orR A B) C = orR A (orR B C) := rl_ext fun s e => or_assoc
theorem no_or {A : Rl} : orR (fun _ _ => False) A = A := rl_ext fun s e => ⟨fun h => h.elim False.elim id, .inr⟩
theorem MRow_app (t : List Nat) : ∀ ps qs : List Pat, MRow t (ps ++ qs) = seqR (MRow t ps) (MRow t qs)
  | [], qs => by rw [MRow, eq_seq]; rfl
  | p :: ps, qs => by rw [List.cons_append, MRow, MRow, MRow_app t ps qs, seq_asc]
theorem MAlt_app (t : List Nat) : ∀ ps qs : List Pat, MAlt t (ps ++ qs) = orR (MAlt t ps) (MAlt t qs)
  | [], qs => by rw [MAlt, no_or]; rfl
  | p :: ps, qs => by rw [List.cons_append, MAlt, MAlt, MAlt_app t ps qs, or_asc]
theorem MRow_one (t : List Nat) (p : Pat) : MRow t [p] = M t p := by rw [MRow, MRow, seq_eq]
theorem MAlt_one (t : List Nat) (p : Pat) : MAlt t [p] = M t p := by rw [MAlt, MAlt, or_no]
theorem row_in (t : List Nat) (p : Pat) : MRow t (inP false p) = M t p := by
  cases p <;> simp only [inP, Bool.false_eq_true, if_false] <;> first | exact MRow_one t _ | rw [M]
theorem alt_in (t : List Nat) (p : Pat) : MAlt t (inP true p) = M t p := by
  cases p <;> simp only [inP, if_true] <;> first | exact MAlt_one t _ | rw [M]
theorem row_flat (t : List Nat) : ∀ ps : List Pat, MRow t (ps.flatMap (inP false)) = MRow t ps
  | [] => rfl
  | p :: ps => by rw [List.flatMap_cons, MRow_app, row_in, row_flat t ps, MRow]
theorem alt_flat (t : List Nat) : ∀ ps : List Pat, MAlt t (ps.flatMap (inP true)) = MAlt t ps
  | [] => rfl
  | p :: ps => by rw [List.flatMap_cons, MAlt_app, alt_in, alt_flat t ps, MAlt]
theorem flatP_cases (al : Bool) (ps : List Pat) : (∃ p, ps.flatMap (inP al) = [p] ∧ flatP al ps = p) ∨ flatP al ps = mkP al (ps.flatMap (inP al)) := by
  by_cases h : (ps.flatMap (inP al)).length = 1
  · obtain ⟨p, hp⟩ := List.length_eq_one_iff.mp h
    exact .inl ⟨p, hp, flatP_one hp⟩
  · exact .inr (flatP_many h)
theorem M_row (t : List Nat) (ps : List Pat) : M t (flatP false ps) = MRow t ps := by
  rcases flatP_cases false ps with ⟨p, h, e⟩ | e
  · rw [e, ← row_flat, h, MRow_one]
  · rw [e]
    show M t (.row _) = _
    rw [M, row_flat]
theorem M_alt (t : List Nat) (ps : List Pat) : M t (flatP true ps) = MAlt t ps := by
  rcases flatP_cases true ps with ⟨p, h, e⟩ | e
  · rw [e, ← alt_flat, h, MAlt_one]
  · rw [e]
    show M t (.alt _) = _
    rw [M, alt_flat]
/-! ### written out -/
theorem pow_succ' {R : Rl} (k : Nat) : seqR R (powR R k) = powR R (k + 1) := rl_ext fun s e => by
  rw [Nat.add_comm, pow_add]
  exact ⟨fun ⟨j, h, g⟩ => ⟨j, pow_one.mpr h, g⟩, fun ⟨j, h, g⟩ => ⟨j, pow_one.mp h, g⟩⟩
theorem row_rep (t : List Nat) (p : Pat) : ∀ k, MRow t (List.replicate k p) = powR (M t p) k
  | 0 => by rw [List.replicate_zero, MRow]; rfl
  | k + 1 => by rw [List.replicate_succ, MRow, row_rep t p k, pow_succ']
theorem row_maybe (t : List Nat) (p : Pat) : ∀ k, MRow t (List.replicate k (.rep p 0 (some 1))) = fun s e => ∃ j, j ≤ k ∧ powR (M t p) j s e
  | 0 => by
    rw [List.replicate_zero, MRow]
    exact rl_ext fun s e => ⟨fun h => ⟨0, Nat.le_refl _, h⟩, fun ⟨j, h, g⟩ => by cases (show j = 0 by omega); exact g⟩
  | k + 1 => by
    rw [List.replicate_succ, MRow, row_maybe t p k, M]
    refine rl_ext fun s e => ⟨?_, ?_⟩
    · rintro ⟨j, ⟨a, _, ha, h1⟩, b, hb, h2⟩
      have := ha 1 rfl
      exact ⟨a + b, by omega, (pow_add b a s e).mpr ⟨j, h1, h2⟩⟩
    · rintro ⟨j, hj, h⟩
      cases j with
      | zero => exact ⟨s, ⟨0, Nat.le_refl _, fun x hx => by omega, rfl⟩, 0, by omega, h⟩
      | succ j =>
        rw [Nat.add_comm] at h
        obtain ⟨i, h1, h2⟩ := (pow_add j 1 s e).mp h
        exact ⟨i, ⟨1, by omega, fun x hx => by cases hx; omega, h1⟩, j, by omega, h2⟩
theorem M_cop (t : List Nat) (p : Pat) (l : Nat) (m : Option Nat) (hm : ∀ x, m = some x → l ≤ x) : M t (copP p l m) = repR (M t p) l m := by
  cases m with
  | none =>
    show M t (flatP false _) = _
    rw [M_row, MRow_app, row_rep, MRow_one, M]
    refine rl_ext fun s e => ⟨?_, ?_⟩
    · rintro ⟨j, h1, b, _, _, h2⟩
      exact ⟨l + b, by omega, (fun x hx => by cases hx), (pow_add b l s e).mpr ⟨j, h1, h2⟩⟩
    · rintro ⟨k, hk, _, h⟩
      rw [show k = l + (k - l) by omega] at h
      obtain ⟨j, h1, h2⟩ := (pow_add (k - l) l s e).mp h
      exact ⟨j, h1, k - l, by omega, (fun x hx => by cases hx), h2⟩
  | some x =>
    have hx := hm x rfl
    show M t (flatP false _) = _
    rw [M_row, MRow_app, row_rep, row_maybe]
    refine rl_ext fun s e => ⟨?_, ?_⟩
    · rintro ⟨j, h1, b, hb, h2⟩
      exact ⟨l + b, by omega, fun y hy => by cases hy; omega, (pow_add b l s e).mpr ⟨j, h1, h2⟩⟩
    · rintro ⟨k, hk, hy, h⟩
      have := hy x rfl
      rw [show k = l + (k - l) by omega] at h
      obtain ⟨j, h1, h2⟩ := (pow_add (k - l) l s e).mp h
      exact ⟨j, h1, k - l, by omega, h2⟩
mutual
def Pat.wo : Pat → Pat
  | .row ps => flatP false (woL ps)
  | .alt ps => flatP true (woL ps)
  | .rep p l m => copP p.wo l m
  | p => p
def woL : List Pat → List Pat
  | [] => []
  | p :: ps => p.wo :: woL ps
end
mutual
theorem M_wo (t : List Nat) : ∀ p : Pat, p.Wf → M t p.wo = M t p
  | .any, _ => by rw [Pat.wo] <;> (try intros) <;> simp_all
  | .sign c, _ => by rw [Pat.wo] <;> (try intros) <;> simp_all
  | .cls c, _ => by rw [Pat.wo] <;> (try intros) <;> simp_all
  | .bg, _ => by rw [Pat.wo] <;> (try intros) <;> simp_all
  | .en, _ => by rw [Pat.wo] <;> (try intros) <;> simp_all
  | .row ps, h => by rw [Pat.Wf] at h; rw [Pat.wo, M_row, M, MRow_wo t ps h]
  | .alt ps, h => by rw [Pat.Wf] at h; rw [Pat.wo, M_alt, M, MAlt_wo t ps h]
  | .rep p l m, h => by rw [Pat.Wf] at h; rw [Pat.wo, M_cop _ _ _ _ h.2, M, M_wo t p h.1]
theorem MRow_wo (t : List Nat) : ∀ ps : List Pat, WfL ps → MRow t (woL ps) = MRow t ps
  | [], _ => by rw [woL]
  | p :: ps, h => by rw [WfL] at h; rw [woL, MRow, MRow, M_wo t p h.1, MRow_wo t ps h.2]
theorem MAlt_wo (t : List Nat) : ∀ ps : List Pat, WfL ps → MAlt t (woL ps) = MAlt t ps
  | [], _ => by rw [woL]
  | p :: ps, h => by rw [WfL] at h; rw [woL, MAlt, MAlt, M_wo t p h.1, MAlt_wo t ps h.2]
end
/-! ### sizes of what is written out -/
theorem rep_z (k : Nat) (p : Pat) : zL (List.replicate k p) = k * p.z := by
  induction k with
  | zero => rw [List.replicate_zero, zL, Nat.zero_mul]
  | succ k ih => rw [List.replicate_succ, zL, ih, Nat.succ_mul, Nat.add_comm]
theorem rep_n (k : Nat) (p : Pat) : nL (List.replicate k p) = k * p.n := by
  induction k with
  | zero => rw [List.replicate_zero, nL, Nat.zero_mul]
  | succ k ih => rw [List.replicate_succ, nL, ih, Nat.succ_mul, Nat.add_comm]
theorem rep_d (k : Nat) (p : Pat) : dLs (List.replicate k p) ≤ p.d := by
  induction k with
  | zero => rw [List.replicate_zero, dLs]; omega
  | succ k ih => rw [List.replicate_succ, dLs]; omega
theorem flat_dnz (al : Bool) (ps : List Pat) : (flatP al ps).d ≤ dLs ps + 1 ∧ (flatP al ps).n ≤ nL ps ∧ (flatP al ps).z ≤ zL ps + 1 := by
  obtain ⟨b1, b2, b3, b4⟩ := flat_B al ps
  rcases flatP_cases al ps with ⟨p, h, e⟩ | e
  · rw [h] at b1 b2 b3
    rw [dLs, dLs] at b1
    rw [nL, nL] at b2
    rw [zL, zL] at b3
    rw [e]
    omega
  · rw [e]
    cases al <;> simp only [mkP, Bool.false_eq_true, if_false, if_true, Pat.d, Pat.n, Pat.z] <;> omega
theorem cop_dnz (p : Pat) (l : Nat) (m : Option Nat) (hm : ∀ x, m = some x → l ≤ x) : (copP p l m).d ≤ p.d + 2 ∧ (copP p l m).n ≤ (copiesOf l m + 1) * p.n ∧ (copP p l m).z ≤ (copiesOf l m + 1) * (p.z + 1) + 1 := by
  cases m with
  | none =>
    have h := flat_dnz false (List.replicate l p ++ [.rep p 0 none])
    rw [dLs_app, nL_app, zL_app, rep_n, rep_z, dLs, dLs, nL, nL, zL, zL, Pat.d, Pat.n, Pat.z, show copiesOf 0 none = 1 from rfl] at h
    have hd := rep_d l p
    obtain ⟨h1, h2, h3⟩ := h
    have c1 : l ≤ copiesOf l none := by show l ≤ max 1 l; omega
    have e1 : l * p.n ≤ copiesOf l none * p.n := Nat.mul_le_mul_right _ c1
    have e2 : l * p.z ≤ copiesOf l none * p.z := Nat.mul_le_mul_right _ c1
    refine ⟨by show (flatP false _).d ≤ _; omega, ?_, ?_⟩
    · show (flatP false _).n ≤ _
      rw [Nat.succ_mul]
      omega
    · show (flatP false _).z ≤ _
      rw [Nat.succ_mul, Nat.mul_succ]
      omega
  | some x =>
    have hx := hm x rfl
    have h := flat_dnz false (List.replicate l p ++ List.replicate (x - l) (.rep p 0 (some 1)))
    have hd2 := rep_d (x - l) (.rep p 0 (some 1))
    rw [Pat.d] at hd2
    rw [dLs_app, nL_app, zL_app, rep_n, rep_z, rep_n, rep_z, Pat.n, Pat.z, show copiesOf 0 (some 1) = 1 from rfl, Nat.one_mul] at h
    have hd := rep_d l p
    obtain ⟨h1, h2, h3⟩ := h
    have a1 : l * p.n + (x - l) * p.n = x * p.n := by rw [← Nat.add_mul, Nat.add_sub_cancel' hx]
    have a2 : l * (p.z + 1) + (x - l) * (p.z + 1) = x * (p.z + 1) := by rw [← Nat.add_mul, Nat.add_sub_cancel' hx]
    have a3 : l * p.z ≤ l * (p.z + 1) := Nat.mul_le_mul_left _ (Nat.le_succ _)
    refine ⟨by show (flatP false _).d ≤ _; omega, ?_, ?_⟩
    · show (flatP false _).n ≤ (x + 1) * p.n
      rw [Nat.succ_mul]
      omega
    · show (flatP false _).z ≤ (x + 1) * (p.z + 1) + 1
      rw [Nat.succ_mul]
      omega
mutual
theorem wo_dnz : ∀ p : Pat, p.Wf → p.wo.d ≤ 2 * p.d ∧ p.wo.n ≤ p.y ∧ p.wo.z ≤ p.y
  | .any, _ => by rw [Pat.wo] <;> (try intros) <;> simp_all [Pat.d, Pat.n, Pat.z, Pat.y]
  | .sign c, _ => by rw [Pat.wo] <;> (try intros) <;> simp_all [Pat.d, Pat.n, Pat.z, Pat.y]
  | .cls c, _ => by rw [Pat.wo] <;> (try intros) <;> simp_all [Pat.d, Pat.n, Pat.z, Pat.y]
  | .bg, _ => by rw [Pat.wo] <;> (try intros) <;> simp_all [Pat.d, Pat.n, Pat.z, Pat.y]
  | .en, _ => by rw [Pat.wo] <;> (try intros) <;> simp_all [Pat.d, Pat.n, Pat.z, Pat.y]
  | .row ps, h => by
    rw [Pat.Wf] at h
    have i := woL_dnz ps h
    have j := flat_dnz false (woL ps)
    rw [Pat.wo, Pat.d, Pat.y]
    omega
  | .alt ps, h => by
    rw [Pat.Wf] at h
    have i := woL_dnz ps h
    have j := flat_dnz true (woL ps)
    rw [Pat.wo, Pat.d, Pat.y]
    omega
  | .rep p l m, h => by
    rw [Pat.Wf] at h
    have i := wo_dnz p h.1
    have j := cop_dnz p.wo l m h.2
    rw [Pat.wo, Pat.d, Pat.y]
    have e1 : (copiesOf l m + 1) * p.wo.n ≤ (copiesOf l m + 1) * (p.y + 1) := Nat.mul_le_mul_left _ (by omega)
    have e2 : (copiesOf l m + 1) * (p.wo.z + 1) ≤ (copiesOf l m + 1) * (p.y + 1) := Nat.mul_le_mul_left _ (by omega)
    omega
theorem woL_dnz : ∀ ps : List Pat, WfL ps → dLs (woL ps) ≤ 2 * dLs ps ∧ nL (woL ps) ≤ yL ps ∧ zL (woL ps) ≤ yL ps
  | [], _ => by rw [woL, dLs, nL, zL, yL]; omega
  | p :: ps, h => by
    rw [WfL] at h
    have i := wo_dnz p h.1
    have j := woL_dnz ps h.2
    rw [woL, dLs, dLs, nL, zL, yL]
    omega
end
end Pd

namespace Pd
open PySem PySem.Spec PyProof.Rows L2
open SX (S)
section
variable {P : Program} {w : World} {K : PySem.W.Frag} {mg : Str → Option Value} {base : Heap}
theorem wo_mk {al : Bool} {p : Pat} (h : tagOf p = wdP al) : p.wo = flatP al (woL (inP al p)) := by
  have e := inP_eq h
  generalize inP al p = qs at e
  subst e
  cases al
  · show (Pat.row qs).wo = _; rw [Pat.wo]
  · show (Pat.alt qs).wo = _; rw [Pat.wo]
theorem mk_dy {al : Bool} {p : Pat} (h : tagOf p = wdP al) : p.d = dLs (inP al p) + 1 ∧ p.y = yL (inP al p) + 1 := by
  have e := inP_eq h
  generalize inP al p = qs at e
  subst e
  cases al
  · show (Pat.row qs).d = _ ∧ (Pat.row qs).y = _; rw [Pat.d, Pat.y]; exact ⟨rfl, rfl⟩
  · show (Pat.alt qs).d = _ ∧ (Pat.alt qs).y = _; rw [Pat.d, Pat.y]; exact ⟨rfl, rfl⟩
theorem woL_at : ∀ {ps : List Pat} {i : Nat} {p : Pat}, ps[i]? = some p → woL (ps.take (i + 1)) = woL (ps.take i) ++ [p.wo]
  | [], _, _, h => by cases h
  | q :: ps, 0, p, h => by cases h; rw [List.take_succ_cons, List.take_zero, List.take_zero, woL, woL]; rfl
  | q :: ps, i + 1, p, h => by rw [List.take_succ_cons, List.take_succ_cons, woL, woL, woL_at (ps := ps) (i := i) h]; rfl
theorem dy_get : ∀ {ps : List Pat} {i : Nat} {p : Pat}, ps[i]? = some p → p.d ≤ dLs ps ∧ p.y ≤ yL ps
  | [], _, _, h => by cases h
  | q :: ps, 0, p, h => by cases h; rw [dLs, yL]; omega
  | q :: ps, i + 1, p, h => by have := dy_get (ps := ps) (i := i) h; rw [dLs, yL]; omega
theorem len_y : ∀ qs : List Pat, qs.length ≤ yL qs
  | [] => Nat.zero_le _
  | q :: qs => by
    have : 1 ≤ q.y := by cases q <;> simp [Pat.y]
    have := len_y qs
    rw [List.length_cons, yL]
    omega
def sp_wo (K : PySem.W.Frag) (d : Nat) : Sp := fun vs H Q _ => ∃ (v : V) (p : Pat), vs = [v] ∧ PtD K H v p ∧ p.d < d ∧ p.y ≤ 900 ∧ ∀ H' v', Same H H' → PtD K H' v' p.wo → Q v' H'
theorem sclaw_written_out : FnScope ["_law_tree_here", "_law_part"] ["_law_tree_here"] (defScope (topS 41)) := ⟨rfl, rfl, rfl, by decide +kernel, rfl, by decide +kernel, by decide +kernel⟩
theorem ok_wo1 (T : BiA mg) (c_law_flat : Cal P w K mg base 1 "_law_flat" (sp_flat K)) (c_law_copies : Cal P w K mg base 2 "_law_copies" (sp_copies K)) (d L : Nat) (hL : 2 ≤ L) (c_law_written_out : Cal P w K mg base L "_law_written_out" (sp_wo K d)) (D : Dfn K mg "_law_written_out" (topS 41) ["_law_tree_here"]) : Cal P w K mg base (L + 1) "_law_written_out" (sp_wo K (d + 1)) := by
  refine cal_of D sclaw_written_out (fun vs H Q E h => ?_) (fun f cdv A outer s H vs Q E hr h => ?_)
  · obtain ⟨v, p, rfl, _⟩ := h
    rfl
  obtain ⟨v, p, rfl, hp, hd, hy, q⟩ := h
  refine ⟨_, (C8.pss_cut (ps_if (pt_cmpR op_in_seq (pe_ix ix_tup (pv 0) pe_int (fun _ _ => rfl)) (pe_lst (pa_cons pe_str (pa_cons pe_str pa_nil))) (by rfl)) (pss_one (ps_ret (pc c_law_flat hr (by omega) rfl (pa_cons (pe_ix ix_tup (pv 0) pe_int (fun _ _ => rfl)) (pa_cons (pe_lc (own := [("_law_part", 1)]) (g := gName 1) (tt := tYes) rfl sclaw_written_out.nd (pi_tup (pe_ix ix_tup (pv 0) pe_int (fun _ _ => rfl))) (blkOk_by (N := ["_law_tree_here", "_law_part"]) (sc := defScope (topS 41)) (by decide +kernel)) (fun _ _ _ _ _ => (pg_name (i := 1) sclaw_written_out.nd rfl (Or.inl rfl))) (fun _ _ _ _ _ => pts_nil) (fun _ _ _ _ _ => (pc c_law_written_out hr (by omega) rfl (pa_cons (pv 1) pa_nil)))) pa_nil))))) pss_nil)
      (C8.pss_cut (ps_if (pt_cmpR op_eq (pe_ix ix_tup (pv 0) pe_int (fun _ _ => rfl)) pe_str (nomark _)) (pss_one (ps_ret (pc c_law_copies hr (by omega) rfl (pa_cons (pc c_law_written_out hr (by omega) rfl (pa_cons (pe_ix ix_tup (pv 0) pe_int (fun _ _ => rfl)) pa_nil)) (pa_cons (pe_ix ix_tup (pv 0) pe_int (fun _ _ => rfl)) (pa_cons (pe_ix ix_tup (pv 0) pe_int (fun _ _ => rfl)) pa_nil)))))) pss_nil)
      (pss_one (ps_ret (pv 0))))), ?_⟩
  obtain ⟨spR, hspR⟩ : ∃ spR : Sp, spR = sp_wo K d := ⟨_, rfl⟩
  rw [← hspR]
  obtain ⟨M0, hM0⟩ : ∃ M : L2.St → Hp → Prop, ∀ σ' H', M σ' H' ↔ σ' = [some v, none] ∧ Same H H' := ⟨_, fun _ _ => Iff.rfl⟩
  obtain ⟨pa, xs, ds, rfl, hx, hds, hxs⟩ := hp.at
  refine ⟨fun σ' H' => M0 σ' H' ∧ tagOf p ≠ [114, 111, 119] ∧ tagOf p ≠ [111, 114], ?_, fun σ1 H1 g1 => ?_⟩
  · simp only [tSeq, tAsg, tCB, tCons, tVar, tNil, gName, tRet, tRetN, tDrop, tNext, tIfS, tTest, tB, tOr, tAnd, tNot, tIf, tOrV, tAndV, tNotV, tChain, rI0, rI, rU, tUn, tC, tOp, rNe, rEq, tCall, tPart, tNoPart, tSl, tM0, tM1, tTup, tLst, tAug, gTup, gCons, gNil, rAdd, rSub, tNever, tBreak, tCont, L2.start, scSS, scII, scBB, ipI, sS, dS, d1, mkS, sL, nc1, nc2, Int.natCast_inj, List.map_cons, List.map_nil, List.length_cons, List.length_nil, List.replicate, List.cons_append, List.nil_append, List.append_nil, List.getElem?_cons_zero, List.getElem?_cons_succ, List.set_cons_zero, List.set_cons_succ, Option.some.injEq, V.str.injEq, V.int.injEq, V.bl.injEq, V.ref.injEq, List.cons.injEq, and_true, true_and, exists_eq_left', exists_eq_left, exists_eq, exists_eq', exists_and_left, exists_and_right, and_assoc, exists_const, reduceCtorEq, if_true, if_false, ite_true, ite_false, Bool.false_eq_true, decide_true, decide_false, Bool.not_true, Bool.not_false, cxK, eLcT, rIxT, rIn, l_16, l_21, l_22]
    by_cases ht : ∃ al, tagOf p = wdP al
    · obtain ⟨al, ht⟩ := ht
      have hd3 : PyData.tuple (.str (S (tagOf p)) :: ds) = .tuple [.str (S (wdP al)), .tuple (patDs (inP al p))] := hds.symm.trans (by rw [← mkP_data, ← inP_eq ht])
      rw [ht] at hd3 hx
      injection hd3 with hd4
      injection hd4 with _ hd5
      subst hd5
      obtain ⟨x1, xs', rfl, hx1, hxs'⟩ := hxs.c1
      cases hxs'
      obtain ⟨pb, ys, rfl, hy2, hys⟩ := hx1.tupI
      obtain ⟨m1, m2⟩ := mk_dy ht
      refine ⟨_, hx, _, atI_nat (j := 0) rfl, by decide, fun p1 n1 => ⟨_, .inl (SqL.of upd_same), by rfl, by rfl, ?_⟩⟩
      have s1 := same_upd (o := .lst [V.str (S [114, 111, 119]), V.str (S [111, 114])]) n1
      rw [if_pos (by cases al <;> rfl)]
      refine ⟨_, sqT_same s1 hx, _, atI_nat (j := 0) rfl, _, sqT_same s1 hx, _, atI_nat (j := 1) rfl, _, rfl, ⟨_, sqT_same s1 hy2⟩, lcT fun Da nD => ?_⟩
      have sD := same_upd (o := .lst []) nD
      have yl : ys.length = (inP al p).length := by rw [hys.len, patDs_len]
      obtain ⟨Pv, hPv⟩ : ∃ Pv : Nat → Hp → Prop, ∀ i H', Pv i H' ↔ ∃ us, Same (upd H p1 (.lst [V.str (S [114, 111, 119]), V.str (S [111, 114])])) H' ∧ H' Da = some (.lst us) ∧ DpAll K H' us (patDs (woL ((inP al p).take i))) ∧ us.length = i ∧ WfL (woL ((inP al p).take i)) ∧ SmL (woL ((inP al p).take i)) := ⟨_, fun _ _ => Iff.rfl⟩
      refine ⟨ys, Pv, (hPv _ _).mpr ⟨[], sD, upd_same, by rw [List.take_zero, woL, patDs]; exact .nil, rfl, by rw [List.take_zero, woL, WfL]; trivial, by rw [List.take_zero, woL, SmL]; trivial⟩, fun i H' _ g => ?_, fun i y H' hy3 g => ?_, fun H' g => ?_⟩
      · obtain ⟨_, s, _⟩ := (hPv _ _).mp g
        exact sqT_same (s1.trans s) hy2
      · obtain ⟨us, s, e, du, ul, w1, m3⟩ := (hPv _ _).mp g
        obtain ⟨dy, edy, ky⟩ := hys.at hy3
        rw [patDs_get] at edy
        obtain ⟨pi, epi, rfl⟩ := Option.map_eq_some_iff.mp edy
        obtain ⟨g1, g2⟩ := dy_get epi
        have il : i < ys.length := (List.getElem?_eq_some_iff.mp hy3).1
        have ll := len_y (inP al p)
        simp only [tSeq, tAsg, tCB, tCons, tVar, tNil, gName, tRet, tRetN, tDrop, tNext, tIfS, tTest, tB, tOr, tAnd, tNot, tIf, tOrV, tAndV, tNotV, tChain, rI0, rI, rU, tUn, tC, tOp, rNe, rEq, tCall, tPart, tNoPart, tSl, tM0, tM1, tTup, tLst, tAug, gTup, gCons, gNil, rAdd, rSub, tNever, tBreak, tCont, L2.start, scSS, scII, scBB, ipI, sS, dS, d1, mkS, sL, nc1, nc2, Int.natCast_inj, List.map_cons, List.map_nil, List.length_cons, List.length_nil, List.replicate, List.cons_append, List.nil_append, List.append_nil, List.getElem?_cons_zero, List.getElem?_cons_succ, List.set_cons_zero, List.set_cons_succ, Option.some.injEq, V.str.injEq, V.int.injEq, V.bl.injEq, V.ref.injEq, List.cons.injEq, and_true, true_and, exists_eq_left', exists_eq_left, exists_eq, exists_eq', exists_and_left, exists_and_right, and_assoc, exists_const, reduceCtorEq, if_true, if_false, ite_true, ite_false, Bool.false_eq_true, decide_true, decide_false, Bool.not_true, Bool.not_false, cxK, wipe]
        rw [hspR]
        refine ⟨y, pi, rfl, ⟨dp_same (s1.trans s) _ _ ky, WfL_get (inP_wf hp.wf) epi, SmL_get (inP_sm hp.sm) epi⟩, by omega, by omega, fun H2 v' s2 pt => ⟨us, s2 _ _ e, sz5 (by omega), (hPv _ _).mpr ⟨us ++ [v'], ?_, upd_same, ?_, by rw [List.length_append, ul]; rfl, ?_, ?_⟩⟩⟩
        · exact same_mut (s.trans s2) nD
        · have fx : Fr [Da] H2 (upd H2 Da (.lst (us ++ [v']))) := Fr.refl.upd (.inl (.head _)) (s2 _ _ e) rfl
          rw [woL_at epi, patDs_app]
          exact (dp_frAll fx _ _ (noL_pats _) (dp_sameAll s2 _ _ du)).app (.cons (dp_fr fx _ _ (noL_pat _) pt.dp) .nil)
        · rw [woL_at epi]
          exact WfL_app w1 (by rw [WfL, WfL]; exact ⟨pt.wf, trivial⟩)
        · rw [woL_at epi]
          exact SmL_app m3 (by rw [SmL, SmL]; exact ⟨pt.sm, trivial⟩)
      · obtain ⟨us, s, e, du, ul, w1, m3⟩ := (hPv _ _).mp g
        rw [yl, List.take_length] at du w1 m3
        have zy := woL_dnz (inP al p) (inP_wf hp.wf)
        exact ⟨al, Da, _, rfl, ⟨⟨us, e, du⟩, w1, m3⟩, by omega, fun H2 v' s2 pt => q H2 v' ((s1.trans s).trans s2) (by rw [wo_mk ht]; exact pt)⟩
    · have t1 : tagOf p ≠ [114, 111, 119] := fun z => ht ⟨false, z⟩
      have t2 : tagOf p ≠ [111, 114] := fun z => ht ⟨true, z⟩
      refine ⟨_, hx, _, atI_nat (j := 0) rfl, by decide, fun p1 n1 => ⟨_, .inl (SqL.of upd_same), by rfl, by rfl, ?_⟩⟩
      have nv : inV (V.str (S (tagOf p))) [V.str (S [114, 111, 119]), V.str (S [111, 114])] = false := by
        cases p <;> first | rfl | exact absurd rfl t1 | exact absurd rfl t2
      rw [if_neg (by rw [nv]; decide)]
      exact ⟨(hM0 _ _).mpr ⟨rfl, same_upd n1⟩, t1, t2⟩
  obtain ⟨g1, t1, t2⟩ := g1
  obtain ⟨rfl, s1⟩ := (hM0 _ _).mp g1
  refine ⟨fun σ' H' => M0 σ' H' ∧ tagOf p ≠ [114, 101, 112, 101, 97, 116], ?_, fun σ1 H1 g1 => ?_⟩
  · simp only [tSeq, tAsg, tCB, tCons, tVar, tNil, gName, tRet, tRetN, tDrop, tNext, tIfS, tTest, tB, tOr, tAnd, tNot, tIf, tOrV, tAndV, tNotV, tChain, rI0, rI, rU, tUn, tC, tOp, rNe, rEq, tCall, tPart, tNoPart, tSl, tM0, tM1, tTup, tLst, tAug, gTup, gCons, gNil, rAdd, rSub, tNever, tBreak, tCont, L2.start, scSS, scII, scBB, ipI, sS, dS, d1, mkS, sL, nc1, nc2, Int.natCast_inj, List.map_cons, List.map_nil, List.length_cons, List.length_nil, List.replicate, List.cons_append, List.nil_append, List.append_nil, List.getElem?_cons_zero, List.getElem?_cons_succ, List.set_cons_zero, List.set_cons_succ, Option.some.injEq, V.str.injEq, V.int.injEq, V.bl.injEq, V.ref.injEq, List.cons.injEq, and_true, true_and, exists_eq_left', exists_eq_left, exists_eq, exists_eq', exists_and_left, exists_and_right, and_assoc, exists_const, reduceCtorEq, if_true, if_false, ite_true, ite_false, Bool.false_eq_true, decide_true, decide_false, Bool.not_true, Bool.not_false, cxK, rIxT, l_16, l_21, l_22]
    have hx1 := sqT_same s1 hx
    refine ⟨_, hx1, _, atI_nat (j := 0) rfl, rfl, ?_⟩
    by_cases ht : tagOf p = [114, 101, 112, 101, 97, 116]
    · rw [if_pos (by rw [ht]; exact decide_eq_true rfl)]
      obtain ⟨p0, l, m, rfl⟩ : ∃ p0 l m, p = .rep p0 l m := by
        cases p <;> first | exact ⟨_, _, _, rfl⟩ | (revert ht; simp [tagOf])
      rw [patD] at hds
      cases hds
      obtain ⟨x1, xq1, rfl, hx3, hxq1⟩ := hxs.c1
      obtain ⟨x2, xq2, rfl, hx4, hxq2⟩ := hxq1.c1
      obtain ⟨x3, xq3, rfl, hx5, hxq3⟩ := hxq2.c1
      cases hxq3
      cases hx4
      have := optN_I hx5
      subst this
      have hw := hp.wf
      have hsm := hp.sm
      rw [Pat.Wf] at hw
      rw [Pat.Sm] at hsm
      rw [Pat.d] at hd
      rw [Pat.y] at hy
      have i := wo_dnz p0 hw.1
      have e2 : (copiesOf l m + 1) * (p0.wo.z + 1) ≤ (copiesOf l m + 1) * (p0.y + 1) := Nat.mul_le_mul_left _ (by omega)
      have e3 : 1 * (p0.y + 1) ≤ (copiesOf l m + 1) * (p0.y + 1) := Nat.mul_le_mul_right _ (by omega)
      refine ⟨_, hx1, _, atI_nat (j := 1) rfl, ?_⟩
      rw [hspR]
      refine ⟨x1, p0, rfl, ⟨dp_same s1 _ _ hx3, hw.1, hsm.1⟩, by omega, by omega, fun H2 v' s2 pt => ⟨_, sqT_same s2 hx1, _, atI_nat (j := 2) rfl, _, sqT_same s2 hx1, _, atI_nat (j := 3) rfl, v', p0.wo, l, m, rfl, pt, hw.2, by omega, fun H3 v2 s3 pt2 => q H3 v2 ((s1.trans s2).trans s3) (by rw [Pat.wo]; exact pt2)⟩⟩
    · rw [if_neg (by simpa [SX.S_inj] using ht)]
      exact ⟨(hM0 _ _).mpr ⟨rfl, s1⟩, ht⟩
  obtain ⟨g1, t3⟩ := g1
  obtain ⟨rfl, s1⟩ := (hM0 _ _).mp g1
  simp only [tSeq, tAsg, tCB, tCons, tVar, tNil, gName, tRet, tRetN, tDrop, tNext, tIfS, tTest, tB, tOr, tAnd, tNot, tIf, tOrV, tAndV, tNotV, tChain, rI0, rI, rU, tUn, tC, tOp, rNe, rEq, tCall, tPart, tNoPart, tSl, tM0, tM1, tTup, tLst, tAug, gTup, gCons, gNil, rAdd, rSub, tNever, tBreak, tCont, L2.start, scSS, scII, scBB, ipI, sS, dS, d1, mkS, sL, nc1, nc2, Int.natCast_inj, List.map_cons, List.map_nil, List.length_cons, List.length_nil, List.replicate, List.cons_append, List.nil_append, List.append_nil, List.getElem?_cons_zero, List.getElem?_cons_succ, List.set_cons_zero, List.set_cons_succ, Option.some.injEq, V.str.injEq, V.int.injEq, V.bl.injEq, V.ref.injEq, List.cons.injEq, and_true, true_and, exists_eq_left', exists_eq_left, exists_eq, exists_eq', exists_and_left, exists_and_right, and_assoc, exists_const, reduceCtorEq, if_true, if_false, ite_true, ite_false, Bool.false_eq_true, decide_true, decide_false, Bool.not_true, Bool.not_false, cxK]
  have ew : p.wo = p := by
    cases p <;> first | rfl | exact absurd rfl t1 | exact absurd rfl t2 | exact absurd rfl t3
  exact q H1 _ s1 (by rw [ew]; exact hp.same s1)
theorem wo_base (D : Dfn K mg "_law_written_out" (topS 41) ["_law_tree_here"]) : Cal P w K mg base 2 "_law_written_out" (sp_wo K 0) := by
  refine cal_of D sclaw_written_out (fun vs H Q E h => ?_) (fun f cdv A outer s H vs Q E hr h => ?_)
  · obtain ⟨v, p, rfl, _⟩ := h
    rfl
  obtain ⟨v, p, _, _, hd, _⟩ := h
  omega
theorem ok_wo (T : BiA mg) (c_law_flat : Cal P w K mg base 1 "_law_flat" (sp_flat K)) (c_law_copies : Cal P w K mg base 2 "_law_copies" (sp_copies K)) (D : Dfn K mg "_law_written_out" (topS 41) ["_law_tree_here"]) : Cal P w K mg base 6 "_law_written_out" (sp_wo K 4) :=
  ok_wo1 T c_law_flat c_law_copies 3 5 (by omega) (ok_wo1 T c_law_flat c_law_copies 2 4 (by omega) (ok_wo1 T c_law_flat c_law_copies 1 3 (by omega) (ok_wo1 T c_law_flat c_law_copies 0 2 (by omega) (wo_base D) D) D) D) D
end
end Pd

namespace Pd
def rw2 (a b : Pat) : Pat := flatP false [a, b]
def or2 (a b : Pat) : Pat := flatP true [a, b]
def st (a : Pat) : Pat := .rep a 0 none
theorem M_rw2 (t : List Nat) (a b : Pat) : M t (rw2 a b) = seqR (M t a) (M t b) := by rw [rw2, M_row, MRow, MRow_one]
theorem M_or2 (t : List Nat) (a b : Pat) : M t (or2 a b) = orR (M t a) (M t b) := by rw [or2, M_alt, MAlt, MAlt_one]
theorem M_st (t : List Nat) (a : Pat) : M t (st a) = fun s e => ∃ k, powR (M t a) k s e := by
  rw [st, M]
  exact rl_ext fun s e => ⟨fun ⟨k, _, _, h⟩ => ⟨k, h⟩, fun ⟨k, h⟩ => ⟨k, by omega, (fun x hx => by cases hx), h⟩⟩
theorem pw1 (t : List Nat) (a b c : Pat) : M t (rw2 (or2 a b) c) = M t (or2 (rw2 a c) (rw2 b c)) := by
  rw [M_rw2, M_or2, M_or2, M_rw2, M_rw2]
  exact rl_ext fun s e => ⟨fun ⟨j, h, g⟩ => h.elim (fun h => .inl ⟨j, h, g⟩) fun h => .inr ⟨j, h, g⟩, fun h => h.elim (fun ⟨j, h, g⟩ => ⟨j, .inl h, g⟩) fun ⟨j, h, g⟩ => ⟨j, .inr h, g⟩⟩
theorem pw2 (t : List Nat) (a b c : Pat) : M t (rw2 a (or2 b c)) = M t (or2 (rw2 a b) (rw2 a c)) := by
  rw [M_rw2, M_or2, M_or2, M_rw2, M_rw2]
  exact rl_ext fun s e => ⟨fun ⟨j, h, g⟩ => g.elim (fun g => .inl ⟨j, h, g⟩) fun g => .inr ⟨j, h, g⟩, fun h => h.elim (fun ⟨j, h, g⟩ => ⟨j, h, .inl g⟩) fun ⟨j, h, g⟩ => ⟨j, h, .inr g⟩⟩
theorem pw3 (t : List Nat) (a b c : Pat) : M t (flatP true [a, b, c]) = M t (flatP true [c, a, b, a]) := by
  rw [M_alt, M_alt, MAlt, MAlt, MAlt, MAlt, MAlt, MAlt, MAlt, MAlt, MAlt]
  refine rl_ext fun s e => ?_
  unfold orR
  constructor
  · rintro (h | h | h | h)
    · exact .inr (.inl h)
    · exact .inr (.inr (.inl h))
    · exact .inl h
    · exact h.elim
  · rintro (h | h | h | h | h)
    · exact .inr (.inr (.inl h))
    · exact .inl h
    · exact .inr (.inl h)
    · exact .inl h
    · exact h.elim
theorem pw4 (t : List Nat) (a : Pat) : M t (st a) = M t (or2 (.row []) (rw2 a (st a))) := by
  rw [M_or2, M_rw2, M_st, M, MRow]
  refine rl_ext fun s e => ⟨fun ⟨k, h⟩ => ?_, fun h => ?_⟩
  · cases k with
    | zero => exact .inl h
    | succ k =>
      rw [← pow_succ'] at h
      obtain ⟨j, h1, h2⟩ := h
      exact .inr ⟨j, h1, k, h2⟩
  · rcases h with h | ⟨j, h1, k, h2⟩
    · exact ⟨0, h⟩
    · exact ⟨k + 1, by rw [← pow_succ']; exact ⟨j, h1, h2⟩⟩
theorem st_app {t : List Nat} {a : Pat} {s j e : Nat} (h : M t (st a) s j) (g : M t (st a) j e) : M t (st a) s e := by
  rw [M_st] at *
  obtain ⟨k, h⟩ := h
  obtain ⟨m, g⟩ := g
  exact ⟨k + m, (pow_add m k s e).mpr ⟨j, h, g⟩⟩
theorem pw5 (t : List Nat) (a : Pat) : M t (.rep (st a) 1 (some 2)) = M t (st a) := by
  rw [M]
  refine rl_ext fun s e => ⟨fun ⟨k, h1, h2, h⟩ => ?_, fun h => ⟨1, by omega, (fun x hx => by cases hx; omega), pow_one.mpr h⟩⟩
  have h3 := h2 2 rfl
  have : k = 1 ∨ k = 2 := by omega
  rcases this with rfl | rfl
  · exact pow_one.mp h
  · obtain ⟨j, g1, g2⟩ := (pow_add 1 1 s e).mp h
    exact st_app (pow_one.mp g1) (pow_one.mp g2)
theorem pw6 (t : List Nat) (a : Pat) : M t (.rep a 1 none) = M t (rw2 (st a) a) := by
  rw [M_rw2, M, M_st]
  refine rl_ext fun s e => ⟨fun ⟨k, h1, h2, h⟩ => ?_, fun ⟨j, ⟨k, h⟩, g⟩ => ⟨k + 1, by omega, (fun x hx => by cases hx), ⟨j, h, g⟩⟩⟩
  cases k with
  | zero => omega
  | succ k =>
    obtain ⟨j, g1, g2⟩ := h
    exact ⟨j, ⟨k, g1⟩, g2⟩
theorem shift {A B : Rl} : ∀ k, seqR B (powR (seqR A B) k) = seqR (powR (seqR B A) k) B
  | 0 => by
    show seqR B (fun s e => s = e) = seqR (fun s e => s = e) B
    rw [seq_eq, eq_seq]
  | k + 1 => by
    show seqR B (seqR (powR (seqR A B) k) (seqR A B)) = seqR (seqR (powR (seqR B A) k) (seqR B A)) B
    rw [← seq_asc, shift k, seq_asc, seq_asc, seq_asc]
theorem pw7 (t : List Nat) (a b : Pat) : M t (rw2 b (st (rw2 a b))) = M t (rw2 (st (rw2 b a)) b) := by
  rw [M_rw2, M_rw2, M_st, M_st, M_rw2, M_rw2]
  refine rl_ext fun s e => ⟨fun ⟨j, h, k, g⟩ => ?_, fun ⟨j, ⟨k, h⟩, g⟩ => ?_⟩
  · have : seqR (M t b) (powR (seqR (M t a) (M t b)) k) s e := ⟨j, h, g⟩
    rw [shift] at this
    obtain ⟨i, h1, h2⟩ := this
    exact ⟨i, ⟨k, h1⟩, h2⟩
  · have : seqR (powR (seqR (M t b) (M t a)) k) (M t b) s e := ⟨j, h, g⟩
    rw [← shift] at this
    obtain ⟨i, h1, h2⟩ := this
    exact ⟨i, h1, k, h2⟩
end Pd

namespace Pd
open PySem PySem.Spec PyProof.Rows L2
open SX (S)
section
variable {P : Program} {w : World} {K : PySem.W.Frag} {mg : Str → Option Value} {base : Heap}
/-- a pattern with its bounds -/
structure PB (K : PySem.W.Frag) (H : Hp) (v : V) (p : Pat) (d n z y : Nat) : Prop where
  pt : PtD K H v p
  b : PtB p d n z y
theorem PB.same {H H' : Hp} {v : V} {p : Pat} {d n z y : Nat} (h : PB K H v p d n z y) (s : Same H H') : PB K H' v p d n z y := ⟨h.pt.same s, h.b⟩
/-- a list of them -/
structure PL (K : PySem.W.Frag) (H : Hp) (vs : List V) (ps : List Pat) (d n z y : Nat) : Prop where
  dp : DpAll K H vs (patDs ps)
  b : PsB ps d n z y
theorem PL.nil {H : Hp} : PL K H [] [] 0 0 0 0 := ⟨by rw [patDs]; exact .nil, PsB.nil⟩
theorem PB.cons {H : Hp} {v : V} {p : Pat} {vs : List V} {ps : List Pat} {d n z y d' n' z' y' : Nat} (h : PB K H v p d n z y) (g : PL K H vs ps d' n' z' y') : PL K H (v :: vs) (p :: ps) (max d d') (n + n') (z + z') (y + y') :=
  ⟨by rw [patDs]; exact .cons h.pt.dp g.dp, h.b.one.app g.b⟩
/-- one _law_flat of a list laid just now -/
theorem flS {H H1 : Hp} {al : Bool} {l : Addr} {vs : List V} {ps : List Pat} {d n z y : Nat} {Q : VK} (h : PL K H vs ps d n z y) (nl : H l = none) (e : H1 = upd H l (.lst vs)) (hz : z ≤ 1000)
    (k : ∀ H2 v, Same H H2 → PB K H2 v (flatP al ps) (d + 1) n (z + 1) (y + 1) → Q v H2) : sp_flat K [.str (S (wdP al)), .ref l] H1 Q E0 := by
  subst e
  have s := same_upd (o := .lst vs) nl
  have hz2 := h.b.z
  exact ⟨al, l, ps, rfl, ⟨⟨vs, upd_same, dp_sameAll s _ _ h.dp⟩, h.b.wf, h.b.sm⟩, by omega, fun H2 v s2 pt => k H2 v (s.trans s2) ⟨pt, h.b.flat al hz⟩⟩
/-- a repeat laid just now -/
theorem repS {H : Hp} {q : Addr} {v : V} {p : Pat} {l : Nat} {m : Option Nat} {d n z y : Nat} (h : PB K H v p d n z y) (nq : H q = none) (hl : l ≤ 1000) (hm : ∀ x, m = some x → l ≤ x ∧ x ≤ 1000) :
    PB K (upd H q (.tup [.str (S [114, 101, 112, 101, 97, 116]), v, .int (l : Nat), optNV m])) (.ref q) (.rep p l m) (d + 1) (copiesOf l m * n) (z + 1) ((copiesOf l m + 1) * (y + 1) + 1) := by
  have b := h.b.rep hl hm
  have s := same_upd (o := .tup [V.str (S [114, 101, 112, 101, 97, 116]), v, .int (l : Nat), optNV m]) nq
  refine ⟨⟨?_, b.wf, b.sm⟩, b⟩
  rw [patD]
  exact .tup (SqT.of upd_same) (.cons (.str _) (.cons (dp_same s _ _ h.pt.dp) (.cons (.int _) (.cons (dp_optN m) .nil))))
def sp_pair (K : PySem.W.Frag) : Sp := fun vs H Q _ => ∃ (n : Nat) (v1 v2 v3 : V) (p1 p2 p3 : Pat), vs = [.int (n : Nat), v1, v2, v3] ∧ n < 8 ∧ PB K H v1 p1 3 16 13 61 ∧ PB K H v2 p2 3 16 13 61 ∧ PB K H v3 p3 3 16 13 61 ∧
  ∀ H' a x y p q d n z y1 d' n' z' y', Same H H' → H' a = some (.tup [x, y]) → PB K H' x p d n z y1 → PB K H' y q d' n' z' y' → d < 12 → d' < 12 → n ≤ 50000 → n' ≤ 50000 → (∀ t, M t p = M t q) → Q (.ref a) H'
theorem sclaw_pair : FnScope ["_law_way", "_law_one", "_law_two", "_law_three", "_law_star", "_law_due"] ["_law_way", "_law_one", "_law_two", "_law_three"] (defScope (topS 42)) := ⟨rfl, rfl, rfl, by decide +kernel, rfl, by decide +kernel, by decide +kernel⟩
theorem ok_pair (T : BiA mg) (c_law_flat : Cal P w K mg base 1 "_law_flat" (sp_flat K)) (c_law_written_out : Cal P w K mg base 6 "_law_written_out" (sp_wo K 4)) (D : Dfn K mg "_law_pair" (topS 42) ["_law_way", "_law_one", "_law_two", "_law_three"]) : Cal P w K mg base 7 "_law_pair" (sp_pair K) := by
  refine cal_of D sclaw_pair (fun vs H Q E h => ?_) (fun f cdv A outer s H vs Q E hr h => ?_)
  · obtain ⟨n, v1, v2, v3, p1, p2, p3, rfl, _⟩ := h
    rfl
  obtain ⟨n, v1, v2, v3, p1, p2, p3, rfl, hn, b1, b2, b3, q⟩ := h
  refine ⟨_, (C8.pss_cut (ps_set (i := 4) sclaw_pair.nd rfl (Or.inl rfl) (pe_tup (pa_cons pe_str (pa_cons (pv 1) (pa_cons pe_int (pa_cons pe_non pa_nil))))))
      (C8.pss_cut (ps_if (pt_cmpR op_eq (pv 0) pe_int (nomark _)) (pss_one (ps_ret (pe_tup (pa_cons (pv 1) (pa_cons (pc c_law_written_out hr (by decide) rfl (pa_cons (pv 1) pa_nil)) pa_nil))))) pss_nil)
      (C8.pss_cut (ps_if (pt_cmpR op_eq (pv 0) pe_int (nomark _)) (pss_cons (ps_set (i := 5) sclaw_pair.nd rfl (Or.inl rfl) (pc c_law_flat hr (by decide) rfl (pa_cons pe_str (pa_cons (pe_lst (pa_cons (pc c_law_flat hr (by decide) rfl (pa_cons pe_str (pa_cons (pe_lst (pa_cons (pv 1) (pa_cons (pv 3) pa_nil))) pa_nil))) (pa_cons (pc c_law_flat hr (by decide) rfl (pa_cons pe_str (pa_cons (pe_lst (pa_cons (pv 2) (pa_cons (pv 3) pa_nil))) pa_nil))) pa_nil))) pa_nil))))
      (pss_one (ps_ret (pe_tup (pa_cons (pc c_law_flat hr (by decide) rfl (pa_cons pe_str (pa_cons (pe_lst (pa_cons (pc c_law_flat hr (by decide) rfl (pa_cons pe_str (pa_cons (pe_lst (pa_cons (pv 1) (pa_cons (pv 2) pa_nil))) pa_nil))) (pa_cons (pv 3) pa_nil))) pa_nil))) (pa_cons (pv 5) pa_nil)))))) pss_nil)
      (C8.pss_cut (ps_if (pt_cmpR op_eq (pv 0) pe_int (nomark _)) (pss_cons (ps_set (i := 5) sclaw_pair.nd rfl (Or.inl rfl) (pc c_law_flat hr (by decide) rfl (pa_cons pe_str (pa_cons (pe_lst (pa_cons (pc c_law_flat hr (by decide) rfl (pa_cons pe_str (pa_cons (pe_lst (pa_cons (pv 1) (pa_cons (pv 2) pa_nil))) pa_nil))) (pa_cons (pc c_law_flat hr (by decide) rfl (pa_cons pe_str (pa_cons (pe_lst (pa_cons (pv 1) (pa_cons (pv 3) pa_nil))) pa_nil))) pa_nil))) pa_nil))))
      (pss_one (ps_ret (pe_tup (pa_cons (pc c_law_flat hr (by decide) rfl (pa_cons pe_str (pa_cons (pe_lst (pa_cons (pv 1) (pa_cons (pc c_law_flat hr (by decide) rfl (pa_cons pe_str (pa_cons (pe_lst (pa_cons (pv 2) (pa_cons (pv 3) pa_nil))) pa_nil))) pa_nil))) pa_nil))) (pa_cons (pv 5) pa_nil)))))) pss_nil)
      (C8.pss_cut (ps_if (pt_cmpR op_eq (pv 0) pe_int (nomark _)) (pss_one (ps_ret (pe_tup (pa_cons (pc c_law_flat hr (by decide) rfl (pa_cons pe_str (pa_cons (pe_lst (pa_cons (pv 1) (pa_cons (pv 2) (pa_cons (pv 3) pa_nil)))) pa_nil))) (pa_cons (pc c_law_flat hr (by decide) rfl (pa_cons pe_str (pa_cons (pe_lst (pa_cons (pv 3) (pa_cons (pv 1) (pa_cons (pv 2) (pa_cons (pv 1) pa_nil))))) pa_nil))) pa_nil))))) pss_nil)
      (C8.pss_cut (ps_if (pt_cmpR op_eq (pv 0) pe_int (nomark _)) (pss_one (ps_ret (pe_tup (pa_cons (pv 4) (pa_cons (pc c_law_flat hr (by decide) rfl (pa_cons pe_str (pa_cons (pe_lst (pa_cons (pe_tup (pa_cons pe_str (pa_cons (pe_tup pa_nil) pa_nil))) (pa_cons (pc c_law_flat hr (by decide) rfl (pa_cons pe_str (pa_cons (pe_lst (pa_cons (pv 1) (pa_cons (pv 4) pa_nil))) pa_nil))) pa_nil))) pa_nil))) pa_nil))))) pss_nil)
      (C8.pss_cut (ps_if (pt_cmpR op_eq (pv 0) pe_int (nomark _)) (pss_one (ps_ret (pe_tup (pa_cons (pe_tup (pa_cons pe_str (pa_cons (pv 4) (pa_cons pe_int (pa_cons pe_int pa_nil))))) (pa_cons (pv 4) pa_nil))))) pss_nil)
      (C8.pss_cut (ps_if (pt_cmpR op_eq (pv 0) pe_int (nomark _)) (pss_one (ps_ret (pe_tup (pa_cons (pe_tup (pa_cons pe_str (pa_cons (pv 1) (pa_cons pe_int (pa_cons pe_non pa_nil))))) (pa_cons (pc c_law_flat hr (by decide) rfl (pa_cons pe_str (pa_cons (pe_lst (pa_cons (pv 4) (pa_cons (pv 1) pa_nil))) pa_nil))) pa_nil))))) pss_nil)
      (C8.pss_cut (ps_set (i := 5) sclaw_pair.nd rfl (Or.inl rfl) (pc c_law_flat hr (by decide) rfl (pa_cons pe_str (pa_cons (pe_lst (pa_cons (pe_tup (pa_cons pe_str (pa_cons (pc c_law_flat hr (by decide) rfl (pa_cons pe_str (pa_cons (pe_lst (pa_cons (pv 2) (pa_cons (pv 1) pa_nil))) pa_nil))) (pa_cons pe_int (pa_cons pe_non pa_nil))))) (pa_cons (pv 2) pa_nil))) pa_nil))))
      (pss_one (ps_ret (pe_tup (pa_cons (pc c_law_flat hr (by decide) rfl (pa_cons pe_str (pa_cons (pe_lst (pa_cons (pv 2) (pa_cons (pe_tup (pa_cons pe_str (pa_cons (pc c_law_flat hr (by decide) rfl (pa_cons pe_str (pa_cons (pe_lst (pa_cons (pv 1) (pa_cons (pv 2) pa_nil))) pa_nil))) (pa_cons pe_int (pa_cons pe_non pa_nil))))) pa_nil))) pa_nil))) (pa_cons (pv 5) pa_nil)))))))))))))), ?_⟩
  obtain ⟨M0, hM0⟩ : ∃ M : L2.St → Hp → Prop, ∀ σ' H', M σ' H' ↔ ∃ v4, σ' = [some (.int (n : Nat)), some v1, some v2, some v3, some v4, none] ∧ Same H H' ∧ PB K H' v4 (st p1) 4 16 14 125 := ⟨_, fun _ _ => Iff.rfl⟩
  refine ⟨M0, ?_, fun σ1 H1 g1 => ?_⟩
  · simp only [tSeq, tAsg, tCB, tCons, tVar, tNil, gName, tRet, tRetN, tDrop, tNext, tIfS, tTest, tB, tOr, tAnd, tNot, tIf, tOrV, tAndV, tNotV, tChain, rI0, rI, rU, tUn, tC, tOp, rNe, rEq, tCall, tPart, tNoPart, tSl, tM0, tM1, tTup, tLst, tAug, gTup, gCons, gNil, rAdd, rSub, tNever, tBreak, tCont, L2.start, scSS, scII, scBB, ipI, sS, dS, d1, mkS, sL, nc1, nc2, Int.natCast_inj, List.map_cons, List.map_nil, List.length_cons, List.length_nil, List.replicate, List.cons_append, List.nil_append, List.append_nil, List.getElem?_cons_zero, List.getElem?_cons_succ, List.set_cons_zero, List.set_cons_succ, Option.some.injEq, V.str.injEq, V.int.injEq, V.bl.injEq, V.ref.injEq, List.cons.injEq, and_true, true_and, exists_eq_left', exists_eq_left, exists_eq, exists_eq', exists_and_left, exists_and_right, and_assoc, exists_const, reduceCtorEq, if_true, if_false, ite_true, ite_false, Bool.false_eq_true, decide_true, decide_false, Bool.not_true, Bool.not_false, cxK, l_16, l_21, l_22]
    exact ⟨by decide, fun p np => (hM0 _ _).mpr ⟨_, rfl, same_upd np, repS (l := 0) (m := none) b1 np (by omega) (fun x hx => by cases hx)⟩⟩
  refine ⟨fun σ' H' => M0 σ' H' ∧ n ≠ 0, ?_, fun σ1 H1 g1 => ?_⟩
  · obtain ⟨v4, rfl, s, b4⟩ := (hM0 _ _).mp g1
    simp only [tSeq, tAsg, tCB, tCons, tVar, tNil, gName, tRet, tRetN, tDrop, tNext, tIfS, tTest, tB, tOr, tAnd, tNot, tIf, tOrV, tAndV, tNotV, tChain, rI0, rI, rU, tUn, tC, tOp, rNe, rEq, tCall, tPart, tNoPart, tSl, tM0, tM1, tTup, tLst, tAug, gTup, gCons, gNil, rAdd, rSub, tNever, tBreak, tCont, L2.start, scSS, scII, scBB, ipI, sS, dS, d1, mkS, sL, nc1, nc2, Int.natCast_inj, List.map_cons, List.map_nil, List.length_cons, List.length_nil, List.replicate, List.cons_append, List.nil_append, List.append_nil, List.getElem?_cons_zero, List.getElem?_cons_succ, List.set_cons_zero, List.set_cons_succ, Option.some.injEq, V.str.injEq, V.int.injEq, V.bl.injEq, V.ref.injEq, List.cons.injEq, and_true, true_and, exists_eq_left', exists_eq_left, exists_eq, exists_eq', exists_and_left, exists_and_right, and_assoc, exists_const, reduceCtorEq, if_true, if_false, ite_true, ite_false, Bool.false_eq_true, decide_true, decide_false, Bool.not_true, Bool.not_false, cxK, l_16, l_21, l_22]
    by_cases z : (n : Int) = 0
    · rw [if_pos (decide_eq_true z)]
      have c1 := b1.same s
      have c2 := b2.same s
      have c3 := b3.same s
      have i := wo_dnz p1 c1.pt.wf
      have j1 := c1.b.d
      have j2 := c1.b.y
      refine ⟨v1, p1, rfl, c1.pt, by omega, by omega, fun H2 x s2 px => ⟨by decide, fun p np => ?_⟩⟩
      have sz := same_upd (o := .tup [v1, x]) np
      exact q _ p v1 x p1 p1.wo 3 16 13 61 6 61 61 _ ((s.trans s2).trans sz) upd_same ((c1.same s2).same sz) ⟨px.same sz, ⟨px.wf, px.sm, by omega, by omega, by omega, Nat.le_refl _⟩⟩ (by omega) (by omega) (by first | omega | decide) (by first | omega | decide) (fun t => (M_wo t p1 c1.pt.wf).symm)
    · rw [if_neg (by rw [decide_eq_false z]; decide)]
      exact ⟨g1, by omega⟩
  obtain ⟨g1, z0⟩ := g1
  refine ⟨fun σ' H' => M0 σ' H' ∧ n ≠ 1, ?_, fun σ1 H1 g1 => ?_⟩
  · obtain ⟨v4, rfl, s, b4⟩ := (hM0 _ _).mp g1
    simp only [tSeq, tAsg, tCB, tCons, tVar, tNil, gName, tRet, tRetN, tDrop, tNext, tIfS, tTest, tB, tOr, tAnd, tNot, tIf, tOrV, tAndV, tNotV, tChain, rI0, rI, rU, tUn, tC, tOp, rNe, rEq, tCall, tPart, tNoPart, tSl, tM0, tM1, tTup, tLst, tAug, gTup, gCons, gNil, rAdd, rSub, tNever, tBreak, tCont, L2.start, scSS, scII, scBB, ipI, sS, dS, d1, mkS, sL, nc1, nc2, Int.natCast_inj, List.map_cons, List.map_nil, List.length_cons, List.length_nil, List.replicate, List.cons_append, List.nil_append, List.append_nil, List.getElem?_cons_zero, List.getElem?_cons_succ, List.set_cons_zero, List.set_cons_succ, Option.some.injEq, V.str.injEq, V.int.injEq, V.bl.injEq, V.ref.injEq, List.cons.injEq, and_true, true_and, exists_eq_left', exists_eq_left, exists_eq, exists_eq', exists_and_left, exists_and_right, and_assoc, exists_const, reduceCtorEq, if_true, if_false, ite_true, ite_false, Bool.false_eq_true, decide_true, decide_false, Bool.not_true, Bool.not_false, cxK, l_16, l_21, l_22]
    by_cases z : (n : Int) = 1
    · rw [if_pos (decide_eq_true z)]
      have c1 := b1.same s
      have c2 := b2.same s
      have c3 := b3.same s
      refine ⟨by decide, fun p1' n1' => flS (al := false) (PB.cons c1 (PB.cons c3 PL.nil)) n1' rfl (by omega) fun H1' x1' s1' d1' => ?_⟩
      replace s := s.trans s1'
      replace c1 := c1.same s1'
      replace c2 := c2.same s1'
      replace c3 := c3.same s1'
      replace b4 := b4.same s1'
      refine ⟨by decide, fun p2' n2' => flS (al := false) (PB.cons c2 (PB.cons c3 PL.nil)) n2' rfl (by omega) fun H2' x2' s2' d2' => ?_⟩
      replace s := s.trans s2'
      replace c1 := c1.same s2'
      replace c2 := c2.same s2'
      replace c3 := c3.same s2'
      replace b4 := b4.same s2'
      replace d1' := d1'.same s2'
      refine ⟨by decide, fun p3' n3' => flS (al := true) (PB.cons d1' (PB.cons d2' PL.nil)) n3' rfl (by omega) fun H3' x3' s3' d3' => ?_⟩
      replace s := s.trans s3'
      replace c1 := c1.same s3'
      replace c2 := c2.same s3'
      replace c3 := c3.same s3'
      replace b4 := b4.same s3'
      replace d1' := d1'.same s3'
      replace d2' := d2'.same s3'
      refine ⟨by decide, fun p4' n4' => flS (al := true) (PB.cons c1 (PB.cons c2 PL.nil)) n4' rfl (by omega) fun H4' x4' s4' d4' => ?_⟩
      replace s := s.trans s4'
      replace c1 := c1.same s4'
      replace c2 := c2.same s4'
      replace c3 := c3.same s4'
      replace b4 := b4.same s4'
      replace d1' := d1'.same s4'
      replace d2' := d2'.same s4'
      replace d3' := d3'.same s4'
      refine ⟨by decide, fun p5' n5' => flS (al := false) (PB.cons d4' (PB.cons c3 PL.nil)) n5' rfl (by omega) fun H5' x5' s5' d5' => ?_⟩
      replace s := s.trans s5'
      replace c1 := c1.same s5'
      replace c2 := c2.same s5'
      replace c3 := c3.same s5'
      replace b4 := b4.same s5'
      replace d1' := d1'.same s5'
      replace d2' := d2'.same s5'
      replace d3' := d3'.same s5'
      replace d4' := d4'.same s5'
      refine ⟨by decide, fun p6' n6' => ?_⟩
      have sz := fun o : HO => same_upd (o := o) n6'
      exact q _ p6' _ _ _ _ _ _ _ _ _ _ _ _ (s.trans (sz _)) upd_same (d5'.same (sz _)) (d3'.same (sz _)) (by omega) (by omega) (by first | omega | decide) (by first | omega | decide) (fun t => pw1 t p1 p2 p3)
    · rw [if_neg (by rw [decide_eq_false z]; decide)]
      exact ⟨g1, by omega⟩
  obtain ⟨g1, z1⟩ := g1
  refine ⟨fun σ' H' => M0 σ' H' ∧ n ≠ 2, ?_, fun σ1 H1 g1 => ?_⟩
  · obtain ⟨v4, rfl, s, b4⟩ := (hM0 _ _).mp g1
    simp only [tSeq, tAsg, tCB, tCons, tVar, tNil, gName, tRet, tRetN, tDrop, tNext, tIfS, tTest, tB, tOr, tAnd, tNot, tIf, tOrV, tAndV, tNotV, tChain, rI0, rI, rU, tUn, tC, tOp, rNe, rEq, tCall, tPart, tNoPart, tSl, tM0, tM1, tTup, tLst, tAug, gTup, gCons, gNil, rAdd, rSub, tNever, tBreak, tCont, L2.start, scSS, scII, scBB, ipI, sS, dS, d1, mkS, sL, nc1, nc2, Int.natCast_inj, List.map_cons, List.map_nil, List.length_cons, List.length_nil, List.replicate, List.cons_append, List.nil_append, List.append_nil, List.getElem?_cons_zero, List.getElem?_cons_succ, List.set_cons_zero, List.set_cons_succ, Option.some.injEq, V.str.injEq, V.int.injEq, V.bl.injEq, V.ref.injEq, List.cons.injEq, and_true, true_and, exists_eq_left', exists_eq_left, exists_eq, exists_eq', exists_and_left, exists_and_right, and_assoc, exists_const, reduceCtorEq, if_true, if_false, ite_true, ite_false, Bool.false_eq_true, decide_true, decide_false, Bool.not_true, Bool.not_false, cxK, l_16, l_21, l_22]
    by_cases z : (n : Int) = 2
    · rw [if_pos (decide_eq_true z)]
      have c1 := b1.same s
      have c2 := b2.same s
      have c3 := b3.same s
      refine ⟨by decide, fun p1' n1' => flS (al := false) (PB.cons c1 (PB.cons c2 PL.nil)) n1' rfl (by omega) fun H1' x1' s1' d1' => ?_⟩
      replace s := s.trans s1'
      replace c1 := c1.same s1'
      replace c2 := c2.same s1'
      replace c3 := c3.same s1'
      replace b4 := b4.same s1'
      refine ⟨by decide, fun p2' n2' => flS (al := false) (PB.cons c1 (PB.cons c3 PL.nil)) n2' rfl (by omega) fun H2' x2' s2' d2' => ?_⟩
      replace s := s.trans s2'
      replace c1 := c1.same s2'
      replace c2 := c2.same s2'
      replace c3 := c3.same s2'
      replace b4 := b4.same s2'
      replace d1' := d1'.same s2'
      refine ⟨by decide, fun p3' n3' => flS (al := true) (PB.cons d1' (PB.cons d2' PL.nil)) n3' rfl (by omega) fun H3' x3' s3' d3' => ?_⟩
      replace s := s.trans s3'
      replace c1 := c1.same s3'
      replace c2 := c2.same s3'
      replace c3 := c3.same s3'
      replace b4 := b4.same s3'
      replace d1' := d1'.same s3'
      replace d2' := d2'.same s3'
      refine ⟨by decide, fun p4' n4' => flS (al := true) (PB.cons c2 (PB.cons c3 PL.nil)) n4' rfl (by omega) fun H4' x4' s4' d4' => ?_⟩
      replace s := s.trans s4'
      replace c1 := c1.same s4'
      replace c2 := c2.same s4'
      replace c3 := c3.same s4'
      replace b4 := b4.same s4'
      replace d1' := d1'.same s4'
      replace d2' := d2'.same s4'
      replace d3' := d3'.same s4'
      refine ⟨by decide, fun p5' n5' => flS (al := false) (PB.cons c1 (PB.cons d4' PL.nil)) n5' rfl (by omega) fun H5' x5' s5' d5' => ?_⟩
      replace s := s.trans s5'
      replace c1 := c1.same s5'
      replace c2 := c2.same s5'
      replace c3 := c3.same s5'
      replace b4 := b4.same s5'
      replace d1' := d1'.same s5'
      replace d2' := d2'.same s5'
      replace d3' := d3'.same s5'
      replace d4' := d4'.same s5'
      refine ⟨by decide, fun p6' n6' => ?_⟩
      have sz := fun o : HO => same_upd (o := o) n6'
      exact q _ p6' _ _ _ _ _ _ _ _ _ _ _ _ (s.trans (sz _)) upd_same (d5'.same (sz _)) (d3'.same (sz _)) (by omega) (by omega) (by first | omega | decide) (by first | omega | decide) (fun t => pw2 t p1 p2 p3)
    · rw [if_neg (by rw [decide_eq_false z]; decide)]
      exact ⟨g1, by omega⟩
  obtain ⟨g1, z2⟩ := g1
  refine ⟨fun σ' H' => M0 σ' H' ∧ n ≠ 3, ?_, fun σ1 H1 g1 => ?_⟩
  · obtain ⟨v4, rfl, s, b4⟩ := (hM0 _ _).mp g1
    simp only [tSeq, tAsg, tCB, tCons, tVar, tNil, gName, tRet, tRetN, tDrop, tNext, tIfS, tTest, tB, tOr, tAnd, tNot, tIf, tOrV, tAndV, tNotV, tChain, rI0, rI, rU, tUn, tC, tOp, rNe, rEq, tCall, tPart, tNoPart, tSl, tM0, tM1, tTup, tLst, tAug, gTup, gCons, gNil, rAdd, rSub, tNever, tBreak, tCont, L2.start, scSS, scII, scBB, ipI, sS, dS, d1, mkS, sL, nc1, nc2, Int.natCast_inj, List.map_cons, List.map_nil, List.length_cons, List.length_nil, List.replicate, List.cons_append, List.nil_append, List.append_nil, List.getElem?_cons_zero, List.getElem?_cons_succ, List.set_cons_zero, List.set_cons_succ, Option.some.injEq, V.str.injEq, V.int.injEq, V.bl.injEq, V.ref.injEq, List.cons.injEq, and_true, true_and, exists_eq_left', exists_eq_left, exists_eq, exists_eq', exists_and_left, exists_and_right, and_assoc, exists_const, reduceCtorEq, if_true, if_false, ite_true, ite_false, Bool.false_eq_true, decide_true, decide_false, Bool.not_true, Bool.not_false, cxK, l_16, l_21, l_22]
    by_cases z : (n : Int) = 3
    · rw [if_pos (decide_eq_true z)]
      have c1 := b1.same s
      have c2 := b2.same s
      have c3 := b3.same s
      refine ⟨by decide, fun p1' n1' => flS (al := true) (PB.cons c1 (PB.cons c2 (PB.cons c3 PL.nil))) n1' rfl (by omega) fun H1' x1' s1' d1' => ?_⟩
      replace s := s.trans s1'
      replace c1 := c1.same s1'
      replace c2 := c2.same s1'
      replace c3 := c3.same s1'
      replace b4 := b4.same s1'
      refine ⟨by decide, fun p2' n2' => flS (al := true) (PB.cons c3 (PB.cons c1 (PB.cons c2 (PB.cons c1 PL.nil)))) n2' rfl (by omega) fun H2' x2' s2' d2' => ?_⟩
      replace s := s.trans s2'
      replace c1 := c1.same s2'
      replace c2 := c2.same s2'
      replace c3 := c3.same s2'
      replace b4 := b4.same s2'
      replace d1' := d1'.same s2'
      refine ⟨by decide, fun p3' n3' => ?_⟩
      have sz := fun o : HO => same_upd (o := o) n3'
      exact q _ p3' _ _ _ _ _ _ _ _ _ _ _ _ (s.trans (sz _)) upd_same (d1'.same (sz _)) (d2'.same (sz _)) (by omega) (by omega) (by first | omega | decide) (by first | omega | decide) (fun t => pw3 t p1 p2 p3)
    · rw [if_neg (by rw [decide_eq_false z]; decide)]
      exact ⟨g1, by omega⟩
  obtain ⟨g1, z3⟩ := g1
  refine ⟨fun σ' H' => M0 σ' H' ∧ n ≠ 4, ?_, fun σ1 H1 g1 => ?_⟩
  · obtain ⟨v4, rfl, s, b4⟩ := (hM0 _ _).mp g1
    simp only [tSeq, tAsg, tCB, tCons, tVar, tNil, gName, tRet, tRetN, tDrop, tNext, tIfS, tTest, tB, tOr, tAnd, tNot, tIf, tOrV, tAndV, tNotV, tChain, rI0, rI, rU, tUn, tC, tOp, rNe, rEq, tCall, tPart, tNoPart, tSl, tM0, tM1, tTup, tLst, tAug, gTup, gCons, gNil, rAdd, rSub, tNever, tBreak, tCont, L2.start, scSS, scII, scBB, ipI, sS, dS, d1, mkS, sL, nc1, nc2, Int.natCast_inj, List.map_cons, List.map_nil, List.length_cons, List.length_nil, List.replicate, List.cons_append, List.nil_append, List.append_nil, List.getElem?_cons_zero, List.getElem?_cons_succ, List.set_cons_zero, List.set_cons_succ, Option.some.injEq, V.str.injEq, V.int.injEq, V.bl.injEq, V.ref.injEq, List.cons.injEq, and_true, true_and, exists_eq_left', exists_eq_left, exists_eq, exists_eq', exists_and_left, exists_and_right, and_assoc, exists_const, reduceCtorEq, if_true, if_false, ite_true, ite_false, Bool.false_eq_true, decide_true, decide_false, Bool.not_true, Bool.not_false, cxK, l_16, l_21, l_22]
    by_cases z : (n : Int) = 4
    · rw [if_pos (decide_eq_true z)]
      have c1 := b1.same s
      have c2 := b2.same s
      have c3 := b3.same s
      refine ⟨by decide, fun p1' n1' => ⟨by decide, fun p2' n2' => ?_⟩⟩
      have t1 := same_upd (o := .tup []) n1'
      have t2 := same_upd (o := .tup [V.str (S [114, 111, 119]), V.ref p1']) n2'
      have er : PB K (upd (upd H1 p1' (.tup [])) p2' (.tup [V.str (S [114, 111, 119]), V.ref p1'])) (.ref p2') (.row []) 1 0 1 1 := by
        refine ⟨⟨?_, by simp [Pat.Wf, WfL], by simp [Pat.Sm, SmL]⟩, ⟨by simp [Pat.Wf, WfL], by simp [Pat.Sm, SmL], by simp [Pat.d, dLs], by simp [Pat.n, nL], by simp [Pat.z, zL], by simp [Pat.y, yL]⟩⟩
        rw [patD, patDs]
        exact .tup (SqT.of upd_same) (.cons (.str _) (.cons (.tup (SqT.of (t2 _ _ upd_same)) .nil) .nil))
      replace s := (s.trans t1).trans t2
      replace c1 := (c1.same t1).same t2
      replace b4 := (b4.same t1).same t2
      refine ⟨by decide, fun p5' n5' => flS (al := false) (PB.cons c1 (PB.cons b4 PL.nil)) n5' rfl (by omega) fun H5' x5' s5' d5' => ?_⟩
      replace s := s.trans s5'
      replace c1 := c1.same s5'
      replace b4 := b4.same s5'
      replace er := er.same s5'
      refine ⟨by decide, fun p6' n6' => flS (al := true) (PB.cons er (PB.cons d5' PL.nil)) n6' rfl (by omega) fun H6' x6' s6' d6' => ?_⟩
      replace s := s.trans s6'
      replace c1 := c1.same s6'
      replace b4 := b4.same s6'
      replace er := er.same s6'
      replace d5' := d5'.same s6'
      refine ⟨by decide, fun p7' n7' => ?_⟩
      have sz := fun o : HO => same_upd (o := o) n7'
      exact q _ p7' _ _ _ _ _ _ _ _ _ _ _ _ (s.trans (sz _)) upd_same (b4.same (sz _)) (d6'.same (sz _)) (by omega) (by omega) (by first | omega | decide) (by first | omega | decide) (fun t => pw4 t p1)
    · rw [if_neg (by rw [decide_eq_false z]; decide)]
      exact ⟨g1, by omega⟩
  obtain ⟨g1, z4⟩ := g1
  refine ⟨fun σ' H' => M0 σ' H' ∧ n ≠ 5, ?_, fun σ1 H1 g1 => ?_⟩
  · obtain ⟨v4, rfl, s, b4⟩ := (hM0 _ _).mp g1
    simp only [tSeq, tAsg, tCB, tCons, tVar, tNil, gName, tRet, tRetN, tDrop, tNext, tIfS, tTest, tB, tOr, tAnd, tNot, tIf, tOrV, tAndV, tNotV, tChain, rI0, rI, rU, tUn, tC, tOp, rNe, rEq, tCall, tPart, tNoPart, tSl, tM0, tM1, tTup, tLst, tAug, gTup, gCons, gNil, rAdd, rSub, tNever, tBreak, tCont, L2.start, scSS, scII, scBB, ipI, sS, dS, d1, mkS, sL, nc1, nc2, Int.natCast_inj, List.map_cons, List.map_nil, List.length_cons, List.length_nil, List.replicate, List.cons_append, List.nil_append, List.append_nil, List.getElem?_cons_zero, List.getElem?_cons_succ, List.set_cons_zero, List.set_cons_succ, Option.some.injEq, V.str.injEq, V.int.injEq, V.bl.injEq, V.ref.injEq, List.cons.injEq, and_true, true_and, exists_eq_left', exists_eq_left, exists_eq, exists_eq', exists_and_left, exists_and_right, and_assoc, exists_const, reduceCtorEq, if_true, if_false, ite_true, ite_false, Bool.false_eq_true, decide_true, decide_false, Bool.not_true, Bool.not_false, cxK, l_16, l_21, l_22]
    by_cases z : (n : Int) = 5
    · rw [if_pos (decide_eq_true z)]
      have c1 := b1.same s
      have c2 := b2.same s
      have c3 := b3.same s
      refine ⟨by decide, fun p1' n1' => ?_⟩
      have d1' := repS (l := 1) (m := (some 2)) b4 n1' (by omega) (fun x hx => by cases hx; omega)
      have s1' := same_upd (o := .tup [.str (S [114, 101, 112, 101, 97, 116]), v4, .int ((1 : Nat) : Int), optNV (some 2)]) n1'
      replace s := s.trans s1'
      replace c1 := c1.same s1'
      replace c2 := c2.same s1'
      replace c3 := c3.same s1'
      replace b4 := b4.same s1'
      refine ⟨by decide, fun p2' n2' => ?_⟩
      have sz := fun o : HO => same_upd (o := o) n2'
      exact q _ p2' _ _ _ _ _ _ _ _ _ _ _ _ (s.trans (sz _)) upd_same (d1'.same (sz _)) (b4.same (sz _)) (by omega) (by omega) (by first | omega | decide) (by first | omega | decide) (fun t => pw5 t p1)
    · rw [if_neg (by rw [decide_eq_false z]; decide)]
      exact ⟨g1, by omega⟩
  obtain ⟨g1, z5⟩ := g1
  refine ⟨fun σ' H' => M0 σ' H' ∧ n ≠ 6, ?_, fun σ1 H1 g1 => ?_⟩
  · obtain ⟨v4, rfl, s, b4⟩ := (hM0 _ _).mp g1
    simp only [tSeq, tAsg, tCB, tCons, tVar, tNil, gName, tRet, tRetN, tDrop, tNext, tIfS, tTest, tB, tOr, tAnd, tNot, tIf, tOrV, tAndV, tNotV, tChain, rI0, rI, rU, tUn, tC, tOp, rNe, rEq, tCall, tPart, tNoPart, tSl, tM0, tM1, tTup, tLst, tAug, gTup, gCons, gNil, rAdd, rSub, tNever, tBreak, tCont, L2.start, scSS, scII, scBB, ipI, sS, dS, d1, mkS, sL, nc1, nc2, Int.natCast_inj, List.map_cons, List.map_nil, List.length_cons, List.length_nil, List.replicate, List.cons_append, List.nil_append, List.append_nil, List.getElem?_cons_zero, List.getElem?_cons_succ, List.set_cons_zero, List.set_cons_succ, Option.some.injEq, V.str.injEq, V.int.injEq, V.bl.injEq, V.ref.injEq, List.cons.injEq, and_true, true_and, exists_eq_left', exists_eq_left, exists_eq, exists_eq', exists_and_left, exists_and_right, and_assoc, exists_const, reduceCtorEq, if_true, if_false, ite_true, ite_false, Bool.false_eq_true, decide_true, decide_false, Bool.not_true, Bool.not_false, cxK, l_16, l_21, l_22]
    by_cases z : (n : Int) = 6
    · rw [if_pos (decide_eq_true z)]
      have c1 := b1.same s
      have c2 := b2.same s
      have c3 := b3.same s
      refine ⟨by decide, fun p1' n1' => ?_⟩
      have d1' := repS (l := 1) (m := none) c1 n1' (by omega) (fun x hx => by cases hx)
      have s1' := same_upd (o := .tup [.str (S [114, 101, 112, 101, 97, 116]), v1, .int ((1 : Nat) : Int), optNV none]) n1'
      replace s := s.trans s1'
      replace c1 := c1.same s1'
      replace c2 := c2.same s1'
      replace c3 := c3.same s1'
      replace b4 := b4.same s1'
      refine ⟨by decide, fun p2' n2' => flS (al := false) (PB.cons b4 (PB.cons c1 PL.nil)) n2' rfl (by omega) fun H2' x2' s2' d2' => ?_⟩
      replace s := s.trans s2'
      replace c1 := c1.same s2'
      replace c2 := c2.same s2'
      replace c3 := c3.same s2'
      replace b4 := b4.same s2'
      replace d1' := d1'.same s2'
      refine ⟨by decide, fun p3' n3' => ?_⟩
      have sz := fun o : HO => same_upd (o := o) n3'
      exact q _ p3' _ _ _ _ _ _ _ _ _ _ _ _ (s.trans (sz _)) upd_same (d1'.same (sz _)) (d2'.same (sz _)) (by omega) (by omega) (by first | omega | decide) (by first | omega | decide) (fun t => pw6 t p1)
    · rw [if_neg (by rw [decide_eq_false z]; decide)]
      exact ⟨g1, by omega⟩
  obtain ⟨g1, z6⟩ := g1
  obtain ⟨v4, rfl, s, b4⟩ := (hM0 _ _).mp g1
  refine ⟨fun σ' H' => ∃ v5, σ' = [some (.int (n : Nat)), some v1, some v2, some v3, some v4, some v5] ∧ Same H H' ∧ PB K H' v5 (rw2 (st (rw2 p2 p1)) p2) 6 48 100 1000, ?_, fun σ1 H1 g1 => ?_⟩
  · simp only [tSeq, tAsg, tCB, tCons, tVar, tNil, gName, tRet, tRetN, tDrop, tNext, tIfS, tTest, tB, tOr, tAnd, tNot, tIf, tOrV, tAndV, tNotV, tChain, rI0, rI, rU, tUn, tC, tOp, rNe, rEq, tCall, tPart, tNoPart, tSl, tM0, tM1, tTup, tLst, tAug, gTup, gCons, gNil, rAdd, rSub, tNever, tBreak, tCont, L2.start, scSS, scII, scBB, ipI, sS, dS, d1, mkS, sL, nc1, nc2, Int.natCast_inj, List.map_cons, List.map_nil, List.length_cons, List.length_nil, List.replicate, List.cons_append, List.nil_append, List.append_nil, List.getElem?_cons_zero, List.getElem?_cons_succ, List.set_cons_zero, List.set_cons_succ, Option.some.injEq, V.str.injEq, V.int.injEq, V.bl.injEq, V.ref.injEq, List.cons.injEq, and_true, true_and, exists_eq_left', exists_eq_left, exists_eq, exists_eq', exists_and_left, exists_and_right, and_assoc, exists_const, reduceCtorEq, if_true, if_false, ite_true, ite_false, Bool.false_eq_true, decide_true, decide_false, Bool.not_true, Bool.not_false, cxK, l_16, l_21, l_22]
    have c1 := b1.same s
    have c2 := b2.same s
    refine ⟨by decide, fun p1' n1' => flS (al := false) (PB.cons c2 (PB.cons c1 PL.nil)) n1' rfl (by omega) fun H1' x1' s1' d1' => ?_⟩
    replace s := s.trans s1'
    replace c1 := c1.same s1'
    replace c2 := c2.same s1'
    replace b4 := b4.same s1'
    refine ⟨by decide, fun p2' n2' => ?_⟩
    have d2' := repS (l := 0) (m := none) d1' n2' (by omega) (fun x hx => by cases hx)
    have s2' := same_upd (o := .tup [.str (S [114, 101, 112, 101, 97, 116]), x1', .int ((0 : Nat) : Int), optNV none]) n2'
    replace s := s.trans s2'
    replace c1 := c1.same s2'
    replace c2 := c2.same s2'
    replace b4 := b4.same s2'
    replace d1' := d1'.same s2'
    refine ⟨by decide, fun p3' n3' => flS (al := false) (PB.cons d2' (PB.cons c2 PL.nil)) n3' rfl (by omega) fun H3' x3' s3' d3' => ?_⟩
    replace s := s.trans s3'
    replace c1 := c1.same s3'
    replace c2 := c2.same s3'
    replace b4 := b4.same s3'
    replace d1' := d1'.same s3'
    replace d2' := d2'.same s3'
    exact ⟨s, d3'.pt, d3'.b.up (by omega) (by simp [copiesOf]) (by omega) (by simp [copiesOf])⟩
  obtain ⟨v5, rfl, s, d3'⟩ := g1
  simp only [tSeq, tAsg, tCB, tCons, tVar, tNil, gName, tRet, tRetN, tDrop, tNext, tIfS, tTest, tB, tOr, tAnd, tNot, tIf, tOrV, tAndV, tNotV, tChain, rI0, rI, rU, tUn, tC, tOp, rNe, rEq, tCall, tPart, tNoPart, tSl, tM0, tM1, tTup, tLst, tAug, gTup, gCons, gNil, rAdd, rSub, tNever, tBreak, tCont, L2.start, scSS, scII, scBB, ipI, sS, dS, d1, mkS, sL, nc1, nc2, Int.natCast_inj, List.map_cons, List.map_nil, List.length_cons, List.length_nil, List.replicate, List.cons_append, List.nil_append, List.append_nil, List.getElem?_cons_zero, List.getElem?_cons_succ, List.set_cons_zero, List.set_cons_succ, Option.some.injEq, V.str.injEq, V.int.injEq, V.bl.injEq, V.ref.injEq, List.cons.injEq, and_true, true_and, exists_eq_left', exists_eq_left, exists_eq, exists_eq', exists_and_left, exists_and_right, and_assoc, exists_const, reduceCtorEq, if_true, if_false, ite_true, ite_false, Bool.false_eq_true, decide_true, decide_false, Bool.not_true, Bool.not_false, cxK, l_16, l_21, l_22]
  have c1 := b1.same s
  have c2 := b2.same s
  refine ⟨by decide, fun p11' n11' => flS (al := false) (PB.cons c1 (PB.cons c2 PL.nil)) n11' rfl (by omega) fun H11' x11' s11' d11' => ?_⟩
  replace s := s.trans s11'
  replace c1 := c1.same s11'
  replace c2 := c2.same s11'
  replace d3' := d3'.same s11'
  refine ⟨by decide, fun p12' n12' => ?_⟩
  have d12' := repS (l := 0) (m := none) d11' n12' (by omega) (fun x hx => by cases hx)
  have s12' := same_upd (o := .tup [.str (S [114, 101, 112, 101, 97, 116]), x11', .int ((0 : Nat) : Int), optNV none]) n12'
  replace s := s.trans s12'
  replace c1 := c1.same s12'
  replace c2 := c2.same s12'
  replace d3' := d3'.same s12'
  replace d11' := d11'.same s12'
  refine ⟨by decide, fun p13' n13' => flS (al := false) (PB.cons c2 (PB.cons d12' PL.nil)) n13' rfl (by omega) fun H13' x13' s13' d13' => ?_⟩
  replace s := s.trans s13'
  replace c1 := c1.same s13'
  replace c2 := c2.same s13'
  replace d3' := d3'.same s13'
  replace d11' := d11'.same s13'
  replace d12' := d12'.same s13'
  refine ⟨by decide, fun p14' n14' => ?_⟩
  have sz := fun o : HO => same_upd (o := o) n14'
  exact q _ p14' _ _ _ _ _ _ _ _ _ _ _ _ (s.trans (sz _)) upd_same (d13'.same (sz _)) (d3'.same (sz _)) (by omega) (by omega) (by first | omega | decide) (by first | omega | decide) (fun t => pw7 t p1 p2)
end
end Pd

namespace HT
open PySem PySem.Spec PySem.Calls PyProof.Rows
section
variable {prog : Program} {w : World} {A : Around} {E : Value → Shared → Prop} {s : Shared}
theorem sliceApplied_rev {sl : Addr} {ut : Tok} {n : Nat} {Q : Int × Int × Nat → Shared → Prop} (hs : s.heap.IsSliceOf sl .none .none (.int (-1) ut)) (h : Q ((n : Int) - 1, -1, n) s) :
    wpAny (model prog w) A (Builtin.Slice.sliceApplied (.ref sl) (pure (n : Int))) Q E s := by
  obtain ⟨os, hos, hcs, hds⟩ := id hs
  unfold Builtin.Slice.sliceApplied Builtin.Slice.sliceFields
  refine wpAny_bind (wpAny_bind (wpAny_field hos hds (x := .none) rfl (wpAny_bind (wpAny_field hos hds (x := .none) rfl (wpAny_bind (wpAny_field hos hds (x := .int (-1) ut) rfl (wpAny_pure ?_)))))))
  refine wpAny_bind (slicePart_int ?_)
  show wpAny _ _ (if ((-1 : Int) == 0) = true then _ else _) _ _ s
  rw [if_neg (by decide)]
  refine wpAny_bind (slicePart_none (wpAny_bind (slicePart_none (wpAny_bind (wpAny_pure ?_)))))
  show wpAny _ _ (pure (((n : Int) - 1), (-1 : Int), Builtin.Slice.slicePlaces ((n : Int) - 1) (-1) (-1))) _ _ s
  have e : Builtin.Slice.slicePlaces ((n : Int) - 1) (-1) (-1) = n := by
    unfold Builtin.Slice.slicePlaces
    rw [if_neg (by omega)]
    by_cases z : (n : Int) - 1 > -1
    · rw [if_pos z]
      have : ((n : Int) - 1 - (-1) - 1) / (-(-1)) + 1 = n := by
        rw [show (-(-1) : Int) = 1 by rfl, Int.ediv_one]
        omega
      rw [this, Int.toNat_natCast]
    · rw [if_neg z]
      show 0 = n
      omega
  rw [e]
  exact wpAny_pure h
theorem pick_rev (xs : Array Value) : ((List.range xs.size).filterMap fun (m : Nat) => xs[(((xs.size : Nat) : Int) - 1 + (m : Int) * (-1)).toNat]?).toArray = xs.toList.reverse.toArray := by
  congr 1
  have e : (fun (m : Nat) => xs[(((xs.size : Nat) : Int) - 1 + (m : Int) * (-1)).toNat]?) = (fun k => xs[k]?) ∘ fun m => xs.size - 1 - m := by
    funext m
    have : (((xs.size : Nat) : Int) - 1 + (m : Int) * (-1)).toNat = xs.size - 1 - m := by omega
    show xs[_]? = xs[xs.size - 1 - m]?
    rw [this]
  rw [e, ← List.filterMap_map, PySem.W.krv_range, List.filterMap_reverse, PySem.W.krv_all]
theorem getItem_tuple_rev {t sl : Addr} {items : Array Value} {ut : Tok} {Q : Value → Shared → Prop} (ht : IsTup s.heap t items) (hs : s.heap.IsSliceOf sl .none .none (.int (-1) ut))
    (h : Q (.ref s.heap.objs.size) { s with heap := s.heap.push { cls := .type "tuple", data := .seq items.toList.reverse.toArray } })
    (hsz : items.size ≤ sizeLine) : wpAny (model prog w) A (getItem (.ref t) (.ref sl)) Q E s := by
  have htake : sizeOk (.seq items.toList.reverse.toArray) := by
    show items.toList.reverse.toArray.size ≤ sizeLine
    rw [List.size_toArray, List.length_reverse, Array.length_toList]
    exact hsz
  obtain ⟨os, hos, hcs, hds⟩ := id hs
  have hTs : s.TypeIs (.ref sl) "slice" := ⟨os, hos, hcs⟩
  unfold getItem
  try with_reducible refine wpAny_holding ?_
  first | refine wpAny_bind (wpAny_pure ?_) | skip
  refine wpAny_bind (wpAny_sequenceKey ht.typeIs (by decide) ?_)
  refine wpAny_bind (wpAny_callSpecial?_slot (name := Str.ofString "__getitem__") ht.typeIs PyProof.Rows.slot_tuple_getitem
    (wpAny_call_entry PyProof.Rows.slot_tuple_getitem ht.typeIs entry_tuple_getitem ?_ (args_tuple_getitem _ _)))
  show wpAny _ _ (Builtin.Tuple.tupleItemsOf (.ref t) >>= _) _ _ s
  refine wpAny_bind (tupleItemsOf_ ht ?_)
  refine wpAny_bind (wpAny_typeOf hTs ?_)
  rw [if_pos (by decide)]
  refine wpAny_bind (sliceApplied_rev hs ?_)
  have hno : ¬ ((((items.size : Nat) : Int) - 1 == 0 && (-1 : Int) == 1 && items.size == items.size) = true) := by
    rw [show ((-1 : Int) == 1) = false from rfl, Bool.and_false, Bool.false_and]
    decide
  show wpAny _ _ (if (((items.size : Nat) : Int) - 1 == 0 && (-1 : Int) == 1 && items.size == items.size) = true then _ else _) _ _ s
  rw [if_neg hno, pick_rev]
  first
    | exact wpAny_bind (m := Builtin.Tuple.tupleExact _) (wpAny_newObj_type (wpAny_pure ⟨_, rfl, wpAny_pure h⟩) htake)
    | exact wpAny_bind (m := Builtin.Tuple.tupleExact _) (wpAny_newObj_type (wpAny_bind (wpAny_pure (wpAny_pure ⟨_, rfl, wpAny_pure h⟩))) htake)
    | exact wpAny_bind (wpAny_bind (m := Builtin.Tuple.tupleExact _) (wpAny_newObj_type (wpAny_pure (wpAny_pure ⟨_, rfl, wpAny_pure h⟩)) htake))
    | exact wpAny_bind (wpAny_bind (m := Builtin.Tuple.tupleExact _) (wpAny_newObj_type (wpAny_pure ⟨_, rfl, wpAny_pure h⟩) htake))
end
end HT
namespace L2
open PySem PySem.Spec PyProof.Rows
section
variable {X : Cx}
/-- t[::-1] -/
def tRevT (K : PySem.W.Frag) (te : TE) : TE := fun σ H Q => te σ H fun x H1 => ∃ a xs, x = .ref a ∧ SqT K H1 a xs ∧ ∀ p, H1 p = none → Q (.ref p) (upd H1 p (.tup xs.reverse))
def tRevS (te : TE) : TE := fun σ H Q => te σ H fun x H1 => ∃ z : List Nat, x = .str (SX.S z) ∧ z.length ≤ 100000 ∧ Q (.str (SX.S z.reverse)) H1
theorem pe_revX {te : TE} {te2 : TE} {e : Expr} {k : Nat} {p1 p2 p3 pos : Pos} (he : PE X e te) (r : V → Hp → VK → Prop)
    (hr : ∀ (pins : List (Addr × Obj)) (s : Shared) (σ : St) (H : Hp) (x : V) (v : Value) (ut : Tok) (sl : Addr) (Q : VK), Inv X pins σ H s → RelV x v → s.heap.IsSliceOf sl .none .none (.int (-1) ut) → r x H Q →
      ∃ T id ops, typeLookup (.type T) "__getitem__" = pure (some (.builtin id)) ∧ s.TypeIs v T ∧ wpAny (model X.prog X.w) X.A (getItem v (.ref sl)) (EP X pins σ Q) X.xe s ∧ subscripted (.Slice none none (some (.UnaryOp .USub (.Constant (.int 1) k p1) p2)) p3) false v (.ref sl) = operate ops (getItem v (.ref sl)))
    (ht : te2 = fun σ H Q => te σ H fun x H1 => r x H1 Q) : PE X (.Subscript e (.Slice none none (some (.UnaryOp .USub (.Constant (.int 1) k p1) p2)) p3) pos) te2 := by
  subst ht
  refine ⟨fun pins s σ H Q I h => ?_⟩
  refine Subscript_ (thn (he.run pins s σ H _ I h) fun v s1 ⟨x, H1, I1, r1, q1⟩ => ?_)
  have hst : PO X (some (.UnaryOp .USub (.Constant (.int 1) k p1) p2)) (tPart (tUn (rU fun i => .int (-i)) (tC (.int 1)))) := po_some (pe_un un_neg pe_int)
  refine wpAny_Slice (thn (po_none.run pins s1 σ H1 (fun o H2 => o = none ∧ H2 = H1) I1 ⟨rfl, rfl⟩) fun vl s2 ⟨l, H2, I2, pl, el, e2⟩ => ?_)
  subst el e2
  refine thn (po_none.run pins s2 σ H2 (fun o H3 => o = none ∧ H3 = H2) I2 ⟨rfl, rfl⟩) fun vu s3 ⟨u, H3, I3, pu, eu, e3⟩ => ?_
  subst eu e3
  refine thn (hst.run pins s3 σ H3 (fun o H4 => o = some (-1) ∧ H4 = H3) I3 ⟨1, rfl, -1, rfl, rfl, rfl⟩) fun vs s4 ⟨o, H4, I4, ps, eo, e4⟩ => ?_
  subst eo e4
  cases pl
  cases pu
  cases ps with
  | int i ut =>
  have I5 : Inv X pins σ H4 { s4 with heap := s4.heap.push { cls := .type "slice", data := .fields #[.none, .none, .int (-1) ut] } } := I4.kept (t' := s4.toks) fun b ob q => Heap.get?_push_of_some _ q
  obtain ⟨T, id, ops, hT, ht, hg, ho⟩ := hr pins _ σ H4 x v ut s4.heap.objs.size Q I5 r1 (Heap.IsSliceOf.new _ _ _ _) q1
  show wpAny (model X.prog X.w) X.A (subscriptTail e (.Slice none none (some (.UnaryOp .USub (.Constant (.int 1) k p1) p2)) p3) v (.ref s4.heap.objs.size)) (EP X pins σ Q) X.xe { s4 with heap := s4.heap.push { cls := .type "slice", data := .fields #[.none, .none, .int (-1) ut] } }
  exact tail_any (ops := ops) ht hT hg ho
theorem pe_revT {e : Expr} {te : TE} {k : Nat} {p1 p2 p3 pos : Pos} (he : PE X e te) : PE X (.Subscript e (.Slice none none (some (.UnaryOp .USub (.Constant (.int 1) k p1) p2)) p3) pos) (tRevT X.K te) := by
  refine pe_revX he (fun x H1 Q => ∃ a xs, x = .ref a ∧ SqT X.K H1 a xs ∧ ∀ p, H1 p = none → Q (.ref p) (upd H1 p (.tup xs.reverse))) ?_ rfl
  intro pins s σ H x v ut sl Q I rx hs q
  obtain ⟨a, xs, rfl, hx, q⟩ := q
  cases rx
  obtain ⟨its, r, ht, hz⟩ := I.tuple hx
  have hlen := r.length
  refine ⟨"tuple", _, [.ref a, .ref sl], PyProof.Rows.slot_tuple_getitem.lookup, ht.typeIs, ?_, by with_unfolding_all rfl⟩
  refine HT.getItem_tuple_rev ht hs ?_ (by rw [List.size_toArray]; omega)
  refine ⟨.ref s.heap.objs.size, _, I.laid (t' := s.toks) (o := .tup xs.reverse) (fun b ob q => Heap.get?_push_of_some _ q) (Nat.le_refl _) ?_, rfl, q _ (I.hok.fresh (Nat.le_refl _))⟩
  exact ⟨by rw [List.length_reverse]; exact hz, _, r.reverse, IsTup.new _ _⟩
theorem pick_revS (z : List Nat) : ((Builtin.Str.strSliceIndices none none (-1) (SX.S z).length).filterMap ((SX.S z).cps[·]?)).toArray = z.reverse.toArray := by
  have e : Builtin.Str.strSliceIndices none none (-1) (SX.S z).length = (sliceRange (((SX.S z).length : Int) - 1) (-1) (-1)) := rfl
  have h := PySem.W.krv_all (SX.S z).cps
  rw [e, PySem.W.krv_sliceRange, PySem.W.krv_range, List.filterMap_reverse]
  congr 2
theorem pe_revS {e : Expr} {te : TE} {k : Nat} {p1 p2 p3 pos : Pos} (he : PE X e te) : PE X (.Subscript e (.Slice none none (some (.UnaryOp .USub (.Constant (.int 1) k p1) p2)) p3) pos) (tRevS te) := by
  refine pe_revX he (fun x H1 Q => ∃ z : List Nat, x = .str (SX.S z) ∧ z.length ≤ 100000 ∧ Q (.str (SX.S z.reverse)) H1) ?_ rfl
  intro pins s σ H x v ut sl Q I rx hs q
  obtain ⟨z, rfl, hz, q⟩ := q
  obtain ⟨t, rfl⟩ := rx
  obtain ⟨os, hos, hcs, hds⟩ := hs
  refine ⟨"str", _, [.ref sl, .str (SX.S z) t], F.slot_str_getitem.lookup, typeIs_str _ _ _, ?_, by with_unfolding_all rfl⟩
  refine wpAny_getItem_str_slice (l := none) (u := none) (st := some (-1, ut)) ⟨os, hos, hcs, hds⟩ rfl ?_
  show Made.post (Made.str ⟨((Builtin.Str.strSliceIndices none none (-1) (SX.S z).length).filterMap ((SX.S z).cps[·]?)).toArray⟩) (EP X pins σ Q) s
  rw [pick_revS]
  refine ⟨?_, .str _, H, I.tok _, ⟨_, rfl⟩, q⟩
  show z.reverse.toArray.size ≤ sizeLine
  rw [List.size_toArray, List.length_reverse]
  exact Pd.sz5 hz
end
end L2

namespace Pd
mutual
def Pat.tu : Pat → Pat
  | .bg => .en
  | .en => .bg
  | .row ps => .row (tuL ps).reverse
  | .alt ps => .alt (tuL ps)
  | .rep p l m => .rep p.tu l m
  | p => p
def tuL : List Pat → List Pat
  | [] => []
  | p :: ps => p.tu :: tuL ps
end
theorem tuL_map : ∀ ps : List Pat, tuL ps = ps.map Pat.tu
  | [] => rfl
  | p :: ps => by rw [tuL, tuL_map ps]; rfl
theorem WfL_all : ∀ {ps : List Pat}, WfL ps ↔ ∀ p ∈ ps, p.Wf
  | [] => by simp [WfL]
  | p :: ps => by rw [WfL, WfL_all (ps := ps)]; simp
theorem SmL_all : ∀ {ps : List Pat}, SmL ps ↔ ∀ p ∈ ps, p.Sm
  | [] => by simp [SmL]
  | p :: ps => by rw [SmL, SmL_all (ps := ps)]; simp
theorem dLs_rev (ps : List Pat) : dLs ps.reverse = dLs ps := by
  induction ps with
  | nil => rfl
  | cons p ps ih => rw [List.reverse_cons, dLs_app, ih, dLs, dLs, dLs]; omega
theorem nL_rev (ps : List Pat) : nL ps.reverse = nL ps := by
  induction ps with
  | nil => rfl
  | cons p ps ih => rw [List.reverse_cons, nL_app, ih, nL, nL, nL]; omega
theorem WfL_rev {ps : List Pat} (h : WfL ps) : WfL ps.reverse := WfL_all.mpr fun p hp => WfL_all.mp h p (List.mem_reverse.mp hp)
theorem SmL_rev {ps : List Pat} (h : SmL ps) : SmL ps.reverse := SmL_all.mpr fun p hp => SmL_all.mp h p (List.mem_reverse.mp hp)
theorem tuL_len (ps : List Pat) : (tuL ps).length = ps.length := by rw [tuL_map, List.length_map]
structure TuB (p : Pat) : Prop where
  wf : p.Wf → p.tu.Wf
  sm : p.Sm → p.tu.Sm
  d : p.tu.d = p.d
  n : p.tu.n = p.n
structure TuLB (ps : List Pat) : Prop where
  wf : WfL ps → WfL (tuL ps)
  sm : SmL ps → SmL (tuL ps)
  d : dLs (tuL ps) = dLs ps
  n : nL (tuL ps) = nL ps
mutual
theorem tuB : ∀ p : Pat, p.d = p.d → TuB p
  | .any, _ => by refine ⟨?_, ?_, ?_, ?_⟩ <;> simp [Pat.tu, Pat.d, Pat.n]
  | .sign c, _ => by refine ⟨?_, ?_, ?_, ?_⟩ <;> simp [Pat.tu, Pat.d, Pat.n]
  | .cls c, _ => by refine ⟨?_, ?_, ?_, ?_⟩ <;> simp [Pat.tu, Pat.d, Pat.n]
  | .bg, _ => by refine ⟨?_, ?_, ?_, ?_⟩ <;> simp [Pat.tu, Pat.d, Pat.n, Pat.Wf, Pat.Sm]
  | .en, _ => by refine ⟨?_, ?_, ?_, ?_⟩ <;> simp [Pat.tu, Pat.d, Pat.n, Pat.Wf, Pat.Sm]
  | .row ps, _ => by
    have h := tuLB ps
    refine ⟨fun w => ?_, fun w => ?_, ?_, ?_⟩
    · rw [show (Pat.row ps).tu = .row (tuL ps).reverse by rw [Pat.tu], Pat.Wf]
      rw [Pat.Wf] at w
      exact WfL_rev (h.wf w)
    · rw [show (Pat.row ps).tu = .row (tuL ps).reverse by rw [Pat.tu], Pat.Sm]
      rw [Pat.Sm] at w
      exact ⟨SmL_rev (h.sm w.1), by rw [List.length_reverse, tuL_len]; exact w.2⟩
    · rw [show (Pat.row ps).tu = .row (tuL ps).reverse by rw [Pat.tu], Pat.d, Pat.d, dLs_rev, h.d]
    · rw [show (Pat.row ps).tu = .row (tuL ps).reverse by rw [Pat.tu], Pat.n, Pat.n, nL_rev, h.n]
  | .alt ps, _ => by
    have h := tuLB ps
    refine ⟨fun w => ?_, fun w => ?_, ?_, ?_⟩
    · rw [show (Pat.alt ps).tu = .alt (tuL ps) by rw [Pat.tu], Pat.Wf]
      rw [Pat.Wf] at w
      exact h.wf w
    · rw [show (Pat.alt ps).tu = .alt (tuL ps) by rw [Pat.tu], Pat.Sm]
      rw [Pat.Sm] at w
      exact ⟨h.sm w.1, by rw [tuL_len]; exact w.2⟩
    · rw [show (Pat.alt ps).tu = .alt (tuL ps) by rw [Pat.tu], Pat.d, Pat.d, h.d]
    · rw [show (Pat.alt ps).tu = .alt (tuL ps) by rw [Pat.tu], Pat.n, Pat.n, h.n]
  | .rep p l m, _ => by
    have h := tuB p rfl
    refine ⟨fun w => ?_, fun w => ?_, ?_, ?_⟩
    · rw [show (Pat.rep p l m).tu = .rep p.tu l m by rw [Pat.tu], Pat.Wf]
      rw [Pat.Wf] at w
      exact ⟨h.wf w.1, w.2⟩
    · rw [show (Pat.rep p l m).tu = .rep p.tu l m by rw [Pat.tu], Pat.Sm]
      rw [Pat.Sm] at w
      exact ⟨h.sm w.1, w.2⟩
    · rw [show (Pat.rep p l m).tu = .rep p.tu l m by rw [Pat.tu], Pat.d, Pat.d, h.d]
    · rw [show (Pat.rep p l m).tu = .rep p.tu l m by rw [Pat.tu], Pat.n, Pat.n, h.n]
theorem tuLB : ∀ ps : List Pat, TuLB ps
  | [] => ⟨fun h => by rw [tuL]; exact h, fun h => by rw [tuL]; exact h, by rw [tuL], by rw [tuL]⟩
  | p :: ps => by
    have h := tuB p rfl
    have g := tuLB ps
    refine ⟨fun w => ?_, fun w => ?_, ?_, ?_⟩
    · rw [tuL, WfL]; rw [WfL] at w; exact ⟨h.wf w.1, g.wf w.2⟩
    · rw [tuL, SmL]; rw [SmL] at w; exact ⟨h.sm w.1, g.sm w.2⟩
    · rw [tuL, dLs, dLs, h.d, g.d]
    · rw [tuL, nL, nL, h.n, g.n]
end
/-! ### what a turned pattern takes -/
/-- R between s and e, mirrored in a text of n -/
def Mir (n : Nat) (R S : Rl) : Prop := ∀ s e, s ≤ n → e ≤ n → (S (n - e) (n - s) ↔ R s e)
theorem Mir.seq {n : Nat} {R R' S S' : Rl} (f : Fw n R) (f' : Fw n S') (h : Mir n R S) (g : Mir n R' S') : Mir n (seqR R R') (seqR S' S) := by
  intro s e hs he
  constructor
  · rintro ⟨j, h1, h2⟩
    have hj : j ≤ n := f'.in_ _ _ (by omega) h1
    obtain ⟨i, rfl⟩ : ∃ i, j = n - i := ⟨n - j, by omega⟩
    obtain ⟨i, hi, e1⟩ : ∃ i', i' ≤ n ∧ n - i = n - i' := ⟨min i n, by omega, by omega⟩
    rw [e1] at h1 h2
    exact ⟨i, (h s i hs hi).mp h2, (g i e hi he).mp h1⟩
  · rintro ⟨j, h1, h2⟩
    have hj : j ≤ n := f.in_ _ _ hs h1
    exact ⟨n - j, (g j e hj he).mpr h2, (h s j hs hj).mpr h1⟩
theorem Mir.or {n : Nat} {R R' S S' : Rl} (h : Mir n R S) (g : Mir n R' S') : Mir n (orR R R') (orR S S') := fun s e hs he => or_congr (h s e hs he) (g s e hs he)
theorem Mir.eq {n : Nat} : Mir n (fun s e => s = e) (fun s e => s = e) := fun s e hs he => by
  show n - e = n - s ↔ s = e
  omega
theorem Mir.pow {n : Nat} {R S : Rl} (f : Fw n R) (f' : Fw n S) (h : Mir n R S) : ∀ k, Mir n (powR R k) (powR S k)
  | 0 => Mir.eq
  | k + 1 => by
    have := Mir.seq (f.pow k) f' (Mir.pow f f' h k) h
    rw [pow_succ'] at this
    exact this
theorem Mir.rep {n : Nat} {R S : Rl} (f : Fw n R) (f' : Fw n S) (h : Mir n R S) (l : Nat) (m : Option Nat) : Mir n (repR R l m) (repR S l m) := fun s e hs he =>
  ⟨fun ⟨k, h1, h2, h3⟩ => ⟨k, h1, h2, (h.pow f f' k s e hs he).mp h3⟩, fun ⟨k, h1, h2, h3⟩ => ⟨k, h1, h2, (h.pow f f' k s e hs he).mpr h3⟩⟩
theorem rev_at {t : List Nat} {s e : Nat} (he : e = s + 1) (h : e ≤ t.length) : t.reverse[t.length - e]? = t[s]? := by
  subst he
  rw [List.getElem?_reverse (by omega)]
  congr 1
  omega
theorem Mir.one {t : List Nat} {R S : Option Nat → Prop} (hR : ∀ c, R (some c) ↔ S (some c)) (n0 : ¬ R none) (n1 : ¬ S none) : Mir t.length (fun s e => R t[s]? ∧ e = s + 1) (fun s e => S t.reverse[s]? ∧ e = s + 1) := by
  intro s e hs he
  constructor
  · rintro ⟨h1, h2⟩
    have hl : t.length - e < t.reverse.length := by
      cases q : t.reverse[t.length - e]? with
      | none => rw [q] at h1; exact absurd h1 n1
      | some c => exact (List.getElem?_eq_some_iff.mp q).1
    rw [List.length_reverse] at hl
    have e1 : e = s + 1 := by omega
    rw [rev_at e1 he] at h1
    cases q : t[s]? with
    | none => rw [q] at h1; exact absurd h1 n1
    | some c => rw [q] at h1; exact ⟨(hR c).mpr h1, e1⟩
  · rintro ⟨h1, h2⟩
    rw [rev_at h2 he]
    cases q : t[s]? with
    | none => rw [q] at h1; exact absurd h1 n0
    | some c => rw [q] at h1; exact ⟨(hR c).mp h1, by omega⟩
mutual
theorem M_tu (t : List Nat) : ∀ p : Pat, Mir t.length (M t p) (M t.reverse p.tu)
  | .any => by
    rw [show (Pat.any).tu = .any by simp [Pat.tu], M, M]
    intro s e hs he
    rw [List.length_reverse]
    show (t.length - e < t.length ∧ t.length - s = t.length - e + 1) ↔ (s < t.length ∧ e = s + 1)
    omega
  | .sign c => by
    rw [show (Pat.sign c).tu = .sign c by simp [Pat.tu], M, M]
    exact Mir.one (R := fun x => x = some c) (S := fun x => x = some c) (fun _ => Iff.rfl) (by simp) (by simp)
  | .cls cs => by
    rw [show (Pat.cls cs).tu = .cls cs by simp [Pat.tu], M, M]
    exact Mir.one (R := fun x => ∃ c, x = some c ∧ c ∈ cs) (S := fun x => ∃ c, x = some c ∧ c ∈ cs) (fun _ => Iff.rfl) (by simp) (by simp)
  | .bg => by
    rw [show (Pat.bg).tu = .en by simp [Pat.tu], M, M]
    intro s e hs he
    rw [List.length_reverse]
    show (t.length - e = t.length ∧ t.length - e = t.length - s) ↔ (s = 0 ∧ s = e)
    omega
  | .en => by
    rw [show (Pat.en).tu = .bg by simp [Pat.tu], M, M]
    intro s e hs he
    show (t.length - e = 0 ∧ t.length - e = t.length - s) ↔ (s = t.length ∧ s = e)
    omega
  | .row ps => by
    rw [show (Pat.row ps).tu = .row (tuL ps).reverse by rw [Pat.tu], M, M]
    exact M_tuR t ps
  | .alt ps => by
    rw [show (Pat.alt ps).tu = .alt (tuL ps) by rw [Pat.tu], M, M]
    exact M_tuA t ps
  | .rep p l m => by
    rw [show (Pat.rep p l m).tu = .rep p.tu l m by rw [Pat.tu], M, M]
    have f := fw_M t.reverse p.tu
    rw [List.length_reverse] at f
    exact (M_tu t p).rep (fw_M t p) f l m
theorem M_tuR (t : List Nat) : ∀ ps : List Pat, Mir t.length (MRow t ps) (MRow t.reverse (tuL ps).reverse)
  | [] => by rw [tuL, MRow]; exact Mir.eq
  | p :: ps => by
    rw [tuL, MRow, List.reverse_cons, MRow_app, MRow_one]
    have f := fw_MRow t.reverse (tuL ps).reverse
    rw [List.length_reverse] at f
    exact Mir.seq (fw_M t p) f (M_tu t p) (M_tuR t ps)
theorem M_tuA (t : List Nat) : ∀ ps : List Pat, Mir t.length (MAlt t ps) (MAlt t.reverse (tuL ps))
  | [] => by rw [tuL, MAlt, MAlt]; exact fun s e _ _ => Iff.rfl
  | p :: ps => by rw [tuL, MAlt, MAlt]; exact (M_tu t p).or (M_tuA t ps)
end
end Pd

namespace Pd
open PySem PySem.Spec PyProof.Rows L2
open SX (S)
theorem dpa_app {K : PySem.W.Frag} {H : Hp} : ∀ {xs ys : List V} {ds es : List PyData}, DpAll K H xs ds → DpAll K H ys es → DpAll K H (xs ++ ys) (ds ++ es)
  | _, _, _, _, .nil, h => h
  | _, _, _, _, .cons a b, h => .cons a (dpa_app b h)
theorem dpa_rev {K : PySem.W.Frag} {H : Hp} : ∀ {xs : List V} {ds : List PyData}, DpAll K H xs ds → DpAll K H xs.reverse ds.reverse
  | _, _, .nil => .nil
  | _, _, .cons a b => by rw [List.reverse_cons, List.reverse_cons]; exact dpa_app (dpa_rev b) (.cons a .nil)
theorem patDs_map : ∀ ps : List Pat, patDs ps = ps.map patD
  | [] => rfl
  | p :: ps => by rw [patDs, patDs_map ps]; rfl
theorem tuL_at {ps : List Pat} {i : Nat} {p : Pat} (h : ps[i]? = some p) : tuL (ps.take (i + 1)) = tuL (ps.take i) ++ [p.tu] := by
  rw [tuL_map, tuL_map, List.take_add_one, h, List.map_append]
  rfl
theorem d_get : ∀ {ps : List Pat} {i : Nat} {p : Pat}, ps[i]? = some p → p.d ≤ dLs ps := fun h => (dy_get h).1
def turnT (t1 t2 : Addr) : List (Str × V) := [(S [98, 101, 103, 105, 110], .ref t1), (S [101, 110, 100], .ref t2)]
section
variable {P : Program} {w : World} {K : PySem.W.Frag} {mg : Str → Option Value} {base : Heap}
def sp_tu (K : PySem.W.Frag) (d : Nat) : Sp := fun vs H Q _ => ∃ (v : V) (p : Pat), vs = [v] ∧ PtD K H v p ∧ p.d < d ∧ ∀ H' v', Same H H' → PtD K H' v' p.tu → Q v' H'
theorem scturned : FnScope ["pattern", "tag", "part"] ["pattern"] (defScope (topS 29)) := ⟨rfl, rfl, rfl, by decide +kernel, rfl, by decide +kernel, by decide +kernel⟩
theorem ok_tu1 (T : BiA mg) {dT t1 t2 : Addr} (t_TURNED : Tbl K w mg "TURNED" dT (turnT t1 t2)) (x_t1 : ∀ H, SqT K H t1 [.str (S [101, 110, 100])]) (x_t2 : ∀ H, SqT K H t2 [.str (S [98, 101, 103, 105, 110])]) (d L : Nat) (c_turned : Cal P w K mg base L "turned" (sp_tu K d)) (D : Dfn K mg "turned" (topS 29) ["pattern"]) : Cal P w K mg base (L + 1) "turned" (sp_tu K (d + 1)) := by
  refine cal_of D scturned (fun vs H Q E h => ?_) (fun f cdv A outer s H vs Q E hr h => ?_)
  · obtain ⟨v, p, rfl, _⟩ := h
    rfl
  obtain ⟨v, p, rfl, hp, hd, q⟩ := h
  refine ⟨_, (C8.pss_cut (ps_set (i := 1) scturned.nd rfl (Or.inl rfl) (pe_ix ix_tup (pv 0) pe_int (fun _ _ => rfl)))
      (C8.pss_cut (ps_if (pt_cmpR (op_inTb t_TURNED) (pv 1) (pe_tb t_TURNED (by rfl)) (by rfl)) (pss_one (ps_ret (pe_ix (ix_tb t_TURNED) (pe_tb t_TURNED (by rfl)) (pv 1) (fun _ _ => rfl)))) pss_nil)
      (C8.pss_cut (ps_if (pt_cmpR op_eq (pv 1) pe_str (nomark _)) (pss_one (ps_ret (pe_tup (pa_cons pe_str (pa_cons (pe_callTy call_tuple_of (by rfl) T.b_tuple (by decide +kernel) (pa_cons (pe_lc (own := [("part", 2)]) (g := gName 2) (tt := tYes) rfl scturned.nd (pi_tup (pe_revT (pe_ix ix_tup (pv 0) pe_int (fun _ _ => rfl)))) (blkOk_by (N := ["pattern", "tag", "part"]) (sc := defScope (topS 29)) (by decide +kernel)) (fun _ _ _ _ _ => (pg_name (i := 2) scturned.nd rfl (Or.inl rfl))) (fun _ _ _ _ _ => pts_nil) (fun _ _ _ _ _ => (pc c_turned hr (Nat.le_refl _) rfl (pa_cons (pv 2) pa_nil)))) pa_nil)) pa_nil))))) pss_nil)
      (C8.pss_cut (ps_if (pt_cmpR op_eq (pv 1) pe_str (nomark _)) (pss_one (ps_ret (pe_tup (pa_cons pe_str (pa_cons (pe_callTy call_tuple_of (by rfl) T.b_tuple (by decide +kernel) (pa_cons (pe_lc (own := [("part", 2)]) (g := gName 2) (tt := tYes) rfl scturned.nd (pi_tup (pe_ix ix_tup (pv 0) pe_int (fun _ _ => rfl))) (blkOk_by (N := ["pattern", "tag", "part"]) (sc := defScope (topS 29)) (by decide +kernel)) (fun _ _ _ _ _ => (pg_name (i := 2) scturned.nd rfl (Or.inl rfl))) (fun _ _ _ _ _ => pts_nil) (fun _ _ _ _ _ => (pc c_turned hr (Nat.le_refl _) rfl (pa_cons (pv 2) pa_nil)))) pa_nil)) pa_nil))))) pss_nil)
      (C8.pss_cut (ps_if (pt_cmpR op_eq (pv 1) pe_str (nomark _)) (pss_one (ps_ret (pe_tup (pa_cons pe_str (pa_cons (pc c_turned hr (Nat.le_refl _) rfl (pa_cons (pe_ix ix_tup (pv 0) pe_int (fun _ _ => rfl)) pa_nil)) (pa_cons (pe_ix ix_tup (pv 0) pe_int (fun _ _ => rfl)) (pa_cons (pe_ix ix_tup (pv 0) pe_int (fun _ _ => rfl)) pa_nil))))))) pss_nil)
      (pss_one (ps_ret (pv 0)))))))), ?_⟩
  obtain ⟨spR, hspR⟩ : ∃ spR : Sp, spR = sp_tu K d := ⟨_, rfl⟩
  rw [← hspR]
  obtain ⟨pa, xs, ds, rfl, hx, hds, hxs⟩ := hp.at
  have lc : ∀ (H0 : Hp) (pb : Addr) (ys : List V) (qs : List Pat) (v2 : Option V) (Q' : VK), SqT K H0 pb ys → DpAll K H0 ys (patDs qs) → WfL qs → SmL qs → dLs qs < d → qs.length ≤ 1000 →
      (∀ H' r us, Same H0 H' → H' r = some (.lst us) → DpAll K H' us (patDs (tuL qs)) → Q' (.ref r) H') →
      LcJ (Itt K pb) (gName 2) tYes (tCall spR [] E0 (tCons (tVar 2) tNil)) [2] [some (.ref pa), some (.str (S (tagOf p))), v2] H0 Q' := by
    intro H0 pb ys qs v2 Q' hy2 hys hw hm hd2 hl q'
    refine lcT fun Da nD => ?_
    have sD := same_upd (o := .lst []) nD
    have yl : ys.length = qs.length := by rw [hys.len, patDs_len]
    obtain ⟨Pv, hPv⟩ : ∃ Pv : Nat → Hp → Prop, ∀ i H', Pv i H' ↔ ∃ us, Same H0 H' ∧ H' Da = some (.lst us) ∧ DpAll K H' us (patDs (tuL (qs.take i))) ∧ us.length = i := ⟨_, fun _ _ => Iff.rfl⟩
    refine ⟨ys, Pv, (hPv _ _).mpr ⟨[], sD, upd_same, by rw [List.take_zero, tuL, patDs]; exact .nil, rfl⟩, fun i H' _ g => ?_, fun i y H' hy3 g => ?_, fun H' g => ?_⟩
    · obtain ⟨_, s, _⟩ := (hPv _ _).mp g
      exact sqT_same s hy2
    · obtain ⟨us, s, e, du, ul⟩ := (hPv _ _).mp g
      obtain ⟨dy, edy, ky⟩ := hys.at hy3
      rw [patDs_get] at edy
      obtain ⟨pi, epi, rfl⟩ := Option.map_eq_some_iff.mp edy
      have g1 := d_get epi
      have il : i < ys.length := (List.getElem?_eq_some_iff.mp hy3).1
      simp only [tSeq, tAsg, tCB, tCons, tVar, tNil, gName, tRet, tRetN, tDrop, tNext, tIfS, tTest, tB, tOr, tAnd, tNot, tIf, tOrV, tAndV, tNotV, tChain, rI0, rI, rU, tUn, tC, tOp, rNe, rEq, tCall, tPart, tNoPart, tSl, tM0, tM1, tTup, tLst, tAug, gTup, gCons, gNil, rAdd, rSub, tNever, tBreak, tCont, L2.start, scSS, scII, scBB, ipI, sS, dS, d1, mkS, sL, nc1, nc2, Int.natCast_inj, List.map_cons, List.map_nil, List.length_cons, List.length_nil, List.replicate, List.cons_append, List.nil_append, List.append_nil, List.getElem?_cons_zero, List.getElem?_cons_succ, List.set_cons_zero, List.set_cons_succ, Option.some.injEq, V.str.injEq, V.int.injEq, V.bl.injEq, V.ref.injEq, List.cons.injEq, and_true, true_and, exists_eq_left', exists_eq_left, exists_eq, exists_eq', exists_and_left, exists_and_right, and_assoc, exists_const, reduceCtorEq, if_true, if_false, ite_true, ite_false, Bool.false_eq_true, decide_true, decide_false, Bool.not_true, Bool.not_false, cxK, wipe]
      rw [hspR]
      refine ⟨y, pi, rfl, ⟨dp_same s _ _ ky, WfL_get hw epi, SmL_get hm epi⟩, by omega, fun H2 v' s2 pt => ⟨us, s2 _ _ e, sz5 (by omega), (hPv _ _).mpr ⟨us ++ [v'], same_mut (s.trans s2) nD, upd_same, ?_, by rw [List.length_append, ul]; rfl⟩⟩⟩
      have fx : Fr [Da] H2 (upd H2 Da (.lst (us ++ [v']))) := Fr.refl.upd (.inl (.head _)) (s2 _ _ e) rfl
      rw [tuL_at epi, patDs_app]
      exact (dp_frAll fx _ _ (noL_pats _) (dp_sameAll s2 _ _ du)).app (.cons (dp_fr fx _ _ (noL_pat _) pt.dp) .nil)
    · obtain ⟨us, s, e, du, ul⟩ := (hPv _ _).mp g
      rw [yl, List.take_length] at du
      exact q' _ _ _ s e du
  have tb := tuB p rfl
  obtain ⟨M0, hM0⟩ : ∃ M : L2.St → Hp → Prop, ∀ σ' H', M σ' H' ↔ ∃ v2, σ' = [some (.ref pa), some (.str (S (tagOf p))), v2] ∧ Same H H' := ⟨_, fun _ _ => Iff.rfl⟩
  refine ⟨M0, ?_, fun σ1 H1 g1 => ?_⟩
  · simp only [tSeq, tAsg, tCB, tCons, tVar, tNil, gName, tRet, tRetN, tDrop, tNext, tIfS, tTest, tB, tOr, tAnd, tNot, tIf, tOrV, tAndV, tNotV, tChain, rI0, rI, rU, tUn, tC, tOp, rNe, rEq, tCall, tPart, tNoPart, tSl, tM0, tM1, tTup, tLst, tAug, gTup, gCons, gNil, rAdd, rSub, tNever, tBreak, tCont, L2.start, scSS, scII, scBB, ipI, sS, dS, d1, mkS, sL, nc1, nc2, Int.natCast_inj, List.map_cons, List.map_nil, List.length_cons, List.length_nil, List.replicate, List.cons_append, List.nil_append, List.append_nil, List.getElem?_cons_zero, List.getElem?_cons_succ, List.set_cons_zero, List.set_cons_succ, Option.some.injEq, V.str.injEq, V.int.injEq, V.bl.injEq, V.ref.injEq, List.cons.injEq, and_true, true_and, exists_eq_left', exists_eq_left, exists_eq, exists_eq', exists_and_left, exists_and_right, and_assoc, exists_const, reduceCtorEq, if_true, if_false, ite_true, ite_false, Bool.false_eq_true, decide_true, decide_false, Bool.not_true, Bool.not_false, cxK, rIxT, l_16, l_21, l_22]
    exact ⟨_, hx, _, atI_nat (j := 0) rfl, (hM0 _ _).mpr ⟨_, rfl, Same.refl _⟩⟩
  refine ⟨fun σ' H' => M0 σ' H' ∧ tagOf p ≠ [98, 101, 103, 105, 110] ∧ tagOf p ≠ [101, 110, 100], ?_, fun σ1 H1 g1 => ?_⟩
  · obtain ⟨v2, rfl, s⟩ := (hM0 _ _).mp g1
    simp only [tSeq, tAsg, tCB, tCons, tVar, tNil, gName, tRet, tRetN, tDrop, tNext, tIfS, tTest, tB, tOr, tAnd, tNot, tIf, tOrV, tAndV, tNotV, tChain, rI0, rI, rU, tUn, tC, tOp, rNe, rEq, tCall, tPart, tNoPart, tSl, tM0, tM1, tTup, tLst, tAug, gTup, gCons, gNil, rAdd, rSub, tNever, tBreak, tCont, L2.start, scSS, scII, scBB, ipI, sS, dS, d1, mkS, sL, nc1, nc2, Int.natCast_inj, List.map_cons, List.map_nil, List.length_cons, List.length_nil, List.replicate, List.cons_append, List.nil_append, List.append_nil, List.getElem?_cons_zero, List.getElem?_cons_succ, List.set_cons_zero, List.set_cons_succ, Option.some.injEq, V.str.injEq, V.int.injEq, V.bl.injEq, V.ref.injEq, List.cons.injEq, and_true, true_and, exists_eq_left', exists_eq_left, exists_eq, exists_eq', exists_and_left, exists_and_right, and_assoc, exists_const, reduceCtorEq, if_true, if_false, ite_true, ite_false, Bool.false_eq_true, decide_true, decide_false, Bool.not_true, Bool.not_false, cxK, rInTb, rItTb, l_16, l_21, l_22]
    by_cases z1 : tagOf p = [98, 101, 103, 105, 110]
    · have : p = .bg := by cases p <;> first | rfl | (revert z1; simp [tagOf])
      subst this
      rw [if_pos (by rfl)]
      refine ⟨_, rfl, q _ _ s ⟨?_, by simp [Pat.tu, Pat.Wf], by simp [Pat.tu, Pat.Sm]⟩⟩
      rw [show (Pat.bg).tu = .en by simp [Pat.tu], patD]
      exact .tup (x_t1 _) (.cons (.str _) .nil)
    by_cases z2 : tagOf p = [101, 110, 100]
    · have : p = .en := by cases p <;> first | rfl | (revert z2; simp [tagOf])
      subst this
      rw [if_pos (by rfl)]
      refine ⟨_, rfl, q _ _ s ⟨?_, by simp [Pat.tu, Pat.Wf], by simp [Pat.tu, Pat.Sm]⟩⟩
      rw [show (Pat.en).tu = .bg by simp [Pat.tu], patD]
      exact .tup (x_t2 _) (.cons (.str _) .nil)
    have nn : (List.lookup (S (tagOf p)) (turnT t1 t2)).isSome = false := by
      cases p <;> first | rfl | exact absurd rfl z1 | exact absurd rfl z2
    rw [if_neg (by rw [nn]; decide)]
    exact ⟨g1, z1, z2⟩
  obtain ⟨g1, t1', t2'⟩ := g1
  refine ⟨fun σ' H' => M0 σ' H' ∧ tagOf p ≠ [114, 111, 119], ?_, fun σ1 H1 g1 => ?_⟩
  · obtain ⟨v2, rfl, s⟩ := (hM0 _ _).mp g1
    simp only [tSeq, tAsg, tCB, tCons, tVar, tNil, gName, tRet, tRetN, tDrop, tNext, tIfS, tTest, tB, tOr, tAnd, tNot, tIf, tOrV, tAndV, tNotV, tChain, rI0, rI, rU, tUn, tC, tOp, rNe, rEq, tCall, tPart, tNoPart, tSl, tM0, tM1, tTup, tLst, tAug, gTup, gCons, gNil, rAdd, rSub, tNever, tBreak, tCont, L2.start, scSS, scII, scBB, ipI, sS, dS, d1, mkS, sL, nc1, nc2, Int.natCast_inj, List.map_cons, List.map_nil, List.length_cons, List.length_nil, List.replicate, List.cons_append, List.nil_append, List.append_nil, List.getElem?_cons_zero, List.getElem?_cons_succ, List.set_cons_zero, List.set_cons_succ, Option.some.injEq, V.str.injEq, V.int.injEq, V.bl.injEq, V.ref.injEq, List.cons.injEq, and_true, true_and, exists_eq_left', exists_eq_left, exists_eq, exists_eq', exists_and_left, exists_and_right, and_assoc, exists_const, reduceCtorEq, if_true, if_false, ite_true, ite_false, Bool.false_eq_true, decide_true, decide_false, Bool.not_true, Bool.not_false, cxK, rIxT, tRevT, eLcT, l_16, l_21, l_22]
    by_cases ht : tagOf p = [114, 111, 119]
    · rw [if_pos (decide_eq_true ht)]
      obtain ⟨qs, rfl⟩ : ∃ qs, p = .row qs := by cases p <;> first | exact ⟨_, rfl⟩ | (revert ht; simp [tagOf])
      have hw := hp.wf
      have hsm := hp.sm
      rw [Pat.Wf] at hw
      rw [Pat.Sm] at hsm
      rw [Pat.d] at hd
      rw [patD] at hds
      cases hds
      obtain ⟨x1, xq1, rfl, hx3, hxq1⟩ := hxs.c1
      cases hxq1
      obtain ⟨pb, ys, rfl, hy2, hys⟩ := hx3.tupI
      have hx1 := sqT_same s hx
      have hy1 := sqT_same s hy2
      refine ⟨_, hx1, _, atI_nat (j := 1) rfl, _, rfl, ys, hy1, fun pr npr => ?_⟩
      have s1 := same_upd (o := .tup ys.reverse) npr
      refine ⟨⟨_, SqT.of upd_same⟩, lc _ pr ys.reverse qs.reverse v2 _ (SqT.of upd_same) ?_ (WfL_rev hw) (SmL_rev hsm.1) (by rw [dLs_rev]; omega) (by rw [List.length_reverse]; exact hsm.2) fun H2 r us s2 e2 du => ⟨_, rfl, us, .inl ⟨SqL.of e2, fun l nl => ⟨by decide, fun p2 n2 => ?_⟩⟩⟩⟩
      · have := dpa_rev (dp_sameAll (s.trans s1) _ _ hys)
        rw [patDs_map, ← List.map_reverse, ← patDs_map] at this
        exact this
      have du : DpAll K H2 us (patDs (tuL qs).reverse) := by rw [tuL_map, ← List.map_reverse, ← tuL_map]; exact du
      have s3 := same_upd (o := .tup us) nl
      have s4 := same_upd (o := .tup [V.str (S [114, 111, 119]), V.ref l]) n2
      refine q _ _ ((((s.trans s1).trans s2).trans s3).trans s4) ⟨?_, tb.wf hp.wf, tb.sm hp.sm⟩
      rw [show (Pat.row qs).tu = .row (tuL qs).reverse by rw [Pat.tu], patD]
      exact .tup (SqT.of upd_same) (.cons (.str _) (.cons (.tup (SqT.of (s4 _ _ upd_same)) (dp_sameAll (s3.trans s4) _ _ du)) .nil))
    · rw [if_neg (by rw [decide_eq_false ht]; decide)]
      exact ⟨g1, ht⟩
  obtain ⟨g1, t3⟩ := g1
  refine ⟨fun σ' H' => M0 σ' H' ∧ tagOf p ≠ [111, 114], ?_, fun σ1 H1 g1 => ?_⟩
  · obtain ⟨v2, rfl, s⟩ := (hM0 _ _).mp g1
    simp only [tSeq, tAsg, tCB, tCons, tVar, tNil, gName, tRet, tRetN, tDrop, tNext, tIfS, tTest, tB, tOr, tAnd, tNot, tIf, tOrV, tAndV, tNotV, tChain, rI0, rI, rU, tUn, tC, tOp, rNe, rEq, tCall, tPart, tNoPart, tSl, tM0, tM1, tTup, tLst, tAug, gTup, gCons, gNil, rAdd, rSub, tNever, tBreak, tCont, L2.start, scSS, scII, scBB, ipI, sS, dS, d1, mkS, sL, nc1, nc2, Int.natCast_inj, List.map_cons, List.map_nil, List.length_cons, List.length_nil, List.replicate, List.cons_append, List.nil_append, List.append_nil, List.getElem?_cons_zero, List.getElem?_cons_succ, List.set_cons_zero, List.set_cons_succ, Option.some.injEq, V.str.injEq, V.int.injEq, V.bl.injEq, V.ref.injEq, List.cons.injEq, and_true, true_and, exists_eq_left', exists_eq_left, exists_eq, exists_eq', exists_and_left, exists_and_right, and_assoc, exists_const, reduceCtorEq, if_true, if_false, ite_true, ite_false, Bool.false_eq_true, decide_true, decide_false, Bool.not_true, Bool.not_false, cxK, rIxT, eLcT, l_16, l_21, l_22]
    by_cases ht : tagOf p = [111, 114]
    · rw [if_pos (decide_eq_true ht)]
      obtain ⟨qs, rfl⟩ : ∃ qs, p = .alt qs := by cases p <;> first | exact ⟨_, rfl⟩ | (revert ht; simp [tagOf])
      have hw := hp.wf
      have hsm := hp.sm
      rw [Pat.Wf] at hw
      rw [Pat.Sm] at hsm
      rw [Pat.d] at hd
      rw [patD] at hds
      cases hds
      obtain ⟨x1, xq1, rfl, hx3, hxq1⟩ := hxs.c1
      cases hxq1
      obtain ⟨pb, ys, rfl, hy2, hys⟩ := hx3.tupI
      have hx1 := sqT_same s hx
      have hy1 := sqT_same s hy2
      refine ⟨_, hx1, _, atI_nat (j := 1) rfl, _, rfl, ⟨_, hy1⟩, lc _ pb ys qs v2 _ hy1 (dp_sameAll s _ _ hys) hw hsm.1 (by omega) hsm.2 fun H2 r us s2 e2 du => ⟨_, rfl, us, .inl ⟨SqL.of e2, fun l nl => ⟨by decide, fun p2 n2 => ?_⟩⟩⟩⟩
      have s3 := same_upd (o := .tup us) nl
      have s4 := same_upd (o := .tup [V.str (S [111, 114]), V.ref l]) n2
      refine q _ _ (((s.trans s2).trans s3).trans s4) ⟨?_, tb.wf hp.wf, tb.sm hp.sm⟩
      rw [show (Pat.alt qs).tu = .alt (tuL qs) by rw [Pat.tu], patD]
      exact .tup (SqT.of upd_same) (.cons (.str _) (.cons (.tup (SqT.of (s4 _ _ upd_same)) (dp_sameAll (s3.trans s4) _ _ du)) .nil))
    · rw [if_neg (by rw [decide_eq_false ht]; decide)]
      exact ⟨g1, ht⟩
  obtain ⟨g1, t4⟩ := g1
  refine ⟨fun σ' H' => M0 σ' H' ∧ tagOf p ≠ [114, 101, 112, 101, 97, 116], ?_, fun σ1 H1 g1 => ?_⟩
  · obtain ⟨v2, rfl, s⟩ := (hM0 _ _).mp g1
    simp only [tSeq, tAsg, tCB, tCons, tVar, tNil, gName, tRet, tRetN, tDrop, tNext, tIfS, tTest, tB, tOr, tAnd, tNot, tIf, tOrV, tAndV, tNotV, tChain, rI0, rI, rU, tUn, tC, tOp, rNe, rEq, tCall, tPart, tNoPart, tSl, tM0, tM1, tTup, tLst, tAug, gTup, gCons, gNil, rAdd, rSub, tNever, tBreak, tCont, L2.start, scSS, scII, scBB, ipI, sS, dS, d1, mkS, sL, nc1, nc2, Int.natCast_inj, List.map_cons, List.map_nil, List.length_cons, List.length_nil, List.replicate, List.cons_append, List.nil_append, List.append_nil, List.getElem?_cons_zero, List.getElem?_cons_succ, List.set_cons_zero, List.set_cons_succ, Option.some.injEq, V.str.injEq, V.int.injEq, V.bl.injEq, V.ref.injEq, List.cons.injEq, and_true, true_and, exists_eq_left', exists_eq_left, exists_eq, exists_eq', exists_and_left, exists_and_right, and_assoc, exists_const, reduceCtorEq, if_true, if_false, ite_true, ite_false, Bool.false_eq_true, decide_true, decide_false, Bool.not_true, Bool.not_false, cxK, rIxT, l_16, l_21, l_22]
    by_cases ht : tagOf p = [114, 101, 112, 101, 97, 116]
    · rw [if_pos (decide_eq_true ht)]
      obtain ⟨p0, l, m, rfl⟩ : ∃ p0 l m, p = .rep p0 l m := by
        cases p <;> first | exact ⟨_, _, _, rfl⟩ | (revert ht; simp [tagOf])
      have hw := hp.wf
      have hsm := hp.sm
      rw [Pat.Wf] at hw
      rw [Pat.Sm] at hsm
      rw [Pat.d] at hd
      rw [patD] at hds
      cases hds
      obtain ⟨x1, xq1, rfl, hx3, hxq1⟩ := hxs.c1
      obtain ⟨x2, xq2, rfl, hx4, hxq2⟩ := hxq1.c1
      obtain ⟨x3, xq3, rfl, hx5, hxq3⟩ := hxq2.c1
      cases hxq3
      have hx1 := sqT_same s hx
      refine ⟨_, hx1, _, atI_nat (j := 1) rfl, ?_⟩
      rw [hspR]
      refine ⟨x1, p0, rfl, ⟨dp_same s _ _ hx3, hw.1, hsm.1⟩, by omega, fun H2 v' s2 pt => ⟨_, sqT_same s2 hx1, _, atI_nat (j := 2) rfl, _, sqT_same s2 hx1, _, atI_nat (j := 3) rfl, by decide, fun p2 n2 => ?_⟩⟩
      have s4 := same_upd (o := .tup [V.str (S [114, 101, 112, 101, 97, 116]), v', x2, x3]) n2
      have sA := (s.trans s2).trans s4
      refine q _ _ sA ⟨?_, tb.wf hp.wf, tb.sm hp.sm⟩
      rw [show (Pat.rep p0 l m).tu = .rep p0.tu l m by rw [Pat.tu], patD]
      exact .tup (SqT.of upd_same) (.cons (.str _) (.cons (dp_same s4 _ _ pt.dp) (.cons (dp_same sA _ _ hx4) (.cons (dp_same sA _ _ hx5) .nil))))
    · rw [if_neg (by rw [decide_eq_false ht]; decide)]
      exact ⟨g1, ht⟩
  obtain ⟨g1, t5⟩ := g1
  obtain ⟨v2, rfl, s⟩ := (hM0 _ _).mp g1
  simp only [tSeq, tAsg, tCB, tCons, tVar, tNil, gName, tRet, tRetN, tDrop, tNext, tIfS, tTest, tB, tOr, tAnd, tNot, tIf, tOrV, tAndV, tNotV, tChain, rI0, rI, rU, tUn, tC, tOp, rNe, rEq, tCall, tPart, tNoPart, tSl, tM0, tM1, tTup, tLst, tAug, gTup, gCons, gNil, rAdd, rSub, tNever, tBreak, tCont, L2.start, scSS, scII, scBB, ipI, sS, dS, d1, mkS, sL, nc1, nc2, Int.natCast_inj, List.map_cons, List.map_nil, List.length_cons, List.length_nil, List.replicate, List.cons_append, List.nil_append, List.append_nil, List.getElem?_cons_zero, List.getElem?_cons_succ, List.set_cons_zero, List.set_cons_succ, Option.some.injEq, V.str.injEq, V.int.injEq, V.bl.injEq, V.ref.injEq, List.cons.injEq, and_true, true_and, exists_eq_left', exists_eq_left, exists_eq, exists_eq', exists_and_left, exists_and_right, and_assoc, exists_const, reduceCtorEq, if_true, if_false, ite_true, ite_false, Bool.false_eq_true, decide_true, decide_false, Bool.not_true, Bool.not_false, cxK]
  have ew : p.tu = p := by
    cases p <;> first | rfl | exact absurd rfl t1' | exact absurd rfl t2' | exact absurd rfl t3 | exact absurd rfl t4 | exact absurd rfl t5
  exact q _ _ s (by rw [ew]; exact hp.same s)
theorem tu_base (D : Dfn K mg "turned" (topS 29) ["pattern"]) : Cal P w K mg base 1 "turned" (sp_tu K 0) := by
  refine cal_of D scturned (fun vs H Q E h => ?_) (fun f cdv A outer s H vs Q E hr h => ?_)
  · obtain ⟨v, p, rfl, _⟩ := h
    rfl
  obtain ⟨v, p, _, _, hd, _⟩ := h
  omega
theorem ok_turned (T : BiA mg) {dT t1 t2 : Addr} (t_TURNED : Tbl K w mg "TURNED" dT (turnT t1 t2)) (x_t1 : ∀ H, SqT K H t1 [.str (S [101, 110, 100])]) (x_t2 : ∀ H, SqT K H t2 [.str (S [98, 101, 103, 105, 110])]) (D : Dfn K mg "turned" (topS 29) ["pattern"]) : ∀ d, Cal P w K mg base (d + 1) "turned" (sp_tu K d)
  | 0 => tu_base D
  | d + 1 => ok_tu1 T t_TURNED x_t1 x_t2 d (d + 1) (ok_turned T t_TURNED x_t1 x_t2 D d) D
end
end Pd

namespace Pd
open PySem PySem.Spec PyProof.Rows L2
open SX (S)
theorem cts_len {m : Mac} {t : List Nat} : ∀ {st : Option (Nat × Nat)} {l : List (Nat × Nat)} {b : Nat}, Fin m t false b st → Cts m t st l → l.length ≤ t.length - b
  | _, _, b, f, .nil => Nat.zero_le _
  | _, _, b, f, .cons g c => by
    obtain ⟨h1, h2, _⟩ := f.som _ rfl
    have := Mac.Mat_lt h2
    have := cts_len g c
    rw [List.length_cons]
    omega
theorem strL_len {nu n : Nat} : ∀ (l : List (Nat × Nat)) (f : Nat), (∀ z ∈ l, z.1 < z.2 ∧ z.2 ≤ n) → (strL nu n f l).length ≤ (n + 2) * (l.length + 1)
  | [], f, _ => by
    rw [strL]
    have := emL_len (nu := nu) (n := n) (a := f) (b := n + 1)
    rw [List.length_nil]
    omega
  | z :: l, f, h => by
    rw [strL, List.length_append, List.length_cons, List.length_cons]
    have h1 := emL_len (nu := nu) (n := n) (a := f) (b := z.1)
    have h2 := strL_len l (z.2 + 1) (nu := nu) fun y hy => h y (.tail _ hy)
    have h3 := h z (.head _)
    have h4 : (n + 2) * (l.length + 1 + 1) = (n + 2) * (l.length + 1) + (n + 2) := Nat.mul_succ _ _
    omega
theorem cuts_len {R : Rl} {t : List Nat} {l : List (Nat × Nat)} (h : CutsOf R t l) (ht : t.length ≤ 40) : l.length ≤ 40 := by
  obtain ⟨m, st, o, f, c⟩ := h
  have := cts_len f c
  omega
theorem strs_len {R : Rl} {t : List Nat} {l : List (Nat × Nat)} (h : StrsOf R t l) (ht : t.length ≤ 40) : l.length ≤ 5000 := by
  obtain ⟨m, st, l0, o, f, c, rfl⟩ := h
  have h1 := cts_len f c
  have h2 := strL_len (nu := m.nu) l0 0 (c.in_ f)
  have h3 : (t.length + 2) * (l0.length + 1) ≤ 42 * 41 := Nat.mul_le_mul (by omega) (by omega)
  omega
def prD (z : Nat × Nat) : PyData := .tuple [.int (z.1 : Nat), .int (z.2 : Nat)]
theorem pr_dp {K : PySem.W.Frag} {H : Hp} {a : Addr} {z : Nat × Nat} (h : Rd H a (.tup [.int (z.1 : Nat), .int (z.2 : Nat)])) : Dp K H (.ref a) (prD z) := .tup (.inl h) (.cons (.int _) (.cons (.int _) .nil))
theorem dpa_mk {K : PySem.W.Frag} {H : Hp} : ∀ {vs : List V} {ds : List PyData}, vs.length = ds.length → (∀ (i : Nat) (v : V) (d : PyData), vs[i]? = some v → ds[i]? = some d → Dp K H v d) → DpAll K H vs ds
  | [], [], _, _ => .nil
  | [], _ :: _, h, _ => by cases h
  | _ :: _, [], h, _ => by cases h
  | v :: vs, d :: ds, h, k => .cons (k 0 v d rfl rfl) (dpa_mk (Nat.succ.inj h) fun i v d h1 h2 => k (i + 1) v d h1 h2)
theorem tha_dp {K : PySem.W.Frag} {H : Hp} {r : Addr} {vs : List V} {l : List (Nat × Nat)} (e : H r = some (.lst vs)) (h : ThA H vs l) : Dp K H (.ref r) (.list (l.map prD)) := by
  refine .lst (SqL.of e) (dpa_mk (by rw [h.len, List.length_map]) fun i v d h1 h2 => ?_)
  rw [List.getElem?_map] at h2
  obtain ⟨z, hz, rfl⟩ := Option.map_eq_some_iff.mp h2
  obtain ⟨a, h3, h4⟩ := h.at_ i z hz
  rw [h3] at h1
  cases h1
  exact pr_dp h4
theorem pr_sh {n : Nat} (z : Nat × Nat) : Sh (n + 1) (prD z) := .tup (by simp) fun x hx => by
  simp only [List.mem_cons, List.not_mem_nil, or_false] at hx
  rcases hx with rfl | rfl <;> exact .int
theorem tha_sh {n : Nat} {l : List (Nat × Nat)} (h : l.length ≤ 100000) : Sh (n + 2) (.list (l.map prD)) := .lst (by rw [List.length_map]; exact h) fun x hx => by
  obtain ⟨z, _, rfl⟩ := List.mem_map.mp hx
  exact pr_sh z
def foD : Option (Nat × Nat) → PyData
  | none => .none
  | some z => prD z
theorem fo_dp {K : PySem.W.Frag} {H : Hp} {v : V} {r : Option (Nat × Nat)} (h : StV H v r) : Dp K H v (foD r) := by
  cases r with
  | none => cases h; exact .non
  | some z => obtain ⟨a, rfl, h⟩ := h; exact pr_dp h
theorem fo_sh (r : Option (Nat × Nat)) : Sh 2 (foD r) := by
  cases r with
  | none => exact .non
  | some z => exact pr_sh z
theorem opt_sh (r : Option Nat) : Sh 2 (optN r) := by
  cases r with
  | none => exact .non
  | some z => exact .int
section
variable {P : Program} {w : World} {K : PySem.W.Frag} {mg : Str → Option Value} {base : Heap}
def sp_alike (K : PySem.W.Frag) : Sp := fun vs H Q _ => ∃ (v u : V) (p q' : Pat) (t : List Nat) (a : Addr) (ns : List Nat), vs = [v, u, .str (S t), .ref a] ∧ Ask K H v p t ∧ Ask K H u q' t ∧ (∀ t, M t p = M t q') ∧ H a = some (.lst (iL ns)) ∧ (∀ n ∈ ns, n ≤ t.length) ∧ ∀ H', Same H H' → Q (.bl true) H'
theorem sclaw_alike_right : FnScope ["_law_one", "_law_other", "_law_text_here", "_law_starts", "_law_start"] ["_law_one", "_law_other", "_law_text_here", "_law_starts"] (defScope (topS 43)) := ⟨rfl, rfl, rfl, by decide +kernel, rfl, by decide +kernel, by decide +kernel⟩
theorem ok_alike (T : BiA mg) (c_stretches : Cal P w K mg base 32 "stretches" (sp_stretches K)) (c_cuts : Cal P w K mg base 32 "cuts" (sp_cuts K)) (c_longest : Cal P w K mg base 32 "longest" (sp_longest K)) (c_found : Cal P w K mg base 32 "found" (sp_found K)) (kp_found : KP K mg "found" 2 ["start"] ["pattern", "text", "start"]) (c_law_same : Cal P w K mg base 4 "_law_same" (sp_sameN K 3)) (D : Dfn K mg "_law_alike_right" (topS 43) ["_law_one", "_law_other", "_law_text_here", "_law_starts"]) : Cal P w K mg base 33 "_law_alike_right" (sp_alike K) := by
  refine cal_of D sclaw_alike_right (fun vs H Q E h => ?_) (fun f cdv A outer s H vs Q E hr h => ?_)
  · obtain ⟨v, u, p, q', t, a, ns, rfl, _⟩ := h
    rfl
  obtain ⟨v, u, p, q', t, a, ns, rfl, A1, A2, me, ha, hn, q⟩ := h
  refine ⟨_, (C8.pss_cut (ps_if (pt_not (pt_val (pc c_law_same hr (by decide) rfl (pa_cons (pc c_stretches hr (by decide) rfl (pa_cons (pv 0) (pa_cons (pv 2) pa_nil))) (pa_cons (pc c_stretches hr (by decide) rfl (pa_cons (pv 1) (pa_cons (pv 2) pa_nil))) pa_nil))))) (pss_one (ps_ret pe_bl)) pss_nil)
      (C8.pss_cut (ps_if (pt_not (pt_val (pc c_law_same hr (by decide) rfl (pa_cons (pc c_cuts hr (by decide) rfl (pa_cons (pv 1) (pa_cons (pv 2) pa_nil))) (pa_cons (pc c_cuts hr (by decide) rfl (pa_cons (pv 0) (pa_cons (pv 2) pa_nil))) pa_nil))))) (pss_one (ps_ret pe_bl)) pss_nil)
      (C8.pss_cut (ps_for PassesOwn.never rfl (pi_list (pv 3)) (pg_name (i := 4) sclaw_alike_right.nd rfl (Or.inl rfl)) (pss_cons (ps_if (pt_not (pt_val (pc c_law_same hr (by decide) rfl (pa_cons (pc c_longest hr (by decide) rfl (pa_cons (pv 0) (pa_cons (pv 2) (pa_cons (pv 4) pa_nil)))) (pa_cons (pc c_longest hr (by decide) rfl (pa_cons (pv 1) (pa_cons (pv 2) (pa_cons (pv 4) pa_nil)))) pa_nil))))) (pss_one (ps_ret pe_bl)) pss_nil)
      (pss_one (ps_if (pt_not (pt_val (pc c_law_same hr (by decide) rfl (pa_cons (pc c_found hr (by decide) rfl (pa_cons (pv 1) (pa_cons (pv 2) (pa_cons (pv 4) pa_nil)))) (pa_cons (pkP c_found kp_found hr (by decide) rfl (pa_cons (pv 0) (pa_cons (pv 2) pa_nil)) (pk_cons (pv 4) pk_nil)) pa_nil))))) (pss_one (ps_ret pe_bl)) pss_nil))))
      (pss_one (ps_ret pe_bl))))), ?_⟩
  have sm : ∀ (H' : Hp) (x y : V) (d : PyData) (Q' : VK), Dp K H' x d → Dp K H' y d → Sh 2 d → (∀ H2, Same H' H2 → Q' (.bl true) H2) → sp_sameN K 3 [x, y] H' Q' E0 := fun H' x y d Q' h1 h2 h3 q' => ⟨2, by omega, x, y, d, rfl, h1, h2, h3, q'⟩
  have al : Alike t.length (M t p) (M t q') := fun s e _ _ => by rw [me]
  have ask : ∀ {v p H'}, Ask K H v p t → Same H H' → Ask K H' v p t := fun A s => ⟨A.pt.same s, A.d, A.n, A.ts, A.tl⟩
  obtain ⟨M0, hM0⟩ : ∃ M : L2.St → Hp → Prop, ∀ σ' H', M σ' H' ↔ ∃ v4, σ' = [some v, some u, some (.str (S t)), some (.ref a), v4] ∧ Same H H' := ⟨_, fun _ _ => Iff.rfl⟩
  refine ⟨M0, ?_, fun σ1 H1 g1 => ?_⟩
  · simp only [tSeq, tAsg, tCB, tCons, tVar, tNil, gName, tRet, tRetN, tDrop, tNext, tIfS, tTest, tB, tOr, tAnd, tNot, tIf, tOrV, tAndV, tNotV, tChain, rI0, rI, rU, tUn, tC, tOp, rNe, rEq, tCall, tPart, tNoPart, tSl, tM0, tM1, tTup, tLst, tAug, gTup, gCons, gNil, rAdd, rSub, tNever, tBreak, tCont, L2.start, scSS, scII, scBB, ipI, sS, dS, d1, mkS, sL, nc1, nc2, Int.natCast_inj, List.map_cons, List.map_nil, List.length_cons, List.length_nil, List.replicate, List.cons_append, List.nil_append, List.append_nil, List.getElem?_cons_zero, List.getElem?_cons_succ, List.set_cons_zero, List.set_cons_succ, Option.some.injEq, V.str.injEq, V.int.injEq, V.bl.injEq, V.ref.injEq, List.cons.injEq, and_true, true_and, exists_eq_left', exists_eq_left, exists_eq, exists_eq', exists_and_left, exists_and_right, and_assoc, exists_const, reduceCtorEq, if_true, if_false, ite_true, ite_false, Bool.false_eq_true, decide_true, decide_false, Bool.not_true, Bool.not_false, cxK, sp_stretches, ]
    refine ⟨p, A1, fun H2 r1 lv1 l1 s1 n1 e1 th1 so1 => ⟨q', ask A2 s1, fun H3 r2 lv2 l2 s2 n2 e2 th2 so2 => ?_⟩⟩
    have := so1.uniq so2 al
    subst this
    refine sm H3 _ _ _ _ (tha_dp (s2 _ _ e1) (th1.fr (Fr.of (A := []) s2))) (tha_dp e2 th2) (tha_sh (by have := strs_len so1 A1.tl; omega)) fun H4 s4 => ⟨true, rfl, ?_⟩
    rw [if_neg (by decide)]
    exact (hM0 _ _).mpr ⟨_, rfl, (s1.trans s2).trans s4⟩
  obtain ⟨v4, rfl, s⟩ := (hM0 _ _).mp g1
  refine ⟨M0, ?_, fun σ2 H2 g2 => ?_⟩
  · simp only [tSeq, tAsg, tCB, tCons, tVar, tNil, gName, tRet, tRetN, tDrop, tNext, tIfS, tTest, tB, tOr, tAnd, tNot, tIf, tOrV, tAndV, tNotV, tChain, rI0, rI, rU, tUn, tC, tOp, rNe, rEq, tCall, tPart, tNoPart, tSl, tM0, tM1, tTup, tLst, tAug, gTup, gCons, gNil, rAdd, rSub, tNever, tBreak, tCont, L2.start, scSS, scII, scBB, ipI, sS, dS, d1, mkS, sL, nc1, nc2, Int.natCast_inj, List.map_cons, List.map_nil, List.length_cons, List.length_nil, List.replicate, List.cons_append, List.nil_append, List.append_nil, List.getElem?_cons_zero, List.getElem?_cons_succ, List.set_cons_zero, List.set_cons_succ, Option.some.injEq, V.str.injEq, V.int.injEq, V.bl.injEq, V.ref.injEq, List.cons.injEq, and_true, true_and, exists_eq_left', exists_eq_left, exists_eq, exists_eq', exists_and_left, exists_and_right, and_assoc, exists_const, reduceCtorEq, if_true, if_false, ite_true, ite_false, Bool.false_eq_true, decide_true, decide_false, Bool.not_true, Bool.not_false, cxK, sp_cuts, ]
    refine ⟨q', ask A2 s, fun H2 r1 lv1 l1 s1 n1 e1 th1 so1 => ⟨p, ask A1 (s.trans s1), fun H3 r2 lv2 l2 s2 n2 e2 th2 so2 => ?_⟩⟩
    have := so2.uniq so1 al
    subst this
    refine sm H3 _ _ _ _ (tha_dp (s2 _ _ e1) (th1.fr (Fr.of (A := []) s2))) (tha_dp e2 th2) (tha_sh (by have := cuts_len so1 A1.tl; omega)) fun H4 s4 => ⟨true, rfl, ?_⟩
    rw [if_neg (by decide)]
    exact (hM0 _ _).mpr ⟨_, rfl, ((s.trans s1).trans s2).trans s4⟩
  obtain ⟨v4, rfl, s⟩ := (hM0 _ _).mp g2
  refine ⟨M0, ?_, fun σ3 H3 g3 => ?_⟩
  · simp only [tSeq, tAsg, tCB, tCons, tVar, tNil, gName, tRet, tRetN, tDrop, tNext, tIfS, tTest, tB, tOr, tAnd, tNot, tIf, tOrV, tAndV, tNotV, tChain, rI0, rI, rU, tUn, tC, tOp, rNe, rEq, tCall, tPart, tNoPart, tSl, tM0, tM1, tTup, tLst, tAug, gTup, gCons, gNil, rAdd, rSub, tNever, tBreak, tCont, L2.start, scSS, scII, scBB, ipI, sS, dS, d1, mkS, sL, nc1, nc2, Int.natCast_inj, List.map_cons, List.map_nil, List.length_cons, List.length_nil, List.replicate, List.cons_append, List.nil_append, List.append_nil, List.getElem?_cons_zero, List.getElem?_cons_succ, List.set_cons_zero, List.set_cons_succ, Option.some.injEq, V.str.injEq, V.int.injEq, V.bl.injEq, V.ref.injEq, List.cons.injEq, and_true, true_and, exists_eq_left', exists_eq_left, exists_eq, exists_eq', exists_and_left, exists_and_right, and_assoc, exists_const, reduceCtorEq, if_true, if_false, ite_true, ite_false, Bool.false_eq_true, decide_true, decide_false, Bool.not_true, Bool.not_false, cxK, eFoL, ]
    refine ⟨⟨_, SqL.of (s _ _ ha)⟩, foL (iL ns) (fun _ => M0) ((hM0 _ _).mpr ⟨_, rfl, s⟩) (fun i σ' H' _ g => ?_) (fun i x σ' H' hx g => ?_) (fun σ' H' g => g)⟩
    · obtain ⟨_, _, s2⟩ := (hM0 _ _).mp g
      exact SqL.of (s2 _ _ ha)
    · obtain ⟨_, rfl, s2⟩ := (hM0 _ _).mp g
      obtain ⟨z, hz, rfl⟩ := iL_at hx
      have zl := hn z (List.mem_of_getElem? hz)
      simp only [tSeq, tAsg, tCB, tCons, tVar, tNil, gName, tRet, tRetN, tDrop, tNext, tIfS, tTest, tB, tOr, tAnd, tNot, tIf, tOrV, tAndV, tNotV, tChain, rI0, rI, rU, tUn, tC, tOp, rNe, rEq, tCall, tPart, tNoPart, tSl, tM0, tM1, tTup, tLst, tAug, gTup, gCons, gNil, rAdd, rSub, tNever, tBreak, tCont, L2.start, scSS, scII, scBB, ipI, sS, dS, d1, mkS, sL, nc1, nc2, Int.natCast_inj, List.map_cons, List.map_nil, List.length_cons, List.length_nil, List.replicate, List.cons_append, List.nil_append, List.append_nil, List.getElem?_cons_zero, List.getElem?_cons_succ, List.set_cons_zero, List.set_cons_succ, Option.some.injEq, V.str.injEq, V.int.injEq, V.bl.injEq, V.ref.injEq, List.cons.injEq, and_true, true_and, exists_eq_left', exists_eq_left, exists_eq, exists_eq', exists_and_left, exists_and_right, and_assoc, exists_const, reduceCtorEq, if_true, if_false, ite_true, ite_false, Bool.false_eq_true, decide_true, decide_false, Bool.not_true, Bool.not_false, cxK, tCallN, sp_longest, sp_found, ]
      refine ⟨p, ask A1 s2, zl, fun H4 r1 s4 L1 => ⟨q', ask A2 (s2.trans s4), zl, fun H5 r2 s5 L2 => ?_⟩⟩
      have := L1.alike L2 al
      subst this
      refine sm H5 _ _ _ _ (dp_optN r1) (dp_optN r1) (opt_sh r1) fun H6 s6 => ⟨true, rfl, ?_⟩
      rw [if_neg (by decide)]
      have sA := ((s2.trans s4).trans s5).trans s6
      refine ⟨q', ask A2 sA, zl, fun H7 u1 r3 s7 k1 F1 => ⟨p, ask A1 (sA.trans s7), zl, fun H8 u2 r4 s8 k2 F2 => ?_⟩⟩
      have := F2.alike F1 al
      subst this
      refine sm H8 _ _ _ _ (fo_dp (k1.fr (Fr.of (A := []) s8))) (fo_dp k2) (fo_sh _) fun H9 s9 => ⟨true, rfl, ?_⟩
      rw [if_neg (by decide)]
      exact (hM0 _ _).mpr ⟨_, rfl, ((sA.trans s7).trans s8).trans s9⟩
  obtain ⟨v4, rfl, s⟩ := (hM0 _ _).mp g3
  simp only [tSeq, tAsg, tCB, tCons, tVar, tNil, gName, tRet, tRetN, tDrop, tNext, tIfS, tTest, tB, tOr, tAnd, tNot, tIf, tOrV, tAndV, tNotV, tChain, rI0, rI, rU, tUn, tC, tOp, rNe, rEq, tCall, tPart, tNoPart, tSl, tM0, tM1, tTup, tLst, tAug, gTup, gCons, gNil, rAdd, rSub, tNever, tBreak, tCont, L2.start, scSS, scII, scBB, ipI, sS, dS, d1, mkS, sL, nc1, nc2, Int.natCast_inj, List.map_cons, List.map_nil, List.length_cons, List.length_nil, List.replicate, List.cons_append, List.nil_append, List.append_nil, List.getElem?_cons_zero, List.getElem?_cons_succ, List.set_cons_zero, List.set_cons_succ, Option.some.injEq, V.str.injEq, V.int.injEq, V.bl.injEq, V.ref.injEq, List.cons.injEq, and_true, true_and, exists_eq_left', exists_eq_left, exists_eq, exists_eq', exists_and_left, exists_and_right, and_assoc, exists_const, reduceCtorEq, if_true, if_false, ite_true, ite_false, Bool.false_eq_true, decide_true, decide_false, Bool.not_true, Bool.not_false, cxK]
  exact q _ s
def sp_mir (K : PySem.W.Frag) : Sp := fun vs H Q _ => ∃ (v : V) (p : Pat) (t : List Nat) (a : Addr) (ns : List Nat), vs = [v, .str (S t), .ref a] ∧ Ask K H v p t ∧ H a = some (.lst (iL ns)) ∧ DrL ns ∧ ∀ H', Same H H' → Q (.bl true) H'
theorem sclaw_mirrored_right : FnScope ["_law_tree_here", "_law_text_here", "_law_drops_here", "_law_many", "_law_drop", "_law_start", "_law_end"] ["_law_tree_here", "_law_text_here", "_law_drops_here"] (defScope (topS 44)) := ⟨rfl, rfl, rfl, by decide +kernel, rfl, by decide +kernel, by decide +kernel⟩
theorem ok_mir (T : BiA mg) (c_takes : Cal P w K mg base 32 "takes" (sp_takes K)) (c_turned : Cal P w K mg base 13 "turned" (sp_tu K 12)) (D : Dfn K mg "_law_mirrored_right" (topS 44) ["_law_tree_here", "_law_text_here", "_law_drops_here"]) : Cal P w K mg base 33 "_law_mirrored_right" (sp_mir K) := by
  refine cal_of D sclaw_mirrored_right (fun vs H Q E h => ?_) (fun f cdv A outer s H vs Q E hr h => ?_)
  · obtain ⟨v, p, t, a, ns, rfl, _⟩ := h
    rfl
  obtain ⟨v, p, t, a, ns, rfl, A1, ha, hn, q⟩ := h
  refine ⟨_, (C8.pss_cut (ps_set (i := 3) sclaw_mirrored_right.nd rfl (Or.inl rfl) (pe_callB call_len_str (by rfl) T.b_len (by decide +kernel) (pa_cons (pv 1) pa_nil)))
      (C8.pss_cut (ps_for PassesOwn.never rfl (pi_list (pv 2)) (pg_name (i := 4) sclaw_mirrored_right.nd rfl (Or.inl rfl)) (C8.pss_cut (ps_set (i := 5) sclaw_mirrored_right.nd rfl (Or.inl rfl) (pe_op op_modN (pe_callTy call_intI (by rfl) T.b_int (by decide +kernel) (pa_cons (pv 4) pa_nil)) (pe_op op_add (pv 3) pe_int)))
      (C8.pss_cut (ps_set (i := 6) sclaw_mirrored_right.nd rfl (Or.inl rfl) (pe_op op_add (pv 5) (pe_op op_modN (pe_callTy call_intI (by rfl) T.b_int (by decide +kernel) (pa_cons (pe_op op_fdivW (pv 4) pe_int) pa_nil)) (pe_callB (call_min2 rfl) (by rfl) T.b_min (by decide +kernel) (pa_cons (pe_op op_sub (pe_op op_add (pv 3) pe_int) (pv 5)) (pa_cons pe_int pa_nil))))))
      (pss_one (ps_if (pt_cmpR op_ne (pc c_takes hr (by decide) rfl (pa_cons (pv 0) (pa_cons (pv 1) (pa_cons (pv 5) (pa_cons (pv 6) pa_nil))))) (pc c_takes hr (by decide) rfl (pa_cons (pc c_turned hr (by decide) rfl (pa_cons (pv 0) pa_nil)) (pa_cons (pe_revS (pv 1)) (pa_cons (pe_op op_sub (pv 3) (pv 6)) (pa_cons (pe_op op_sub (pv 3) (pv 5)) pa_nil))))) (nomark _)) (pss_one (ps_ret pe_bl)) pss_nil)))))
      (pss_one (ps_ret pe_bl)))), ?_⟩
  have hl := A1.tl
  have lz : t.length ≤ sizeLine := sz5 (by omega)
  obtain ⟨M0, hM0⟩ : ∃ M : L2.St → Hp → Prop, ∀ σ' H', M σ' H' ↔ ∃ v4 v5 v6, σ' = [some v, some (.str (S t)), some (.ref a), some (.int (t.length : Nat)), v4, v5, v6] ∧ Same H H' := ⟨_, fun _ _ => Iff.rfl⟩
  refine ⟨M0, ?_, fun σ1 H1 g1 => ?_⟩
  · simp only [tSeq, tAsg, tCB, tCons, tVar, tNil, gName, tRet, tRetN, tDrop, tNext, tIfS, tTest, tB, tOr, tAnd, tNot, tIf, tOrV, tAndV, tNotV, tChain, rI0, rI, rU, tUn, tC, tOp, rNe, rEq, tCall, tPart, tNoPart, tSl, tM0, tM1, tTup, tLst, tAug, gTup, gCons, gNil, rAdd, rSub, tNever, tBreak, tCont, L2.start, scSS, scII, scBB, ipI, sS, dS, d1, mkS, sL, nc1, nc2, Int.natCast_inj, List.map_cons, List.map_nil, List.length_cons, List.length_nil, List.replicate, List.cons_append, List.nil_append, List.append_nil, List.getElem?_cons_zero, List.getElem?_cons_succ, List.set_cons_zero, List.set_cons_succ, Option.some.injEq, V.str.injEq, V.int.injEq, V.bl.injEq, V.ref.injEq, List.cons.injEq, and_true, true_and, exists_eq_left', exists_eq_left, exists_eq, exists_eq', exists_and_left, exists_and_right, and_assoc, exists_const, reduceCtorEq, if_true, if_false, ite_true, ite_false, Bool.false_eq_true, decide_true, decide_false, Bool.not_true, Bool.not_false, cxK, sL, ]
    exact ⟨lz, (hM0 _ _).mpr ⟨_, _, _, rfl, Same.refl _⟩⟩
  obtain ⟨v4, v5, v6, rfl, s⟩ := (hM0 _ _).mp g1
  refine ⟨M0, ?_, fun σ3 H3 g3 => ?_⟩
  · simp only [tSeq, tAsg, tCB, tCons, tVar, tNil, gName, tRet, tRetN, tDrop, tNext, tIfS, tTest, tB, tOr, tAnd, tNot, tIf, tOrV, tAndV, tNotV, tChain, rI0, rI, rU, tUn, tC, tOp, rNe, rEq, tCall, tPart, tNoPart, tSl, tM0, tM1, tTup, tLst, tAug, gTup, gCons, gNil, rAdd, rSub, tNever, tBreak, tCont, L2.start, scSS, scII, scBB, ipI, sS, dS, d1, mkS, sL, nc1, nc2, Int.natCast_inj, List.map_cons, List.map_nil, List.length_cons, List.length_nil, List.replicate, List.cons_append, List.nil_append, List.append_nil, List.getElem?_cons_zero, List.getElem?_cons_succ, List.set_cons_zero, List.set_cons_succ, Option.some.injEq, V.str.injEq, V.int.injEq, V.bl.injEq, V.ref.injEq, List.cons.injEq, and_true, true_and, exists_eq_left', exists_eq_left, exists_eq, exists_eq', exists_and_left, exists_and_right, and_assoc, exists_const, reduceCtorEq, if_true, if_false, ite_true, ite_false, Bool.false_eq_true, decide_true, decide_false, Bool.not_true, Bool.not_false, cxK, eFoL, ]
    refine ⟨⟨_, SqL.of (s _ _ ha)⟩, foL (iL ns) (fun _ => M0) ((hM0 _ _).mpr ⟨_, _, _, rfl, s⟩) (fun i σ' H' _ g => ?_) (fun i x σ' H' hx g => ?_) (fun σ' H' g => g)⟩
    · obtain ⟨_, _, _, _, s2⟩ := (hM0 _ _).mp g
      exact SqL.of (s2 _ _ ha)
    · obtain ⟨_, v5, v6, rfl, s2⟩ := (hM0 _ _).mp g
      obtain ⟨z, hz, rfl⟩ := iL_at hx
      have zl := hn z (List.mem_of_getElem? hz)
      simp only [tSeq, tAsg, tCB, tCons, tVar, tNil, gName, tRet, tRetN, tDrop, tNext, tIfS, tTest, tB, tOr, tAnd, tNot, tIf, tOrV, tAndV, tNotV, tChain, rI0, rI, rU, tUn, tC, tOp, rNe, rEq, tCall, tPart, tNoPart, tSl, tM0, tM1, tTup, tLst, tAug, gTup, gCons, gNil, rAdd, rSub, tNever, tBreak, tCont, L2.start, scSS, scII, scBB, ipI, sS, dS, d1, mkS, sL, nc1, nc2, Int.natCast_inj, List.map_cons, List.map_nil, List.length_cons, List.length_nil, List.replicate, List.cons_append, List.nil_append, List.append_nil, List.getElem?_cons_zero, List.getElem?_cons_succ, List.set_cons_zero, List.set_cons_succ, Option.some.injEq, V.str.injEq, V.int.injEq, V.bl.injEq, V.ref.injEq, List.cons.injEq, and_true, true_and, exists_eq_left', exists_eq_left, exists_eq, exists_eq', exists_and_left, exists_and_right, and_assoc, exists_const, reduceCtorEq, if_true, if_false, ite_true, ite_false, Bool.false_eq_true, decide_true, decide_false, Bool.not_true, Bool.not_false, cxK]
      obtain ⟨M1, hM1⟩ : ∃ M : Nat → Option V → L2.St → Hp → Prop, ∀ b v6 σ' H', M b v6 σ' H' ↔ σ' = [some v, some (.str (S t)), some (.ref a), some (.int (t.length : Nat)), some (.int (z : Nat)), some (.int (b : Nat)), v6] ∧ Same H H' := ⟨_, fun _ _ _ _ => Iff.rfl⟩
      refine ⟨fun σ' H' => ∃ b, b ≤ t.length ∧ M1 b v6 σ' H', ?_, fun σ4 H4 g4 => ?_⟩
      · simp only [tSeq, tAsg, tCB, tCons, tVar, tNil, gName, tRet, tRetN, tDrop, tNext, tIfS, tTest, tB, tOr, tAnd, tNot, tIf, tOrV, tAndV, tNotV, tChain, rI0, rI, rU, tUn, tC, tOp, rNe, rEq, tCall, tPart, tNoPart, tSl, tM0, tM1, tTup, tLst, tAug, gTup, gCons, gNil, rAdd, rSub, tNever, tBreak, tCont, L2.start, scSS, scII, scBB, ipI, sS, dS, d1, mkS, sL, nc1, nc2, Int.natCast_inj, List.map_cons, List.map_nil, List.length_cons, List.length_nil, List.replicate, List.cons_append, List.nil_append, List.append_nil, List.getElem?_cons_zero, List.getElem?_cons_succ, List.set_cons_zero, List.set_cons_succ, Option.some.injEq, V.str.injEq, V.int.injEq, V.bl.injEq, V.ref.injEq, List.cons.injEq, and_true, true_and, exists_eq_left', exists_eq_left, exists_eq, exists_eq', exists_and_left, exists_and_right, and_assoc, exists_const, reduceCtorEq, if_true, if_false, ite_true, ite_false, Bool.false_eq_true, decide_true, decide_false, Bool.not_true, Bool.not_false, cxK, ]
        obtain ⟨r, f, hr⟩ := mod_lt' (i := (z : Int)) (m := t.length + 1) (by omega)
        exact ⟨by omega, r, by omega, (hM1 _ _ _ _).mpr ⟨by rw [f], s2⟩⟩
      obtain ⟨b, hb, g4⟩ := g4
      obtain ⟨rfl, s4⟩ := (hM1 _ _ _ _).mp g4
      refine ⟨fun σ' H' => ∃ e : Nat, b ≤ e ∧ e ≤ t.length ∧ M1 b (some (.int (e : Nat))) σ' H', ?_, fun σ5 H5 g5 => ?_⟩
      · simp only [tSeq, tAsg, tCB, tCons, tVar, tNil, gName, tRet, tRetN, tDrop, tNext, tIfS, tTest, tB, tOr, tAnd, tNot, tIf, tOrV, tAndV, tNotV, tChain, rI0, rI, rU, tUn, tC, tOp, rNe, rEq, tCall, tPart, tNoPart, tSl, tM0, tM1, tTup, tLst, tAug, gTup, gCons, gNil, rAdd, rSub, tNever, tBreak, tCont, L2.start, scSS, scII, scBB, ipI, sS, dS, d1, mkS, sL, nc1, nc2, Int.natCast_inj, List.map_cons, List.map_nil, List.length_cons, List.length_nil, List.replicate, List.cons_append, List.nil_append, List.append_nil, List.getElem?_cons_zero, List.getElem?_cons_succ, List.set_cons_zero, List.set_cons_succ, Option.some.injEq, V.str.injEq, V.int.injEq, V.bl.injEq, V.ref.injEq, List.cons.injEq, and_true, true_and, exists_eq_left', exists_eq_left, exists_eq, exists_eq', exists_and_left, exists_and_right, and_assoc, exists_const, reduceCtorEq, if_true, if_false, ite_true, ite_false, Bool.false_eq_true, decide_true, decide_false, Bool.not_true, Bool.not_false, cxK, ]
        obtain ⟨mm, em, hm1, hm2⟩ : ∃ mm : Nat, (if (8 : Int) < ((t.length + 1 : Nat) : Int) - (b : Int) then (8 : Int) else ((t.length + 1 : Nat) : Int) - (b : Int)) = (mm : Int) ∧ 0 < mm ∧ mm ≤ t.length + 1 - b := by
          split
          · exact ⟨8, rfl, by omega, by omega⟩
          · exact ⟨t.length + 1 - b, by omega, by omega, by omega⟩
        rw [em]
        have e31 : (z : Int) / 31 = ((z / 31 : Nat) : Int) := by omega
        rw [e31]
        obtain ⟨r, f, hr⟩ := mod_lt' (i := ((z / 31 : Nat) : Int)) (m := mm) hm1
        exact ⟨divw (by decide) (bb_small (by decide)), by omega, b + r, by omega, by omega, (hM1 _ _ _ _).mpr ⟨by rw [f, Int.natCast_add], s4⟩⟩
      obtain ⟨e, he1, he2, g5⟩ := g5
      obtain ⟨rfl, s5⟩ := (hM1 _ _ _ _).mp g5
      simp only [tSeq, tAsg, tCB, tCons, tVar, tNil, gName, tRet, tRetN, tDrop, tNext, tIfS, tTest, tB, tOr, tAnd, tNot, tIf, tOrV, tAndV, tNotV, tChain, rI0, rI, rU, tUn, tC, tOp, rNe, rEq, tCall, tPart, tNoPart, tSl, tM0, tM1, tTup, tLst, tAug, gTup, gCons, gNil, rAdd, rSub, tNever, tBreak, tCont, L2.start, scSS, scII, scBB, ipI, sS, dS, d1, mkS, sL, nc1, nc2, Int.natCast_inj, List.map_cons, List.map_nil, List.length_cons, List.length_nil, List.replicate, List.cons_append, List.nil_append, List.append_nil, List.getElem?_cons_zero, List.getElem?_cons_succ, List.set_cons_zero, List.set_cons_succ, Option.some.injEq, V.str.injEq, V.int.injEq, V.bl.injEq, V.ref.injEq, List.cons.injEq, and_true, true_and, exists_eq_left', exists_eq_left, exists_eq, exists_eq', exists_and_left, exists_and_right, and_assoc, exists_const, reduceCtorEq, if_true, if_false, ite_true, ite_false, Bool.false_eq_true, decide_true, decide_false, Bool.not_true, Bool.not_false, cxK, sp_takes, sp_tu, tRevS, ]
      have A2 : Ask K H5 v p t := ⟨A1.pt.same s5, A1.d, A1.n, A1.ts, A1.tl⟩
      have tb := tuB p rfl
      refine ⟨p, A2, he1, he2, fun H6 c1 s6 k1 => ⟨p, A2.pt.same s6, A1.d, fun H7 v' s7 pt => ⟨by omega, p.tu, t.length - e, by omega, t.length - b, by omega, ⟨pt, by rw [tb.d]; exact A1.d, by rw [tb.n]; exact A1.n, fun c hc => A1.ts c (List.mem_reverse.mp hc), by rw [List.length_reverse]; exact hl⟩, by omega, by rw [List.length_reverse]; omega, fun H8 c2 s8 k2 => ?_⟩⟩⟩
      have mt := M_tu t p b e hb he2
      have : c1 = c2 := by
        have h := k1.trans (mt.symm.trans k2.symm)
        cases c1 <;> cases c2 <;> simp_all
      subst this
      rw [if_neg (by simp)]
      exact (hM0 _ _).mpr ⟨_, _, _, rfl, ((s5.trans s6).trans s7).trans s8⟩
  obtain ⟨v4, v5, v6, rfl, s⟩ := (hM0 _ _).mp g3
  simp only [tSeq, tAsg, tCB, tCons, tVar, tNil, gName, tRet, tRetN, tDrop, tNext, tIfS, tTest, tB, tOr, tAnd, tNot, tIf, tOrV, tAndV, tNotV, tChain, rI0, rI, rU, tUn, tC, tOp, rNe, rEq, tCall, tPart, tNoPart, tSl, tM0, tM1, tTup, tLst, tAug, gTup, gCons, gNil, rAdd, rSub, tNever, tBreak, tCont, L2.start, scSS, scII, scBB, ipI, sS, dS, d1, mkS, sL, nc1, nc2, Int.natCast_inj, List.map_cons, List.map_nil, List.length_cons, List.length_nil, List.replicate, List.cons_append, List.nil_append, List.append_nil, List.getElem?_cons_zero, List.getElem?_cons_succ, List.set_cons_zero, List.set_cons_succ, Option.some.injEq, V.str.injEq, V.int.injEq, V.bl.injEq, V.ref.injEq, List.cons.injEq, and_true, true_and, exists_eq_left', exists_eq_left, exists_eq, exists_eq', exists_and_left, exists_and_right, and_assoc, exists_const, reduceCtorEq, if_true, if_false, ite_true, ite_false, Bool.false_eq_true, decide_true, decide_false, Bool.not_true, Bool.not_false, cxK]
  exact q _ s
end
end Pd

namespace Pd
open PySem PySem.Spec PyProof.Rows L2
open SX (S)
theorem cutI (ns : List Nat) (lo hi : Option Int) : ∃ ms, cutV (iL ns) lo hi = iL ms ∧ ms.length ≤ ns.length ∧ ∀ m ∈ ms, m ∈ ns := by
  refine ⟨(ns.drop (HT.sIx (iL ns).length 0 lo)).take (HT.sIx (iL ns).length (iL ns).length hi - HT.sIx (iL ns).length 0 lo), ?_, ?_, fun m hm => List.mem_of_mem_drop (List.mem_of_mem_take hm)⟩
  · unfold cutV iL
    rw [← List.map_drop, ← List.map_take]
  · rw [List.length_take, List.length_drop]
    omega
section
variable {P : Program} {w : World} {K : PySem.W.Frag} {mg : Str → Option Value} {base : Heap}
def sp_cell : Sp := fun vs H Q _ => ∃ z : Int, vs = [.int z] ∧ ∀ H', Same H H' → Q (.bl true) H'
theorem sclaw_cell_right : FnScope ["_law_cell", "_law_drops_here", "_law_parts", "_law_one", "_law_other", "_law_text_here", "_law_starts", "_law_k", "_law_drop"] ["_law_cell"] (defScope (topS 45)) := ⟨rfl, rfl, rfl, by decide +kernel, rfl, by decide +kernel, by decide +kernel⟩
theorem ok_cell (T : BiA mg) (c_law_drops : Cal P w K mg base 1 "_law_drops" sp_drops) (c_law_tree : Cal P w K mg base 6 "_law_tree" (sp_treeN K 3)) (c_law_pair : Cal P w K mg base 7 "_law_pair" (sp_pair K)) (c_law_text : Cal P w K mg base 3 "_law_text" sp_text) (c_law_alike_right : Cal P w K mg base 33 "_law_alike_right" (sp_alike K)) (c_law_mirrored_right : Cal P w K mg base 33 "_law_mirrored_right" (sp_mir K)) (D : Dfn K mg "_law_cell_right" (topS 45) ["_law_cell"]) : Cal P w K mg base 34 "_law_cell_right" sp_cell := by
  refine cal_of D sclaw_cell_right (fun vs H Q E h => ?_) (fun f cdv A outer s H vs Q E hr h => ?_)
  · obtain ⟨z, rfl, _⟩ := h
    rfl
  obtain ⟨z, rfl, q⟩ := h
  refine ⟨_, (C8.pss_cut (ps_set (i := 1) sclaw_cell_right.nd rfl (Or.inr rfl) (pc c_law_drops hr (by decide) rfl (pa_cons (pv 0) (pa_cons pe_int pa_nil))))
      (C8.pss_cut (ps_setLc (i := 2) (own := [("_law_k", 7)]) (g := gName 7) (tt := tYes) rfl sclaw_cell_right.nd rfl rfl (sw_true rfl rfl rfl (by decide +kernel)) (pi_range1 (by rfl) T.b_range (pa_cons pe_int pa_nil)) (blkOk_by (N := ["_law_cell", "_law_drops_here", "_law_parts", "_law_one", "_law_other", "_law_text_here", "_law_starts", "_law_k", "_law_drop"]) (sc := defScope (topS 45)) (by decide +kernel)) (fun _ _ _ _ _ => (pg_name (i := 7) sclaw_cell_right.nd rfl (Or.inl rfl))) (fun _ _ _ _ _ => pts_nil) (fun _ _ _ _ _ => (pc c_law_tree hr (by decide) rfl (pa_cons (pv 1) (pa_cons (pe_lst (pa_cons (pe_op op_add pe_int (pe_op op_mul pe_int (pv 7))) pa_nil)) (pa_cons (pe_op op_add pe_int (pe_op op_modN (pe_callTy call_intI (by rfl) T.b_int (by decide +kernel) (pa_cons (pe_ix (r := rIxL K) ix_list (pv 1) (pv 7) (fun _ _ => rfl)) pa_nil)) pe_int)) (pa_cons (pe_op op_add pe_int (pe_op op_modN (pe_callTy call_intI (by rfl) T.b_int (by decide +kernel) (pa_cons (pe_op op_fdivW (pe_ix (r := rIxL K) ix_list (pv 1) (pv 7) (fun _ _ => rfl)) pe_int) pa_nil)) pe_int)) pa_nil)))))))
      (C8.pss_cut (ps_asg (pc c_law_pair hr (by decide) rfl (pa_cons (pe_op op_modN (pe_callTy call_intI (by rfl) T.b_int (by decide +kernel) (pa_cons (pe_ix ix_list (pv 1) pe_int (fun _ _ => rfl)) pa_nil)) pe_int) (pa_cons (pe_ix ix_list (pv 2) pe_int (fun _ _ => rfl)) (pa_cons (pe_ix ix_list (pv 2) pe_int (fun _ _ => rfl)) (pa_cons (pe_ix ix_list (pv 2) pe_int (fun _ _ => rfl)) pa_nil))))) (pg_tupK (n := 2) rfl rfl (pgs_cons (pg_name (i := 3) sclaw_cell_right.nd rfl (Or.inl rfl)) (pgs_cons (pg_name (i := 4) sclaw_cell_right.nd rfl (Or.inl rfl)) pgs_nil))))
      (C8.pss_cut (ps_set (i := 5) sclaw_cell_right.nd rfl (Or.inr rfl) (pc c_law_text hr (by decide) rfl (pa_cons (pe_slice sl_list (pv 1) (po_some pe_int) po_none) (pa_cons (pe_op op_modN (pe_callTy call_intI (by rfl) T.b_int (by decide +kernel) (pa_cons (pe_ix ix_list (pv 1) pe_int (fun _ _ => rfl)) pa_nil)) pe_int) pa_nil))))
      (C8.pss_cut (ps_if (pt_cmpR op_eq (pe_op op_modN (pe_callTy call_intI (by rfl) T.b_int (by decide +kernel) (pa_cons (pe_ix ix_list (pv 1) pe_int (fun _ _ => rfl)) pa_nil)) pe_int) pe_int (nomark _)) (pss_one (ps_par (i := 3) (j := 4) (by rfl) sclaw_cell_right.nd rfl rfl (by decide) rfl rfl (pa_cons (pv 4) (pa_cons (pv 3) pa_nil)) (by rfl))) pss_nil)
      (C8.pss_cut (ps_setLc (i := 6) (own := [("_law_drop", 8)]) (g := gName 8) (tt := tYes) rfl sclaw_cell_right.nd rfl rfl (sw_true rfl rfl rfl (by decide +kernel)) (pi_list (pe_slice sl_list (pv 1) (po_some pe_int) (po_some pe_int))) (blkOk_by (N := ["_law_cell", "_law_drops_here", "_law_parts", "_law_one", "_law_other", "_law_text_here", "_law_starts", "_law_k", "_law_drop"]) (sc := defScope (topS 45)) (by decide +kernel)) (fun _ _ _ _ _ => (pg_name (i := 8) sclaw_cell_right.nd rfl (Or.inl rfl))) (fun _ _ _ _ _ => pts_nil) (fun _ _ _ _ _ => (pe_op op_modN (pe_callTy call_intI (by rfl) T.b_int (by decide +kernel) (pa_cons (pv 8) pa_nil)) (pe_op op_add (pe_callB call_len_str (by rfl) T.b_len (by decide +kernel) (pa_cons (pv 5) pa_nil)) pe_int))))
      (pss_one (ps_ret (pe_and (pc c_law_alike_right hr (by decide) rfl (pa_cons (pv 3) (pa_cons (pv 4) (pa_cons (pv 5) (pa_cons (pv 6) pa_nil))))) (pe_one (pc c_law_mirrored_right hr (by decide) rfl (pa_cons (pv 3) (pa_cons (pv 5) (pa_cons (pe_slice sl_list (pv 1) (po_some pe_int) (po_some pe_int)) pa_nil)))))))))))))), ?_⟩
  obtain ⟨B, hB⟩ : ∃ B : Addr → List Nat → Option V → Option V → Option V → Option V → Option V → L2.St → Hp → Prop, ∀ ds ns v2 v3 v4 v5 v6 σ' H', B ds ns v2 v3 v4 v5 v6 σ' H' ↔ σ' = [some (.int z), some (.ref ds), v2, v3, v4, v5, v6, none, none] ∧ Same H H' ∧ H' ds = some (.lst (iL ns)) ∧ ns.length = 80 ∧ DrL ns := ⟨_, fun _ _ _ _ _ _ _ _ _ => Iff.rfl⟩
  refine ⟨fun σ' H' => ∃ ds ns, B ds ns none none none none none σ' H', ?_, fun σ1 H1 g1 => ?_⟩
  · simp only [tSeq, tAsg, tCB, tCons, tVar, tNil, gName, tRet, tRetN, tDrop, tNext, tIfS, tTest, tB, tOr, tAnd, tNot, tIf, tOrV, tAndV, tNotV, tChain, rI0, rI, rU, tUn, tC, tOp, rNe, rEq, tCall, tPart, tNoPart, tSl, tM0, tM1, tTup, tLst, tAug, gTup, gCons, gNil, rAdd, rSub, tNever, tBreak, tCont, L2.start, scSS, scII, scBB, ipI, sS, dS, d1, mkS, sL, nc1, nc2, Int.natCast_inj, List.map_cons, List.map_nil, List.length_cons, List.length_nil, List.replicate, List.cons_append, List.nil_append, List.append_nil, List.getElem?_cons_zero, List.getElem?_cons_succ, List.set_cons_zero, List.set_cons_succ, Option.some.injEq, V.str.injEq, V.int.injEq, V.bl.injEq, V.ref.injEq, List.cons.injEq, and_true, true_and, exists_eq_left', exists_eq_left, exists_eq, exists_eq', exists_and_left, exists_and_right, and_assoc, exists_const, reduceCtorEq, if_true, if_false, ite_true, ite_false, Bool.false_eq_true, decide_true, decide_false, Bool.not_true, Bool.not_false, cxK, sp_drops, ]
    exact ⟨80, rfl, by omega, fun H' p ns np s e l d => ⟨p, ns, (hB _ _ _ _ _ _ _ _ _).mpr ⟨rfl, s, e, l, d⟩⟩⟩
  obtain ⟨ds, ns, g1⟩ := g1
  obtain ⟨rfl, s1, e1, nl, dr⟩ := (hB _ _ _ _ _ _ _ _ _).mp g1
  have nat_ : ∀ j : Nat, j < 80 → ∃ n, ns[j]? = some n ∧ n < 1441440 := fun j hj => ⟨_, List.getElem?_eq_getElem (by omega), dr _ (List.getElem_mem _)⟩
  refine ⟨fun σ' H' => ∃ r a b c p1 p2 p3, H' r = some (.lst [a, b, c]) ∧ PB K H' a p1 3 16 13 61 ∧ PB K H' b p2 3 16 13 61 ∧ PB K H' c p3 3 16 13 61 ∧ B ds ns (some (.ref r)) none none none none σ' H', ?_, fun σ2 H2 g2 => ?_⟩
  · simp only [tSeq, tAsg, tCB, tCons, tVar, tNil, gName, tRet, tRetN, tDrop, tNext, tIfS, tTest, tB, tOr, tAnd, tNot, tIf, tOrV, tAndV, tNotV, tChain, rI0, rI, rU, tUn, tC, tOp, rNe, rEq, tCall, tPart, tNoPart, tSl, tM0, tM1, tTup, tLst, tAug, gTup, gCons, gNil, rAdd, rSub, tNever, tBreak, tCont, L2.start, scSS, scII, scBB, ipI, sS, dS, d1, mkS, sL, nc1, nc2, Int.natCast_inj, List.map_cons, List.map_nil, List.length_cons, List.length_nil, List.replicate, List.cons_append, List.nil_append, List.append_nil, List.getElem?_cons_zero, List.getElem?_cons_succ, List.set_cons_zero, List.set_cons_succ, Option.some.injEq, V.str.injEq, V.int.injEq, V.bl.injEq, V.ref.injEq, List.cons.injEq, and_true, true_and, exists_eq_left', exists_eq_left, exists_eq, exists_eq', exists_and_left, exists_and_right, and_assoc, exists_const, reduceCtorEq, if_true, if_false, ite_true, ite_false, Bool.false_eq_true, decide_true, decide_false, Bool.not_true, Bool.not_false, cxK, eLcR, ]
    refine ⟨by decide, by decide, lcR fun Da nD => ?_⟩
    have sD := same_upd (o := .lst []) nD
    obtain ⟨Pv, hPv⟩ : ∃ Pv : Nat → Hp → Prop, ∀ i H', Pv i H' ↔ ∃ (vs : List V) (ps : List Pat), Same H1 H' ∧ H' Da = some (.lst vs) ∧ vs.length = i ∧ ps.length = i ∧ ∀ (j : Nat) (v : V) (p : Pat), vs[j]? = some v → ps[j]? = some p → PB K H' v p 3 16 13 61 := ⟨_, fun _ _ => Iff.rfl⟩
    refine ⟨Pv, (hPv _ _).mpr ⟨[], [], sD, upd_same, rfl, rfl, fun j v p h => by cases h⟩, fun i H' hi g => ?_, fun H' g => ?_⟩
    · obtain ⟨vs, ps, s, e, l1, l2, hv⟩ := (hPv _ _).mp g
      simp only [tSeq, tAsg, tCB, tCons, tVar, tNil, gName, tRet, tRetN, tDrop, tNext, tIfS, tTest, tB, tOr, tAnd, tNot, tIf, tOrV, tAndV, tNotV, tChain, rI0, rI, rU, tUn, tC, tOp, rNe, rEq, tCall, tPart, tNoPart, tSl, tM0, tM1, tTup, tLst, tAug, gTup, gCons, gNil, rAdd, rSub, tNever, tBreak, tCont, L2.start, scSS, scII, scBB, ipI, sS, dS, d1, mkS, sL, nc1, nc2, Int.natCast_inj, List.map_cons, List.map_nil, List.length_cons, List.length_nil, List.replicate, List.cons_append, List.nil_append, List.append_nil, List.getElem?_cons_zero, List.getElem?_cons_succ, List.set_cons_zero, List.set_cons_succ, Option.some.injEq, V.str.injEq, V.int.injEq, V.bl.injEq, V.ref.injEq, List.cons.injEq, and_true, true_and, exists_eq_left', exists_eq_left, exists_eq, exists_eq', exists_and_left, exists_and_right, and_assoc, exists_const, reduceCtorEq, if_true, if_false, ite_true, ite_false, Bool.false_eq_true, decide_true, decide_false, Bool.not_true, Bool.not_false, cxK, wipe, tYes, rIxL, ]
      rw [show (0 : Int) + (i : Int) = (i : Nat) from by omega]
      obtain ⟨n1, h1, n1l⟩ := nat_ i (by omega)
      obtain ⟨r4, f4, hr4⟩ := mod_lt' (i := (n1 : Int)) (m := 4) (by decide)
      rw [show ((4 : Nat) : Int) = 4 from rfl] at f4
      have e4 : (n1 : Int) / 4 = ((n1 / 4 : Nat) : Int) := by omega
      obtain ⟨r2, f2, hr2⟩ := mod_lt' (i := ((n1 / 4 : Nat) : Int)) (m := 2) (by decide)
      rw [show ((2 : Nat) : Int) = 2 from rfl] at f2
      have mu : CMul 5 (i : Nat) := by
        exact .inl ⟨by decide, by decide⟩
      refine ⟨mu, by decide, fun p np => ?_⟩
      have sp := same_upd (o := .lst [V.int (8 + 5 * (i : Int))]) np
      have e1' := s _ _ e1
      refine ⟨_, SqL.of (sp _ _ e1'), _, atI_nat (iL_get h1), _, rfl, by decide, _, SqL.of (sp _ _ e1'), _, atI_nat (iL_get h1), _, rfl, divw (by decide) (bb_small (by decide)), by decide, ?_⟩
      rw [f4, e4, f2]
      have zb : zT (1 + r2) ≤ 13 := by
        have : r2 = 0 ∨ r2 = 1 := by omega
        rcases this with rfl | rfl <;> decide
      have yb : yT (1 + r2) ≤ 61 := by
        have : r2 = 0 ∨ r2 = 1 := by omega
        rcases this with rfl | rfl <;> decide
      have fb : 4 ^ (1 + r2) ≤ 16 := by
        have : r2 = 0 ∨ r2 = 1 := by omega
        rcases this with rfl | rfl <;> decide
      have pd : p ≠ ds := fun z => by rw [z, e1'] at np; cases np
      refine ⟨1 + r2, ds, p, ns, 8 + 5 * i, 1 + r4, ?_, by omega, sp _ _ e1', dr, by omega, by omega, ?_, pd, by omega, by omega, by omega, by omega, fun H2 v pat k' f3 e3 hk pt pb => ?_⟩
      · rw [Int.natCast_add, Int.natCast_add]
        rfl
      · rw [show ((8 + 5 * i : Nat) : Int) = 8 + 5 * (i : Int) from by omega]
        exact upd_same
      have s3 : Same H' H2 := by
        have fr := Fr.bir (A := []) sp f3 np
        exact fr.new fun a ha => by cases ha
      refine ⟨vs, s3 _ _ e, sz5 (by omega), (hPv _ _).mpr ⟨vs ++ [v], ps ++ [pat], same_mut (s.trans s3) nD, upd_same, by rw [List.length_append, l1]; rfl, by rw [List.length_append, l2]; rfl, fun j v' p' hj hp' => ?_⟩⟩
      have fx : Fr [Da] H2 (upd H2 Da (.lst (vs ++ [v]))) := Fr.refl.upd (.inl (.head _)) (s3 _ _ e) rfl
      have keep : ∀ {y p}, PB K H2 y p 3 16 13 61 → PB K (upd H2 Da (.lst (vs ++ [v]))) y p 3 16 13 61 := fun h => ⟨⟨dp_fr fx _ _ (noL_pat _) h.pt.dp, h.pt.wf, h.pt.sm⟩, h.b⟩
      by_cases hji : j < i
      · rw [List.getElem?_append_left (by omega)] at hj hp'
        exact keep ((hv j v' p' hj hp').same s3)
      · rw [List.getElem?_append_right (by omega)] at hj hp'
        have ej : j = i := by
          have := (List.getElem?_eq_some_iff.mp hj).1
          simp at this
          omega
        subst ej
        rw [l1, Nat.sub_self] at hj
        rw [l2, Nat.sub_self] at hp'
        cases hj
        cases hp'
        exact keep ⟨pt, pb.up (by omega) fb zb yb⟩
    · obtain ⟨vs, ps, s, e, l1, l2, hv⟩ := (hPv _ _).mp g
      match vs, ps, l1, l2 with
      | [a, b, c], [p1, p2, p3], _, _ =>
        exact ⟨Da, a, b, c, e, ⟨p1, hv 0 a p1 rfl rfl⟩, ⟨p2, hv 1 b p2 rfl rfl⟩, ⟨p3, hv 2 c p3 rfl rfl⟩, (hB _ _ _ _ _ _ _ _ _).mpr ⟨rfl, s1.trans s, s _ _ e1, nl, dr⟩⟩
  obtain ⟨r, a, b, c, p1, p2, p3, e2, b1, b2, b3, g2⟩ := g2
  obtain ⟨rfl, s2, e1, _, _⟩ := (hB _ _ _ _ _ _ _ _ _).mp g2
  obtain ⟨GP, hGP⟩ : ∃ GP : V → V → Hp → Prop, ∀ x y H', GP x y H' ↔ ∃ p q, PtD K H' x p ∧ PtD K H' y q ∧ p.d < 12 ∧ q.d < 12 ∧ p.n ≤ 50000 ∧ q.n ≤ 50000 ∧ ∀ t, M t p = M t q := ⟨_, fun _ _ _ => Iff.rfl⟩
  have gps : ∀ {x y : V} {H' H'' : Hp}, GP x y H' → Same H' H'' → GP x y H'' := fun {x y H' H''} h s => by
    obtain ⟨p, q', g1, g2, g3⟩ := (hGP _ _ _).mp h
    exact (hGP _ _ _).mpr ⟨p, q', g1.same s, g2.same s, g3⟩
  refine ⟨fun σ' H' => ∃ x y, GP x y H' ∧ B ds ns (some (.ref r)) (some x) (some y) none none σ' H', ?_, fun σ3 H3 g3 => ?_⟩
  · simp only [tSeq, tAsg, tCB, tCons, tVar, tNil, gName, tRet, tRetN, tDrop, tNext, tIfS, tTest, tB, tOr, tAnd, tNot, tIf, tOrV, tAndV, tNotV, tChain, rI0, rI, rU, tUn, tC, tOp, rNe, rEq, tCall, tPart, tNoPart, tSl, tM0, tM1, tTup, tLst, tAug, gTup, gCons, gNil, rAdd, rSub, tNever, tBreak, tCont, L2.start, scSS, scII, scBB, ipI, sS, dS, d1, mkS, sL, nc1, nc2, Int.natCast_inj, List.map_cons, List.map_nil, List.length_cons, List.length_nil, List.replicate, List.cons_append, List.nil_append, List.append_nil, List.getElem?_cons_zero, List.getElem?_cons_succ, List.set_cons_zero, List.set_cons_succ, Option.some.injEq, V.str.injEq, V.int.injEq, V.bl.injEq, V.ref.injEq, List.cons.injEq, and_true, true_and, exists_eq_left', exists_eq_left, exists_eq, exists_eq', exists_and_left, exists_and_right, and_assoc, exists_const, reduceCtorEq, if_true, if_false, ite_true, ite_false, Bool.false_eq_true, decide_true, decide_false, Bool.not_true, Bool.not_false, cxK, rIxL, sp_pair, ]
    obtain ⟨n3, h3, _⟩ := nat_ 3 (by omega)
    obtain ⟨r8, f, hr8⟩ := mod_lt' (i := (n3 : Int)) (m := 8) (by decide)
    rw [show ((8 : Nat) : Int) = 8 from rfl] at f
    refine ⟨_, SqL.of e1, _, atI_nat (j := 3) (iL_get h3), _, rfl, by decide, _, SqL.of e2, _, atI_nat (j := 0) rfl, _, SqL.of e2, _, atI_nat (j := 1) rfl, _, SqL.of e2, _, atI_nat (j := 2) rfl, r8, f, hr8, ⟨_, b1⟩, ⟨_, b2⟩, ⟨_, b3⟩, fun H' a x y p q' d n z1 y1 d' n' z' y' s3 e3 bx bt hd hd' hn hn' me => ?_⟩
    have bdx := bx.b.d
    have bdy := bt.b.d
    have bnx := bx.b.n
    have bny := bt.b.n
    exact ⟨_, SqT.of e3, rfl, _, _, rfl, _, _, rfl, rfl, x, y, (hGP _ _ _).mpr ⟨p, q', bx.pt, bt.pt, by omega, by omega, by omega, by omega, me⟩, (hB _ _ _ _ _ _ _ _ _).mpr ⟨rfl, s2.trans s3, s3 _ _ e1, nl, dr⟩⟩
  obtain ⟨x, y, gp, g3⟩ := g3
  obtain ⟨rfl, s3, e1, _, _⟩ := (hB _ _ _ _ _ _ _ _ _).mp g3
  refine ⟨fun σ' H' => ∃ t : List Nat, (∀ c ∈ t, c ∈ allSigns) ∧ t.length ≤ 30 ∧ GP x y H' ∧ B ds ns (some (.ref r)) (some x) (some y) (some (.str (S t))) none σ' H', ?_, fun σ4 H4 g4 => ?_⟩
  · simp only [tSeq, tAsg, tCB, tCons, tVar, tNil, gName, tRet, tRetN, tDrop, tNext, tIfS, tTest, tB, tOr, tAnd, tNot, tIf, tOrV, tAndV, tNotV, tChain, rI0, rI, rU, tUn, tC, tOp, rNe, rEq, tCall, tPart, tNoPart, tSl, tM0, tM1, tTup, tLst, tAug, gTup, gCons, gNil, rAdd, rSub, tNever, tBreak, tCont, L2.start, scSS, scII, scBB, ipI, sS, dS, d1, mkS, sL, nc1, nc2, Int.natCast_inj, List.map_cons, List.map_nil, List.length_cons, List.length_nil, List.replicate, List.cons_append, List.nil_append, List.append_nil, List.getElem?_cons_zero, List.getElem?_cons_succ, List.set_cons_zero, List.set_cons_succ, Option.some.injEq, V.str.injEq, V.int.injEq, V.bl.injEq, V.ref.injEq, List.cons.injEq, and_true, true_and, exists_eq_left', exists_eq_left, exists_eq, exists_eq', exists_and_left, exists_and_right, and_assoc, exists_const, reduceCtorEq, if_true, if_false, ite_true, ite_false, Bool.false_eq_true, decide_true, decide_false, Bool.not_true, Bool.not_false, cxK, rIxL, rSlL, sp_text, ]
    obtain ⟨n4, h4, _⟩ := nat_ 4 (by omega)
    obtain ⟨r4, f, hr4⟩ := mod_lt' (i := (n4 : Int)) (m := 31) (by decide)
    rw [show ((31 : Nat) : Int) = 31 from rfl] at f
    refine ⟨_, SqL.of e1, fun p np => ?_⟩
    have ec : cutV (iL ns) (some 30) none = iL (ns.drop 30) := by
      have := cutV_from (xs := iL ns) (r := 30)
      rw [show ((30 : Nat) : Int) = 30 from rfl] at this
      rw [this, iL, ← List.map_drop]
      rfl
    rw [ec]
    have sp := same_upd (o := .lst (iL (ns.drop 30))) np
    refine ⟨_, SqL.of (sp _ _ e1), _, atI_nat (j := 4) (iL_get h4), _, rfl, by decide, _, r4, f, upd_same, by rw [List.length_drop]; omega, by rw [List.length_drop]; omega, by omega, fun H' t sq tA tl => ⟨t, tA, tl, ?_, (hB _ _ _ _ _ _ _ _ _).mpr ⟨rfl, (s3.trans sp).trans sq, (sp.trans sq) _ _ e1, nl, dr⟩⟩⟩
    exact gps gp (sp.trans sq)
  obtain ⟨t, tA, tl, gp, g4⟩ := g4
  obtain ⟨rfl, s4, e1, _, _⟩ := (hB _ _ _ _ _ _ _ _ _).mp g4
  refine ⟨fun σ' H' => ∃ x y, GP x y H' ∧ B ds ns (some (.ref r)) (some x) (some y) (some (.str (S t))) none σ' H', ?_, fun σ5 H5 g5 => ?_⟩
  · simp only [tSeq, tAsg, tCB, tCons, tVar, tNil, gName, tRet, tRetN, tDrop, tNext, tIfS, tTest, tB, tOr, tAnd, tNot, tIf, tOrV, tAndV, tNotV, tChain, rI0, rI, rU, tUn, tC, tOp, rNe, rEq, tCall, tPart, tNoPart, tSl, tM0, tM1, tTup, tLst, tAug, gTup, gCons, gNil, rAdd, rSub, tNever, tBreak, tCont, L2.start, scSS, scII, scBB, ipI, sS, dS, d1, mkS, sL, nc1, nc2, Int.natCast_inj, List.map_cons, List.map_nil, List.length_cons, List.length_nil, List.replicate, List.cons_append, List.nil_append, List.append_nil, List.getElem?_cons_zero, List.getElem?_cons_succ, List.set_cons_zero, List.set_cons_succ, Option.some.injEq, V.str.injEq, V.int.injEq, V.bl.injEq, V.ref.injEq, List.cons.injEq, and_true, true_and, exists_eq_left', exists_eq_left, exists_eq, exists_eq', exists_and_left, exists_and_right, and_assoc, exists_const, reduceCtorEq, if_true, if_false, ite_true, ite_false, Bool.false_eq_true, decide_true, decide_false, Bool.not_true, Bool.not_false, cxK, rIxL, tPar, ]
    obtain ⟨n5, h5, _⟩ := nat_ 5 (by omega)
    have gp2 : GP y x H4 := by
      obtain ⟨p, q', g1, g2, g3, g4, g5, g6, g7⟩ := (hGP _ _ _).mp gp
      exact (hGP _ _ _).mpr ⟨q', p, g2, g1, g4, g3, g6, g5, fun t => (g7 t).symm⟩
    refine ⟨_, SqL.of e1, _, atI_nat (j := 5) (iL_get h5), _, rfl, by decide, ?_⟩
    split
    · exact ⟨y, x, gp2, (hB _ _ _ _ _ _ _ _ _).mpr ⟨rfl, s4, e1, nl, dr⟩⟩
    · exact ⟨x, y, gp, (hB _ _ _ _ _ _ _ _ _).mpr ⟨rfl, s4, e1, nl, dr⟩⟩
  obtain ⟨x, y, gp, g5⟩ := g5
  obtain ⟨rfl, s5, e1, _, _⟩ := (hB _ _ _ _ _ _ _ _ _).mp g5
  refine ⟨fun σ' H' => ∃ (a6 : Addr) (ms : List Nat), H' a6 = some (.lst (iL ms)) ∧ (∀ n ∈ ms, n ≤ t.length) ∧ GP x y H' ∧ B ds ns (some (.ref r)) (some x) (some y) (some (.str (S t))) (some (.ref a6)) σ' H', ?_, fun σ6 H6 g6 => ?_⟩
  · simp only [tSeq, tAsg, tCB, tCons, tVar, tNil, gName, tRet, tRetN, tDrop, tNext, tIfS, tTest, tB, tOr, tAnd, tNot, tIf, tOrV, tAndV, tNotV, tChain, rI0, rI, rU, tUn, tC, tOp, rNe, rEq, tCall, tPart, tNoPart, tSl, tM0, tM1, tTup, tLst, tAug, gTup, gCons, gNil, rAdd, rSub, tNever, tBreak, tCont, L2.start, scSS, scII, scBB, ipI, sS, dS, d1, mkS, sL, nc1, nc2, Int.natCast_inj, List.map_cons, List.map_nil, List.length_cons, List.length_nil, List.replicate, List.cons_append, List.nil_append, List.append_nil, List.getElem?_cons_zero, List.getElem?_cons_succ, List.set_cons_zero, List.set_cons_succ, Option.some.injEq, V.str.injEq, V.int.injEq, V.bl.injEq, V.ref.injEq, List.cons.injEq, and_true, true_and, exists_eq_left', exists_eq_left, exists_eq, exists_eq', exists_and_left, exists_and_right, and_assoc, exists_const, reduceCtorEq, if_true, if_false, ite_true, ite_false, Bool.false_eq_true, decide_true, decide_false, Bool.not_true, Bool.not_false, cxK, rSlL, eLcL, ]
    obtain ⟨ms, em, ml, hm⟩ := cutI ns (some 74) (some 79)
    refine ⟨_, SqL.of e1, fun p np => ?_⟩
    rw [em]
    have sp := same_upd (o := .lst (iL ms)) np
    refine ⟨⟨_, SqL.of upd_same⟩, lcL fun Da nD => ?_⟩
    obtain ⟨Pv, hPv⟩ : ∃ Pv : Nat → Hp → Prop, ∀ i H', Pv i H' ↔ ∃ ks, Same (upd H5 p (.lst (iL ms))) H' ∧ H' Da = some (.lst (iL ks)) ∧ ks.length = i ∧ ∀ k ∈ ks, k ≤ t.length := ⟨_, fun _ _ => Iff.rfl⟩
    refine ⟨iL ms, Pv, (hPv _ _).mpr ⟨[], same_upd nD, upd_same, rfl, fun k hk => by cases hk⟩, fun i H' _ g => ?_, fun i v H' hv g => ?_, fun H' g => ?_⟩
    · obtain ⟨_, s, _⟩ := (hPv _ _).mp g
      exact SqL.of (s _ _ upd_same)
    · obtain ⟨ks, s, e, l, hk⟩ := (hPv _ _).mp g
      obtain ⟨zz, hz, rfl⟩ := iL_at hv
      have il : i < ms.length := (List.getElem?_eq_some_iff.mp hz).1
      obtain ⟨r9, f, hr9⟩ := mod_lt' (i := (zz : Int)) (m := t.length + 1) (by omega)
      simp only [tSeq, tAsg, tCB, tCons, tVar, tNil, gName, tRet, tRetN, tDrop, tNext, tIfS, tTest, tB, tOr, tAnd, tNot, tIf, tOrV, tAndV, tNotV, tChain, rI0, rI, rU, tUn, tC, tOp, rNe, rEq, tCall, tPart, tNoPart, tSl, tM0, tM1, tTup, tLst, tAug, gTup, gCons, gNil, rAdd, rSub, tNever, tBreak, tCont, L2.start, scSS, scII, scBB, ipI, sS, dS, d1, mkS, sL, nc1, nc2, Int.natCast_inj, List.map_cons, List.map_nil, List.length_cons, List.length_nil, List.replicate, List.cons_append, List.nil_append, List.append_nil, List.getElem?_cons_zero, List.getElem?_cons_succ, List.set_cons_zero, List.set_cons_succ, Option.some.injEq, V.str.injEq, V.int.injEq, V.bl.injEq, V.ref.injEq, List.cons.injEq, and_true, true_and, exists_eq_left', exists_eq_left, exists_eq, exists_eq', exists_and_left, exists_and_right, and_assoc, exists_const, reduceCtorEq, if_true, if_false, ite_true, ite_false, Bool.false_eq_true, decide_true, decide_false, Bool.not_true, Bool.not_false, cxK, wipe, sL, ]
      refine ⟨sz5 (by omega), by omega, _, e, sz5 (by rw [iL_len]; omega), (hPv _ _).mpr ⟨ks ++ [r9], same_mut s nD, ?_, by rw [List.length_append, l]; rfl, fun k hkk => ?_⟩⟩
      · rw [f, iL_app]
        exact upd_same
      · rcases List.mem_append.1 hkk with h | h
        · exact hk k h
        · rw [List.mem_singleton.1 h]
          omega
    · obtain ⟨ks, s, e, l, hk⟩ := (hPv _ _).mp g
      have ss := sp.trans s
      exact ⟨Da, ks, e, hk, gps gp ss, (hB _ _ _ _ _ _ _ _ _).mpr ⟨rfl, s5.trans ss, ss _ _ e1, nl, dr⟩⟩
  obtain ⟨a6, ms, e6, hms, gp, g6⟩ := g6
  obtain ⟨rfl, s6, e1, _, _⟩ := (hB _ _ _ _ _ _ _ _ _).mp g6
  simp only [tSeq, tAsg, tCB, tCons, tVar, tNil, gName, tRet, tRetN, tDrop, tNext, tIfS, tTest, tB, tOr, tAnd, tNot, tIf, tOrV, tAndV, tNotV, tChain, rI0, rI, rU, tUn, tC, tOp, rNe, rEq, tCall, tPart, tNoPart, tSl, tM0, tM1, tTup, tLst, tAug, gTup, gCons, gNil, rAdd, rSub, tNever, tBreak, tCont, L2.start, scSS, scII, scBB, ipI, sS, dS, d1, mkS, sL, nc1, nc2, Int.natCast_inj, List.map_cons, List.map_nil, List.length_cons, List.length_nil, List.replicate, List.cons_append, List.nil_append, List.append_nil, List.getElem?_cons_zero, List.getElem?_cons_succ, List.set_cons_zero, List.set_cons_succ, Option.some.injEq, V.str.injEq, V.int.injEq, V.bl.injEq, V.ref.injEq, List.cons.injEq, and_true, true_and, exists_eq_left', exists_eq_left, exists_eq, exists_eq', exists_and_left, exists_and_right, and_assoc, exists_const, reduceCtorEq, if_true, if_false, ite_true, ite_false, Bool.false_eq_true, decide_true, decide_false, Bool.not_true, Bool.not_false, cxK, rSlL, sp_alike, sp_mir, ]
  obtain ⟨p, q', g1, g2, d1', d2', n1', n2', me⟩ := (hGP _ _ _).mp gp
  have ak : ∀ H', Same H6 H' → Ask K H' x p t := fun H' s => ⟨g1.same s, d1', n1', tA, by omega⟩
  obtain ⟨ks, em, ml, hm⟩ := cutI ns (some 62) (some 70)
  refine ⟨p, ak _ (Same.refl _), q', ⟨g2, d2', n2', tA, by omega⟩, me, ms, e6, hms, fun H7 s7 => ⟨_, SqL.of (s7 _ _ e1), fun pp np => ?_⟩⟩
  rw [em]
  have sp := same_upd (o := .lst (iL ks)) np
  exact ⟨⟨p, ak _ (s7.trans sp)⟩, ks, upd_same, fun k hk => dr k (hm k hk), fun H8 s8 => q H8 (((s6.trans s7).trans sp).trans s8)⟩
end
end Pd

namespace Pd
open PySem PySem.Spec PyProof.Rows L2
open SX (S)
def rCatS (K : PySem.W.Frag) : R2 := fun x y H Q => ∃ l b xs zs, x = .ref l ∧ y = .ref b ∧ SqL K H l xs ∧ SqL K H b zs ∧ xs.length + zs.length ≤ sizeLine ∧ ∀ p, H p = none → Q (.ref p) (upd H p (.lst (xs ++ zs)))
theorem op_cat {X : Cx} : OpR X (binaryOp .Add) (rCatS X.K) := by
  intro pins s σ H x y v u Q I rx ry h
  obtain ⟨l, b, xs, zs, rfl, rfl, hH, hB, hz, q⟩ := h
  cases rx
  cases ry
  obtain ⟨its, r, ⟨⟨c1, d1, da1, sl1⟩, n1, g1, hc1, hd1, hs1⟩, z1⟩ := I.list hH
  obtain ⟨its2, r2, ⟨⟨c2, d2, da2, sl2⟩, n2, g2, hc2, hd2, hs2⟩, z2⟩ := I.list hB
  simp only at hc1 hd1 hs1 hc2 hd2 hs2
  subst hc1 hd1 hs1 hc2 hd2 hs2
  refine concat_meets ⟨_, g1, rfl⟩ ⟨_, g2, rfl⟩ noFill_list_add seq_list_add PySem.F.slot_list_add PySem.F.entry_list_add (PySem.F.args_list_add_2 _ _) (list_addW l b its.toArray its2.toArray n1 n2 none none sl1 sl2 (by rw [List.size_toArray, List.size_toArray, ← r.length, ← r2.length]; exact hz)) ⟨g1, g2, ?_⟩
  rw [show its.toArray ++ its2.toArray = (its ++ its2).toArray by simp]
  exact ⟨.ref _, _, I.lnew (t' := s.toks) (r.append r2) (by rw [List.length_append]; exact hz), rfl, q _ I.fresh⟩
section
variable {P : Program} {w : World} {K : PySem.W.Frag} {mg : Str → Option Value} {base : Heap}
def sp_law (K : PySem.W.Frag) : Sp := fun vs H Q _ => ∃ (a : Addr) (ns : List Int), vs = [.ref a] ∧ SqL K H a (ns.map V.int) ∧ ns.length ≤ 63 ∧ ∀ H', Q (.bl true) H'
theorem sclaw : FnScope ["_law_script", "_law_cell"] ["_law_script"] (defScope (topS 46)) := ⟨rfl, rfl, rfl, by decide +kernel, rfl, by decide +kernel, by decide +kernel⟩
theorem ok_law {e : Addr} {ed : FuncData} (T : BiA mg) (FL : Fun K "law" "law" (topS 46) e ed) (c_law_cell_right : Cal P w K mg base 34 "_law_cell_right" sp_cell) : FnOk P w K mg base CX0 35 e ed ["_law_script"] (sp_law K) := by
  refine FL.ok sclaw (fun vs H Q E h => ?_) (fun cdv A outer s H vs Q E hr h => ?_)
  · obtain ⟨a, ns, rfl, _⟩ := h
    rfl
  obtain ⟨a, ns, rfl, hs, hn, q⟩ := h
  refine ⟨_, (pss_cons (ps_for PassesOwn.never rfl (pi_list (pe_slice sl_list (pe_op op_cat (pv 0) (pe_lst (pa_cons pe_int pa_nil))) po_none (po_some pe_int))) (pg_name (i := 1) sclaw.nd rfl (Or.inl rfl)) (pss_one (ps_if (pt_not (pt_val (pc c_law_cell_right hr (by decide) rfl (pa_cons (pv 1) pa_nil)))) (pss_one (ps_ret pe_bl)) pss_nil)))
      (pss_one (ps_ret pe_bl))), ?_⟩
  simp only [tSeq, tAsg, tCB, tCons, tVar, tNil, gName, tRet, tRetN, tDrop, tNext, tIfS, tTest, tB, tOr, tAnd, tNot, tIf, tOrV, tAndV, tNotV, tChain, rI0, rI, rU, tUn, tC, tOp, rNe, rEq, tCall, tPart, tNoPart, tSl, tM0, tM1, tTup, tLst, tAug, gTup, gCons, gNil, rAdd, rSub, tNever, tBreak, tCont, L2.start, scSS, scII, scBB, ipI, sS, dS, d1, mkS, sL, nc1, nc2, Int.natCast_inj, List.map_cons, List.map_nil, List.length_cons, List.length_nil, List.replicate, List.cons_append, List.nil_append, List.append_nil, List.getElem?_cons_zero, List.getElem?_cons_succ, List.set_cons_zero, List.set_cons_succ, Option.some.injEq, V.str.injEq, V.int.injEq, V.bl.injEq, V.ref.injEq, List.cons.injEq, and_true, true_and, exists_eq_left', exists_eq_left, exists_eq, exists_eq', exists_and_left, exists_and_right, and_assoc, exists_const, reduceCtorEq, if_true, if_false, ite_true, ite_false, Bool.false_eq_true, decide_true, decide_false, Bool.not_true, Bool.not_false, rSlL, cxK, eFoL]
  refine ⟨by decide, fun p7 n7 => ?_⟩
  have s17 := same_upd (o := .lst [V.int 0]) n7
  refine ⟨a, p7, _, _, rfl, rfl, s17.seq hs, SqL.of upd_same, by rw [List.length_map]; exact sz5 (show ns.length + 1 ≤ _ by omega), fun p8 n8 => ?_⟩
  have s18 := s17.trans (same_upd (o := .lst (ns.map V.int ++ [V.int 0])) n8)
  refine ⟨p8, rfl, _, SqL.of upd_same, fun p9 n9 => ?_⟩
  obtain ⟨zs, hzs⟩ : ∃ zs : List Int, cutV (ns.map V.int ++ [V.int 0]) none (some 3) = zs.map V.int := by
    rw [show ns.map V.int ++ [V.int 0] = (ns ++ [0]).map V.int by simp]
    unfold cutV
    exact ⟨_, by rw [List.map_take, List.map_drop]⟩
  rw [hzs]
  generalize (upd (upd H p7 (HO.lst [V.int 0])) p8 (HO.lst (ns.map V.int ++ [V.int 0]))) = H8 at s18 n9 ⊢
  obtain ⟨H9, hH9⟩ : ∃ H9, H9 = upd H8 p9 (.lst (zs.map V.int)) := ⟨_, rfl⟩
  rw [← hH9]
  have e9 : H9 p9 = some (.lst (zs.map V.int)) := by rw [hH9]; exact upd_same
  obtain ⟨Pv, hPv⟩ : ∃ Pv : Nat → L2.St → Hp → Prop, ∀ i σ H', Pv i σ H' ↔ (∃ v1 : Option V, σ = [some (.ref a), v1] ∧ Same H9 H') := ⟨_, fun _ _ _ => Iff.rfl⟩
  refine ⟨⟨_, SqL.of e9⟩, foL (zs.map V.int) Pv ?_ ?_ ?_ ?_⟩
  · exact (hPv _ _ _).mpr ⟨none, rfl, Same.refl H9⟩
  · intro i σ H' hi hP
    obtain ⟨v1, rfl, sp⟩ := (hPv _ _ _).mp hP
    exact SqL.of (sp _ _ e9)
  · intro i x σ H' hx hP
    obtain ⟨v1, rfl, sp⟩ := (hPv _ _ _).mp hP
    obtain ⟨z, rfl⟩ : ∃ z : Int, x = .int z := by
      rw [List.getElem?_map] at hx
      cases e : zs[i]? with
      | none => rw [e] at hx; cases hx
      | some d => rw [e] at hx; exact ⟨d, (Option.some.inj hx).symm⟩
    simp only [tSeq, tAsg, tCB, tCons, tVar, tNil, gName, tRet, tRetN, tDrop, tNext, tIfS, tTest, tB, tOr, tAnd, tNot, tIf, tOrV, tAndV, tNotV, tChain, rI0, rI, rU, tUn, tC, tOp, rNe, rEq, tCall, tPart, tNoPart, tSl, tM0, tM1, tTup, tLst, tAug, gTup, gCons, gNil, rAdd, rSub, tNever, tBreak, tCont, L2.start, scSS, scII, scBB, ipI, sS, dS, d1, mkS, sL, nc1, nc2, Int.natCast_inj, List.map_cons, List.map_nil, List.length_cons, List.length_nil, List.replicate, List.cons_append, List.nil_append, List.append_nil, List.getElem?_cons_zero, List.getElem?_cons_succ, List.set_cons_zero, List.set_cons_succ, Option.some.injEq, V.str.injEq, V.int.injEq, V.bl.injEq, V.ref.injEq, List.cons.injEq, and_true, true_and, exists_eq_left', exists_eq_left, exists_eq, exists_eq', exists_and_left, exists_and_right, and_assoc, exists_const, reduceCtorEq, if_true, if_false, ite_true, ite_false, Bool.false_eq_true, decide_true, decide_false, Bool.not_true, Bool.not_false, cxK, sp_cell]
    exact fun H4 s4 => (hPv _ _ _).mpr ⟨_, rfl, sp.trans s4⟩
  · intro σ H' hP
    obtain ⟨v1, rfl, sp⟩ := (hPv _ _ _).mp hP
    simp only [tSeq, tAsg, tCB, tCons, tVar, tNil, gName, tRet, tRetN, tDrop, tNext, tIfS, tTest, tB, tOr, tAnd, tNot, tIf, tOrV, tAndV, tNotV, tChain, rI0, rI, rU, tUn, tC, tOp, rNe, rEq, tCall, tPart, tNoPart, tSl, tM0, tM1, tTup, tLst, tAug, gTup, gCons, gNil, rAdd, rSub, tNever, tBreak, tCont, L2.start, scSS, scII, scBB, ipI, sS, dS, d1, mkS, sL, nc1, nc2, Int.natCast_inj, List.map_cons, List.map_nil, List.length_cons, List.length_nil, List.replicate, List.cons_append, List.nil_append, List.append_nil, List.getElem?_cons_zero, List.getElem?_cons_succ, List.set_cons_zero, List.set_cons_succ, Option.some.injEq, V.str.injEq, V.int.injEq, V.bl.injEq, V.ref.injEq, List.cons.injEq, and_true, true_and, exists_eq_left', exists_eq_left, exists_eq, exists_eq', exists_and_left, exists_and_right, and_assoc, exists_const, reduceCtorEq, if_true, if_false, ite_true, ite_false, Bool.false_eq_true, decide_true, decide_false, Bool.not_true, Bool.not_false, cxK]
    exact q H'
end
end Pd

namespace Pd
open PySem PySem.Spec PyProof.Rows L2
open SX (S)
/-! ## what the top has written -/
theorem dfn_mk {K : PySem.W.Frag} {h : Heap} {mg : Str → Option Value} {x : Str} {st : Stmt} {ps : List Str} {f : Addr} {oc : Value} {od an : Option Addr} {osl : Array (Option Value)} {kV doc pm cdv ct : Value} (X : K.In h) (G : h.Ns mainGlobals mg)
    (a : PySem.W.nsIn K mainGlobals x = some (some (.ref f))) (l : K.lookup f = some ⟨oc, od, .func (PySem.W.fnOf x x (defArgs st) (defBody st) (defScope st) .none kV doc pm an cdv ct), osl⟩) (c : PySem.W.codeIn K cdv x = true) (k : PySem.W.keepIn K (.ref f) = true)
    (b : ∀ (kV doc pm : Value) (an : Option Addr) (cdv ct : Value) (us : List Value), us.length = ps.length → bindArgs (PySem.W.fnOf x x (defArgs st) (defBody st) (defScope st) .none kV doc pm an cdv ct) ⟨us, []⟩ = pure (ps.zip us)) (hp : ps = (defArgs st).args.map (·.arg)) : Dfn K mg x st ps := by
  have F := fun_mk (st := st) l c k
  exact ⟨f, _, F, PySem.W.mg_of X G a, F.binds b, hp⟩
def iOf : Value → Option Int
  | .int i _ => some i
  | _ => none
theorem int_mk {K : PySem.W.Frag} {h : Heap} {mg : Str → Option Value} {x : Str} {v : Value} {n : Int} (X : K.In h) (G : h.Ns mainGlobals mg) (a : PySem.W.nsIn K mainGlobals x = some (some v)) (hv : iOf v = some n) : ∃ t, mg x = some (.int n t) := by
  cases v <;> first
    | (obtain rfl := Option.some.inj hv; exact ⟨_, PySem.W.mg_of X G a⟩)
    | cases hv
def sOf : Value → Option Str
  | .str x _ => some x
  | _ => none
theorem str_mk {K : PySem.W.Frag} {h : Heap} {mg : Str → Option Value} {x : Str} {v : Value} {n : Str} (X : K.In h) (G : h.Ns mainGlobals mg) (a : PySem.W.nsIn K mainGlobals x = some (some v)) (hv : sOf v = some n) : ∃ t, mg x = some (.str n t) := by
  cases v <;> first
    | (obtain rfl := Option.some.inj hv; exact ⟨_, PySem.W.mg_of X G a⟩)
    | cases hv
def kOf (e : DictEntry) : Option (Str × Int) := match e.key with
  | .str x _ => some (x, e.hash)
  | _ => none
def vOf (e : DictEntry) : Option V := match e.val with
  | .bool b => some (.bl b)
  | .str x _ => some (.str x)
  | .int i _ => some (.int i)
  | .ref a => some (.ref a)
  | _ => none
theorem kOf_key {e : DictEntry} {k : Str} {n : Int} (h : kOf e = some (k, n)) : ∃ t, e.key = .str k t ∧ e.hash = n := by
  unfold kOf at h
  split at h
  · rename_i x t q
    obtain ⟨h5, h6⟩ := Prod.mk.inj (Option.some.inj h)
    exact ⟨t, by rw [q, h5], h6⟩
  · cases h
theorem vOf_rel {e : DictEntry} {v : V} (h : vOf e = some v) : RelV v e.val := by
  unfold vOf at h
  split at h
  · rename_i b q
    cases h
    exact q
  · rename_i x t q
    cases h
    exact ⟨t, q⟩
  · rename_i x t q
    cases h
    exact ⟨t, q⟩
  · rename_i a q
    cases h
    exact q
  · cases h
theorem tab_find {P : Params} : ∀ {l : List DictEntry} {kvs : List (Str × V)}, l.map kOf = kvs.map (fun q => some (q.1, PyData.keyHash P q.1)) → l.map vOf = kvs.map (fun q => some q.2) → ∀ z : Str,
    l.any (·.refKey) = false ∧ PySem.W.KeysLit P l ∧ (match kvs.lookup z with | some v => ∃ e, l.find? (·.key.isStr z) = some e ∧ RelV v e.val | none => l.find? (·.key.isStr z) = none)
  | [], [], _, _, z => ⟨rfl, trivial, rfl⟩
  | [], _ :: _, h, _, _ => by cases h
  | _ :: _, [], h, _, _ => by cases h
  | e :: l, (k, v) :: kvs, h, h2, z => by
    rw [List.map_cons, List.map_cons] at h h2
    obtain ⟨a1, a2⟩ := List.cons.inj h
    obtain ⟨b1, b2⟩ := List.cons.inj h2
    obtain ⟨r1, r2, r3⟩ := tab_find a2 b2 z
    obtain ⟨t, e1, e2⟩ := kOf_key a1
    refine ⟨?_, ⟨⟨k, t, e1, e2⟩, r2⟩, ?_⟩
    · rw [List.any_cons, r1]
      show (e.refKey || false) = false
      unfold DictEntry.refKey
      rw [e1]
      rfl
    · have hk : e.key.isStr z = (k == z) := by
        rw [e1]
        rfl
      rw [List.lookup_cons, List.find?_cons, hk]
      by_cases c : k = z
      · subst c
        rw [beq_self_eq_true]
        exact ⟨e, rfl, vOf_rel b1⟩
      · rw [beq_false_of_ne c, beq_false_of_ne (fun q => c q.symm)]
        exact r3
theorem tbl_mk {w : World} {K : PySem.W.Frag} {h : Heap} {mg : Str → Option Value} {x : Str} {d : Addr} {es : Array DictEntry} {n : Nat} {kvs : List (Str × V)} (X : K.In h) (G : h.Ns mainGlobals mg)
    (a : PySem.W.nsIn K mainGlobals x = some (some (.ref d))) (l : K.lookup d = some ⟨.type "dict", none, .dict es n, #[]⟩) (hk : es.toList.map kOf = kvs.map (fun q => some (q.1, PyData.keyHash w.params q.1))) (hv : es.toList.map vOf = kvs.map (fun q => some q.2)) (hs : (d == sysModules) = false) : Tbl K w mg x d kvs := by
  refine ⟨PySem.W.mg_of X G a, ⟨es, n, l, (tab_find hk hv (S [])).2.1, hs⟩, fun z => ?_⟩
  obtain ⟨r1, _, r3⟩ := tab_find hk hv z
  unfold PySem.W.nsIn
  rw [l]
  cases q : kvs.lookup z with
  | none =>
    rw [q] at r3
    have r3 : es.toList.find? (·.key.isStr z) = none := r3
    refine ⟨none, ?_, rfl⟩
    simp only [r3, r1]
    rfl
  | some v =>
    rw [q] at r3
    obtain ⟨e, r4, r5⟩ := r3
    refine ⟨some e.val, ?_, e.val, rfl, r5⟩
    simp only [r4]

theorem mdf_mk {K : PySem.W.Frag} {C : Addr} {m qu : Str} {st : Stmt} {ps : List Str} {f : Addr} {oc : Value} {od an : Option Addr} {osl : Array (Option Value)} {kV doc pm cdv ct : Value}
    (a : PySem.W.findIn K (.ref C) m = some (some (.ref f))) (i : PySem.W.isFn K (.ref f) = true) (l : K.lookup f = some ⟨oc, od, .func (PySem.W.fnOf m qu (defArgs st) (defBody st) (defScope st) .none kV doc pm an cdv ct), osl⟩) (c : PySem.W.codeIn K cdv qu = true) (k : PySem.W.keepIn K (.ref f) = true)
    (b : ∀ (kV doc pm : Value) (an : Option Addr) (cdv ct : Value) (us : List Value), us.length = ps.length → bindArgs (PySem.W.fnOf m qu (defArgs st) (defBody st) (defScope st) .none kV doc pm an cdv ct) ⟨us, []⟩ = pure (ps.zip us)) : Mdf K C m qu st ps := by
  have F := fun_mk (st := st) l c k
  exact ⟨f, _, F, ⟨a, i, k⟩, F.binds b⟩
theorem cls_mk {K : PySem.W.Frag} {h : Heap} {mg : Str → Option Value} {C : Addr} {x : Str} (X : K.In h) (G : h.Ns mainGlobals mg) (a : PySem.W.nsIn K mainGlobals x = some (some (.ref C))) (ma : PySem.W.makesIn K C = true) (kp : PySem.W.keepIn K (.ref C) = true) : ClsM K mg C x := ⟨PySem.W.mg_of X G a, ma, kp⟩
theorem oclsE {K : PySem.W.Frag} {C : Addr} (pg : PySem.W.plainGet K C Str.empty = true) (hd : PySem.W.hasDictIn K C = true) (po : PySem.W.plainOver K C = true) (sa : PySem.W.findIn K (.ref C) "__setattr__" = some (some (.builtin "object.__setattr__")))
    (n0 : PySem.W.findIn K (.ref C) "null" = some none) (n1 : PySem.W.findIn K (.ref C) "first" = some none) (n2 : PySem.W.findIn K (.ref C) "begun" = some none) (n3 : PySem.W.findIn K (.ref C) "last" = some none) (n4 : PySem.W.findIn K (.ref C) "ended" = some none) : OCls K C nsE :=
  ⟨⟨pg, hd, po, sa⟩, fun f hf => by
    simp only [nsE, List.mem_cons, List.not_mem_nil, or_false] at hf
    rcases hf with rfl | rfl | rfl | rfl | rfl <;> assumption, by decide, by decide⟩
theorem oclsA {K : PySem.W.Frag} {C : Addr} (pg : PySem.W.plainGet K C Str.empty = true) (hd : PySem.W.hasDictIn K C = true) (po : PySem.W.plainOver K C = true) (sa : PySem.W.findIn K (.ref C) "__setattr__" = some (some (.builtin "object.__setattr__")))
    (n0 : PySem.W.findIn K (.ref C) "sets" = some none) (n1 : PySem.W.findIn K (.ref C) "follow" = some none) (n2 : PySem.W.findIn K (.ref C) "masks" = some none) (n3 : PySem.W.findIn K (.ref C) "behind" = some none) (n4 : PySem.W.findIn K (.ref C) "leading" = some none) (n5 : PySem.W.findIn K (.ref C) "null" = some none) (n6 : PySem.W.findIn K (.ref C) "first" = some none) (n7 : PySem.W.findIn K (.ref C) "begun" = some none) (n8 : PySem.W.findIn K (.ref C) "last" = some none) (n9 : PySem.W.findIn K (.ref C) "ended" = some none) : OCls K C nsA :=
  ⟨⟨pg, hd, po, sa⟩, fun f hf => by
    simp only [nsA, List.mem_cons, List.not_mem_nil, or_false] at hf
    rcases hf with rfl | rfl | rfl | rfl | rfl | rfl | rfl | rfl | rfl | rfl <;> assumption, by decide, by decide⟩
theorem oclsS {K : PySem.W.Frag} {C : Addr} (pg : PySem.W.plainGet K C Str.empty = true) (hd : PySem.W.hasDictIn K C = true) (po : PySem.W.plainOver K C = true) (sa : PySem.W.findIn K (.ref C) "__setattr__" = some (some (.builtin "object.__setattr__")))
    (n0 : PySem.W.findIn K (.ref C) "automaton" = some none) (n1 : PySem.W.findIn K (.ref C) "stretch" = some none) (n2 : PySem.W.findIn K (.ref C) "threads" = some none) : OCls K C nsS :=
  ⟨⟨pg, hd, po, sa⟩, fun f hf => by
    simp only [nsS, List.mem_cons, List.not_mem_nil, or_false] at hf
    rcases hf with rfl | rfl | rfl <;> assumption, by decide, by decide⟩
def tOfV : Value → Option V
  | .str x _ => some (.str x)
  | .int i _ => some (.int i)
  | _ => none
theorem tOfV_vals : ∀ (vs : List Value) (xs : List V), vs.map tOfV = xs.map some → Vals xs vs
  | [], [], _ => .nil
  | [], _ :: _, h => by cases h
  | _ :: _, [], h => by cases h
  | v :: vs, y :: ys, h => by
    rw [List.map_cons, List.map_cons] at h
    obtain ⟨h1, h2⟩ := List.cons.inj h
    refine .cons ?_ (tOfV_vals vs ys h2)
    cases v <;> first
      | (obtain rfl := Option.some.inj h1; exact ⟨_, rfl⟩)
      | cases h1
theorem tup_mk {K : PySem.W.Frag} {a : Addr} {xs : List V} {its : Array Value} {n : Nat} {od : Option Addr} {osl : Array (Option Value)} (l : K.lookup a = some ⟨.type "tuple", od, .seq its n, osl⟩) (hs : its.size ≤ sizeLine) (hv : its.toList.map tOfV = xs.map some) : ∀ H, SqT K H a xs :=
  fun H => .inr ⟨_, its, n, l, rfl, rfl, hs, tOfV_vals _ _ hv⟩
theorem dfd_mk {K : PySem.W.Frag} {h : Heap} {mg : Str → Option Value} {x : Str} {st : Stmt} {ps : List Str} {v : V} {f TT : Addr} {oc oc2 : Value} {od an od2 : Option Addr} {osl osl2 : Array (Option Value)} {its : Array Value} {n : Nat} {kV doc pm cdv ct : Value} (X : K.In h) (G : h.Ns mainGlobals mg)
    (a : PySem.W.nsIn K mainGlobals x = some (some (.ref f))) (l : K.lookup f = some ⟨oc, od, .func (PySem.W.fnOf x x (defArgs st) (defBody st) (defScope st) (.ref TT) kV doc pm an cdv ct), osl⟩) (c : PySem.W.codeIn K cdv x = true) (k : PySem.W.keepIn K (.ref f) = true)
    (l2 : K.lookup TT = some ⟨oc2, od2, .seq its n, osl2⟩) (hv : its.toList.map tOfV = [some v]) (hp : ps = (defArgs st).args.map (·.arg)) : DfD v K mg x st ps := by
  refine ⟨f, _, ⟨⟨oc, od, _, kV, doc, pm, an, cdv, ct, osl, rfl, l, c, .inr ⟨by simp, TT, _, its.toList, n, rfl, l2, by simp, tOfV_vals _ _ hv⟩, .inl rfl⟩, k⟩, PySem.W.mg_of X G a, hp⟩
theorem bd_Edges_init : ∀ (kV doc pm : Value) (an : Option Addr) (cdv ct : Value) (us : List Value), us.length = (["self", "null", "first", "begun", "last", "ended"] : List Str).length → bindArgs (PySem.W.fnOf "__init__" "Edges.__init__" (defArgs (inClass (topS 9) 0)) (defBody (inClass (topS 9) 0)) (defScope (inClass (topS 9) 0)) .none kV doc pm an cdv ct) ⟨us, []⟩ = pure ((["self", "null", "first", "begun", "last", "ended"] : List Str).zip us) := fun _ _ _ _ _ _ us hl => match us, hl with | [_, _, _, _, _, _], _ => rfl
theorem bd_Automaton_lead : ∀ (kV doc pm : Value) (an : Option Addr) (cdv ct : Value) (us : List Value), us.length = (["self", "positions", "mask"] : List Str).length → bindArgs (PySem.W.fnOf "lead" "Automaton.lead" (defArgs (inClass (topS 10) 3)) (defBody (inClass (topS 10) 3)) (defScope (inClass (topS 10) 3)) .none kV doc pm an cdv ct) ⟨us, []⟩ = pure ((["self", "positions", "mask"] : List Str).zip us) := fun _ _ _ _ _ _ us hl => match us, hl with | [_, _, _], _ => rfl
theorem bd_mask_of : ∀ (kV doc pm : Value) (an : Option Addr) (cdv ct : Value) (us : List Value), us.length = (["positions"] : List Str).length → bindArgs (PySem.W.fnOf "mask_of" "mask_of" (defArgs (topS 11)) (defBody (topS 11)) (defScope (topS 11)) .none kV doc pm an cdv ct) ⟨us, []⟩ = pure ((["positions"] : List Str).zip us) := fun _ _ _ _ _ _ us hl => match us, hl with | [_], _ => rfl
theorem bd_united : ∀ (kV doc pm : Value) (an : Option Addr) (cdv ct : Value) (us : List Value), us.length = (["parts"] : List Str).length → bindArgs (PySem.W.fnOf "united" "united" (defArgs (topS 12)) (defBody (topS 12)) (defScope (topS 12)) .none kV doc pm an cdv ct) ⟨us, []⟩ = pure ((["parts"] : List Str).zip us) := fun _ _ _ _ _ _ us hl => match us, hl with | [_], _ => rfl
theorem bd_Automaton_in_row : ∀ (kV doc pm : Value) (an : Option Addr) (cdv ct : Value) (us : List Value), us.length = (["self", "one", "other"] : List Str).length → bindArgs (PySem.W.fnOf "in_row" "Automaton.in_row" (defArgs (inClass (topS 10) 4)) (defBody (inClass (topS 10) 4)) (defScope (inClass (topS 10) 4)) .none kV doc pm an cdv ct) ⟨us, []⟩ = pure ((["self", "one", "other"] : List Str).zip us) := fun _ _ _ _ _ _ us hl => match us, hl with | [_, _, _], _ => rfl
theorem bd_Automaton_built_part : ∀ (kV doc pm : Value) (an : Option Addr) (cdv ct : Value) (us : List Value), us.length = (["self", "pattern"] : List Str).length → bindArgs (PySem.W.fnOf "built_part" "Automaton.built_part" (defArgs (inClass (topS 10) 1)) (defBody (inClass (topS 10) 1)) (defScope (inClass (topS 10) 1)) .none kV doc pm an cdv ct) ⟨us, []⟩ = pure ((["self", "pattern"] : List Str).zip us) := fun _ _ _ _ _ _ us hl => match us, hl with | [_, _], _ => rfl
theorem bd_Automaton_built_repeat : ∀ (kV doc pm : Value) (an : Option Addr) (cdv ct : Value) (us : List Value), us.length = (["self", "pattern"] : List Str).length → bindArgs (PySem.W.fnOf "built_repeat" "Automaton.built_repeat" (defArgs (inClass (topS 10) 2)) (defBody (inClass (topS 10) 2)) (defScope (inClass (topS 10) 2)) .none kV doc pm an cdv ct) ⟨us, []⟩ = pure ((["self", "pattern"] : List Str).zip us) := fun _ _ _ _ _ _ us hl => match us, hl with | [_, _], _ => rfl
theorem bd_Automaton_init : ∀ (kV doc pm : Value) (an : Option Addr) (cdv ct : Value) (us : List Value), us.length = (["self", "pattern"] : List Str).length → bindArgs (PySem.W.fnOf "__init__" "Automaton.__init__" (defArgs (inClass (topS 10) 0)) (defBody (inClass (topS 10) 0)) (defScope (inClass (topS 10) 0)) .none kV doc pm an cdv ct) ⟨us, []⟩ = pure ((["self", "pattern"] : List Str).zip us) := fun _ _ _ _ _ _ us hl => match us, hl with | [_, _], _ => rfl
theorem bd_Automaton_standing_for : ∀ (kV doc pm : Value) (an : Option Addr) (cdv ct : Value) (us : List Value), us.length = (["self", "sign"] : List Str).length → bindArgs (PySem.W.fnOf "standing_for" "Automaton.standing_for" (defArgs (inClass (topS 10) 5)) (defBody (inClass (topS 10) 5)) (defScope (inClass (topS 10) 5)) .none kV doc pm an cdv ct) ⟨us, []⟩ = pure ((["self", "sign"] : List Str).zip us) := fun _ _ _ _ _ _ us hl => match us, hl with | [_, _], _ => rfl
theorem bd_Automaton_after : ∀ (kV doc pm : Value) (an : Option Addr) (cdv ct : Value) (us : List Value), us.length = (["self", "taken"] : List Str).length → bindArgs (PySem.W.fnOf "after" "Automaton.after" (defArgs (inClass (topS 10) 6)) (defBody (inClass (topS 10) 6)) (defScope (inClass (topS 10) 6)) .none kV doc pm an cdv ct) ⟨us, []⟩ = pure ((["self", "taken"] : List Str).zip us) := fun _ _ _ _ _ _ us hl => match us, hl with | [_, _], _ => rfl
theorem bd_Automaton_takes_empty : ∀ (kV doc pm : Value) (an : Option Addr) (cdv ct : Value) (us : List Value), us.length = (["self", "at", "length"] : List Str).length → bindArgs (PySem.W.fnOf "takes_empty" "Automaton.takes_empty" (defArgs (inClass (topS 10) 7)) (defBody (inClass (topS 10) 7)) (defScope (inClass (topS 10) 7)) .none kV doc pm an cdv ct) ⟨us, []⟩ = pure ((["self", "at", "length"] : List Str).zip us) := fun _ _ _ _ _ _ us hl => match us, hl with | [_, _, _], _ => rfl
theorem bd_Automaton_takes_last : ∀ (kV doc pm : Value) (an : Option Addr) (cdv ct : Value) (us : List Value), us.length = (["self", "taken", "at", "length"] : List Str).length → bindArgs (PySem.W.fnOf "takes_last" "Automaton.takes_last" (defArgs (inClass (topS 10) 8)) (defBody (inClass (topS 10) 8)) (defScope (inClass (topS 10) 8)) .none kV doc pm an cdv ct) ⟨us, []⟩ = pure ((["self", "taken", "at", "length"] : List Str).zip us) := fun _ _ _ _ _ _ us hl => match us, hl with | [_, _, _, _], _ => rfl
theorem bd_is_taken : ∀ (kV doc pm : Value) (an : Option Addr) (cdv ct : Value) (us : List Value), us.length = (["automaton", "text", "start", "end"] : List Str).length → bindArgs (PySem.W.fnOf "is_taken" "is_taken" (defArgs (topS 14)) (defBody (topS 14)) (defScope (topS 14)) .none kV doc pm an cdv ct) ⟨us, []⟩ = pure ((["automaton", "text", "start", "end"] : List Str).zip us) := fun _ _ _ _ _ _ us hl => match us, hl with | [_, _, _, _], _ => rfl
theorem bd_longest_from : ∀ (kV doc pm : Value) (an : Option Addr) (cdv ct : Value) (us : List Value), us.length = (["automaton", "text", "start"] : List Str).length → bindArgs (PySem.W.fnOf "longest_from" "longest_from" (defArgs (topS 15)) (defBody (topS 15)) (defScope (topS 15)) .none kV doc pm an cdv ct) ⟨us, []⟩ = pure ((["automaton", "text", "start"] : List Str).zip us) := fun _ _ _ _ _ _ us hl => match us, hl with | [_, _, _], _ => rfl
theorem bd_Search_take : ∀ (kV doc pm : Value) (an : Option Addr) (cdv ct : Value) (us : List Value), us.length = (["self", "mask", "last", "end"] : List Str).length → bindArgs (PySem.W.fnOf "take" "Search.take" (defArgs (inClass (topS 16) 2)) (defBody (inClass (topS 16) 2)) (defScope (inClass (topS 16) 2)) .none kV doc pm an cdv ct) ⟨us, []⟩ = pure ((["self", "mask", "last", "end"] : List Str).zip us) := fun _ _ _ _ _ _ us hl => match us, hl with | [_, _, _, _], _ => rfl
theorem bd_Search_look : ∀ (kV doc pm : Value) (an : Option Addr) (cdv ct : Value) (us : List Value), us.length = (["self", "text", "begin", "goes_on"] : List Str).length → bindArgs (PySem.W.fnOf "look" "Search.look" (defArgs (inClass (topS 16) 1)) (defBody (inClass (topS 16) 1)) (defScope (inClass (topS 16) 1)) .none kV doc pm an cdv ct) ⟨us, []⟩ = pure ((["self", "text", "begin", "goes_on"] : List Str).zip us) := fun _ _ _ _ _ _ us hl => match us, hl with | [_, _, _, _], _ => rfl
theorem bd_Search_init : ∀ (kV doc pm : Value) (an : Option Addr) (cdv ct : Value) (us : List Value), us.length = (["self", "automaton", "text", "begin", "goes_on"] : List Str).length → bindArgs (PySem.W.fnOf "__init__" "Search.__init__" (defArgs (inClass (topS 16) 0)) (defBody (inClass (topS 16) 0)) (defScope (inClass (topS 16) 0)) .none kV doc pm an cdv ct) ⟨us, []⟩ = pure ((["self", "automaton", "text", "begin", "goes_on"] : List Str).zip us) := fun _ _ _ _ _ _ us hl => match us, hl with | [_, _, _, _, _], _ => rfl
theorem bd_empty_ones : ∀ (kV doc pm : Value) (an : Option Addr) (cdv ct : Value) (us : List Value), us.length = (["automaton", "text", "first", "end"] : List Str).length → bindArgs (PySem.W.fnOf "empty_ones" "empty_ones" (defArgs (topS 19)) (defBody (topS 19)) (defScope (topS 19)) .none kV doc pm an cdv ct) ⟨us, []⟩ = pure ((["automaton", "text", "first", "end"] : List Str).zip us) := fun _ _ _ _ _ _ us hl => match us, hl with | [_, _, _, _], _ => rfl
theorem bd_cuts_in : ∀ (kV doc pm : Value) (an : Option Addr) (cdv ct : Value) (us : List Value), us.length = (["automaton", "text"] : List Str).length → bindArgs (PySem.W.fnOf "cuts_in" "cuts_in" (defArgs (topS 17)) (defBody (topS 17)) (defScope (topS 17)) .none kV doc pm an cdv ct) ⟨us, []⟩ = pure ((["automaton", "text"] : List Str).zip us) := fun _ _ _ _ _ _ us hl => match us, hl with | [_, _], _ => rfl
theorem bd_stretches_in : ∀ (kV doc pm : Value) (an : Option Addr) (cdv ct : Value) (us : List Value), us.length = (["automaton", "text"] : List Str).length → bindArgs (PySem.W.fnOf "stretches_in" "stretches_in" (defArgs (topS 18)) (defBody (topS 18)) (defScope (topS 18)) .none kV doc pm an cdv ct) ⟨us, []⟩ = pure ((["automaton", "text"] : List Str).zip us) := fun _ _ _ _ _ _ us hl => match us, hl with | [_, _], _ => rfl
theorem bd_found_in : ∀ (kV doc pm : Value) (an : Option Addr) (cdv ct : Value) (us : List Value), us.length = (["automaton", "text", "begin"] : List Str).length → bindArgs (PySem.W.fnOf "found_in" "found_in" (defArgs (topS 20)) (defBody (topS 20)) (defScope (topS 20)) .none kV doc pm an cdv ct) ⟨us, []⟩ = pure ((["automaton", "text", "begin"] : List Str).zip us) := fun _ _ _ _ _ _ us hl => match us, hl with | [_, _, _], _ => rfl
theorem bd_takes : ∀ (kV doc pm : Value) (an : Option Addr) (cdv ct : Value) (us : List Value), us.length = (["pattern", "text", "start", "end"] : List Str).length → bindArgs (PySem.W.fnOf "takes" "takes" (defArgs (topS 22)) (defBody (topS 22)) (defScope (topS 22)) .none kV doc pm an cdv ct) ⟨us, []⟩ = pure ((["pattern", "text", "start", "end"] : List Str).zip us) := fun _ _ _ _ _ _ us hl => match us, hl with | [_, _, _, _], _ => rfl
theorem bd_longest : ∀ (kV doc pm : Value) (an : Option Addr) (cdv ct : Value) (us : List Value), us.length = (["pattern", "text", "start"] : List Str).length → bindArgs (PySem.W.fnOf "longest" "longest" (defArgs (topS 23)) (defBody (topS 23)) (defScope (topS 23)) .none kV doc pm an cdv ct) ⟨us, []⟩ = pure ((["pattern", "text", "start"] : List Str).zip us) := fun _ _ _ _ _ _ us hl => match us, hl with | [_, _, _], _ => rfl
theorem bd_stretches : ∀ (kV doc pm : Value) (an : Option Addr) (cdv ct : Value) (us : List Value), us.length = (["pattern", "text"] : List Str).length → bindArgs (PySem.W.fnOf "stretches" "stretches" (defArgs (topS 25)) (defBody (topS 25)) (defScope (topS 25)) .none kV doc pm an cdv ct) ⟨us, []⟩ = pure ((["pattern", "text"] : List Str).zip us) := fun _ _ _ _ _ _ us hl => match us, hl with | [_, _], _ => rfl
theorem bd_cuts : ∀ (kV doc pm : Value) (an : Option Addr) (cdv ct : Value) (us : List Value), us.length = (["pattern", "text"] : List Str).length → bindArgs (PySem.W.fnOf "cuts" "cuts" (defArgs (topS 26)) (defBody (topS 26)) (defScope (topS 26)) .none kV doc pm an cdv ct) ⟨us, []⟩ = pure ((["pattern", "text"] : List Str).zip us) := fun _ _ _ _ _ _ us hl => match us, hl with | [_, _], _ => rfl
theorem bd_law_drops : ∀ (kV doc pm : Value) (an : Option Addr) (cdv ct : Value) (us : List Value), us.length = (["_law_cell", "_law_many"] : List Str).length → bindArgs (PySem.W.fnOf "_law_drops" "_law_drops" (defArgs (topS 31)) (defBody (topS 31)) (defScope (topS 31)) .none kV doc pm an cdv ct) ⟨us, []⟩ = pure ((["_law_cell", "_law_many"] : List Str).zip us) := fun _ _ _ _ _ _ us hl => match us, hl with | [_, _], _ => rfl
theorem bd_law_signs : ∀ (kV doc pm : Value) (an : Option Addr) (cdv ct : Value) (us : List Value), us.length = ([] : List Str).length → bindArgs (PySem.W.fnOf "_law_signs" "_law_signs" (defArgs (topS 32)) (defBody (topS 32)) (defScope (topS 32)) .none kV doc pm an cdv ct) ⟨us, []⟩ = pure (([] : List Str).zip us) := fun _ _ _ _ _ _ us hl => match us, hl with | [], _ => rfl
theorem bd_law_letter : ∀ (kV doc pm : Value) (an : Option Addr) (cdv ct : Value) (us : List Value), us.length = (["_law_drop"] : List Str).length → bindArgs (PySem.W.fnOf "_law_letter" "_law_letter" (defArgs (topS 33)) (defBody (topS 33)) (defScope (topS 33)) .none kV doc pm an cdv ct) ⟨us, []⟩ = pure ((["_law_drop"] : List Str).zip us) := fun _ _ _ _ _ _ us hl => match us, hl with | [_], _ => rfl
theorem bd_law_class : ∀ (kV doc pm : Value) (an : Option Addr) (cdv ct : Value) (us : List Value), us.length = (["_law_drop"] : List Str).length → bindArgs (PySem.W.fnOf "_law_class" "_law_class" (defArgs (topS 34)) (defBody (topS 34)) (defScope (topS 34)) .none kV doc pm an cdv ct) ⟨us, []⟩ = pure ((["_law_drop"] : List Str).zip us) := fun _ _ _ _ _ _ us hl => match us, hl with | [_], _ => rfl
theorem bd_law_leaf : ∀ (kV doc pm : Value) (an : Option Addr) (cdv ct : Value) (us : List Value), us.length = (["_law_drop"] : List Str).length → bindArgs (PySem.W.fnOf "_law_leaf" "_law_leaf" (defArgs (topS 35)) (defBody (topS 35)) (defScope (topS 35)) .none kV doc pm an cdv ct) ⟨us, []⟩ = pure ((["_law_drop"] : List Str).zip us) := fun _ _ _ _ _ _ us hl => match us, hl with | [_], _ => rfl
theorem bd_law_flat : ∀ (kV doc pm : Value) (an : Option Addr) (cdv ct : Value) (us : List Value), us.length = (["_law_word", "_law_parts"] : List Str).length → bindArgs (PySem.W.fnOf "_law_flat" "_law_flat" (defArgs (topS 36)) (defBody (topS 36)) (defScope (topS 36)) .none kV doc pm an cdv ct) ⟨us, []⟩ = pure ((["_law_word", "_law_parts"] : List Str).zip us) := fun _ _ _ _ _ _ us hl => match us, hl with | [_, _], _ => rfl
theorem bd_law_tree : ∀ (kV doc pm : Value) (an : Option Addr) (cdv ct : Value) (us : List Value), us.length = (["_law_drops_here", "_law_spot", "_law_room", "_law_deep"] : List Str).length → bindArgs (PySem.W.fnOf "_law_tree" "_law_tree" (defArgs (topS 37)) (defBody (topS 37)) (defScope (topS 37)) .none kV doc pm an cdv ct) ⟨us, []⟩ = pure ((["_law_drops_here", "_law_spot", "_law_room", "_law_deep"] : List Str).zip us) := fun _ _ _ _ _ _ us hl => match us, hl with | [_, _, _, _], _ => rfl
theorem bd_law_same : ∀ (kV doc pm : Value) (an : Option Addr) (cdv ct : Value) (us : List Value), us.length = (["_law_heard", "_law_due"] : List Str).length → bindArgs (PySem.W.fnOf "_law_same" "_law_same" (defArgs (topS 38)) (defBody (topS 38)) (defScope (topS 38)) .none kV doc pm an cdv ct) ⟨us, []⟩ = pure ((["_law_heard", "_law_due"] : List Str).zip us) := fun _ _ _ _ _ _ us hl => match us, hl with | [_, _], _ => rfl
theorem bd_law_text : ∀ (kV doc pm : Value) (an : Option Addr) (cdv ct : Value) (us : List Value), us.length = (["_law_drops_here", "_law_many"] : List Str).length → bindArgs (PySem.W.fnOf "_law_text" "_law_text" (defArgs (topS 39)) (defBody (topS 39)) (defScope (topS 39)) .none kV doc pm an cdv ct) ⟨us, []⟩ = pure ((["_law_drops_here", "_law_many"] : List Str).zip us) := fun _ _ _ _ _ _ us hl => match us, hl with | [_, _], _ => rfl
theorem bd_law_copies : ∀ (kV doc pm : Value) (an : Option Addr) (cdv ct : Value) (us : List Value), us.length = (["_law_part", "_law_least", "_law_most"] : List Str).length → bindArgs (PySem.W.fnOf "_law_copies" "_law_copies" (defArgs (topS 40)) (defBody (topS 40)) (defScope (topS 40)) .none kV doc pm an cdv ct) ⟨us, []⟩ = pure ((["_law_part", "_law_least", "_law_most"] : List Str).zip us) := fun _ _ _ _ _ _ us hl => match us, hl with | [_, _, _], _ => rfl
theorem bd_law_written_out : ∀ (kV doc pm : Value) (an : Option Addr) (cdv ct : Value) (us : List Value), us.length = (["_law_tree_here"] : List Str).length → bindArgs (PySem.W.fnOf "_law_written_out" "_law_written_out" (defArgs (topS 41)) (defBody (topS 41)) (defScope (topS 41)) .none kV doc pm an cdv ct) ⟨us, []⟩ = pure ((["_law_tree_here"] : List Str).zip us) := fun _ _ _ _ _ _ us hl => match us, hl with | [_], _ => rfl
theorem bd_law_pair : ∀ (kV doc pm : Value) (an : Option Addr) (cdv ct : Value) (us : List Value), us.length = (["_law_way", "_law_one", "_law_two", "_law_three"] : List Str).length → bindArgs (PySem.W.fnOf "_law_pair" "_law_pair" (defArgs (topS 42)) (defBody (topS 42)) (defScope (topS 42)) .none kV doc pm an cdv ct) ⟨us, []⟩ = pure ((["_law_way", "_law_one", "_law_two", "_law_three"] : List Str).zip us) := fun _ _ _ _ _ _ us hl => match us, hl with | [_, _, _, _], _ => rfl
theorem bd_turned : ∀ (kV doc pm : Value) (an : Option Addr) (cdv ct : Value) (us : List Value), us.length = (["pattern"] : List Str).length → bindArgs (PySem.W.fnOf "turned" "turned" (defArgs (topS 29)) (defBody (topS 29)) (defScope (topS 29)) .none kV doc pm an cdv ct) ⟨us, []⟩ = pure ((["pattern"] : List Str).zip us) := fun _ _ _ _ _ _ us hl => match us, hl with | [_], _ => rfl
theorem bd_law_alike_right : ∀ (kV doc pm : Value) (an : Option Addr) (cdv ct : Value) (us : List Value), us.length = (["_law_one", "_law_other", "_law_text_here", "_law_starts"] : List Str).length → bindArgs (PySem.W.fnOf "_law_alike_right" "_law_alike_right" (defArgs (topS 43)) (defBody (topS 43)) (defScope (topS 43)) .none kV doc pm an cdv ct) ⟨us, []⟩ = pure ((["_law_one", "_law_other", "_law_text_here", "_law_starts"] : List Str).zip us) := fun _ _ _ _ _ _ us hl => match us, hl with | [_, _, _, _], _ => rfl
theorem bd_law_mirrored_right : ∀ (kV doc pm : Value) (an : Option Addr) (cdv ct : Value) (us : List Value), us.length = (["_law_tree_here", "_law_text_here", "_law_drops_here"] : List Str).length → bindArgs (PySem.W.fnOf "_law_mirrored_right" "_law_mirrored_right" (defArgs (topS 44)) (defBody (topS 44)) (defScope (topS 44)) .none kV doc pm an cdv ct) ⟨us, []⟩ = pure ((["_law_tree_here", "_law_text_here", "_law_drops_here"] : List Str).zip us) := fun _ _ _ _ _ _ us hl => match us, hl with | [_, _, _], _ => rfl
theorem bd_law_cell_right : ∀ (kV doc pm : Value) (an : Option Addr) (cdv ct : Value) (us : List Value), us.length = (["_law_cell"] : List Str).length → bindArgs (PySem.W.fnOf "_law_cell_right" "_law_cell_right" (defArgs (topS 45)) (defBody (topS 45)) (defScope (topS 45)) .none kV doc pm an cdv ct) ⟨us, []⟩ = pure ((["_law_cell"] : List Str).zip us) := fun _ _ _ _ _ _ us hl => match us, hl with | [_], _ => rfl

theorem all_mk {l : PySem.W.OpenLaw} {w : World} {K : PySem.W.Frag} {h : Heap} {mg : Str → Option Value} {fa f1 : Addr} (X : K.In h) (G : h.Ns mainGlobals mg) (hfa : mg "law" = some (.ref fa))
    {od1 an1 : Option Addr} {sl1 : Array (Option Value)} {oc1 kV1 dc1 pm1 cd1 ct1 : Value} {CE CA CS dN dT t1 t2 : Addr}
    (a1 : PySem.W.nsIn K mainGlobals "law" = some (some (.ref f1))) (l1 : K.lookup f1 = some ⟨oc1, od1, .func (PySem.W.fnOf "law" "law" (defArgs (topS 46)) (defBody (topS 46)) (defScope (topS 46)) .none kV1 dc1 pm1 an1 cd1 ct1), sl1⟩) (c1 : PySem.W.codeIn K cd1 "law" = true) (k1 : PySem.W.keepIn K (.ref f1) = true)
    (k_Edges : ClsM K mg CE "Edges") (o_Edges : OCls K CE nsE)
    (k_Automaton : ClsM K mg CA "Automaton") (o_Automaton : OCls K CA nsA)
    (k_Search : ClsM K mg CS "Search") (o_Search : OCls K CS nsS)
    (hAS : CS ≠ CA)
    (D_Edges_init : Mdf K CE "__init__" "Edges.__init__" (inClass (topS 9) 0) ["self", "null", "first", "begun", "last", "ended"])
    (D_Automaton_lead : Mdf K CA "lead" "Automaton.lead" (inClass (topS 10) 3) ["self", "positions", "mask"])
    (D_mask_of : Dfn K mg "mask_of" (topS 11) ["positions"])
    (D_united : Dfn K mg "united" (topS 12) ["parts"])
    (D_Automaton_in_row : Mdf K CA "in_row" "Automaton.in_row" (inClass (topS 10) 4) ["self", "one", "other"])
    (D_Automaton_built_part : Mdf K CA "built_part" "Automaton.built_part" (inClass (topS 10) 1) ["self", "pattern"])
    (D_Automaton_built_repeat : Mdf K CA "built_repeat" "Automaton.built_repeat" (inClass (topS 10) 2) ["self", "pattern"])
    (D_Automaton_init : Mdf K CA "__init__" "Automaton.__init__" (inClass (topS 10) 0) ["self", "pattern"])
    (D_Automaton_standing_for : Mdf K CA "standing_for" "Automaton.standing_for" (inClass (topS 10) 5) ["self", "sign"])
    (D_Automaton_after : Mdf K CA "after" "Automaton.after" (inClass (topS 10) 6) ["self", "taken"])
    (D_Automaton_takes_empty : Mdf K CA "takes_empty" "Automaton.takes_empty" (inClass (topS 10) 7) ["self", "at", "length"])
    (D_Automaton_takes_last : Mdf K CA "takes_last" "Automaton.takes_last" (inClass (topS 10) 8) ["self", "taken", "at", "length"])
    (D_is_taken : Dfn K mg "is_taken" (topS 14) ["automaton", "text", "start", "end"])
    (D_longest_from : Dfn K mg "longest_from" (topS 15) ["automaton", "text", "start"])
    (D_Search_take : Mdf K CS "take" "Search.take" (inClass (topS 16) 2) ["self", "mask", "last", "end"])
    (D_Search_look : Mdf K CS "look" "Search.look" (inClass (topS 16) 1) ["self", "text", "begin", "goes_on"])
    (D_Search_init : Mdf K CS "__init__" "Search.__init__" (inClass (topS 16) 0) ["self", "automaton", "text", "begin", "goes_on"])
    (D_empty_ones : Dfn K mg "empty_ones" (topS 19) ["automaton", "text", "first", "end"])
    (D_cuts_in : Dfn K mg "cuts_in" (topS 17) ["automaton", "text"])
    (D_stretches_in : Dfn K mg "stretches_in" (topS 18) ["automaton", "text"])
    (D_found_in : Dfn K mg "found_in" (topS 20) ["automaton", "text", "begin"])
    (D_takes : Dfn K mg "takes" (topS 22) ["pattern", "text", "start", "end"])
    (D_longest : Dfn K mg "longest" (topS 23) ["pattern", "text", "start"])
    (D_stretches : Dfn K mg "stretches" (topS 25) ["pattern", "text"])
    (D_cuts : Dfn K mg "cuts" (topS 26) ["pattern", "text"])
    (D_law_drops : Dfn K mg "_law_drops" (topS 31) ["_law_cell", "_law_many"])
    (D_law_signs : Dfn K mg "_law_signs" (topS 32) [])
    (D_law_letter : Dfn K mg "_law_letter" (topS 33) ["_law_drop"])
    (D_law_class : Dfn K mg "_law_class" (topS 34) ["_law_drop"])
    (D_law_leaf : Dfn K mg "_law_leaf" (topS 35) ["_law_drop"])
    (D_law_flat : Dfn K mg "_law_flat" (topS 36) ["_law_word", "_law_parts"])
    (D_law_tree : Dfn K mg "_law_tree" (topS 37) ["_law_drops_here", "_law_spot", "_law_room", "_law_deep"])
    (D_law_same : Dfn K mg "_law_same" (topS 38) ["_law_heard", "_law_due"])
    (D_law_text : Dfn K mg "_law_text" (topS 39) ["_law_drops_here", "_law_many"])
    (D_law_copies : Dfn K mg "_law_copies" (topS 40) ["_law_part", "_law_least", "_law_most"])
    (D_law_written_out : Dfn K mg "_law_written_out" (topS 41) ["_law_tree_here"])
    (D_law_pair : Dfn K mg "_law_pair" (topS 42) ["_law_way", "_law_one", "_law_two", "_law_three"])
    (D_turned : Dfn K mg "turned" (topS 29) ["pattern"])
    (D_law_alike_right : Dfn K mg "_law_alike_right" (topS 43) ["_law_one", "_law_other", "_law_text_here", "_law_starts"])
    (D_law_mirrored_right : Dfn K mg "_law_mirrored_right" (topS 44) ["_law_tree_here", "_law_text_here", "_law_drops_here"])
    (D_law_cell_right : Dfn K mg "_law_cell_right" (topS 45) ["_law_cell"])
    (D_found : DfD (.int 0) K mg "found" (topS 24) ["pattern", "text", "start"])
    (g_NOWHERE : ∃ t, mg "NOWHERE" = some (.int 0 t))
    (g_EMPTY : ∃ t, mg "EMPTY" = some (.int 1 t))
    (g_EMPTY_FIRST : ∃ t, mg "EMPTY_FIRST" = some (.int 2 t))
    (g_EMPTY_LAST : ∃ t, mg "EMPTY_LAST" = some (.int 4 t))
    (g_EVERYWHERE : ∃ t, mg "EVERYWHERE" = some (.int 15 t))
    (g_SIGNS : ∃ t, mg "SIGNS" = some (.str (S allSigns) t))
    (t_NULLS : Tbl K w mg "NULLS" dN nullT) (t_TURNED : Tbl K w mg "TURNED" dT (turnT t1 t2)) (x_t1 : ∀ H, SqT K H t1 [.str (S [101, 110, 100])]) (x_t2 : ∀ H, SqT K H t2 [.str (S [98, 101, 103, 105, 110])])
    (T : BiA mg) :
    ∃ fd : FuncData, (∀ (s : Shared) (v : Value), BindsTo s fd ⟨[v], []⟩ [("_law_script", v)]) ∧ ∀ base : Heap, K.In base → base.Ns mainGlobals mg → FnOk l.prog w K mg base CX0 35 fa fd ["_law_script"] (sp_law K) := by
  have e := hfa.symm.trans (PySem.W.mg_of X G a1)
  cases e
  have FL := fun_mk (st := (topS 46)) l1 c1 k1
  refine ⟨PySem.W.fnOf "law" "law" (defArgs (topS 46)) (defBody (topS 46)) (defScope (topS 46)) .none kV1 dc1 pm1 an1 cd1 ct1, fun s v => .of_eq rfl, fun base _ _ => ?_⟩
  have M_Edges_init := ok_einit (P := l.prog) (w := w) (K := K) (mg := mg) (base := base) (o_Edges := o_Edges) (D := D_Edges_init)
  have K_Edges := mak_of k_Edges M_Edges_init
  have M_Automaton_lead := ok_lead (P := l.prog) (w := w) (K := K) (mg := mg) (base := base) (o_Automaton := o_Automaton) (D := D_Automaton_lead)
  have c_mask_of := ok_mask (P := l.prog) (w := w) (K := K) (mg := mg) (base := base) (D := D_mask_of)
  have c_united := fun N => ok_unit (N := N) (P := l.prog) (w := w) (K := K) (mg := mg) (base := base) (o_Edges := o_Edges) (K_Edges := K_Edges) (g_NOWHERE := g_NOWHERE) (D := D_united)
  have M_Automaton_in_row := ok_inrow (P := l.prog) (w := w) (K := K) (mg := mg) (base := base) (o_Automaton := o_Automaton) (o_Edges := o_Edges) (K_Edges := K_Edges) (M_Automaton_lead := M_Automaton_lead) (g_EMPTY := g_EMPTY) (g_EMPTY_FIRST := g_EMPTY_FIRST) (g_EMPTY_LAST := g_EMPTY_LAST) (D := D_Automaton_in_row)
  have M_Automaton_built_part := (ok_built (P := l.prog) (w := w) (K := K) (mg := mg) (base := base) (T := T) (o_Automaton := o_Automaton) (o_Edges := o_Edges) (K_Edges := K_Edges) (M_Automaton_lead := M_Automaton_lead) (M_Automaton_in_row := M_Automaton_in_row) (g_EVERYWHERE := g_EVERYWHERE) (g_NOWHERE := g_NOWHERE) (g_SIGNS := g_SIGNS) (t_NULLS := t_NULLS) (c_united := c_united) (D1 := D_Automaton_built_part) (D2 := D_Automaton_built_repeat)) 12
  have M_Automaton_init := ok_ainit (P := l.prog) (w := w) (K := K) (mg := mg) (base := base) (o_Automaton := o_Automaton) (o_Edges := o_Edges) (M_Automaton_built_part := M_Automaton_built_part) (c_mask_of := c_mask_of) (D := D_Automaton_init)
  have K_Automaton := mak_of k_Automaton M_Automaton_init
  have M_Automaton_standing_for := ok_stand (P := l.prog) (w := w) (K := K) (mg := mg) (base := base) (T := T) (o_Automaton := o_Automaton) (D := D_Automaton_standing_for)
  have M_Automaton_after := ok_after (P := l.prog) (w := w) (K := K) (mg := mg) (base := base) (o_Automaton := o_Automaton) (D := D_Automaton_after)
  have M_Automaton_takes_empty := ok_tempty (P := l.prog) (w := w) (K := K) (mg := mg) (base := base) (o_Automaton := o_Automaton) (g_EMPTY := g_EMPTY) (g_EMPTY_FIRST := g_EMPTY_FIRST) (D := D_Automaton_takes_empty)
  have M_Automaton_takes_last := ok_tlast (P := l.prog) (w := w) (K := K) (mg := mg) (base := base) (o_Automaton := o_Automaton) (D := D_Automaton_takes_last)
  have c_is_taken := ok_taken (P := l.prog) (w := w) (K := K) (mg := mg) (base := base) (T := T) (o_Automaton := o_Automaton) (M_Automaton_takes_empty := M_Automaton_takes_empty) (M_Automaton_takes_last := M_Automaton_takes_last) (M_Automaton_standing_for := M_Automaton_standing_for) (M_Automaton_after := M_Automaton_after) (D := D_is_taken)
  have c_longest_from := ok_long (P := l.prog) (w := w) (K := K) (mg := mg) (base := base) (T := T) (o_Automaton := o_Automaton) (M_Automaton_takes_empty := M_Automaton_takes_empty) (M_Automaton_takes_last := M_Automaton_takes_last) (M_Automaton_standing_for := M_Automaton_standing_for) (M_Automaton_after := M_Automaton_after) (D := D_longest_from)
  have M_Search_take := ok_take (P := l.prog) (w := w) (K := K) (mg := mg) (base := base) (hAS := hAS) (o_Automaton := o_Automaton) (o_Search := o_Search) (M_Automaton_after := M_Automaton_after) (D := D_Search_take)
  have M_Search_look := ok_look (P := l.prog) (w := w) (K := K) (mg := mg) (base := base) (T := T) (hAS := hAS) (o_Automaton := o_Automaton) (o_Search := o_Search) (M_Automaton_standing_for := M_Automaton_standing_for) (M_Search_take := M_Search_take) (D := D_Search_look)
  have M_Search_init := ok_sinit (P := l.prog) (w := w) (K := K) (mg := mg) (base := base) (hAS := hAS) (o_Search := o_Search) (M_Search_look := M_Search_look) (D := D_Search_init)
  have K_Search := mak_of k_Search M_Search_init
  have c_empty_ones := ok_empty (P := l.prog) (w := w) (K := K) (mg := mg) (base := base) (T := T) (o_Automaton := o_Automaton) (M_Automaton_takes_empty := M_Automaton_takes_empty) (D := D_empty_ones)
  have c_cuts_in := ok_cutsin (P := l.prog) (w := w) (K := K) (mg := mg) (base := base) (hAS := hAS) (o_Search := o_Search) (K_Search := K_Search) (D := D_cuts_in)
  have c_stretches_in := ok_strin (P := l.prog) (w := w) (K := K) (mg := mg) (base := base) (T := T) (c_cuts_in := c_cuts_in) (c_empty_ones := c_empty_ones) (D := D_stretches_in)
  have c_found_in := ok_foundin (P := l.prog) (w := w) (K := K) (mg := mg) (base := base) (hAS := hAS) (T := T) (o_Automaton := o_Automaton) (o_Search := o_Search) (K_Search := K_Search) (M_Automaton_takes_empty := M_Automaton_takes_empty) (c_longest_from := c_longest_from) (D := D_found_in)
  have c_takes := ok_takes (P := l.prog) (w := w) (K := K) (mg := mg) (base := base) (K_Automaton := K_Automaton) (c_is_taken := c_is_taken) (D := D_takes)
  have c_longest := ok_longest (P := l.prog) (w := w) (K := K) (mg := mg) (base := base) (K_Automaton := K_Automaton) (c_longest_from := c_longest_from) (D := D_longest)
  have c_found := ok_found (P := l.prog) (w := w) (K := K) (mg := mg) (base := base) (K_Automaton := K_Automaton) (c_found_in := c_found_in) (D := D_found)
  have c_stretches := ok_stretches (P := l.prog) (w := w) (K := K) (mg := mg) (base := base) (K_Automaton := K_Automaton) (c_stretches_in := c_stretches_in) (D := D_stretches)
  have c_cuts := ok_cuts (P := l.prog) (w := w) (K := K) (mg := mg) (base := base) (K_Automaton := K_Automaton) (c_cuts_in := c_cuts_in) (D := D_cuts)
  have c_law_drops := ok_drops (P := l.prog) (w := w) (K := K) (mg := mg) (base := base) (T := T) (D := D_law_drops)
  have c_law_signs := ok_signs (P := l.prog) (w := w) (K := K) (mg := mg) (base := base) (D := D_law_signs)
  have c_law_letter := ok_letter (P := l.prog) (w := w) (K := K) (mg := mg) (base := base) (T := T) (c_law_signs := c_law_signs) (D := D_law_letter)
  have c_law_class := ok_class (P := l.prog) (w := w) (K := K) (mg := mg) (base := base) (T := T) (c_law_signs := c_law_signs) (D := D_law_class)
  have c_law_leaf := ok_leaf (P := l.prog) (w := w) (K := K) (mg := mg) (base := base) (T := T) (c_law_letter := c_law_letter) (c_law_class := c_law_class) (D := D_law_leaf)
  have c_law_flat := ok_flat (P := l.prog) (w := w) (K := K) (mg := mg) (base := base) (T := T) (D := D_law_flat)
  have c_law_tree := ok_tree (P := l.prog) (w := w) (K := K) (mg := mg) (base := base) (T := T) (c_law_leaf := c_law_leaf) (c_law_flat := c_law_flat) (D := D_law_tree)
  have c_law_same := ok_same (P := l.prog) (w := w) (K := K) (mg := mg) (base := base) (T := T) (T2 := T) (D := D_law_same)
  have c_law_text := ok_text (P := l.prog) (w := w) (K := K) (mg := mg) (base := base) (T := T) (c_law_letter := c_law_letter) (D := D_law_text)
  have c_law_copies := ok_copies (P := l.prog) (w := w) (K := K) (mg := mg) (base := base) (T := T) (c_law_flat := c_law_flat) (D := D_law_copies)
  have c_law_written_out := ok_wo (P := l.prog) (w := w) (K := K) (mg := mg) (base := base) (T := T) (c_law_flat := c_law_flat) (c_law_copies := c_law_copies) (D := D_law_written_out)
  have c_law_pair := ok_pair (P := l.prog) (w := w) (K := K) (mg := mg) (base := base) (T := T) (c_law_flat := c_law_flat) (c_law_written_out := c_law_written_out) (D := D_law_pair)
  have c_turned := (ok_turned (P := l.prog) (w := w) (K := K) (mg := mg) (base := base) (T := T) (t_TURNED := t_TURNED) (x_t1 := x_t1) (x_t2 := x_t2) (D := D_turned)) 12
  have c_law_alike_right := ok_alike (P := l.prog) (w := w) (K := K) (mg := mg) (base := base) (T := T) (c_stretches := c_stretches) (c_cuts := c_cuts) (c_longest := c_longest) (c_found := c_found) (kp_found := kp_found D_found) (c_law_same := c_law_same) (D := D_law_alike_right)
  have c_law_mirrored_right := ok_mir (P := l.prog) (w := w) (K := K) (mg := mg) (base := base) (T := T) (c_takes := c_takes) (c_turned := c_turned) (D := D_law_mirrored_right)
  have c_law_cell_right := ok_cell (P := l.prog) (w := w) (K := K) (mg := mg) (base := base) (T := T) (c_law_drops := c_law_drops) (c_law_tree := c_law_tree) (c_law_pair := c_law_pair) (c_law_text := c_law_text) (c_law_alike_right := c_law_alike_right) (c_law_mirrored_right := c_law_mirrored_right) (D := D_law_cell_right)
  exact ok_law (P := l.prog) (w := w) (base := base) (T := T) (FL := FL) (c_law_cell_right := c_law_cell_right)
theorem walk {l : PySem.W.OpenLaw} {q : Program} {loose : List Str} {XP : (Str → Option Value) → Heap → Prop} {YP : World → Heap → Prop} {d : DefRec} {K : Params → PySem.W.Frag} (hn : l.most = some 63) (hdf : d.params.defaults = [])
    (hY : ∀ (w : World) (h : Heap), YP w h → (K w.params).In h)
    (F : ∀ (w : World) (mg : Str → Option Value) (fa : Addr) (h : Heap), (K w.params).In h → h.Ns mainGlobals mg → mg d.name = some (.ref fa) →
      ∃ fd : FuncData, (∀ (s : Shared) (u : Value), BindsTo s fd ⟨[u], []⟩ [("_law_script", u)]) ∧ ∀ base : Heap, (K w.params).In base → base.Ns mainGlobals mg → FnOk l.prog w (K w.params) mg base CX0 35 fa fd ["_law_script"] (sp_law (K w.params))) :
    PySem.W.WalkO q loose XP YP l.row.toRowW d [] (fun f vs => PySem.call f vs) :=
  L2.walk_of (n := 63) (k := 35) (x := "_law_script") (CX := fun _ => CX0) (sp := fun w => sp_law (K w.params)) hn (by decide) hdf ⟨rfl, by decide, by decide⟩ hY F (fun _ _ a ns hl _ hS => ⟨a, ns, rfl, hS, hl, fun _ => rfl⟩) fun _ _ _ _ _ z => z
end Pd

open PySem PySem.W PyProof.Rows
set_option maxRecDepth 100000 in
set_option maxHeartbeats 0 in
theorem PySem.Challenge.cw_patterndeeds_k20_whole_rewritten_pattern_holds : PySem.Challenge.rw_patterndeeds_k20_whole_rewritten_pattern.Holds := by
  w_on; o_law; k_head; (case hw => w_witness2)
  k_fill
  refine Pd.walk (l := PySem.Challenge.rw_patterndeeds_k20_whole_rewritten_pattern) rfl rfl (fun w h Y => PySem.W.kIn_of Y) ?F
  case F =>
    intro w mg fa h KX G hmg
    refine' Pd.all_mk KX G hmg ?a1 ?l1 ?c1 ?k1 ?kE ?oE ?kA ?oA ?kS ?oS ?hAS ?D0 ?D1 ?D2 ?D3 ?D4 ?D5 ?D6 ?D7 ?D8 ?D9 ?D10 ?D11 ?D12 ?D13 ?D14 ?D15 ?D16 ?D17 ?D18 ?D19 ?D20 ?D21 ?D22 ?D23 ?D24 ?D25 ?D26 ?D27 ?D28 ?D29 ?D30 ?D31 ?D32 ?D33 ?D34 ?D35 ?D36 ?D37 ?D38 ?D39 ?D40 ?DF ?g_NOWHERE ?g_EMPTY ?g_EMPTY_FIRST ?g_EMPTY_LAST ?g_EVERYWHERE ?g_SIGNS ?tN ?tT ?x1 ?x2 ?BI
    (case a1 => k_is)
    (case l1 => k_is)
    (case c1 => k_is)
    (case k1 => k_is)
    (case kE => (refine' Pd.cls_mk KX G ?a ?ma ?kp; (case a => k_is); (case ma => k_is); (case kp => k_is)))
    (case oE => (refine' Pd.oclsE ?pg ?hd ?po ?sa ?n0 ?n1 ?n2 ?n3 ?n4; (case pg => k_is); (case hd => k_is); (case po => k_is); (case sa => k_is); (case n0 => k_is); (case n1 => k_is); (case n2 => k_is); (case n3 => k_is); (case n4 => k_is)))
    (case kA => (refine' Pd.cls_mk KX G ?a ?ma ?kp; (case a => k_is); (case ma => k_is); (case kp => k_is)))
    (case oA => (refine' Pd.oclsA ?pg ?hd ?po ?sa ?n0 ?n1 ?n2 ?n3 ?n4 ?n5 ?n6 ?n7 ?n8 ?n9; (case pg => k_is); (case hd => k_is); (case po => k_is); (case sa => k_is); (case n0 => k_is); (case n1 => k_is); (case n2 => k_is); (case n3 => k_is); (case n4 => k_is); (case n5 => k_is); (case n6 => k_is); (case n7 => k_is); (case n8 => k_is); (case n9 => k_is)))
    (case kS => (refine' Pd.cls_mk KX G ?a ?ma ?kp; (case a => k_is); (case ma => k_is); (case kp => k_is)))
    (case oS => (refine' Pd.oclsS ?pg ?hd ?po ?sa ?n0 ?n1 ?n2; (case pg => k_is); (case hd => k_is); (case po => k_is); (case sa => k_is); (case n0 => k_is); (case n1 => k_is); (case n2 => k_is)))
    (case hAS => decide)
    (case D0 => (refine' Pd.mdf_mk ?a ?i ?l ?c ?k Pd.bd_Edges_init; (case a => k_is); (case i => k_is); (case l => k_is); (case c => k_is); (case k => k_is)))
    (case D1 => (refine' Pd.mdf_mk ?a ?i ?l ?c ?k Pd.bd_Automaton_lead; (case a => k_is); (case i => k_is); (case l => k_is); (case c => k_is); (case k => k_is)))
    (case D2 => (refine' Pd.dfn_mk KX G ?a ?l ?c ?k Pd.bd_mask_of rfl; (case a => k_is); (case l => k_is); (case c => k_is); (case k => k_is)))
    (case D3 => (refine' Pd.dfn_mk KX G ?a ?l ?c ?k Pd.bd_united rfl; (case a => k_is); (case l => k_is); (case c => k_is); (case k => k_is)))
    (case D4 => (refine' Pd.mdf_mk ?a ?i ?l ?c ?k Pd.bd_Automaton_in_row; (case a => k_is); (case i => k_is); (case l => k_is); (case c => k_is); (case k => k_is)))
    (case D5 => (refine' Pd.mdf_mk ?a ?i ?l ?c ?k Pd.bd_Automaton_built_part; (case a => k_is); (case i => k_is); (case l => k_is); (case c => k_is); (case k => k_is)))
    (case D6 => (refine' Pd.mdf_mk ?a ?i ?l ?c ?k Pd.bd_Automaton_built_repeat; (case a => k_is); (case i => k_is); (case l => k_is); (case c => k_is); (case k => k_is)))
    (case D7 => (refine' Pd.mdf_mk ?a ?i ?l ?c ?k Pd.bd_Automaton_init; (case a => k_is); (case i => k_is); (case l => k_is); (case c => k_is); (case k => k_is)))
    (case D8 => (refine' Pd.mdf_mk ?a ?i ?l ?c ?k Pd.bd_Automaton_standing_for; (case a => k_is); (case i => k_is); (case l => k_is); (case c => k_is); (case k => k_is)))
    (case D9 => (refine' Pd.mdf_mk ?a ?i ?l ?c ?k Pd.bd_Automaton_after; (case a => k_is); (case i => k_is); (case l => k_is); (case c => k_is); (case k => k_is)))
    (case D10 => (refine' Pd.mdf_mk ?a ?i ?l ?c ?k Pd.bd_Automaton_takes_empty; (case a => k_is); (case i => k_is); (case l => k_is); (case c => k_is); (case k => k_is)))
    (case D11 => (refine' Pd.mdf_mk ?a ?i ?l ?c ?k Pd.bd_Automaton_takes_last; (case a => k_is); (case i => k_is); (case l => k_is); (case c => k_is); (case k => k_is)))
    (case D12 => (refine' Pd.dfn_mk KX G ?a ?l ?c ?k Pd.bd_is_taken rfl; (case a => k_is); (case l => k_is); (case c => k_is); (case k => k_is)))
    (case D13 => (refine' Pd.dfn_mk KX G ?a ?l ?c ?k Pd.bd_longest_from rfl; (case a => k_is); (case l => k_is); (case c => k_is); (case k => k_is)))
    (case D14 => (refine' Pd.mdf_mk ?a ?i ?l ?c ?k Pd.bd_Search_take; (case a => k_is); (case i => k_is); (case l => k_is); (case c => k_is); (case k => k_is)))
    (case D15 => (refine' Pd.mdf_mk ?a ?i ?l ?c ?k Pd.bd_Search_look; (case a => k_is); (case i => k_is); (case l => k_is); (case c => k_is); (case k => k_is)))
    (case D16 => (refine' Pd.mdf_mk ?a ?i ?l ?c ?k Pd.bd_Search_init; (case a => k_is); (case i => k_is); (case l => k_is); (case c => k_is); (case k => k_is)))
    (case D17 => (refine' Pd.dfn_mk KX G ?a ?l ?c ?k Pd.bd_empty_ones rfl; (case a => k_is); (case l => k_is); (case c => k_is); (case k => k_is)))
    (case D18 => (refine' Pd.dfn_mk KX G ?a ?l ?c ?k Pd.bd_cuts_in rfl; (case a => k_is); (case l => k_is); (case c => k_is); (case k => k_is)))
    (case D19 => (refine' Pd.dfn_mk KX G ?a ?l ?c ?k Pd.bd_stretches_in rfl; (case a => k_is); (case l => k_is); (case c => k_is); (case k => k_is)))
    (case D20 => (refine' Pd.dfn_mk KX G ?a ?l ?c ?k Pd.bd_found_in rfl; (case a => k_is); (case l => k_is); (case c => k_is); (case k => k_is)))
    (case D21 => (refine' Pd.dfn_mk KX G ?a ?l ?c ?k Pd.bd_takes rfl; (case a => k_is); (case l => k_is); (case c => k_is); (case k => k_is)))
    (case D22 => (refine' Pd.dfn_mk KX G ?a ?l ?c ?k Pd.bd_longest rfl; (case a => k_is); (case l => k_is); (case c => k_is); (case k => k_is)))
    (case D23 => (refine' Pd.dfn_mk KX G ?a ?l ?c ?k Pd.bd_stretches rfl; (case a => k_is); (case l => k_is); (case c => k_is); (case k => k_is)))
    (case D24 => (refine' Pd.dfn_mk KX G ?a ?l ?c ?k Pd.bd_cuts rfl; (case a => k_is); (case l => k_is); (case c => k_is); (case k => k_is)))
    (case D25 => (refine' Pd.dfn_mk KX G ?a ?l ?c ?k Pd.bd_law_drops rfl; (case a => k_is); (case l => k_is); (case c => k_is); (case k => k_is)))
    (case D26 => (refine' Pd.dfn_mk KX G ?a ?l ?c ?k Pd.bd_law_signs rfl; (case a => k_is); (case l => k_is); (case c => k_is); (case k => k_is)))
    (case D27 => (refine' Pd.dfn_mk KX G ?a ?l ?c ?k Pd.bd_law_letter rfl; (case a => k_is); (case l => k_is); (case c => k_is); (case k => k_is)))
    (case D28 => (refine' Pd.dfn_mk KX G ?a ?l ?c ?k Pd.bd_law_class rfl; (case a => k_is); (case l => k_is); (case c => k_is); (case k => k_is)))
    (case D29 => (refine' Pd.dfn_mk KX G ?a ?l ?c ?k Pd.bd_law_leaf rfl; (case a => k_is); (case l => k_is); (case c => k_is); (case k => k_is)))
    (case D30 => (refine' Pd.dfn_mk KX G ?a ?l ?c ?k Pd.bd_law_flat rfl; (case a => k_is); (case l => k_is); (case c => k_is); (case k => k_is)))
    (case D31 => (refine' Pd.dfn_mk KX G ?a ?l ?c ?k Pd.bd_law_tree rfl; (case a => k_is); (case l => k_is); (case c => k_is); (case k => k_is)))
    (case D32 => (refine' Pd.dfn_mk KX G ?a ?l ?c ?k Pd.bd_law_same rfl; (case a => k_is); (case l => k_is); (case c => k_is); (case k => k_is)))
    (case D33 => (refine' Pd.dfn_mk KX G ?a ?l ?c ?k Pd.bd_law_text rfl; (case a => k_is); (case l => k_is); (case c => k_is); (case k => k_is)))
    (case D34 => (refine' Pd.dfn_mk KX G ?a ?l ?c ?k Pd.bd_law_copies rfl; (case a => k_is); (case l => k_is); (case c => k_is); (case k => k_is)))
    (case D35 => (refine' Pd.dfn_mk KX G ?a ?l ?c ?k Pd.bd_law_written_out rfl; (case a => k_is); (case l => k_is); (case c => k_is); (case k => k_is)))
    (case D36 => (refine' Pd.dfn_mk KX G ?a ?l ?c ?k Pd.bd_law_pair rfl; (case a => k_is); (case l => k_is); (case c => k_is); (case k => k_is)))
    (case D37 => (refine' Pd.dfn_mk KX G ?a ?l ?c ?k Pd.bd_turned rfl; (case a => k_is); (case l => k_is); (case c => k_is); (case k => k_is)))
    (case D38 => (refine' Pd.dfn_mk KX G ?a ?l ?c ?k Pd.bd_law_alike_right rfl; (case a => k_is); (case l => k_is); (case c => k_is); (case k => k_is)))
    (case D39 => (refine' Pd.dfn_mk KX G ?a ?l ?c ?k Pd.bd_law_mirrored_right rfl; (case a => k_is); (case l => k_is); (case c => k_is); (case k => k_is)))
    (case D40 => (refine' Pd.dfn_mk KX G ?a ?l ?c ?k Pd.bd_law_cell_right rfl; (case a => k_is); (case l => k_is); (case c => k_is); (case k => k_is)))
    (case DF => (refine' Pd.dfd_mk KX G ?a ?l ?c ?k ?l2 ?hv rfl; (case a => k_is); (case l => k_is); (case c => k_is); (case k => k_is); (case l2 => k_is); (case hv => rfl)))
    (case g_NOWHERE => (refine' Pd.int_mk KX G ?a ?hv; (case a => k_is); (case hv => rfl)))
    (case g_EMPTY => (refine' Pd.int_mk KX G ?a ?hv; (case a => k_is); (case hv => rfl)))
    (case g_EMPTY_FIRST => (refine' Pd.int_mk KX G ?a ?hv; (case a => k_is); (case hv => rfl)))
    (case g_EMPTY_LAST => (refine' Pd.int_mk KX G ?a ?hv; (case a => k_is); (case hv => rfl)))
    (case g_EVERYWHERE => (refine' Pd.int_mk KX G ?a ?hv; (case a => k_is); (case hv => rfl)))
    (case g_SIGNS => (refine' Pd.str_mk KX G ?a ?hv; (case a => k_is); (case hv => rfl)))
    (case tN => (refine' Pd.tbl_mk KX G ?a ?l ?hk ?hv ?hs; (case a => k_is); (case l => k_is); (case hv => rfl); (case hk => rfl); (case hs => rfl)))
    (case tT => (refine' Pd.tbl_mk KX G ?a ?l ?hk ?hv ?hs; (case a => k_is); (case l => k_is); (case hv => rfl); (case hk => rfl); (case hs => rfl)))
    (case x1 => (refine' Pd.tup_mk ?l ?hs ?hv; (case l => k_is); (case hs => decide); (case hv => rfl)))
    (case x2 => (refine' Pd.tup_mk ?l ?hs ?hv; (case l => k_is); (case hs => decide); (case hv => rfl)))
    (case BI => (refine' ⟨⟨PySem.W.mg_none_of KX G ?z0, PySem.W.mg_none_of KX G ?z1, PySem.W.mg_none_of KX G ?z2, PySem.W.mg_none_of KX G ?z3, PySem.W.mg_none_of KX G ?z4, PySem.W.mg_none_of KX G ?z5, PySem.W.mg_none_of KX G ?z6, PySem.W.mg_none_of KX G ?z7, PySem.W.mg_none_of KX G ?z8⟩, PySem.W.mg_none_of KX G ?z9, PySem.W.mg_none_of KX G ?z10, PySem.W.mg_none_of KX G ?z11, PySem.W.mg_none_of KX G ?z12⟩; (case z0 => k_is); (case z1 => k_is); (case z2 => k_is); (case z3 => k_is); (case z4 => k_is); (case z5 => k_is); (case z6 => k_is); (case z7 => k_is); (case z8 => k_is); (case z9 => k_is); (case z10 => k_is); (case z11 => k_is); (case z12 => k_is)))
