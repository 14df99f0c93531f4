import PyProof.Rows.All
import Wide.All
import OpenK.AllK
import Wide.FinOn
import Open.SpecLaws
import KE.OsGo
import HandS.Base
import HandS.Call
import HandS.List
import HandS.Ends
import HandS.Exc
import HandS.TryOnly
import HandS.ExcOwn
import HandS.Spec
import HandS.Words
import HandS.WordsList
import HandS.WordsExc
import HandS.Comp
import HandS.Dict
import HandS.Iter
import HandS.WordsDict
import PySem.Challenge.RW_spellednotes_s05_read
set_option Elab.async false
set_option linter.all false
set_option maxRecDepth 100000
set_option maxHeartbeats 2000000
namespace Sn
open PySem PySem.Spec PyProof.Rows L2
/-! ### Words of this proof: a def of the text with its promise; a number, a table of the top -/
def Has (P : Program) (w : World) (K : PySem.W.Frag) (mg : Str → Option Value) (base : Heap) (x : Str) (k : Nat) (ps : List Str) (sp : Sp) : Prop :=
  ∃ (f : Addr) (fd : FuncData), FnOk P w K mg base CX0 k f fd ps sp ∧ mg x = some (.ref f) ∧ PySem.W.keepIn K (.ref f) = true ∧ Binds K fd ps []
theorem pe_has {X : Cx} {x : Str} {k : Nat} {ps : List Str} {sp : Sp} {e : Expr} {es : List Expr} {p pos : Pos} {t : TA}
    (h : Has X.prog X.w X.K X.mg X.base x k ps sp) (hr : Room k X.A) (ha : PA X (e :: es) t) (hg : Gl X x := by rfl) (hdb : (x == ("__debug__" : Str)) = false := by decide)
    (he : starEach (e :: es) X.env = (false, eval e X.env) :: starEach es X.env := by rfl) (hpl : (backTo pos (starEach es X.env)).any (·.1) = false := by rfl) :
    PE X (.Call (.Name x p) (e :: es) [] pos) (tCall sp [] E0 t) := by
  obtain ⟨f, fd, F, g, kp, b⟩ := h
  exact pe_call F hr hg g kp b .nil pass0 ha hdb he hpl
theorem pe_globI {X : Cx} {x : Str} {n : Int} {pos : Pos} (hm : ∃ t, X.mg x = some (.int n t)) (hg : Gl X x := by rfl) (hd : (x == ("__debug__" : Str)) = false := by decide) : PE X (.Name x pos) (tC (.int n)) := by
  obtain ⟨t, ht⟩ := hm
  exact pe_glob hg ht ⟨t, rfl⟩ hd
/-- a written tuple of numbers of the top, at a name -/
def Tab (K : PySem.W.Frag) (mg : Str → Option Value) (x : Str) (ns : List Int) : Prop := ∃ a, mg x = some (.ref a) ∧ ∀ H, SqT K H a (ns.map V.int)
/-- its name as a value -/
def tGT (K : PySem.W.Frag) (ns : List Int) : TE := fun _ H Q => ∀ a, (∀ H, SqT K H a (ns.map V.int)) → Q (.ref a) H
theorem pe_globT {X : Cx} {x : Str} {ns : List Int} {pos : Pos} (hm : Tab X.K X.mg x ns) (hg : Gl X x := by rfl) (hd : (x == ("__debug__" : Str)) = false := by decide) : PE X (.Name x pos) (tGT X.K ns) := by
  obtain ⟨a, ha, hT⟩ := hm
  exact ⟨fun pins s σ H Q I h => (pe_glob (v := .ref a) hg ha rfl hd).run pins s σ H Q I (h a hT)⟩
theorem tGT_at {K : PySem.W.Frag} {ns : List Int} {σ : L2.St} {H : Hp} {Q : VK} (h : ∀ a, (∀ H, SqT K H a (ns.map V.int)) → Q (.ref a) H) : tGT K ns σ H Q := h
/-- an item of such a table -/
theorem at_tab {ns : List Int} {i : Int} (h0 : 0 ≤ i) (h1 : i < ns.length) : atI (ns.map V.int) i = some (V.int (ns.getD i.toNat 0)) := by
  obtain ⟨j, rfl⟩ : ∃ j : Nat, i = (j : Int) := ⟨i.toNat, by omega⟩
  refine atI_nat ?_
  have hj : j < ns.length := by omega
  simp [List.getElem?_map, List.getElem?_eq_getElem hj]
/-- a table's item, as a reading: the index lies in it -/
def tTab (ns : List Int) (ti : TE) : TE := fun σ H Q => ti σ H fun y H1 => ∃ i : Int, y = .int i ∧ (0 ≤ i ∧ i < ns.length) ∧ Q (.int (ns.getD i.toNat 0)) H1
theorem pe_tab {X : Cx} {x : Str} {ns : List Int} {p pos : Pos} {b : Expr} {ti : TE} (hm : Tab X.K X.mg x ns) (hi : PE X b ti) (hs : PlainIx b) (hg : Gl X x := by rfl) (hd : (x == ("__debug__" : Str)) = false := by decide) :
    PE X (.Subscript (.Name x p) b pos) (tTab ns ti) := by
  obtain ⟨a, ha, hT⟩ := hm
  have hr : IxR X (fun x y H Q => x = .ref a ∧ ∃ i : Int, y = .int i ∧ (0 ≤ i ∧ i < ns.length) ∧ Q (.int (ns.getD i.toNat 0)) H) := by
    rintro value slice pins s σ H x y v u Q I rx ry ⟨rfl, i, rfl, ⟨h0, h1⟩, q⟩ hs
    exact ix_tup value slice pins s σ H _ _ v u Q I rx ry ⟨a, _, i, _, rfl, rfl, hT H, at_tab h0 h1, q⟩ hs
  have e := pe_ix (pos := pos) hr (pe_glob (pos := p) (v := .ref a) hg ha rfl hd) hi hs
  have z : tOp (fun x y H Q => x = .ref a ∧ ∃ i : Int, y = .int i ∧ (0 ≤ i ∧ i < ns.length) ∧ Q (.int (ns.getD i.toNat 0)) H) (tC (.ref a)) ti = tTab ns ti := by
    funext σ H Q
    show ti σ H _ = ti σ H _
    congr 1
    funext y H1
    exact propext ⟨fun h => h.2, fun h => ⟨rfl, h⟩⟩
  rw [z] at e
  exact e
theorem in_ints {i : Int} : ∀ {ns : List Int}, inV (.int i) (ns.map V.int) = decide (i ∈ ns)
  | [] => by simp [inV]
  | n :: r => by
    have ih := in_ints (i := i) (ns := r)
    show (eqV (.int n) (.int i) || inV (.int i) (r.map V.int)) = _
    rw [ih]
    show ((n == i) || decide (i ∈ r)) = _
    by_cases h : n = i
    · subst h
      simp
    · have h' : ¬ i = n := fun z => h z.symm
      simp [h, h']
/-- is it in the table -/
def tInTab (ns : List Int) (ti : TE) : TE := fun σ H Q => ti σ H fun y H1 => ∃ i : Int, y = .int i ∧ Q (.bl (decide (i ∈ ns))) H1
theorem pe_inTab {X : Cx} {x : Str} {ns : List Int} {p pos : Pos} {b : Expr} {ti : TE} (hm : Tab X.K X.mg x ns) (hi : PE X b ti) (hg : Gl X x := by rfl) (hd : (x == ("__debug__" : Str)) = false := by decide) :
    PE X (.Compare b [.In] [.Name x p] pos) (tInTab ns ti) := by
  obtain ⟨a, ha, hT⟩ := hm
  have hr : OpR X (compareOp .In) (fun x y H Q => y = .ref a ∧ ∃ i : Int, x = .int i ∧ Q (.bl (decide (i ∈ ns))) H) := by
    rintro pins s σ H x y v u Q I rx ry ⟨rfl, i, rfl, q⟩
    refine op_in_seq pins s σ H _ _ v u Q I rx ry ⟨a, _, rfl, .inr (hT H), rfl, ?_, ?_⟩
    · rw [List.all_map]
      exact List.all_eq_true.mpr fun _ _ => rfl
    · rw [in_ints]
      exact q
  have e := pe_cmpR (pos := pos) hr hi (pe_glob (pos := p) (v := .ref a) hg ha rfl hd) rfl
  have z : tOp (fun x y H Q => y = .ref a ∧ ∃ i : Int, x = .int i ∧ Q (.bl (decide (i ∈ ns))) H) ti (tC (.ref a)) = tInTab ns ti := by
    funext σ H Q
    show ti σ H _ = ti σ H _
    congr 1
    funext y H1
    exact propext ⟨fun h => h.2, fun h => ⟨rfl, h⟩⟩
  rw [z] at e
  exact e
theorem pt_inTab {X : Cx} {x : Str} {ns : List Int} {p pos : Pos} {b : Expr} {ti : TE} (hm : Tab X.K X.mg x ns) (hi : PE X b ti) (hg : Gl X x := by rfl) (hd : (x == ("__debug__" : Str)) = false := by decide) :
    PT X (.Compare b [.In] [.Name x p] pos) (tB (tInTab ns ti)) := by
  obtain ⟨a, ha, hT⟩ := hm
  have hr : OpR X (compareOp .In) (fun x y H Q => y = .ref a ∧ ∃ i : Int, x = .int i ∧ Q (.bl (decide (i ∈ ns))) H) := by
    rintro pins s σ H x y v u Q I rx ry ⟨rfl, i, rfl, q⟩
    refine op_in_seq pins s σ H _ _ v u Q I rx ry ⟨a, _, rfl, .inr (hT H), rfl, ?_, ?_⟩
    · rw [List.all_map]
      exact List.all_eq_true.mpr fun _ _ => rfl
    · rw [in_ints]
      exact q
  have e := pt_cmpR (pos := pos) hr hi (pe_glob (pos := p) (v := .ref a) hg ha rfl hd) rfl
  have z : tTest (tOp (fun x y H Q => y = .ref a ∧ ∃ i : Int, x = .int i ∧ Q (.bl (decide (i ∈ ns))) H) ti (tC (.ref a))) = tB (tInTab ns ti) := by
    funext σ H Q
    show ti σ H _ = ti σ H _
    congr 1
    funext y H1
    exact propext ⟨fun h => h.2, fun h => ⟨rfl, h⟩⟩
  rw [z] at e
  exact e
/-- what the top has of a def -/
structure Def (K : PySem.W.Frag) (mg : Str → Option Value) (x : Str) (st : Stmt) (ps : List Str) (f : Addr) (fd : FuncData) : Prop where
  F : Fun K x x st f fd
  g : mg x = some (.ref f)
  bt : ∀ (s : Shared) (us : List Value), us.length = ps.length → BindsTo s fd ⟨us, []⟩ (ps.zip us)
theorem Def.b {K : PySem.W.Frag} {mg : Str → Option Value} {x : Str} {st : Stmt} {ps : List Str} {f : Addr} {fd : FuncData} (D : Def K mg x st ps f fd) : Binds K fd ps [] := fun s us _ hl => by
  rw [List.append_nil] at hl ⊢
  exact D.bt s us hl
theorem has_of {P : Program} {w : World} {K : PySem.W.Frag} {mg : Str → Option Value} {base : Heap} {x : Str} {st : Stmt} {ps : List Str} {k : Nat} {sp : Sp} (D : ∃ f fd, Def K mg x st ps f fd)
    (h : ∀ f fd, Def K mg x st ps f fd → FnOk P w K mg base CX0 k f fd ps sp) : Has P w K mg base x k ps sp := by
  obtain ⟨f, fd, D⟩ := D
  exact ⟨f, fd, h f fd D, D.g, D.F.kp, D.b⟩
theorem cxOf_K {CX : CXT} {P : Program} {w : World} {K : PySem.W.Frag} {mg : Str → Option Value} {base : Heap} {N : List Str} {q : Str} {sc : Scope} {f : Addr} {cd : Value} {A : Around} {o : List Env} {s : Shared} {H : Hp} {E : XK} : (cxOf CX P w K mg base N q sc f cd A o s H E).K = K := rfl
theorem Same.tup {K : PySem.W.Frag} {H H' : Hp} {a : Addr} {xs : List V} (e : Same H H') (h : SqT K H a xs) : SqT K H' a xs := by
  rcases h with (h | ⟨o, h⟩) | h
  · exact .inl (.inl (e _ _ h))
  · exact .inl (.inr ⟨o, e _ _ h⟩)
  · exact .inr h
theorem Same.new {H : Hp} {p : Addr} {o : HO} (hp : H p = none) : Same H (upd H p o) := fun b o' h => by
  rw [upd_ne (fun z => by rw [z, hp] at h; cases h)]
  exact h
theorem ne_new {H : Hp} {p q : Addr} {o : HO} (h : upd H p o q = none) : q ≠ p := fun z => by
  rw [z, upd_same] at h
  cases h
/-- tuple(xs), len(xs): their readings by name -/
def rTupOf (K : PySem.W.Frag) : List V → Hp → VK → Prop := fun xs H Q => ∃ p ys, xs = [.ref p] ∧ ((SqL K H p ys ∧ ∀ l, H l = none → Q (.ref l) (upd H l (.tup ys))) ∨ (SqT K H p ys ∧ Q (.ref p) H))
def rLenOf (K : PySem.W.Frag) : List V → Hp → VK → Prop := fun xs H Q => ∃ p ys, xs = [.ref p] ∧ (SqL K H p ys ∨ SqT K H p ys) ∧ Q (.int ys.length) H
theorem line {n : Nat} (h : n ≤ 1000000) : n ≤ sizeLine := Nat.le_trans h (by decide)
end Sn
namespace Sn
open PySem PySem.Spec PyProof.Rows L2
/-! ### The text: each def by its place in the program -/
def top (i : Nat) : Stmt := PySem.Challenge.pw_spellednotes_s05_read.main.body.getD i (.Pass ⟨0, 0, 0, 0⟩)
abbrev s_is_note : Stmt := top 10
theorem sc_is_note : FnScope ["letter", "raised", "octave"] ["letter", "raised", "octave"] (defScope s_is_note) := ⟨rfl, rfl, rfl, by decide +kernel, rfl, by decide +kernel, by decide +kernel⟩
abbrev s_is_key : Stmt := top 11
theorem sc_is_key : FnScope ["in_key"] ["in_key"] (defScope s_is_key) := ⟨rfl, rfl, rfl, by decide +kernel, rfl, by decide +kernel, by decide +kernel⟩
abbrev s_step_of : Stmt := top 12
theorem sc_step_of : FnScope ["letter", "octave"] ["letter", "octave"] (defScope s_step_of) := ⟨rfl, rfl, rfl, by decide +kernel, rfl, by decide +kernel, by decide +kernel⟩
abbrev s_raised_by_key : Stmt := top 13
theorem sc_raised_by_key : FnScope ["in_key", "letter", "place"] ["in_key", "letter"] (defScope s_raised_by_key) := ⟨rfl, rfl, rfl, by decide +kernel, rfl, by decide +kernel, by decide +kernel⟩
abbrev s_written_bars_in : Stmt := top 14
theorem sc_written_bars_in : FnScope ["numbers", "bars", "place", "count", "written", "sign"] ["numbers"] (defScope s_written_bars_in) := ⟨rfl, rfl, rfl, by decide +kernel, rfl, by decide +kernel, by decide +kernel⟩
abbrev s_are_written : Stmt := top 15
theorem sc_are_written : FnScope ["written", "letter", "octave", "sign"] ["written"] (defScope s_are_written) := ⟨rfl, rfl, rfl, by decide +kernel, rfl, by decide +kernel, by decide +kernel⟩
abbrev s_read_bar : Stmt := top 16
theorem sc_read_bar : FnScope ["in_key", "written", "in_force", "notes", "letter", "octave", "sign", "step"] ["in_key", "written"] (defScope s_read_bar) := ⟨rfl, rfl, rfl, by decide +kernel, rfl, by decide +kernel, by decide +kernel⟩
abbrev s_counted : Stmt := top 17
theorem sc_counted : FnScope ["numbers"] ["numbers"] (defScope s_counted) := ⟨rfl, rfl, rfl, by decide +kernel, rfl, by decide +kernel, by decide +kernel⟩
abbrev s_read : Stmt := top 18
theorem sc_read : FnScope ["in_key", "bars", "answer", "written"] ["in_key", "bars"] (defScope s_read) := ⟨rfl, rfl, rfl, by decide +kernel, rfl, by decide +kernel, by decide +kernel⟩
/-- what the top has left -/
structure Txt (K : PySem.W.Frag) (mg : Str → Option Value) : Prop where
  c_REFUSED : ∃ t, mg "REFUSED" = some (.int (-1) t)
  c_LETTERS : ∃ t, mg "LETTERS" = some (.int (7) t)
  c_MOST_RAISED : ∃ t, mg "MOST_RAISED" = some (.int (3) t)
  c_LOWEST_OCTAVE : ∃ t, mg "LOWEST_OCTAVE" = some (.int (-1) t)
  c_HIGHEST_OCTAVE : ∃ t, mg "HIGHEST_OCTAVE" = some (.int (9) t)
  c_MOST_IN_KEY : ∃ t, mg "MOST_IN_KEY" = some (.int (7) t)
  c_NUMBERS_WITHOUT_SIGN : ∃ t, mg "NUMBERS_WITHOUT_SIGN" = some (.int (3) t)
  c_NUMBERS_WITH_SIGN : ∃ t, mg "NUMBERS_WITH_SIGN" = some (.int (4) t)
  c_FIFTHS_OF_LETTERS : Tab K mg "FIFTHS_OF_LETTERS" [0, 2, 4, -1, 1, 3, 5]
  b_len : mg "len" = none
  b_list : mg "list" = none
  d_is_note : ∃ f fd, Def K mg "is_note" s_is_note ["letter", "raised", "octave"] f fd
  d_is_key : ∃ f fd, Def K mg "is_key" s_is_key ["in_key"] f fd
  d_step_of : ∃ f fd, Def K mg "step_of" s_step_of ["letter", "octave"] f fd
  d_raised_by_key : ∃ f fd, Def K mg "raised_by_key" s_raised_by_key ["in_key", "letter"] f fd
  d_written_bars_in : ∃ f fd, Def K mg "written_bars_in" s_written_bars_in ["numbers"] f fd
  d_are_written : ∃ f fd, Def K mg "are_written" s_are_written ["written"] f fd
  d_read_bar : ∃ f fd, Def K mg "read_bar" s_read_bar ["in_key", "written"] f fd
  d_counted : ∃ f fd, Def K mg "counted" s_counted ["numbers"] f fd
  d_read : ∃ f fd, Def K mg "read" s_read ["in_key", "bars"] f fd
end Sn
namespace Sn
open PySem PySem.Spec PyProof.Rows L2
/-! ### The mathematics -/
theorem nat_tab (l : Int) : ([0, 2, 4, 5, 7, 9, 11] : List Int).getD l.toNat 0 = Sw68.natural l := rfl
theorem fdiv7 (s : Int) : s.fdiv 7 = s / 7 := Int.fdiv_eq_ediv_of_nonneg s (by decide)
theorem fmod7 (s : Int) : s.fmod 7 = s % 7 := Int.fmod_eq_emod_of_nonneg s (by decide)
theorem note_iff {l r o : Int} : Sw68.noteOk ⟨l, r, o⟩ = true ↔ (0 ≤ l ∧ l ≤ 6) ∧ (-3 ≤ r ∧ r ≤ 3) ∧ (-1 ≤ o ∧ o ≤ 9) := by
  simp only [Sw68.noteOk, Bool.and_eq_true, decide_eq_true_eq]
  exact Iff.rfl
theorem ok_l {l r o : Int} (h : Sw68.noteOk ⟨l, r, o⟩ = true) : 0 ≤ l ∧ l ≤ 6 := by
  simp only [Sw68.noteOk, Bool.and_eq_true, decide_eq_true_eq] at h
  exact h.1
theorem int_in {z : Int} {l : List Int} (h : -2147483648 ≤ z ∧ z ≤ 2147483647) : Sw68Neutral.intIn (z :: l) = some (z, l) := by
  unfold Sw68Neutral.intIn
  exact if_pos ⟨by omega, by omega⟩
theorem note_in {a b c : Int} {l : List Int} (h1 : -2147483648 ≤ a ∧ a ≤ 2147483647) (h2 : -2147483648 ≤ b ∧ b ≤ 2147483647) (h3 : -2147483648 ≤ c ∧ c ≤ 2147483647) : Sw68Neutral.noteIn (a :: b :: c :: l) = some (⟨a, b, c⟩, l) := by
  unfold Sw68Neutral.noteIn
  rw [int_in h1]
  show (Option.bind (Sw68Neutral.intIn (b :: c :: l)) _) = _
  rw [int_in h2]
  show (Option.map _ (Sw68Neutral.intIn (c :: l))) = _
  rw [int_in h3]
  rfl
theorem interval_in {a b : Int} {l : List Int} (h1 : -2147483648 ≤ a ∧ a ≤ 2147483647) (h2 : -2147483648 ≤ b ∧ b ≤ 2147483647) : Sw68Neutral.intervalIn (a :: b :: l) = some (⟨a, b⟩, l) := by
  unfold Sw68Neutral.intervalIn
  rw [int_in h1]
  show (Option.map _ (Sw68Neutral.intIn (b :: l))) = _
  rw [int_in h2]
  rfl
def slotI (σ : L2.St) (i : Nat) : Int := match σ[i]? with
  | some (some (.int f)) => f
  | _ => 0
def lenAt (H : Hp) (B : Addr) : Nat := match H B with
  | some (.lst xs) => xs.length
  | _ => 0
theorem lenAt_of {H : Hp} {B : Addr} {xs : List V} (h : H B = some (.lst xs)) : lenAt H B = xs.length := by
  unfold lenAt
  rw [h]
theorem iteY {c : Bool} {A B : Prop} (h : c = true) (k : A) : if c = true then A else B := by
  rw [if_pos h]
  exact k
theorem iteN {c : Bool} {A B : Prop} (h : ¬ c = true) (k : B) : if c = true then A else B := by
  rw [if_neg h]
  exact k
def sp_is_note : Sp := fun vs H Q _ => ∃ l r o : Int, vs = [.int l, .int r, .int o] ∧ Q (.bl (Sw68.noteOk ⟨l, r, o⟩)) H
theorem ok_is_note {P : Program} {w : World} {K : PySem.W.Frag} {mg : Str → Option Value} {base : Heap} (T : Txt K mg) {f : Addr} {fd : FuncData} (D : Def K mg "is_note" s_is_note ["letter", "raised", "octave"] f fd) : FnOk P w K mg base CX0 1 f fd ["letter", "raised", "octave"] (sp_is_note) := by
  refine D.F.ok sc_is_note (fun vs H Q E h => ?_) (fun cdv A outer s H vs Q E hr h => ⟨_, (pss_cons (ps_if (pt_not (pt_chain op_le op_lt pe_int (pv 0) (pe_globI T.c_LETTERS))) (pss_one (ps_ret pe_bl)) pss_nil)
      (pss_cons (ps_if (pt_not (pt_chain op_le op_le (pe_un un_neg (pe_globI T.c_MOST_RAISED)) (pv 1) (pe_globI T.c_MOST_RAISED))) (pss_one (ps_ret pe_bl)) pss_nil)
      (pss_one (ps_ret (pe_chain op_le op_le (pe_globI T.c_LOWEST_OCTAVE) (pv 2) (pe_globI T.c_HIGHEST_OCTAVE)))))), ?_⟩)
  · obtain ⟨l, r, o, rfl, _⟩ := h
    rfl
  · obtain ⟨l, r, o, rfl, k⟩ := h
    have e : ∀ b, b = Sw68.noteOk ⟨l, r, o⟩ → Q (.bl b) H := fun b z => z ▸ k
    simp only [tSeq, tAsg, tIfS, tRet, tNext, tOp, tUn, tTest, tB, tNot, tAnd, tOr, tAndV, tOrV, tNotV, tChain, tVar, tC, tCons, tNil, tCall, tCB, tIf, tDrop, gName, tAug, ipI, rI, rI0, rU, CMul, CDiv, rEq, rNe, scal, tTab, tInTab, cxOf_K, L2.start, Nat.reduceAdd, Nat.reduceSub, Nat.sub_self, List.map_cons, List.map_nil, List.length_cons, List.length_nil, List.replicate, List.append_nil, List.cons_append, List.nil_append, List.set_cons_zero, List.set_cons_succ, List.getElem?_cons_zero, List.getElem?_cons_succ, Option.some.injEq, List.cons.injEq, V.int.injEq, V.bl.injEq, V.ref.injEq, and_true, true_and, exists_eq_left, and_assoc, exists_eq_left', exists_and_left, decide_eq_true_eq, Bool.true_eq_false, if_true, if_false]
    repeat' split
    all_goals
      apply e
      clear e k
      rw [Bool.eq_iff_iff, note_iff]
      simp at *
      try omega
theorem has_is_note {P : Program} {w : World} {K : PySem.W.Frag} {mg : Str → Option Value} {base : Heap} (T : Txt K mg) : Has P w K mg base "is_note" 1 ["letter", "raised", "octave"] (sp_is_note) :=
  has_of T.d_is_note fun f fd D => ok_is_note T D
def sp_is_key : Sp := fun vs H Q _ => ∃ k : Int, vs = [.int k] ∧ Q (.bl (Sw68.keyOk k)) H
theorem key_iff {k : Int} : Sw68.keyOk k = true ↔ (-7 ≤ k ∧ k ≤ 7) := by
  simp only [Sw68.keyOk, Bool.and_eq_true, decide_eq_true_eq]
  exact Iff.rfl
theorem ok_is_key {P : Program} {w : World} {K : PySem.W.Frag} {mg : Str → Option Value} {base : Heap} (T : Txt K mg) {f : Addr} {fd : FuncData} (D : Def K mg "is_key" s_is_key ["in_key"] f fd) : FnOk P w K mg base CX0 1 f fd ["in_key"] (sp_is_key) := by
  refine D.F.ok sc_is_key (fun vs H Q E h => ?_) (fun cdv A outer s H vs Q E hr h => ⟨_, (pss_one (ps_ret (pe_chain op_le op_le (pe_un un_neg (pe_globI T.c_MOST_IN_KEY)) (pv 0) (pe_globI T.c_MOST_IN_KEY)))), ?_⟩)
  · obtain ⟨k, rfl, _⟩ := h
    rfl
  · obtain ⟨k, rfl, q⟩ := h
    have e : ∀ b, b = Sw68.keyOk k → Q (.bl b) H := fun b z => z ▸ q
    simp only [tSeq, tAsg, tIfS, tRet, tNext, tOp, tUn, tTest, tB, tNot, tAnd, tOr, tAndV, tOrV, tNotV, tChain, tVar, tC, tCons, tNil, tCall, tCB, tIf, tDrop, gName, tAug, ipI, rI, rI0, rU, CMul, CDiv, rEq, rNe, scal, tTab, tInTab, cxOf_K, L2.start, Nat.reduceAdd, Nat.reduceSub, Nat.sub_self, List.map_cons, List.map_nil, List.length_cons, List.length_nil, List.replicate, List.append_nil, List.cons_append, List.nil_append, List.set_cons_zero, List.set_cons_succ, List.getElem?_cons_zero, List.getElem?_cons_succ, Option.some.injEq, List.cons.injEq, V.int.injEq, V.bl.injEq, V.ref.injEq, and_true, true_and, exists_eq_left, and_assoc, exists_eq_left', exists_and_left, decide_eq_true_eq, Bool.true_eq_false, if_true, if_false]
    repeat' split
    all_goals
      apply e
      clear e q
      rw [Bool.eq_iff_iff, key_iff]
      simp at *
      try omega
theorem has_is_key {P : Program} {w : World} {K : PySem.W.Frag} {mg : Str → Option Value} {base : Heap} (T : Txt K mg) : Has P w K mg base "is_key" 1 ["in_key"] (sp_is_key) :=
  has_of T.d_is_key fun f fd D => ok_is_key T D
def sp_step_of : Sp := fun vs H Q _ => ∃ l o : Int, vs = [.int l, .int o] ∧ Q (.int (7 * o + l)) H
theorem ok_step_of {P : Program} {w : World} {K : PySem.W.Frag} {mg : Str → Option Value} {base : Heap} (T : Txt K mg) {f : Addr} {fd : FuncData} (D : Def K mg "step_of" s_step_of ["letter", "octave"] f fd) : FnOk P w K mg base CX0 1 f fd ["letter", "octave"] (sp_step_of) := by
  refine D.F.ok sc_step_of (fun vs H Q E h => ?_) (fun cdv A outer s H vs Q E hr h => ⟨_, (pss_one (ps_ret (pe_op op_add (pe_op op_mul (pe_globI T.c_LETTERS) (pv 1)) (pv 0)))), ?_⟩)
  · obtain ⟨l, o, rfl, _⟩ := h
    rfl
  · obtain ⟨l, o, rfl, k⟩ := h
    simp only [tSeq, tAsg, tIfS, tRet, tNext, tOp, tUn, tTest, tB, tNot, tAnd, tOr, tAndV, tOrV, tNotV, tChain, tVar, tC, tCons, tNil, tCall, tCB, tIf, tDrop, gName, tAug, ipI, rI, rI0, rU, CMul, CDiv, rEq, rNe, scal, tTab, tInTab, cxOf_K, L2.start, Nat.reduceAdd, Nat.reduceSub, Nat.sub_self, List.map_cons, List.map_nil, List.length_cons, List.length_nil, List.replicate, List.append_nil, List.cons_append, List.nil_append, List.set_cons_zero, List.set_cons_succ, List.getElem?_cons_zero, List.getElem?_cons_succ, Option.some.injEq, List.cons.injEq, V.int.injEq, V.bl.injEq, V.ref.injEq, and_true, true_and, exists_eq_left, and_assoc, exists_eq_left', exists_and_left, decide_eq_true_eq, Bool.true_eq_false, if_true, if_false]
    exact ⟨.inl (by decide), k⟩
theorem has_step_of {P : Program} {w : World} {K : PySem.W.Frag} {mg : Str → Option Value} {base : Heap} (T : Txt K mg) : Has P w K mg base "step_of" 1 ["letter", "octave"] (sp_step_of) :=
  has_of T.d_step_of fun f fd D => ok_step_of T D
def sp_raised_by_key : Sp := fun vs H Q _ => ∃ k l : Int, vs = [.int k, .int l] ∧ (0 ≤ l ∧ l ≤ 6) ∧ Q (.int (Sw68.keyAlt k l)) H
theorem keyAlt_eq {k l : Int} (h : 0 ≤ l ∧ l ≤ 6) : Sw68.keyAlt k l = if ([0, 2, 4, -1, 1, 3, 5] : List Int).getD l.toNat 0 + 1 < k then 1 else if 7 + k ≤ ([0, 2, 4, -1, 1, 3, 5] : List Int).getD l.toNat 0 + 1 then -1 else 0 := by
  have e : ((Sw68.ORDER.idxOf l : Nat) : Int) = ([0, 2, 4, -1, 1, 3, 5] : List Int).getD l.toNat 0 + 1 := by
    have c : l = 0 ∨ l = 1 ∨ l = 2 ∨ l = 3 ∨ l = 4 ∨ l = 5 ∨ l = 6 := by omega
    rcases c with rfl | rfl | rfl | rfl | rfl | rfl | rfl <;> rfl
  unfold Sw68.keyAlt
  rw [← e]
theorem ok_raised_by_key {P : Program} {w : World} {K : PySem.W.Frag} {mg : Str → Option Value} {base : Heap} (T : Txt K mg) {f : Addr} {fd : FuncData} (D : Def K mg "raised_by_key" s_raised_by_key ["in_key", "letter"] f fd) : FnOk P w K mg base CX0 1 f fd ["in_key", "letter"] (sp_raised_by_key) := by
  refine D.F.ok sc_raised_by_key (fun vs H Q E h => ?_) (fun cdv A outer s H vs Q E hr h => ⟨_, (pss_cons (ps_set (i := 2) sc_raised_by_key.nd rfl (Or.inl rfl) (pe_op op_add (pe_tab T.c_FIFTHS_OF_LETTERS (pv 1) (fun _ _ => rfl)) pe_int))
      (pss_cons (ps_if (pt_cmpR op_lt (pv 2) (pv 0) (nomark _)) (pss_one (ps_ret pe_int)) pss_nil)
      (pss_cons (ps_if (pt_cmpR op_ge (pv 2) (pe_op op_add (pe_globI T.c_LETTERS) (pv 0)) (nomark _)) (pss_one (ps_ret (pe_un un_neg pe_int))) pss_nil)
      (pss_one (ps_ret pe_int))))), ?_⟩)
  · obtain ⟨k, l, rfl, _⟩ := h
    rfl
  · obtain ⟨k, l, rfl, hl, q⟩ := h
    rw [keyAlt_eq hl] at q
    simp only [tSeq, tAsg, tIfS, tRet, tNext, tOp, tUn, tTest, tB, tNot, tAnd, tOr, tAndV, tOrV, tNotV, tChain, tVar, tC, tCons, tNil, tCall, tCB, tIf, tDrop, gName, tAug, ipI, rI, rI0, rU, CMul, CDiv, rEq, rNe, scal, tTab, tInTab, cxOf_K, L2.start, Nat.reduceAdd, Nat.reduceSub, Nat.sub_self, List.map_cons, List.map_nil, List.length_cons, List.length_nil, List.replicate, List.append_nil, List.cons_append, List.nil_append, List.set_cons_zero, List.set_cons_succ, List.getElem?_cons_zero, List.getElem?_cons_succ, Option.some.injEq, List.cons.injEq, V.int.injEq, V.bl.injEq, V.ref.injEq, and_true, true_and, exists_eq_left, and_assoc, exists_eq_left', exists_and_left, decide_eq_true_eq, Bool.true_eq_false, if_true, if_false]
    refine ⟨hl.1, by omega, ?_⟩
    generalize ([0, 2, 4, -1, 1, 3, 5] : List Int).getD l.toNat 0 + 1 = p at q ⊢
    by_cases c : p < k
    · rw [if_pos c] at q ⊢
      exact q
    · rw [if_neg c] at q ⊢
      by_cases c2 : 7 + k ≤ p
      · rw [if_pos c2] at q
        rw [if_pos c2]
        exact q
      · rw [if_neg c2] at q
        rw [if_neg c2]
        exact q
theorem has_raised_by_key {P : Program} {w : World} {K : PySem.W.Frag} {mg : Str → Option Value} {base : Heap} (T : Txt K mg) : Has P w K mg base "raised_by_key" 1 ["in_key", "letter"] (sp_raised_by_key) :=
  has_of T.d_raised_by_key fun f fd D => ok_raised_by_key T D
/-! the parse -/
theorem many_in {A : Type} {p : List Int → Option (A × List Int)} {e : A → List Int} {ok : A → Prop} (hp : ∀ l x r, p l = some (x, r) → l = e x ++ r ∧ ok x) :
    ∀ (k : Nat) (l : List Int) (xs : List A) (r : List Int), Sw68Neutral.many_ p k l = some (xs, r) → l = xs.flatMap e ++ r ∧ xs.length = k ∧ ∀ x ∈ xs, ok x
  | 0, l, xs, r, h => by
    unfold Sw68Neutral.many_ at h
    injection h with h
    injection h with h1 h2
    subst h1 h2
    exact ⟨rfl, rfl, fun x hx => nomatch hx⟩
  | k + 1, l, xs, r, h => by
    unfold Sw68Neutral.many_ at h
    cases e1 : p l with
    | none => rw [e1] at h; cases h
    | some x =>
      rw [e1] at h
      obtain ⟨x, l1⟩ := x
      obtain ⟨e1, o1⟩ := hp l x l1 e1
      change Option.map _ (Sw68Neutral.many_ p k l1) = _ at h
      cases e2 : Sw68Neutral.many_ p k l1 with
      | none => rw [e2] at h; cases h
      | some y =>
        rw [e2] at h
        obtain ⟨ys, r'⟩ := y
        injection h with h
        injection h with h1 h2
        have h1' : x :: ys = xs := h1
        have h2' : r' = r := h2
        subst h1' h2'
        obtain ⟨e3, e4, e5⟩ := many_in hp k l1 ys r' e2
        refine ⟨?_, by rw [List.length_cons, e4], fun z hz => ?_⟩
        · rw [e1, e3, List.flatMap_cons, List.append_assoc]
        · rcases List.mem_cons.mp hz with rfl | hz
          · exact o1
          · exact e5 z hz
/-- a list behind how many it has -/
def encL {A : Type} (e : A → List Int) (xs : List A) : List Int := (xs.length : Int) :: xs.flatMap e
theorem list_in {A : Type} {p : List Int → Option (A × List Int)} {e : A → List Int} {ok : A → Prop} (hp : ∀ l x r, p l = some (x, r) → l = e x ++ r ∧ ok x)
    (l : List Int) (xs : List A) (r : List Int) (h : Sw68Neutral.listIn p l = some (xs, r)) : l = encL e xs ++ r ∧ (xs.length ≤ 60 ∧ ∀ x ∈ xs, ok x) := by
  unfold Sw68Neutral.listIn at h
  cases l with
  | nil => cases h
  | cons n l =>
    by_cases c : 0 ≤ n ∧ n ≤ 60
    · have h' : (if 0 ≤ n ∧ n ≤ 60 then Sw68Neutral.many_ p n.toNat l else none) = some (xs, r) := h
      rw [if_pos c] at h'
      obtain ⟨h1, h2, h3⟩ := many_in hp _ _ _ _ h'
      refine ⟨?_, by omega, h3⟩
      unfold encL
      rw [List.cons_append, ← h1, h2, Int.toNat_of_nonneg c.1]
    · have h' : (if 0 ≤ n ∧ n ≤ 60 then Sw68Neutral.many_ p n.toNat l else none) = some (xs, r) := h
      rw [if_neg c] at h'
      cases h'
theorem int_in_inv {l : List Int} {z : Int} {r : List Int} (h : Sw68Neutral.intIn l = some (z, r)) : l = z :: r ∧ (-2147483648 ≤ z ∧ z ≤ 2147483647) := by
  unfold Sw68Neutral.intIn at h
  cases l with
  | nil => cases h
  | cons n l =>
    have h' : (if -(2 ^ 31) ≤ n ∧ n < 2 ^ 31 then some (n, l) else none) = some (z, r) := h
    by_cases c : -(2 ^ 31 : Int) ≤ n ∧ n < 2 ^ 31
    · rw [if_pos c] at h'
      injection h' with h'
      injection h' with h1 h2
      subst h1 h2
      exact ⟨rfl, by omega⟩
    · rw [if_neg c] at h'
      cases h'
abbrev outN (n : Sw68.Note) : List Int := [n.letter, n.alt, n.octave]
theorem note_in_inv (l : List Int) (x : Sw68.Note) (r : List Int) (h : Sw68Neutral.noteIn l = some (x, r)) : l = outN x ++ r ∧ True := by
  unfold Sw68Neutral.noteIn at h
  cases e1 : Sw68Neutral.intIn l with
  | none => rw [e1] at h; cases h
  | some a =>
    rw [e1] at h
    obtain ⟨a, l1⟩ := a
    change Option.bind (Sw68Neutral.intIn l1) _ = _ at h
    cases e2 : Sw68Neutral.intIn l1 with
    | none => rw [e2] at h; cases h
    | some b =>
      rw [e2] at h
      obtain ⟨b, l2⟩ := b
      change Option.map _ (Sw68Neutral.intIn l2) = _ at h
      cases e3 : Sw68Neutral.intIn l2 with
      | none => rw [e3] at h; cases h
      | some c =>
        rw [e3] at h
        obtain ⟨c, l3⟩ := c
        injection h with h
        injection h with h1 h2
        have h1' : (⟨a, b, c⟩ : Sw68.Note) = x := h1
        have h2' : l3 = r := h2
        subst h1' h2'
        obtain ⟨rfl, _⟩ := int_in_inv e1
        obtain ⟨rfl, _⟩ := int_in_inv e2
        obtain ⟨rfl, _⟩ := int_in_inv e3
        exact ⟨rfl, trivial⟩
/-- the numbers of bars of notes -/
abbrev encB (bs : List (List Sw68.Note)) : List Int := encL (encL outN) bs
theorem all_inv {A : Type} {x : Option (A × List Int)} {a : A} (h : Sw68Neutral.all_ x = some a) : x = some (a, []) := by
  unfold Sw68Neutral.all_ at h
  cases x with
  | none => cases h
  | some y =>
    obtain ⟨y, l⟩ := y
    cases l with
    | nil =>
      injection h with h
      have h' : y = a := h
      rw [h']
    | cons z l => cases h
theorem asked_call {c : List Int} (h : Sw68Neutral.asked [c] = true) : ∃ x, Sw68Neutral.callOf c = some x := by
  unfold Sw68Neutral.asked at h
  rw [Bool.and_eq_true] at h
  have h1 := h.1
  rw [List.all_cons, Bool.and_eq_true] at h1
  exact Option.isSome_iff_exists.mp h1.1
/-! ### read: what it is asked, what it answers -/
/-- the numbers of what's written of a note -/
def outWr (w : Sw68.Written) : List Int := match w.sign with
  | none => [w.letter, w.octave, 0]
  | some s => [w.letter, w.octave, 1, s]
theorem written_in_inv (l : List Int) (x : Sw68.Written) (r : List Int) (h : Sw68Neutral.writtenIn l = some (x, r)) : l = outWr x ++ r ∧ True := by
  unfold Sw68Neutral.writtenIn at h
  cases e1 : Sw68Neutral.intIn l with
  | none => rw [e1] at h; cases h
  | some a =>
    rw [e1] at h
    obtain ⟨a, l1⟩ := a
    change Option.bind (Sw68Neutral.intIn l1) _ = _ at h
    cases e2 : Sw68Neutral.intIn l1 with
    | none => rw [e2] at h; cases h
    | some b =>
      rw [e2] at h
      obtain ⟨b, l2⟩ := b
      obtain ⟨rfl, _⟩ := int_in_inv e1
      obtain ⟨rfl, _⟩ := int_in_inv e2
      simp only [Option.bind_some] at h
      split at h
      · injection h with h
        injection h with h1 h2
        subst h1 h2
        exact ⟨by first | rfl | (simp_all [outWr]), trivial⟩
      · next _ hh =>
        cases e3 : Sw68Neutral.intIn hh with
        | none => rw [e3] at h; cases h
        | some c =>
          rw [e3] at h
          obtain ⟨c, l3⟩ := c
          injection h with h
          injection h with h1 h2
          subst h1 h2
          obtain ⟨z, _⟩ := int_in_inv e3
          subst z
          exact ⟨by first | rfl | (simp_all [outWr]), trivial⟩
      · cases h
abbrev encR (bs : List (List Sw68.Written)) : List Int := encL (encL outWr) bs
theorem read_inv {k : Int} {ns : List Int} (h : PySw68.read_asked k ns = true) :
    ∃ bs : List (List Sw68.Written), ns = encR bs ∧ bs.length ≤ 60 ∧ (∀ b ∈ bs, b.length ≤ 60) ∧ PySw68.read k ns = Sw68Neutral.out (Sw68.step (.read k bs)) := by
  obtain ⟨x, hx⟩ := asked_call h
  have hx' : Sw68Neutral.callOf (4 :: k :: ns) = some x := hx
  have e : Sw68Neutral.all_ ((Sw68Neutral.intIn (k :: ns)).bind fun k => (Sw68Neutral.listIn (Sw68Neutral.listIn Sw68Neutral.writtenIn) k.2).map fun y => (Sw68.Call.read k.1 y.1, y.2)) = some x := hx'
  have e := all_inv e
  cases e1 : Sw68Neutral.intIn (k :: ns) with
  | none => rw [e1] at e; cases e
  | some a =>
    rw [e1] at e
    obtain ⟨a, l1⟩ := a
    obtain ⟨q, _⟩ := int_in_inv e1
    injection q with q1 q2
    subst q1 q2
    change Option.map _ (Sw68Neutral.listIn (Sw68Neutral.listIn Sw68Neutral.writtenIn) ns) = _ at e
    cases e2 : Sw68Neutral.listIn (Sw68Neutral.listIn Sw68Neutral.writtenIn) ns with
    | none => rw [e2] at e; cases e
    | some y =>
      rw [e2] at e
      obtain ⟨bs, r⟩ := y
      injection e with e
      injection e with e3 e4
      have e3' : Sw68.Call.read k bs = x := e3
      have e4' : r = [] := e4
      subst e3' e4'
      obtain ⟨z1, z2, z3⟩ := list_in (list_in written_in_inv) _ _ _ e2
      refine ⟨bs, by rw [z1, List.append_nil], z2, fun b hb => (z3 b hb).1, ?_⟩
      show Sw68Neutral.f (4 :: k :: ns) = _
      unfold Sw68Neutral.f
      rw [hx']
/-- a bar read, number by number -/
def rBar (k : Int) : Sw68.Force → List Sw68.Written → List Int
  | _, [] => []
  | f, w :: l => [w.letter, w.sign.getD (Sw68.inForce k f w.letter w.octave), w.octave] ++ rBar k (((w.letter, w.octave), w.sign.getD (Sw68.inForce k f w.letter w.octave)) :: f) l
theorem rBar_eq (k : Int) : ∀ (f : Sw68.Force) (l : List Sw68.Written), rBar k f l = (Sw68.readBar k f l).flatMap Sw68.out
  | _, [] => rfl
  | f, w :: l => by
    unfold rBar Sw68.readBar
    rw [rBar_eq k _ l]
    rfl
theorem rBar_length (k : Int) : ∀ (f : Sw68.Force) (l : List Sw68.Written), (rBar k f l).length = 3 * l.length
  | _, [] => rfl
  | f, w :: l => by
    unfold rBar
    rw [List.length_append, rBar_length k _ l, List.length_cons]
    show 3 + 3 * l.length = 3 * (l.length + 1)
    omega
def rBars (k : Int) (bs : List (List Sw68.Written)) : List Int := bs.flatMap fun b => ((rBar k [] b).length : Int) :: rBar k [] b
def ansR (k : Int) (bs : List (List Sw68.Written)) : List Int := Sw68Neutral.out (Sw68.step (.read k bs))
theorem ansR_no {k : Int} {bs : List (List Sw68.Written)} (c : (Sw68.keyOk k && bs.all fun b => b.all Sw68.writtenOk) = false) : ansR k bs = [-1] := by
  unfold ansR Sw68.step
  simp only [c, if_true]
  rfl
theorem ansR_ok {k : Int} {bs : List (List Sw68.Written)} (c1 : Sw68.keyOk k = true) (c2 : (bs.all fun b => b.all Sw68.writtenOk) = true) : ansR k bs = (bs.length : Int) :: rBars k bs := by
  unfold ansR Sw68.step
  simp only [c1, c2, Bool.and_self, Bool.true_eq_false, if_false]
  show (bs.length : Int) :: _ = _
  congr 1
  unfold rBars Sw68.read
  rw [List.map_map, List.flatMap_map]
  congr 1
  funext b
  show (((Sw68.readBar k [] b).flatMap Sw68.out).length : Int) :: (Sw68.readBar k [] b).flatMap Sw68.out = _
  rw [rBar_eq]
theorem rBars_length (k : Int) : ∀ bs : List (List Sw68.Written), (∀ b ∈ bs, b.length ≤ 60) → (rBars k bs).length ≤ 181 * bs.length
  | [], _ => Nat.le_refl _
  | b :: l, h => by
    have ih := rBars_length k l fun x hx => h x (List.mem_cons_of_mem _ hx)
    have hb := h b (List.mem_cons_self ..)
    unfold rBars at ih ⊢
    rw [List.flatMap_cons, List.length_append, List.length_cons, List.length_cons, rBar_length]
    omega
/-! ### notes in the heap: a list of tuples -/
abbrev vN (n : Sw68.Note) : List V := [.int n.letter, .int n.alt, .int n.octave]
def NotesAt (H : Hp) (a : Addr) (ns : List Sw68.Note) : Prop := ∃ rs : List Addr, H a = some (.lst (rs.map V.ref)) ∧ Paired (fun r n => H r = some (.tup (vN n))) rs ns
theorem Same.notes {H H' : Hp} {a : Addr} {ns : List Sw68.Note} (s : Same H H') (h : NotesAt H a ns) : NotesAt H' a ns := by
  obtain ⟨rs, h1, h2⟩ := h
  exact ⟨rs, s _ _ h1, L2.Paired.mapP h2 fun r n h => s _ _ h⟩
theorem paired_at {α β : Type} {F : α → β → Prop} : ∀ {l₁ : List α} {l₂ : List β}, Paired F l₁ l₂ → ∀ {i : Nat} {x : α}, l₁[i]? = some x → ∃ y, l₂[i]? = some y ∧ F x y
  | _, _, .nil, i, x, h => by simp at h
  | _, _, .cons h1 h2, 0, x, h => by
    rw [List.getElem?_cons_zero] at h
    injection h with h
    subst h
    exact ⟨_, rfl, h1⟩
  | _, _, .cons h1 h2, i + 1, x, h => by
    rw [List.getElem?_cons_succ] at h
    obtain ⟨y, e, f⟩ := paired_at h2 h
    exact ⟨y, by rw [List.getElem?_cons_succ]; exact e, f⟩
theorem ref_at {rs : List Addr} {i : Nat} {x : V} (h : (rs.map V.ref)[i]? = some x) : ∃ r, rs[i]? = some r ∧ x = .ref r := by
  rw [List.getElem?_map] at h
  cases e : rs[i]? with
  | none => rw [e] at h; cases h
  | some r =>
    rw [e] at h
    injection h with h
    exact ⟨r, rfl, h.symm⟩
theorem drop_at {α : Type} {l : List α} {i : Nat} {x : α} (h : l[i]? = some x) : l.drop i = x :: l.drop (i + 1) := by
  obtain ⟨hi, e⟩ := List.getElem?_eq_some_iff.mp h
  rw [List.drop_eq_getElem_cons hi, e]
theorem take_at {α : Type} {l : List α} {i : Nat} {x : α} (h : l[i]? = some x) : l.take (i + 1) = l.take i ++ [x] := by
  rw [List.take_add_one, h]
  rfl
theorem Same.upd {H H' : Hp} {p : Addr} {o : HO} (s : Same H H') (hp : H p = none) : Same H (upd H' p o) := fun b o' h => by
  rw [upd_ne (fun z => by rw [z, hp] at h; cases h)]
  exact s _ _ h
/-- all but the thing at l stays -/
def SameB (l : Addr) (H H' : Hp) : Prop := ∀ b o, b ≠ l → H b = some o → H' b = some o
theorem SameB.refl {l : Addr} {H : Hp} : SameB l H H := fun _ _ _ h => h
theorem SameB.same {l : Addr} {H H1 H2 : Hp} (a : SameB l H H1) (b : Same H1 H2) : SameB l H H2 := fun x o n h => b _ _ (a x o n h)
theorem SameB.upd {l : Addr} {H H1 : Hp} {o : HO} (a : SameB l H H1) : SameB l H (upd H1 l o) := fun x o' n h => by
  rw [upd_ne n]
  exact a x o' n h
theorem SameB.notes {l : Addr} {H H' : Hp} {a : Addr} {ns : List Sw68.Note} {n : Int} {xs : List V} (s : SameB l H H') (hl : H l = some (.lst (.int n :: xs))) (h : NotesAt H a ns) : NotesAt H' a ns := by
  obtain ⟨rs, h1, h2⟩ := h
  refine ⟨rs, s _ _ ?_ h1, L2.Paired.mapP h2 fun r n h => s _ _ ?_ h⟩
  · intro z
    rw [z, hl] at h1
    injection h1 with h1
    injection h1 with h1
    cases rs with
    | nil => cases h1
    | cons r rs =>
      rw [List.map_cons] at h1
      injection h1 with h1
      cases h1
  · intro z
    rw [z, hl] at h
    injection h with h
    cases h
/-! ### what's written in the heap: a list of tuples, the sign a number or None -/
abbrev sgV : Option Int → V
  | none => .non
  | some s => .int s
abbrev vW (w : Sw68.Written) : List V := [.int w.letter, .int w.octave, sgV w.sign]
def WrAt (H : Hp) (a : Addr) (ws : List Sw68.Written) : Prop := ∃ rs : List Addr, H a = some (.lst (rs.map V.ref)) ∧ Paired (fun r w => H r = some (.tup (vW w))) rs ws
def BarsAtR (H : Hp) (a : Addr) (bs : List (List Sw68.Written)) : Prop := ∃ rs : List Addr, H a = some (.lst (rs.map V.ref)) ∧ Paired (fun r b => WrAt H r b) rs bs
theorem Same.wr {H H' : Hp} {a : Addr} {ws : List Sw68.Written} (s : Same H H') (h : WrAt H a ws) : WrAt H' a ws := by
  obtain ⟨rs, h1, h2⟩ := h
  exact ⟨rs, s _ _ h1, L2.Paired.mapP h2 fun r n h => s _ _ h⟩
theorem WrAt.upd {H : Hp} {r B : Addr} {b : List Sw68.Written} {ys zs : List V} (h : WrAt H r b) (ne : r ≠ B) (hB : H B = some (.lst ys)) : WrAt (upd H B (.lst zs)) r b := by
  obtain ⟨rs, h1, h2⟩ := h
  refine ⟨rs, by rw [upd_ne ne]; exact h1, L2.Paired.mapP h2 fun x n h => ?_⟩
  rw [upd_ne (ne_of h hB (fun z => nomatch z))]
  exact h
theorem ne_refsR {H : Hp} {l a : Addr} {n : Int} {xs : List V} {rs : List Addr} (hl : H l = some (.lst (.int n :: xs))) (ha : H a = some (.lst (rs.map V.ref))) : a ≠ l := by
  intro z
  rw [z, hl] at ha
  injection ha with h1
  injection h1 with h1
  cases rs with
  | nil => cases h1
  | cons r rs =>
    rw [List.map_cons] at h1
    injection h1 with h1
    cases h1
theorem SameB.wr {l : Addr} {H H' : Hp} {a : Addr} {ws : List Sw68.Written} {n : Int} {xs : List V} (s : SameB l H H') (hl : H l = some (.lst (.int n :: xs))) (h : WrAt H a ws) : WrAt H' a ws := by
  obtain ⟨rs, h1, h2⟩ := h
  refine ⟨rs, s _ _ (ne_refsR hl h1) h1, L2.Paired.mapP h2 fun r n h => s _ _ ?_ h⟩
  exact ne_of h hl (fun z => nomatch z)
theorem writtenOk_eq (w : Sw68.Written) : Sw68.writtenOk w = Sw68.noteOk ⟨w.letter, w.sign.getD 0, w.octave⟩ := by
  unfold Sw68.writtenOk
  cases w.sign <;> rfl
def sp_written_bars_in (K : PySem.W.Frag) : Sp := fun vs H Q _ => ∃ (a : Addr) (bs : List (List Sw68.Written)), vs = [.ref a] ∧ SqL K H a ((encR bs).map V.int) ∧ bs.length ≤ 60 ∧ (∀ b ∈ bs, b.length ≤ 60) ∧
  ∀ (H' : Hp) (p : Addr), BarsAtR H' p bs → Same H H' → Q (.ref p) H'
/-- where the i-th bar's count stands; how far a bar's j-th note stands behind it -/
def plcR (bs : List (List Sw68.Written)) (i : Nat) : Nat := 1 + ((bs.take i).flatMap (encL outWr)).length
def offR (b : List Sw68.Written) (j : Nat) : Nat := ((b.take j).flatMap outWr).length
theorem encR_split {bs : List (List Sw68.Written)} {i : Nat} {b : List Sw68.Written} (h : bs[i]? = some b) :
    encR bs = ((bs.length : Int) :: (bs.take i).flatMap (encL outWr)) ++ (((b.length : Int) :: b.flatMap outWr) ++ (bs.drop (i + 1)).flatMap (encL outWr)) := by
  have e : bs = bs.take i ++ (b :: bs.drop (i + 1)) := by rw [← drop_at h, List.take_append_drop]
  show (bs.length : Int) :: bs.flatMap (encL outWr) = _
  have e2 : bs.flatMap (encL outWr) = (bs.take i).flatMap (encL outWr) ++ (encL outWr b ++ (bs.drop (i + 1)).flatMap (encL outWr)) := by
    conv => lhs; rw [e]
    rw [List.flatMap_append, List.flatMap_cons]
  rw [e2]
  rfl
theorem plcR_len {bs : List (List Sw68.Written)} {i : Nat} : ((bs.length : Int) :: (bs.take i).flatMap (encL outWr)).length = plcR bs i := by
  unfold plcR
  rw [List.length_cons]
  omega
theorem plcR_at {bs : List (List Sw68.Written)} {i : Nat} {b : List Sw68.Written} (h : bs[i]? = some b) : ((encR bs).map V.int)[plcR bs i]? = some (.int (b.length : Int)) := by
  rw [encR_split h, List.map_append, List.getElem?_append_right (by rw [List.length_map, plcR_len]; exact Nat.le_refl _), List.length_map, plcR_len, Nat.sub_self]
  rfl
theorem plcR_next {bs : List (List Sw68.Written)} {i : Nat} {b : List Sw68.Written} (h : bs[i]? = some b) : plcR bs (i + 1) = plcR bs i + 1 + offR b b.length := by
  unfold plcR offR
  rw [take_at h, List.flatMap_append, List.length_append, List.flatMap_cons, List.flatMap_nil, List.append_nil, List.take_length]
  show 1 + (_ + (b.flatMap outWr).length.succ) = _
  omega
theorem offR_next {b : List Sw68.Written} {j : Nat} {w : Sw68.Written} (h : b[j]? = some w) : offR b (j + 1) = offR b j + (outWr w).length := by
  unfold offR
  rw [take_at h, List.flatMap_append, List.length_append, List.flatMap_cons, List.flatMap_nil, List.append_nil]
theorem numR_at {bs : List (List Sw68.Written)} {i j : Nat} {b : List Sw68.Written} {w : Sw68.Written} (h : bs[i]? = some b) (h' : b[j]? = some w) {t : Nat} {z : Int} (ht : (outWr w)[t]? = some z) :
    ((encR bs).map V.int)[plcR bs i + 1 + offR b j + t]? = some (.int z) := by
  have e2 : b.flatMap outWr = (b.take j).flatMap outWr ++ (outWr w ++ (b.drop (j + 1)).flatMap outWr) := by
    have e : b = b.take j ++ (w :: b.drop (j + 1)) := by rw [← drop_at h', List.take_append_drop]
    conv => lhs; rw [e]
    rw [List.flatMap_append, List.flatMap_cons]
  have e3 : encR bs = (((bs.length : Int) :: (bs.take i).flatMap (encL outWr)) ++ ((b.length : Int) :: (b.take j).flatMap outWr)) ++ (outWr w ++ ((b.drop (j + 1)).flatMap outWr ++ (bs.drop (i + 1)).flatMap (encL outWr))) := by
    rw [encR_split h, e2]
    simp only [List.append_assoc, List.cons_append]
  have l : (((bs.length : Int) :: (bs.take i).flatMap (encL outWr)) ++ ((b.length : Int) :: (b.take j).flatMap outWr)).length = plcR bs i + 1 + offR b j := by
    rw [List.length_append, plcR_len, List.length_cons]
    unfold offR
    omega
  have ht' : t < (outWr w).length := (List.getElem?_eq_some_iff.mp ht).1
  rw [List.getElem?_map, e3, List.getElem?_append_right (by rw [l]; omega), l, show plcR bs i + 1 + offR b j + t - (plcR bs i + 1 + offR b j) = t by omega, List.getElem?_append_left ht', ht]
  rfl
def hasS (o : Option Int) : Int := match o with
  | none => 0
  | some _ => 1
theorem outWr_0 (w : Sw68.Written) : (outWr w)[0]? = some w.letter := by
  unfold outWr
  cases w.sign <;> rfl
theorem outWr_1 (w : Sw68.Written) : (outWr w)[1]? = some w.octave := by
  unfold outWr
  cases w.sign <;> rfl
theorem outWr_2 (w : Sw68.Written) : (outWr w)[2]? = some (hasS w.sign) := by
  unfold outWr
  cases w.sign <;> rfl
theorem outWr_3 {w : Sw68.Written} {s : Int} (h : w.sign = some s) : (outWr w)[3]? = some s := by
  unfold outWr
  rw [h]
  rfl
theorem outWr_len (w : Sw68.Written) : ((outWr w).length : Int) = if sgV w.sign = .non then 3 else 4 := by
  unfold outWr
  cases w.sign with
  | none => rfl
  | some s => rfl
theorem signR_rd {K : PySem.W.Frag} {a : Addr} {ys : List V} {w : Sw68.Written} {pl : Nat} {σ : L2.St} {H : Hp} {Qc : VK} (h0 : σ[0]? = some (some (.ref a))) (h2 : σ[2]? = some (some (.int (pl : Nat)))) (ha : SqL K H a ys)
    (n2 : ys[pl + 2]? = some (.int (hasS w.sign))) (n3 : ∀ s, w.sign = some s → ys[pl + 3]? = some (.int s)) (k : Qc (sgV w.sign) H) :
    tIf (tTest (tOp rEq (tOp (rIxL K) (tVar 0) (tOp (rI0 fun i j => V.int (i + j)) (tVar 2) (tC (.int 2)))) (tC (.int 1)))) (tOp (rIxL K) (tVar 0) (tOp (rI0 fun i j => V.int (i + j)) (tVar 2) (tC (.int 3)))) (tC .non) σ H Qc := by
  refine ⟨_, h0, _, h2, _, _, rfl, rfl, a, ys, ((pl + 2 : Nat) : Int), _, rfl, by rfl, ha, atI_nat n2, rfl, _, rfl, ?_⟩
  cases e : w.sign with
  | none =>
    rw [e] at k
    exact iteF k
  | some s =>
    rw [e] at k
    exact iteT ⟨_, h0, _, h2, _, _, rfl, rfl, a, ys, ((pl + 3 : Nat) : Int), _, rfl, by rfl, ha, atI_nat (n3 s e), k⟩
theorem onR_rd {o : Option Int} {σ : L2.St} {H : Hp} {Qc : VK} (h5 : σ[5]? = some (some (sgV o))) (k : Qc (.int (if sgV o = .non then 3 else 4)) H) :
    tIf (tTest (tOp (fun x y H Q => y = .non ∧ Q (.bl (decide (x = .non))) H) (tVar 5) (tC .non))) (tC (.int 3)) (tC (.int 4)) σ H Qc := by
  refine ⟨_, h5, rfl, _, rfl, ?_⟩
  cases o with
  | none => exact iteT k
  | some s => exact iteF k
theorem ok_written_bars_in {P : Program} {w : World} {K : PySem.W.Frag} {mg : Str → Option Value} {base : Heap} (T : Txt K mg) {f : Addr} {fd : FuncData} (D : Def K mg "written_bars_in" s_written_bars_in ["numbers"] f fd) : FnOk P w K mg base CX0 1 f fd ["numbers"] (sp_written_bars_in K) := by
  refine D.F.ok sc_written_bars_in (fun vs H Q E h => ?_) (fun cdv A outer s H vs Q E hr h => ⟨_, (pss_cons (ps_set (i := 1) sc_written_bars_in.nd rfl (Or.inl rfl) (pe_lst pa_nil))
      (pss_cons (ps_set (i := 2) sc_written_bars_in.nd rfl (Or.inl rfl) pe_int)
      (pss_cons (ps_while PassesOwn.never (pt_cmpR op_lt (pe_callB call_len_seq (by rfl) T.b_len PySem.boot_len (pa_cons (pv 1) pa_nil)) (pe_ix ix_list (pv 0) pe_int (fun _ _ => rfl)) (nomark _))
      (pss_cons (ps_set (i := 3) sc_written_bars_in.nd rfl (Or.inl rfl) (pe_ix ix_list (pv 0) (pv 2) (fun _ _ => rfl)))
      (pss_cons (ps_aug (i := 2) sc_written_bars_in.nd rfl (Or.inl rfl) pe_int ip_add)
      (pss_cons (ps_set (i := 4) sc_written_bars_in.nd rfl (Or.inl rfl) (pe_lst pa_nil))
      (pss_cons (ps_while PassesOwn.never (pt_cmpR op_lt (pe_callB call_len_seq (by rfl) T.b_len PySem.boot_len (pa_cons (pv 4) pa_nil)) (pv 3) (nomark _))
      (pss_cons (ps_set (i := 5) sc_written_bars_in.nd rfl (Or.inl rfl) (pe_ifExp (pt_cmpR op_eq (pe_ix ix_list (pv 0) (pe_op op_add (pv 2) pe_int) (fun _ _ => rfl)) pe_int (nomark _)) (pe_ix ix_list (pv 0) (pe_op op_add (pv 2) pe_int) (fun _ _ => rfl)) pe_non))
      (pss_cons (ps_expr (pe_bm PySem.F.plainAttrs_list PySem.F.slot_list_append PySem.F.type_list_append mt_append (pv 4) (pa_cons (pe_tup (pa_cons (pe_ix ix_list (pv 0) (pv 2) (fun _ _ => rfl)) (pa_cons (pe_ix ix_list (pv 0) (pe_op op_add (pv 2) pe_int) (fun _ _ => rfl)) (pa_cons (pv 5) pa_nil)))) pa_nil)))
      (pss_one (ps_aug (i := 2) sc_written_bars_in.nd rfl (Or.inl rfl) (pe_ifExp (pt_cmpR op_isN (pv 5) pe_non (nomark _)) (pe_globI T.c_NUMBERS_WITHOUT_SIGN) (pe_globI T.c_NUMBERS_WITH_SIGN)) ip_add)))))
      (pss_one (ps_expr (pe_bm PySem.F.plainAttrs_list PySem.F.slot_list_append PySem.F.type_list_append mt_append (pv 1) (pa_cons (pv 4) pa_nil)))))))))
      (pss_one (ps_ret (pv 1)))))), ?_⟩)
  · obtain ⟨a, bs, rfl, _⟩ := h
    rfl
  · obtain ⟨a, bs, rfl, ha, hl, hb, k⟩ := h
    refine ⟨line (by decide), fun B hB => ?_⟩
    refine while_by (fun σ Hc => Same H Hc ∧ ∃ (i : Nat) (s3 s4 s5 : Option V) (rs : List Addr), i ≤ bs.length ∧ σ = [some (.ref a), some (.ref B), some (.int (plcR bs i : Nat)), s3, s4, s5] ∧ Hc B = some (.lst (rs.map V.ref)) ∧
      Paired (fun r b => r ≠ B ∧ WrAt Hc r b) rs (bs.take i)) (fun _ Hc => bs.length - lenAt Hc B) ⟨Same.new hB, 0, _, _, _, [], Nat.zero_le _, rfl, upd_same, .nil⟩ ?_ ?_
    · rintro σ Hc ⟨sm, i, s3, s4, s5, rs, hi, rfl, hc, hp⟩
      have li : rs.length = i := by
        rw [hp.length, List.length_take]
        omega
      refine ⟨_, rfl, B, _, rfl, .inl (SqL.of hc), _, rfl, a, _, 0, .int (bs.length : Int), rfl, rfl, Same.seq sm ha, atI_nat (show ((encR bs).map V.int)[0]? = some (.int (bs.length : Int)) from rfl), _, (bs.length : Int), rfl, rfl, _, rfl, ?_⟩
      by_cases c : i < bs.length
      · have hx : bs[i]? = some bs[i] := List.getElem?_eq_getElem c
        have hb' := hb _ (List.mem_of_getElem? hx)
        refine iteY (by rw [decide_eq_true_eq, List.length_map, li]; omega) ?_
        generalize bs[i] = b at hx hb'
        refine ⟨_, rfl, _, rfl, a, _, _, .int (b.length : Int), rfl, rfl, Same.seq sm ha, atI_nat (plcR_at hx), ?_⟩
        refine ⟨_, rfl, _, _, rfl, rfl, ?_⟩
        refine ⟨line (by decide), fun W hW => ?_⟩
        have WB : W ≠ B := fun z => by rw [z, hc] at hW; cases hW
        refine while_by (fun σ Hd => Same Hc Hd ∧ ∃ (j : Nat) (s5 : Option V) (ws : List Addr), j ≤ b.length ∧ σ = [some (.ref a), some (.ref B), some (.int (plcR bs i + 1 + offR b j : Nat)), some (.int (b.length : Int)), some (.ref W), s5] ∧ Hd W = some (.lst (ws.map V.ref)) ∧
          Paired (fun r w => Hd r = some (.tup (vW w))) ws (b.take j)) (fun _ Hd => b.length - lenAt Hd W) ⟨Same.new hW, 0, _, [], Nat.zero_le _, rfl, upd_same, .nil⟩ ?_ ?_
        · rintro σ Hd ⟨smd, j, s5, ws, hj, rfl, hw, hpw⟩
          have lj : ws.length = j := by
            rw [hpw.length, List.length_take]
            omega
          refine ⟨_, rfl, W, _, rfl, .inl (SqL.of hw), _, rfl, _, _, rfl, rfl, _, rfl, ?_⟩
          by_cases cj : j < b.length
          · have hx' : b[j]? = some b[j] := List.getElem?_eq_getElem cj
            refine iteY (by rw [decide_eq_true_eq, List.length_map, lj]; omega) ?_
            generalize b[j] = w at hx'
            have ha' := Same.seq (Same.trans sm smd) ha
            refine signR_rd (K := K) (a := a) (w := w) (pl := plcR bs i + 1 + offR b j) rfl rfl ha' (numR_at hx hx' (outWr_2 w)) (fun s e => numR_at hx hx' (outWr_3 e)) ?_
            refine ⟨_, rfl, .inl ⟨rfl, _, SqL.of hw⟩, ?_⟩
            refine ⟨_, rfl, _, rfl, a, _, _, _, rfl, rfl, ha', atI_nat (numR_at (t := 0) hx hx' (outWr_0 w)), ?_⟩
            refine ⟨_, rfl, _, rfl, _, _, rfl, rfl, a, _, ((plcR bs i + 1 + offR b j + 1 : Nat) : Int), _, rfl, by rfl, ha', atI_nat (numR_at hx hx' (outWr_1 w)), ?_⟩
            refine ⟨_, rfl, line (show 3 ≤ 1000000 by decide), fun p hp1 => ⟨W, ws.map V.ref, .ref p, rfl, rfl, Same.new hp1 _ _ hw, line (by rw [List.length_map]; omega), ?_⟩⟩
            refine ⟨_, rfl, ?_⟩
            refine onR_rd (o := w.sign) rfl ?_
            rw [← outWr_len]
            refine ⟨_, _, rfl, rfl, ?_⟩
            have s2 : Same Hd (L2.upd Hd p (.tup [.int w.letter, .int w.octave, sgV w.sign])) := Same.new hp1
            refine ⟨⟨Same.upd (Same.trans smd s2) hW, j + 1, some (sgV w.sign), ws ++ [p], cj, ?_, upd_same.trans (by rw [List.map_append]; rfl), ?_⟩, ?_⟩
            · rw [offR_next hx']
              show [_, _, some (V.int (((plcR bs i + 1 + offR b j : Nat) : Int) + ((outWr w).length : Int))), _, _, _] = [_, _, some (V.int ((plcR bs i + 1 + (offR b j + (outWr w).length) : Nat) : Int)), _, _, _]
              rw [show ((plcR bs i + 1 + offR b j : Nat) : Int) + ((outWr w).length : Int) = ((plcR bs i + 1 + (offR b j + (outWr w).length) : Nat) : Int) by omega]
            · rw [take_at hx']
              refine Paired.snoc (L2.Paired.mapP hpw fun r n h => ?_) ?_
              · rw [upd_ne (ne_of h hw (fun z => nomatch z))]
                exact s2 _ _ h
              · rw [upd_ne (ne_of upd_same (s2 _ _ hw) (fun z => nomatch z))]
                exact upd_same
            · rw [lenAt_of hw, lenAt_of upd_same, List.length_append, List.length_map, lj]
              show _ - (j + 1) < _
              omega
          · refine iteN (by rw [decide_eq_true_eq, List.length_map, lj]; omega) ?_
            have e : j = b.length := by omega
            rw [e, List.take_length] at hpw
            refine ⟨_, rfl, .inl ⟨rfl, _, SqL.of (smd _ _ hc)⟩, _, rfl, B, rs.map V.ref, .ref W, rfl, rfl, smd _ _ hc, line (by rw [List.length_map]; omega), ?_⟩
            refine ⟨⟨Same.upd (Same.trans sm smd) hB, i + 1, some (.int (b.length : Int)), some (.ref W), s5, rs ++ [W], c, ?_, upd_same.trans (by rw [List.map_append]; rfl), ?_⟩, ?_⟩
            · rw [plcR_next hx, e]
            · rw [take_at hx]
              refine Paired.snoc (L2.Paired.mapP hp fun r b h => ⟨h.1, ?_⟩) ⟨WB, WrAt.upd ⟨ws, hw, hpw⟩ WB (smd _ _ hc)⟩
              exact WrAt.upd (Same.wr smd h.2) h.1 (smd _ _ hc)
            · rw [lenAt_of hc, lenAt_of upd_same, List.length_append, List.length_map, li]
              show _ - (i + 1) < _
              omega
        · intro σ H Q Q' hq h
          simp only [tTest, tOp, tCB, tCons, tNil, tVar, tC, rI0, rIxL] at h ⊢
          obtain ⟨v, h1, p, h2, x, h3, v', h4, i', j', h9, h10, b, h11, h12⟩ := h
          exact ⟨v, h1, p, h2, x, h3, v', h4, i', j', h9, h10, b, h11, hq _ _ h12⟩
      · refine iteN (by rw [decide_eq_true_eq, List.length_map, li]; omega) ?_
        have e : i = bs.length := by omega
        rw [e, List.take_length] at hp
        exact ⟨_, rfl, k Hc B ⟨rs, hc, L2.Paired.mapP hp fun r b h => h.2⟩ sm⟩
    · intro σ H Q Q' hq h
      simp only [tTest, tOp, tCB, tCons, tNil, tVar, tC, rI0, rIxL] at h ⊢
      obtain ⟨v, h1, p, h2, x, h3, v', h4, p', xs, i, v1, h5, h6, h7, h8, i', j', h9, h10, b, h11, h12⟩ := h
      exact ⟨v, h1, p, h2, x, h3, v', h4, p', xs, i, v1, h5, h6, h7, h8, i', j', h9, h10, b, h11, hq _ _ h12⟩
theorem has_written_bars_in {P : Program} {w : World} {K : PySem.W.Frag} {mg : Str → Option Value} {base : Heap} (T : Txt K mg) : Has P w K mg base "written_bars_in" 1 ["numbers"] (sp_written_bars_in K) :=
  has_of T.d_written_bars_in fun f fd D => ok_written_bars_in T D
def sp_are_written : Sp := fun vs H Q _ => ∃ (a : Addr) (ws : List Sw68.Written), vs = [.ref a] ∧ WrAt H a ws ∧ Q (.bl (ws.all Sw68.writtenOk)) H
theorem sign0_rd {o : Option Int} {σ : L2.St} {H : Hp} {Qc : VK} {i : Nat} (h : σ[i]? = some (some (sgV o))) (k : Qc (.int (o.getD 0)) H) :
    tIf (tTest (tOp (fun x y H Q => y = .non ∧ Q (.bl (decide (x = .non))) H) (tVar i) (tC .non))) (tC (.int 0)) (tVar i) σ H Qc := by
  refine ⟨_, h, rfl, _, rfl, ?_⟩
  cases o with
  | none => exact iteT k
  | some s => exact iteF ⟨_, h, k⟩
theorem ok_are_written {P : Program} {w : World} {K : PySem.W.Frag} {mg : Str → Option Value} {base : Heap} (T : Txt K mg) {f : Addr} {fd : FuncData} (D : Def K mg "are_written" s_are_written ["written"] f fd) : FnOk P w K mg base CX0 2 f fd ["written"] (sp_are_written) := by
  refine D.F.ok sc_are_written (fun vs H Q E h => ?_) (fun cdv A outer s H vs Q E hr h => ⟨_, (pss_cons (ps_for PassesOwn.never rfl (pi_list (pv 0)) (pg_tup rfl (pgs_cons (pg_name (i := 1) sc_are_written.nd rfl (Or.inl rfl)) (pgs_cons (pg_name (i := 2) sc_are_written.nd rfl (Or.inl rfl)) (pgs_cons (pg_name (i := 3) sc_are_written.nd rfl (Or.inl rfl)) pgs_nil))))
      (pss_one (ps_if (pt_not (pt_val (pe_has (has_is_note T) (hr.mono (by decide)) (pa_cons (pv 1) (pa_cons (pe_ifExp (pt_cmpR op_isN (pv 3) pe_non (nomark _)) pe_int (pv 3)) (pa_cons (pv 2) pa_nil)))))) (pss_one (ps_ret pe_bl)) pss_nil)))
      (pss_one (ps_ret pe_bl))), ?_⟩)
  · obtain ⟨a, ns, rfl, _⟩ := h
    rfl
  · obtain ⟨a, ns, rfl, ⟨rs, hrs, hp⟩, k⟩ := h
    refine ⟨_, rfl, a, rfl, ⟨_, SqL.of hrs⟩, for_list (xs := rs.map V.ref) (fun i σ Hc => Hc = H ∧ (∃ s1 s2 s3, σ = [some (.ref a), s1, s2, s3]) ∧ ((ns.take i).all Sw68.writtenOk) = true) ⟨rfl, ⟨_, _, _, rfl⟩, rfl⟩ ?_ ?_ ?_⟩
    · rintro i σ Hc _ ⟨rfl, _, _⟩
      exact SqL.of hrs
    · rintro i x σ Hc hx ⟨rfl, ⟨s1, s2, s3, rfl⟩, all⟩
      obtain ⟨r, hr', rfl⟩ := ref_at hx
      obtain ⟨n, hn, ht⟩ := paired_at hp hr'
      refine ⟨r, vW n, rfl, SqT.of ht, rfl, _, _, rfl, _, _, rfl, _, _, rfl, rfl, ?_⟩
      refine ⟨_, rfl, ?_⟩
      refine sign0_rd (o := n.sign) rfl ⟨_, rfl, _, _, _, rfl, _, rfl, ?_⟩
      cases c : Sw68.noteOk ⟨n.letter, n.sign.getD 0, n.octave⟩ with
      | false =>
        have z : ns.all Sw68.writtenOk = false := by
          rw [← Bool.not_eq_true]
          intro z
          have := List.all_eq_true.mp z n (List.mem_of_getElem? hn)
          rw [writtenOk_eq, c] at this
          cases this
        rw [z] at k
        exact iteT k
      | true =>
        refine iteF ⟨rfl, ⟨_, _, _, rfl⟩, ?_⟩
        rw [take_at hn, List.all_append, all, List.all_cons, writtenOk_eq, c]
        rfl
    · rintro σ Hc ⟨rfl, _, all⟩
      rw [List.length_map, hp.length, List.take_length] at all
      rw [all] at k
      exact k
theorem has_are_written {P : Program} {w : World} {K : PySem.W.Frag} {mg : Str → Option Value} {base : Heap} (T : Txt K mg) : Has P w K mg base "are_written" 2 ["written"] (sp_are_written) :=
  has_of T.d_are_written fun f fd D => ok_are_written T D
/-- the dict by steps tells what's in force -/
def ForcR (kk : Int) (kvs : List (Key × V)) (f : Sw68.Force) : Prop := ∀ l o : Int, 0 ≤ l → l ≤ 6 → (valV kvs (Sum.inl (7 * o + l))).getD (.int (Sw68.keyAlt kk l)) = .int (Sw68.inForce kk f l o)
def kvN (kvs : List (Key × V)) (w : Sw68.Written) : List (Key × V) := match w.sign with
  | none => kvs
  | some s => putK kvs (Sum.inl (7 * w.octave + w.letter)) (.int s)
def nowR (kk : Int) (f : Sw68.Force) (w : Sw68.Written) : Int := w.sign.getD (Sw68.inForce kk f w.letter w.octave)
theorem inForce_cons {kk r : Int} {f : Sw68.Force} {l o l' o' : Int} : Sw68.inForce kk (((l, o), r) :: f) l' o' = if l' = l ∧ o' = o then r else Sw68.inForce kk f l' o' := by
  unfold Sw68.inForce
  rw [List.lookup_cons]
  by_cases e : l' = l ∧ o' = o
  · obtain ⟨rfl, rfl⟩ := e
    simp
  · have e' : ((l', o') == (l, o)) = false := by
      rw [beq_eq_false_iff_ne]
      intro z
      injection z with z1 z2
      exact e ⟨z1, z2⟩
    rw [e', if_neg e]
theorem ForcR.step {kk : Int} {kvs : List (Key × V)} {f : Sw68.Force} (h : ForcR kk kvs f) {w : Sw68.Written} (h0 : 0 ≤ w.letter) (h1 : w.letter ≤ 6) : ForcR kk (kvN kvs w) (((w.letter, w.octave), nowR kk f w) :: f) := by
  intro l' o' h0' h1'
  rw [inForce_cons]
  unfold kvN nowR
  cases w.sign with
  | none =>
    rw [h l' o' h0' h1']
    by_cases e : l' = w.letter ∧ o' = w.octave
    · rw [if_pos e, e.1, e.2]
      rfl
    · rw [if_neg e]
  | some s =>
    show (valV (putK kvs (Sum.inl (7 * w.octave + w.letter)) (.int s)) _).getD _ = _
    rw [valV_put]
    by_cases e : l' = w.letter ∧ o' = w.octave
    · rw [if_pos e, e.1, e.2, if_pos rfl]
      rfl
    · rw [if_neg e]
      have ne : ¬ (Sum.inl (7 * o' + l') : Key) = Sum.inl (7 * w.octave + w.letter) := by
        intro z
        injection z with z
        exact e ⟨by omega, by omega⟩
      rw [if_neg ne, h l' o' h0' h1']
theorem kvN_length (kvs : List (Key × V)) (w : Sw68.Written) : (kvN kvs w).length ≤ kvs.length + 1 := by
  unfold kvN
  cases w.sign with
  | none => exact Nat.le_succ _
  | some s =>
    have := length_putK kvs (Sum.inl (7 * w.octave + w.letter) : Key) (.int s)
    show (putK kvs _ _).length ≤ _
    omega
theorem upd_id {H : Hp} {d : Addr} {o : HO} (h : H d = some o) : L2.upd H d o = H := by
  funext b
  by_cases e : b = d
  · rw [e, upd_same, h]
  · rw [upd_ne e]
theorem force_rd {w : Sw68.Written} {kvs : List (Key × V)} {d : Addr} {D : Ends} {σ : L2.St} {H : Hp} (h6 : σ[6]? = some (some (sgV w.sign))) (h2 : σ[2]? = some (some (.ref d))) (h7 : σ[7]? = some (some (.int (7 * w.octave + w.letter))))
    (hD : H d = some (.dK kvs)) (hl : kvs.length ≤ 1000) (k : D.nx σ (L2.upd H d (.dK (kvN kvs w)))) :
    tIfS (tTest (tOp (fun x y H Q => y = .non ∧ Q (.bl (!decide (x = .non))) H) (tVar 6) (tC .non))) (sDPut (tVar 2) (tVar 7) (tVar 6)) tNext D σ H := by
  refine ⟨_, h6, rfl, _, rfl, ?_⟩
  unfold kvN at k
  cases e : w.sign with
  | none =>
    rw [e] at k
    have k' : D.nx σ (L2.upd H d (.dK kvs)) := k
    rw [upd_id hD] at k'
    exact iteF k'
  | some s =>
    rw [e] at k h6
    exact iteT ⟨_, h6, _, h2, _, h7, d, _, rfl, DPut.k (k := Sum.inl _) hD (by rw [sizeLine_eq]; omega), k⟩
def sp_read_bar (K : PySem.W.Frag) : Sp := fun vs H Q _ => ∃ (kk : Int) (a : Addr) (ws : List Sw68.Written), vs = [.int kk, .ref a] ∧ WrAt H a ws ∧ ws.all Sw68.writtenOk = true ∧ ws.length ≤ 60 ∧
  ∀ (H' : Hp) (p : Addr), H' p = some (.lst ((rBar kk [] ws).map V.int)) → Same H H' → Q (.ref p) H'
theorem ok_read_bar {P : Program} {w : World} {K : PySem.W.Frag} {mg : Str → Option Value} {base : Heap} (T : Txt K mg) {f : Addr} {fd : FuncData} (D : Def K mg "read_bar" s_read_bar ["in_key", "written"] f fd) : FnOk P w K mg base CX0 2 f fd ["in_key", "written"] (sp_read_bar K) := by
  refine D.F.ok sc_read_bar (fun vs H Q E h => ?_) (fun cdv A outer s H vs Q E hr h => ⟨_, (pss_cons (ps_set (i := 2) sc_read_bar.nd rfl (Or.inl rfl) pe_dnewK)
      (pss_cons (ps_set (i := 3) sc_read_bar.nd rfl (Or.inl rfl) (pe_lst pa_nil))
      (pss_cons (ps_for PassesOwn.never rfl (pi_list (pv 1)) (pg_tup rfl (pgs_cons (pg_name (i := 4) sc_read_bar.nd rfl (Or.inl rfl)) (pgs_cons (pg_name (i := 5) sc_read_bar.nd rfl (Or.inl rfl)) (pgs_cons (pg_name (i := 6) sc_read_bar.nd rfl (Or.inl rfl)) pgs_nil))))
      (pss_cons (ps_set (i := 7) sc_read_bar.nd rfl (Or.inl rfl) (pe_has (has_step_of T) (hr.mono (by decide)) (pa_cons (pv 4) (pa_cons (pv 5) pa_nil))))
      (pss_cons (ps_if (pt_cmpR op_notN (pv 6) pe_non (nomark _)) (pss_one (ps_dput (hu_of hr) (pv 2) (pv 7) (pv 6) rfl)) pss_nil)
      (pss_one (ps_expr (pe_bm PySem.F.plainAttrs_list PySem.F.slot_list_extend PySem.F.type_list_extend mt_extend (pv 3) (pa_cons (pe_lst (pa_cons (pv 4) (pa_cons (pe_dget2 (hu_of hr) (pv 2) (pv 7) (pe_has (has_raised_by_key T) (hr.mono (by decide)) (pa_cons (pv 0) (pa_cons (pv 4) pa_nil))) ⟨rfl, rfl, rfl, rfl⟩) (pa_cons (pv 5) pa_nil)))) pa_nil)))))))
      (pss_one (ps_ret (pv 3)))))), ?_⟩)
  · obtain ⟨kk, a, ws, rfl, _⟩ := h
    rfl
  · obtain ⟨kk, a, ws, rfl, ⟨rs, hrs, hp⟩, all, hl, k⟩ := h
    intro d hd
    refine ⟨line (by decide), fun w hw => ?_⟩
    have wd : w ≠ d := ne_new hw
    have hw0 : H w = none := by rw [upd_ne wd] at hw; exact hw
    refine ⟨_, rfl, a, rfl, ⟨_, SqL.of (Same.new hw _ _ (Same.new hd _ _ hrs))⟩, for_list (xs := rs.map V.ref) (fun i σ Hc => Same H Hc ∧ ∃ (kvs : List (Key × V)) (f : Sw68.Force) (acc : List Int) (s4 s5 s6 s7 : Option V),
      σ = [some (.int kk), some (.ref a), some (.ref d), some (.ref w), s4, s5, s6, s7] ∧ Hc d = some (.dK kvs) ∧ kvs.length ≤ i ∧ ForcR kk kvs f ∧ Hc w = some (.lst (acc.map V.int)) ∧
      acc ++ rBar kk f (ws.drop i) = rBar kk [] ws)
      ⟨Same.trans (Same.new hd) (Same.new hw), [], [], [], _, _, _, _, rfl, (upd_ne wd.symm).trans upd_same, Nat.le_refl _, fun _ _ _ _ => rfl, upd_same, rfl⟩ ?_ ?_ ?_⟩
    · rintro i σ Hc _ ⟨sm, _⟩
      exact SqL.of (sm _ _ hrs)
    · rintro i x σ Hc hx ⟨sm, kvs, f, acc, s4, s5, s6, s7, rfl, hD, hkl, fo, hW, eq⟩
      obtain ⟨r, hr', rfl⟩ := ref_at hx
      obtain ⟨n, hn, ht⟩ := paired_at hp hr'
      have on := List.all_eq_true.mp all n (List.mem_of_getElem? hn)
      rw [writtenOk_eq] at on
      have bd := ok_l on
      have hi : i < 60 := by
        have := (List.getElem?_eq_some_iff.mp hn).1
        omega
      refine ⟨r, vW n, rfl, SqT.of (sm _ _ ht), rfl, _, _, rfl, _, _, rfl, _, _, rfl, rfl, ?_⟩
      refine ⟨_, rfl, _, rfl, _, _, rfl, ?_⟩
      refine force_rd (w := n) (d := d) (kvs := kvs) rfl rfl rfl hD (by omega) ?_
      have hD1 : L2.upd Hc d (.dK (kvN kvs n)) d = some (.dK (kvN kvs n)) := upd_same
      have hW1 : L2.upd Hc d (.dK (kvN kvs n)) w = some (.lst (acc.map V.int)) := (upd_ne wd).trans hW
      have sm1 : Same H (L2.upd Hc d (.dK (kvN kvs n))) := Same.upd sm hd
      revert hD1 hW1 sm1
      generalize L2.upd Hc d (.dK (kvN kvs n)) = H1
      intro hD1 hW1 sm1
      have fo1 := fo.step (w := n) bd.1 bd.2
      obtain ⟨o, ho, eo⟩ : ∃ o, DGet H1 d (.int (7 * n.octave + n.letter)) o ∧ o.getD (.int (Sw68.keyAlt kk n.letter)) = .int (nowR kk f n) := by
        refine ⟨_, DGet.k (k := Sum.inl _) hD1, ?_⟩
        rw [fo1 _ _ bd.1 bd.2, inForce_cons, if_pos ⟨rfl, rfl⟩]
      have eq' : (acc ++ [n.letter, nowR kk f n, n.octave]) ++ rBar kk (((n.letter, n.octave), nowR kk f n) :: f) (ws.drop (i + 1)) = rBar kk [] ws := by
        rw [← eq, drop_at hn, List.append_assoc]
        rfl
      have bound : acc.length + 3 ≤ 180 := by
        have z := congrArg List.length eq'
        rw [List.length_append, List.length_append, rBar_length, rBar_length] at z
        have z' : acc.length + 3 + 3 * (ws.drop (i + 1)).length = 3 * ws.length := z
        omega
      refine ⟨_, rfl, .inl ⟨rfl, _, SqL.of hW1⟩, _, rfl, _, rfl, d, rfl, .inl ⟨_, .inl hD1⟩, _, rfl, _, rfl, _, rfl, kk, n.letter, rfl, bd, o, ho, _, rfl, line (show 3 ≤ 1000000 by decide), fun p1 hp1 => ⟨w, p1, _, _, rfl, rfl, Same.new hp1 _ _ hW1, upd_same, line ?_, ?_⟩⟩
      · rw [List.length_map]
        show acc.length + 3 ≤ _
        omega
      · refine ⟨Same.upd (Same.trans sm1 (Same.new hp1)) hw0, kvN kvs n, _, acc ++ [n.letter, nowR kk f n, n.octave], _, _, _, _, rfl, (upd_ne wd.symm).trans (Same.new hp1 _ _ hD1), ?_, fo1, ?_, eq'⟩
        · have := kvN_length kvs n
          omega
        · rw [upd_same, List.map_append]
          show some (HO.lst (acc.map V.int ++ [V.int n.letter, o.getD (.int (Sw68.keyAlt kk n.letter)), V.int n.octave])) = _
          rw [eo]
          rfl
    · rintro σ Hc ⟨sm, kvs, f, acc, s4, s5, s6, s7, rfl, hD, hkl, fo, hW, eq⟩
      rw [List.length_map, hp.length, List.drop_length] at eq
      have e : acc = rBar kk [] ws := by rw [← eq]; exact (List.append_nil _).symm
      rw [e] at hW
      exact ⟨_, rfl, k Hc w hW sm⟩
theorem has_read_bar {P : Program} {w : World} {K : PySem.W.Frag} {mg : Str → Option Value} {base : Heap} (T : Txt K mg) : Has P w K mg base "read_bar" 2 ["in_key", "written"] (sp_read_bar K) :=
  has_of T.d_read_bar fun f fd D => ok_read_bar T D
/-- counted: a new list, how many ahead -/
def sp_counted (K : PySem.W.Frag) : Sp := fun vs H Q _ => ∃ (a : Addr) (xs : List Int), vs = [.ref a] ∧ (SqL K H a (xs.map V.int) ∨ SqT K H a (xs.map V.int)) ∧ xs.length ≤ 100000 ∧
  ∀ (H' : Hp) (p : Addr), H' p = some (.lst (((xs.length : Int) :: xs).map V.int)) → Same H H' → Q (.ref p) H'
theorem ok_counted {P : Program} {w : World} {K : PySem.W.Frag} {mg : Str → Option Value} {base : Heap} (T : Txt K mg) {f : Addr} {fd : FuncData} (D : Def K mg "counted" s_counted ["numbers"] f fd) : FnOk P w K mg base CX0 1 f fd ["numbers"] (sp_counted K) := by
  refine D.F.ok sc_counted (fun vs H Q E h => ?_) (fun cdv A outer s H vs Q E hr h => ⟨_, (pss_one (ps_ret (pe_op op_cat (pe_lst (pa_cons (pe_callB call_len_seq (by rfl) T.b_len PySem.boot_len (pa_cons (pv 0) pa_nil)) pa_nil)) (pe_callTy call_list_of (by rfl) T.b_list (by decide +kernel) (pa_cons (pv 0) pa_nil))))), ?_⟩)
  · obtain ⟨a, xs, rfl, _⟩ := h
    rfl
  · obtain ⟨a, xs, rfl, hs, hl, k⟩ := h
    simp only [tSeq, tAsg, tIfS, tRet, tNext, tOp, tUn, tTest, tB, tNot, tAnd, tOr, tAndV, tOrV, tNotV, tChain, tVar, tC, tCons, tNil, tCall, tCB, tIf, tDrop, gName, tAug, ipI, rI, rI0, rU, CMul, CDiv, rEq, rNe, scal, tTab, tInTab, cxOf_K, L2.start, Nat.reduceAdd, Nat.reduceSub, Nat.sub_self, List.map_cons, List.map_nil, List.length_cons, List.length_nil, List.replicate, List.append_nil, List.cons_append, List.nil_append, List.set_cons_zero, List.set_cons_succ, List.getElem?_cons_zero, List.getElem?_cons_succ, Option.some.injEq, List.cons.injEq, V.int.injEq, V.bl.injEq, V.ref.injEq, and_true, true_and, exists_eq_left, and_assoc, exists_eq_left', exists_and_left, decide_eq_true_eq, Bool.true_eq_false, if_true, if_false, tLst]
    refine ⟨_, hs, line (by decide), fun p hp => ⟨xs.map V.int, hs.imp (Same.seq (Same.new hp)) (Same.tup (Same.new hp)), fun q hq => ?_⟩⟩
    have np : q ≠ p := ne_new hq
    refine ⟨p, q, _, _, rfl, rfl, (upd_ne np.symm).trans upd_same, upd_same, line (by simp; omega), fun p' hp' => k _ p' ?_ ?_⟩
    · rw [upd_same]
      simp
    · exact ((Same.new hp).trans (Same.new hq)).trans (Same.new hp')
theorem has_counted {P : Program} {w : World} {K : PySem.W.Frag} {mg : Str → Option Value} {base : Heap} (T : Txt K mg) : Has P w K mg base "counted" 1 ["numbers"] (sp_counted K) :=
  has_of T.d_counted fun f fd D => ok_counted T D
def sp_read (K : PySem.W.Frag) : Sp := fun vs H Q _ => ∃ (kk : Int) (a : Addr) (bs : List (List Sw68.Written)), vs = [.int kk, .ref a] ∧ SqL K H a ((encR bs).map V.int) ∧ bs.length ≤ 60 ∧ (∀ b ∈ bs, b.length ≤ 60) ∧
  ∀ (H' : Hp) (p : Addr), H' p = some (.lst ((ansR kk bs).map V.int)) → Q (.ref p) H'
theorem ok_read {P : Program} {w : World} {K : PySem.W.Frag} {mg : Str → Option Value} {base : Heap} (T : Txt K mg) {f : Addr} {fd : FuncData} (D : Def K mg "read" s_read ["in_key", "bars"] f fd) : FnOk P w K mg base CX0 3 f fd ["in_key", "bars"] (sp_read K) := by
  refine D.F.ok sc_read (fun vs H Q E h => ?_) (fun cdv A outer s H vs Q E hr h => ⟨_, (pss_cons (ps_if (pt_not (pt_val (pe_has (has_is_key T) (hr.mono (by decide)) (pa_cons (pv 0) pa_nil)))) (pss_one (ps_ret (pe_lst (pa_cons (pe_globI T.c_REFUSED) pa_nil)))) pss_nil)
      (pss_cons (ps_set (i := 2) sc_read.nd rfl (Or.inl rfl) (pe_lst (pa_cons (pe_ix ix_list (pv 1) pe_int (fun _ _ => rfl)) pa_nil)))
      (pss_cons (ps_for PassesOwn.never rfl (pi_list (pe_has (has_written_bars_in T) (hr.mono (by decide)) (pa_cons (pv 1) pa_nil))) (pg_name (i := 3) sc_read.nd rfl (Or.inl rfl))
      (pss_cons (ps_if (pt_not (pt_val (pe_has (has_are_written T) (hr.mono (by decide)) (pa_cons (pv 3) pa_nil)))) (pss_one (ps_ret (pe_lst (pa_cons (pe_globI T.c_REFUSED) pa_nil)))) pss_nil)
      (pss_one (ps_expr (pe_bm PySem.F.plainAttrs_list PySem.F.slot_list_extend PySem.F.type_list_extend mt_extend (pv 2) (pa_cons (pe_has (has_counted T) (hr.mono (by decide)) (pa_cons (pe_has (has_read_bar T) (hr.mono (by decide)) (pa_cons (pv 0) (pa_cons (pv 3) pa_nil))) pa_nil)) pa_nil))))))
      (pss_one (ps_ret (pv 2)))))), ?_⟩)
  · obtain ⟨kk, a, bs, rfl, _⟩ := h
    rfl
  · obtain ⟨kk, a, bs, rfl, ha, hl, hb, k⟩ := h
    refine ⟨_, rfl, kk, rfl, _, rfl, ?_⟩
    have ref : (Sw68.keyOk kk && bs.all fun b => b.all Sw68.writtenOk) = false → ∀ (σ : L2.St) (H' : Hp), tLst (tCons (tC (V.int (-1))) tNil) σ H' Q := fun c σ H' =>
      ⟨line (by decide), fun p hp => k _ p (by rw [upd_same, ansR_no c]; rfl)⟩
    cases c1 : Sw68.keyOk kk with
    | false => exact iteT (ref (by rw [c1] <;> rfl) _ _)
    | true =>
      refine iteF ?_
      refine ⟨_, rfl, a, _, 0, .int (bs.length : Int), rfl, rfl, ha, atI_nat (show ((encR bs).map V.int)[0]? = some (.int (bs.length : Int)) from rfl), line (show 1 ≤ 1000000 by decide), fun l hl0 => ?_⟩
      have s0 := Same.new (o := .lst [V.int (bs.length : Int)]) hl0
      refine ⟨_, rfl, a, bs, rfl, Same.seq s0 ha, hl, hb, fun H1 B hB s1 => ?_⟩
      obtain ⟨rs, hrs, hp⟩ := hB
      have hl1 : H1 l = some (.lst [V.int (bs.length : Int)]) := s1 _ _ upd_same
      refine ⟨B, rfl, ⟨_, SqL.of hrs⟩, for_list (xs := rs.map V.ref) (fun i σ Hc => SameB l H1 Hc ∧ ∃ (acc : List Int) (s3 : Option V),
        σ = [some (.int kk), some (.ref a), some (.ref l), s3] ∧ Hc l = some (.lst (((bs.length : Int) :: acc).map V.int)) ∧
        acc ++ rBars kk (bs.drop i) = rBars kk bs ∧ ((bs.take i).all fun b => b.all Sw68.writtenOk) = true)
        ⟨SameB.refl, [], _, rfl, hl1, rfl, rfl⟩ ?_ ?_ ?_⟩
      · rintro i σ Hc _ ⟨sm, _⟩
        exact SqL.of (sm _ _ (ne_refsR hl1 hrs) hrs)
      · rintro i x σ Hc hx ⟨sm, acc, s3, rfl, hL, eq, all⟩
        obtain ⟨r, hr', rfl⟩ := ref_at hx
        obtain ⟨b, hb', nt⟩ := paired_at hp hr'
        have bl := hb b (List.mem_of_getElem? hb')
        refine ⟨_, rfl, r, b, rfl, SameB.wr sm hl1 nt, _, rfl, ?_⟩
        cases c : b.all Sw68.writtenOk with
        | false =>
          refine iteT (ref ?_ _ _)
          rw [c1, Bool.true_and, ← Bool.not_eq_true]
          intro z
          have := List.all_eq_true.mp z b (List.mem_of_getElem? hb')
          rw [c] at this
          cases this
        | true =>
          refine iteF ?_
          have eq' : (acc ++ (((rBar kk [] b).length : Int) :: rBar kk [] b)) ++ rBars kk (bs.drop (i + 1)) = rBars kk bs := by
            rw [← eq, drop_at hb', List.append_assoc]
            rfl
          refine ⟨_, rfl, .inl ⟨rfl, _, SqL.of hL⟩, _, rfl, _, rfl, kk, r, b, rfl, SameB.wr sm hl1 nt, c, bl, fun H2 p2 hp2 s2 => ⟨p2, _, rfl, .inl (SqL.of hp2), ?_, fun H3 p3 hp3 s3 => ⟨l, p3, _, _, rfl, rfl, s3 _ _ (s2 _ _ hL), hp3, line ?_, ?_⟩⟩⟩
          · rw [rBar_length]
            omega
          · have z := congrArg List.length eq'
            have z2 := rBars_length kk bs hb
            rw [List.length_append, List.length_append] at z
            rw [List.length_map, List.length_map, List.length_cons]
            omega
          · refine ⟨SameB.upd (SameB.same (SameB.same sm s2) s3), _, _, rfl, upd_same.trans ?_, eq', ?_⟩
            · rw [← List.map_append]
              rfl
            · rw [take_at hb', List.all_append, all, List.all_cons, c]
              rfl
      · rintro σ Hc ⟨sm, acc, s3, rfl, hL, eq, all⟩
        rw [List.length_map, hp.length, List.drop_length] at eq
        rw [List.length_map, hp.length, List.take_length] at all
        refine ⟨_, rfl, k Hc l ?_⟩
        rw [hL, ansR_ok c1 all, ← eq]
        show _ = some (HO.lst (((bs.length : Int) :: (acc ++ [])).map V.int))
        rw [List.append_nil]
end Sn
namespace Sn
open PySem PySem.Spec PyProof.Rows L2
/-! ### The end: what the top has written -/
theorem txt_mk {K : PySem.W.Frag} {h : Heap} {mg : Str → Option Value} (X : K.In h) (G : h.Ns mainGlobals mg)
    {t_REFUSED : Tok}
    {t_LETTERS : Tok}
    {t_MOST_RAISED : Tok}
    {t_LOWEST_OCTAVE : Tok}
    {t_HIGHEST_OCTAVE : Tok}
    {t_MOST_IN_KEY : Tok}
    {t_NUMBERS_WITHOUT_SIGN : Tok}
    {t_NUMBERS_WITH_SIGN : Tok}
    {a_FIFTHS_OF_LETTERS : Addr} {o_FIFTHS_OF_LETTERS : Option Addr} {n_FIFTHS_OF_LETTERS : Nat} {l_FIFTHS_OF_LETTERS : Array (Option Value)} {t_FIFTHS_OF_LETTERS_0 t_FIFTHS_OF_LETTERS_1 t_FIFTHS_OF_LETTERS_2 t_FIFTHS_OF_LETTERS_3 t_FIFTHS_OF_LETTERS_4 t_FIFTHS_OF_LETTERS_5 t_FIFTHS_OF_LETTERS_6 : Tok}
    {f_is_note : Addr} {od_is_note an_is_note : Option Addr} {sl_is_note : Array (Option Value)} {oc_is_note kV_is_note dc_is_note pm_is_note cd_is_note ct_is_note : Value}
    {f_is_key : Addr} {od_is_key an_is_key : Option Addr} {sl_is_key : Array (Option Value)} {oc_is_key kV_is_key dc_is_key pm_is_key cd_is_key ct_is_key : Value}
    {f_step_of : Addr} {od_step_of an_step_of : Option Addr} {sl_step_of : Array (Option Value)} {oc_step_of kV_step_of dc_step_of pm_step_of cd_step_of ct_step_of : Value}
    {f_raised_by_key : Addr} {od_raised_by_key an_raised_by_key : Option Addr} {sl_raised_by_key : Array (Option Value)} {oc_raised_by_key kV_raised_by_key dc_raised_by_key pm_raised_by_key cd_raised_by_key ct_raised_by_key : Value}
    {f_written_bars_in : Addr} {od_written_bars_in an_written_bars_in : Option Addr} {sl_written_bars_in : Array (Option Value)} {oc_written_bars_in kV_written_bars_in dc_written_bars_in pm_written_bars_in cd_written_bars_in ct_written_bars_in : Value}
    {f_are_written : Addr} {od_are_written an_are_written : Option Addr} {sl_are_written : Array (Option Value)} {oc_are_written kV_are_written dc_are_written pm_are_written cd_are_written ct_are_written : Value}
    {f_read_bar : Addr} {od_read_bar an_read_bar : Option Addr} {sl_read_bar : Array (Option Value)} {oc_read_bar kV_read_bar dc_read_bar pm_read_bar cd_read_bar ct_read_bar : Value}
    {f_counted : Addr} {od_counted an_counted : Option Addr} {sl_counted : Array (Option Value)} {oc_counted kV_counted dc_counted pm_counted cd_counted ct_counted : Value}
    {f_read : Addr} {od_read an_read : Option Addr} {sl_read : Array (Option Value)} {oc_read kV_read dc_read pm_read cd_read ct_read : Value}
    (g_REFUSED : PySem.W.nsIn K mainGlobals "REFUSED" = some (some (.int (-1) t_REFUSED)))
    (g_LETTERS : PySem.W.nsIn K mainGlobals "LETTERS" = some (some (.int (7) t_LETTERS)))
    (g_MOST_RAISED : PySem.W.nsIn K mainGlobals "MOST_RAISED" = some (some (.int (3) t_MOST_RAISED)))
    (g_LOWEST_OCTAVE : PySem.W.nsIn K mainGlobals "LOWEST_OCTAVE" = some (some (.int (-1) t_LOWEST_OCTAVE)))
    (g_HIGHEST_OCTAVE : PySem.W.nsIn K mainGlobals "HIGHEST_OCTAVE" = some (some (.int (9) t_HIGHEST_OCTAVE)))
    (g_MOST_IN_KEY : PySem.W.nsIn K mainGlobals "MOST_IN_KEY" = some (some (.int (7) t_MOST_IN_KEY)))
    (g_NUMBERS_WITHOUT_SIGN : PySem.W.nsIn K mainGlobals "NUMBERS_WITHOUT_SIGN" = some (some (.int (3) t_NUMBERS_WITHOUT_SIGN)))
    (g_NUMBERS_WITH_SIGN : PySem.W.nsIn K mainGlobals "NUMBERS_WITH_SIGN" = some (some (.int (4) t_NUMBERS_WITH_SIGN)))
    (g_FIFTHS_OF_LETTERS : PySem.W.nsIn K mainGlobals "FIFTHS_OF_LETTERS" = some (some (.ref a_FIFTHS_OF_LETTERS)))
    (k_FIFTHS_OF_LETTERS : K.lookup a_FIFTHS_OF_LETTERS = some ⟨.type "tuple", o_FIFTHS_OF_LETTERS, .seq #[.int (0) t_FIFTHS_OF_LETTERS_0, .int (2) t_FIFTHS_OF_LETTERS_1, .int (4) t_FIFTHS_OF_LETTERS_2, .int (-1) t_FIFTHS_OF_LETTERS_3, .int (1) t_FIFTHS_OF_LETTERS_4, .int (3) t_FIFTHS_OF_LETTERS_5, .int (5) t_FIFTHS_OF_LETTERS_6] n_FIFTHS_OF_LETTERS, l_FIFTHS_OF_LETTERS⟩)
    (g_len : PySem.W.nsIn K mainGlobals "len" = some none)
    (g_list : PySem.W.nsIn K mainGlobals "list" = some none)
    (g_is_note : PySem.W.nsIn K mainGlobals "is_note" = some (some (.ref f_is_note)))
    (l_is_note : K.lookup f_is_note = some ⟨oc_is_note, od_is_note, .func (PySem.W.fnOf "is_note" "is_note" (defArgs s_is_note) (defBody s_is_note) (defScope s_is_note) .none kV_is_note dc_is_note pm_is_note an_is_note cd_is_note ct_is_note), sl_is_note⟩)
    (e_is_note : PySem.W.codeIn K cd_is_note "is_note" = true)
    (p_is_note : PySem.W.keepIn K (.ref f_is_note) = true)
    (g_is_key : PySem.W.nsIn K mainGlobals "is_key" = some (some (.ref f_is_key)))
    (l_is_key : K.lookup f_is_key = some ⟨oc_is_key, od_is_key, .func (PySem.W.fnOf "is_key" "is_key" (defArgs s_is_key) (defBody s_is_key) (defScope s_is_key) .none kV_is_key dc_is_key pm_is_key an_is_key cd_is_key ct_is_key), sl_is_key⟩)
    (e_is_key : PySem.W.codeIn K cd_is_key "is_key" = true)
    (p_is_key : PySem.W.keepIn K (.ref f_is_key) = true)
    (g_step_of : PySem.W.nsIn K mainGlobals "step_of" = some (some (.ref f_step_of)))
    (l_step_of : K.lookup f_step_of = some ⟨oc_step_of, od_step_of, .func (PySem.W.fnOf "step_of" "step_of" (defArgs s_step_of) (defBody s_step_of) (defScope s_step_of) .none kV_step_of dc_step_of pm_step_of an_step_of cd_step_of ct_step_of), sl_step_of⟩)
    (e_step_of : PySem.W.codeIn K cd_step_of "step_of" = true)
    (p_step_of : PySem.W.keepIn K (.ref f_step_of) = true)
    (g_raised_by_key : PySem.W.nsIn K mainGlobals "raised_by_key" = some (some (.ref f_raised_by_key)))
    (l_raised_by_key : K.lookup f_raised_by_key = some ⟨oc_raised_by_key, od_raised_by_key, .func (PySem.W.fnOf "raised_by_key" "raised_by_key" (defArgs s_raised_by_key) (defBody s_raised_by_key) (defScope s_raised_by_key) .none kV_raised_by_key dc_raised_by_key pm_raised_by_key an_raised_by_key cd_raised_by_key ct_raised_by_key), sl_raised_by_key⟩)
    (e_raised_by_key : PySem.W.codeIn K cd_raised_by_key "raised_by_key" = true)
    (p_raised_by_key : PySem.W.keepIn K (.ref f_raised_by_key) = true)
    (g_written_bars_in : PySem.W.nsIn K mainGlobals "written_bars_in" = some (some (.ref f_written_bars_in)))
    (l_written_bars_in : K.lookup f_written_bars_in = some ⟨oc_written_bars_in, od_written_bars_in, .func (PySem.W.fnOf "written_bars_in" "written_bars_in" (defArgs s_written_bars_in) (defBody s_written_bars_in) (defScope s_written_bars_in) .none kV_written_bars_in dc_written_bars_in pm_written_bars_in an_written_bars_in cd_written_bars_in ct_written_bars_in), sl_written_bars_in⟩)
    (e_written_bars_in : PySem.W.codeIn K cd_written_bars_in "written_bars_in" = true)
    (p_written_bars_in : PySem.W.keepIn K (.ref f_written_bars_in) = true)
    (g_are_written : PySem.W.nsIn K mainGlobals "are_written" = some (some (.ref f_are_written)))
    (l_are_written : K.lookup f_are_written = some ⟨oc_are_written, od_are_written, .func (PySem.W.fnOf "are_written" "are_written" (defArgs s_are_written) (defBody s_are_written) (defScope s_are_written) .none kV_are_written dc_are_written pm_are_written an_are_written cd_are_written ct_are_written), sl_are_written⟩)
    (e_are_written : PySem.W.codeIn K cd_are_written "are_written" = true)
    (p_are_written : PySem.W.keepIn K (.ref f_are_written) = true)
    (g_read_bar : PySem.W.nsIn K mainGlobals "read_bar" = some (some (.ref f_read_bar)))
    (l_read_bar : K.lookup f_read_bar = some ⟨oc_read_bar, od_read_bar, .func (PySem.W.fnOf "read_bar" "read_bar" (defArgs s_read_bar) (defBody s_read_bar) (defScope s_read_bar) .none kV_read_bar dc_read_bar pm_read_bar an_read_bar cd_read_bar ct_read_bar), sl_read_bar⟩)
    (e_read_bar : PySem.W.codeIn K cd_read_bar "read_bar" = true)
    (p_read_bar : PySem.W.keepIn K (.ref f_read_bar) = true)
    (g_counted : PySem.W.nsIn K mainGlobals "counted" = some (some (.ref f_counted)))
    (l_counted : K.lookup f_counted = some ⟨oc_counted, od_counted, .func (PySem.W.fnOf "counted" "counted" (defArgs s_counted) (defBody s_counted) (defScope s_counted) .none kV_counted dc_counted pm_counted an_counted cd_counted ct_counted), sl_counted⟩)
    (e_counted : PySem.W.codeIn K cd_counted "counted" = true)
    (p_counted : PySem.W.keepIn K (.ref f_counted) = true)
    (g_read : PySem.W.nsIn K mainGlobals "read" = some (some (.ref f_read)))
    (l_read : K.lookup f_read = some ⟨oc_read, od_read, .func (PySem.W.fnOf "read" "read" (defArgs s_read) (defBody s_read) (defScope s_read) .none kV_read dc_read pm_read an_read cd_read ct_read), sl_read⟩)
    (e_read : PySem.W.codeIn K cd_read "read" = true)
    (p_read : PySem.W.keepIn K (.ref f_read) = true) : Txt K mg :=
  ⟨⟨_, PySem.W.mg_of X G g_REFUSED⟩,
   ⟨_, PySem.W.mg_of X G g_LETTERS⟩,
   ⟨_, PySem.W.mg_of X G g_MOST_RAISED⟩,
   ⟨_, PySem.W.mg_of X G g_LOWEST_OCTAVE⟩,
   ⟨_, PySem.W.mg_of X G g_HIGHEST_OCTAVE⟩,
   ⟨_, PySem.W.mg_of X G g_MOST_IN_KEY⟩,
   ⟨_, PySem.W.mg_of X G g_NUMBERS_WITHOUT_SIGN⟩,
   ⟨_, PySem.W.mg_of X G g_NUMBERS_WITH_SIGN⟩,
   ⟨a_FIFTHS_OF_LETTERS, PySem.W.mg_of X G g_FIFTHS_OF_LETTERS, fun H => .inr ⟨_, _, _, k_FIFTHS_OF_LETTERS, rfl, rfl, line (show 7 ≤ 1000000 from by decide), (Paired.cons ⟨t_FIFTHS_OF_LETTERS_0, rfl⟩ (Paired.cons ⟨t_FIFTHS_OF_LETTERS_1, rfl⟩ (Paired.cons ⟨t_FIFTHS_OF_LETTERS_2, rfl⟩ (Paired.cons ⟨t_FIFTHS_OF_LETTERS_3, rfl⟩ (Paired.cons ⟨t_FIFTHS_OF_LETTERS_4, rfl⟩ (Paired.cons ⟨t_FIFTHS_OF_LETTERS_5, rfl⟩ (Paired.cons ⟨t_FIFTHS_OF_LETTERS_6, rfl⟩ Paired.nil)))))))⟩⟩,
   (PySem.W.mg_none_of X G g_len),
   (PySem.W.mg_none_of X G g_list),
   ⟨_, _, fun_mk (st := s_is_note) l_is_note e_is_note p_is_note, PySem.W.mg_of X G g_is_note, fun s us hu => match us, hu with | [_, _, _], _ => .of_eq rfl⟩,
   ⟨_, _, fun_mk (st := s_is_key) l_is_key e_is_key p_is_key, PySem.W.mg_of X G g_is_key, fun s us hu => match us, hu with | [_], _ => .of_eq rfl⟩,
   ⟨_, _, fun_mk (st := s_step_of) l_step_of e_step_of p_step_of, PySem.W.mg_of X G g_step_of, fun s us hu => match us, hu with | [_, _], _ => .of_eq rfl⟩,
   ⟨_, _, fun_mk (st := s_raised_by_key) l_raised_by_key e_raised_by_key p_raised_by_key, PySem.W.mg_of X G g_raised_by_key, fun s us hu => match us, hu with | [_, _], _ => .of_eq rfl⟩,
   ⟨_, _, fun_mk (st := s_written_bars_in) l_written_bars_in e_written_bars_in p_written_bars_in, PySem.W.mg_of X G g_written_bars_in, fun s us hu => match us, hu with | [_], _ => .of_eq rfl⟩,
   ⟨_, _, fun_mk (st := s_are_written) l_are_written e_are_written p_are_written, PySem.W.mg_of X G g_are_written, fun s us hu => match us, hu with | [_], _ => .of_eq rfl⟩,
   ⟨_, _, fun_mk (st := s_read_bar) l_read_bar e_read_bar p_read_bar, PySem.W.mg_of X G g_read_bar, fun s us hu => match us, hu with | [_, _], _ => .of_eq rfl⟩,
   ⟨_, _, fun_mk (st := s_counted) l_counted e_counted p_counted, PySem.W.mg_of X G g_counted, fun s us hu => match us, hu with | [_], _ => .of_eq rfl⟩,
   ⟨_, _, fun_mk (st := s_read) l_read e_read p_read, PySem.W.mg_of X G g_read, fun s us hu => match us, hu with | [_, _], _ => .of_eq rfl⟩⟩
theorem all_of {P : Program} {w : World} {K : PySem.W.Frag} {mg : Str → Option Value} {fa : Addr} (hfa : mg "read" = some (.ref fa)) (T : Txt K mg) :
    ∃ fd : FuncData, (∀ (s : Shared) (us : List Value), us.length = (["in_key", "bars"] : List Str).length → BindsTo s fd ⟨us, []⟩ ((["in_key", "bars"] : List Str).zip us)) ∧ ∀ base : Heap, K.In base → base.Ns mainGlobals mg → FnOk P w K mg base CX0 3 fa fd ["in_key", "bars"] (sp_read K) := by
  obtain ⟨f, fd, D⟩ := T.d_read
  have e : f = fa := by have z := D.g.symm.trans hfa; injection z with z; injection z
  subst e
  exact ⟨fd, D.bt, fun base _ _ => ok_read T D⟩
end Sn
open PySem PySem.W PyProof.Rows
set_option maxRecDepth 100000 in
set_option maxHeartbeats 8000000 in
theorem PySem.Challenge.cw_spellednotes_s05_read_holds : PySem.Challenge.rw_spellednotes_s05_read.Holds := by
  w_on; k_headS; (case hw => exact ⟨[.int 0, .list [.int 0]], by decide +kernel, by decide +kernel⟩)
  k_fillS
  refine L2.walk_specK (r := PySem.Challenge.rw_spellednotes_s05_read) (k := 3) (CX := L2.CX0) (ps := ["in_key", "bars"]) (sp := Sn.sp_read) (by decide +kernel) rfl rfl ⟨rfl, by decide, by decide⟩ (fun w h Y => PySem.W.kIn_of Y) ?F ?S (fun _ _ _ _ z => z)
  case F =>
    intro w mg fa h Y KX G hmg
    refine Sn.all_of hmg ?_
    refine' Sn.txt_mk KX G ?g_REFUSED ?g_LETTERS ?g_MOST_RAISED ?g_LOWEST_OCTAVE ?g_HIGHEST_OCTAVE ?g_MOST_IN_KEY ?g_NUMBERS_WITHOUT_SIGN ?g_NUMBERS_WITH_SIGN ?g_FIFTHS_OF_LETTERS ?k_FIFTHS_OF_LETTERS ?g_len ?g_list ?g_is_note ?l_is_note ?e_is_note ?p_is_note ?g_is_key ?l_is_key ?e_is_key ?p_is_key ?g_step_of ?l_step_of ?e_step_of ?p_step_of ?g_raised_by_key ?l_raised_by_key ?e_raised_by_key ?p_raised_by_key ?g_written_bars_in ?l_written_bars_in ?e_written_bars_in ?p_written_bars_in ?g_are_written ?l_are_written ?e_are_written ?p_are_written ?g_read_bar ?l_read_bar ?e_read_bar ?p_read_bar ?g_counted ?l_counted ?e_counted ?p_counted ?g_read ?l_read ?e_read ?p_read
    (case g_REFUSED => k_is)
    (case g_LETTERS => k_is)
    (case g_MOST_RAISED => k_is)
    (case g_LOWEST_OCTAVE => k_is)
    (case g_HIGHEST_OCTAVE => k_is)
    (case g_MOST_IN_KEY => k_is)
    (case g_NUMBERS_WITHOUT_SIGN => k_is)
    (case g_NUMBERS_WITH_SIGN => k_is)
    (case g_FIFTHS_OF_LETTERS => k_is)
    (case k_FIFTHS_OF_LETTERS => k_is)
    (case g_len => k_is)
    (case g_list => k_is)
    (case g_is_note => k_is)
    (case l_is_note => k_is)
    (case e_is_note => k_is)
    (case p_is_note => k_is)
    (case g_is_key => k_is)
    (case l_is_key => k_is)
    (case e_is_key => k_is)
    (case p_is_key => k_is)
    (case g_step_of => k_is)
    (case l_step_of => k_is)
    (case e_step_of => k_is)
    (case p_step_of => k_is)
    (case g_raised_by_key => k_is)
    (case l_raised_by_key => k_is)
    (case e_raised_by_key => k_is)
    (case p_raised_by_key => k_is)
    (case g_written_bars_in => k_is)
    (case l_written_bars_in => k_is)
    (case e_written_bars_in => k_is)
    (case p_written_bars_in => k_is)
    (case g_are_written => k_is)
    (case l_are_written => k_is)
    (case e_are_written => k_is)
    (case p_are_written => k_is)
    (case g_read_bar => k_is)
    (case l_read_bar => k_is)
    (case e_read_bar => k_is)
    (case p_read_bar => k_is)
    (case g_counted => k_is)
    (case l_counted => k_is)
    (case e_counted => k_is)
    (case p_counted => k_is)
    (case g_read => k_is)
    (case l_read => k_is)
    (case e_read => k_is)
    (case p_read => k_is)
  case S =>
    intro K H xs a hO hwi hask hx
    obtain ⟨k, ns, u⟩ := a
    cases hx with
    | cons h1 hx => cases hx with
      | cons h2 hx =>
        cases hx; cases h1
        have h2' : L2.Dw K H _ (WData.list (ns.map WData.int)) := h2
        cases h2' with
        | lst h3 h4 =>
          rw [L2.ints_dw _ _ h4] at h3
          have hask' : PySw68.read_asked k ns = true := hask
          obtain ⟨bs, e, hl, hb, ew⟩ := Sn.read_inv hask'
          refine ⟨k, _, bs, rfl, e ▸ h3, hl, hb, fun H' p hp => ?_⟩
          show L2.Dw K H' (.ref p) (WData.list ((PySw68.read k ns).map WData.int))
          rw [ew]
          exact .lst (L2.SqL.of hp) (L2.dw_ints _)
#print axioms PySem.Challenge.cw_spellednotes_s05_read_holds
