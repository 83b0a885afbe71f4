import PyProof.Rows.All
import Wide.All
import OpenK.AllK
import Wide.FinOn
import KE.KStateDown
import HandS.ForMost
import HandS.Wide
import HandS.TupAny
import HandS.Codes
import HandS.IsInst
import HandS.Style
import HandS.GenList
import HandS.GenYield
import HandS.Nested
import HandS.Lambda
import HandS.Defaults
import HandS.Walk
import HandS.Steps
import HandS.Star
import HandS.Text
import HandS.TupMul
import HandS.ExcInit
import HandS.ExcIs
import HandS.ExcField
import HandS.ExcOwn
import KE.KExcInit
import KE.KExcIs
import HandS.DeepEq
import HandS.ClsMeth
import HandS.EndTab
import HandS.HeadWalk
import HandS.HeadEnd
import HandS.Head0
import HandS.Head1
import HandS.Head2
import HandS.HeadHook1
import HandS.HeadHook2
import HandS.HeadHook3
import HandS.HeadHook4
import PySem.Challenge.RW_whichheld_k00_errors_made_by_hand
set_option Elab.async false
set_option linter.all false
set_option maxRecDepth 100000
namespace GA
open L2 PySem PySem.Spec PyProof.Rows
def topS (i : Nat) : Stmt := PySem.Challenge.pw_whichheld_k00_errors_made_by_hand.main.body.getD i (.Pass ⟨0, 0, 0, 0⟩)
abbrev sDeck : Stmt := topS 84
abbrev nDeck : List Str := ["_law_script", "_law_cell"]
theorem scDeck : FnScope nDeck ["_law_script"] (defScope sDeck) := ⟨rfl, rfl, rfl, by decide +kernel, rfl, by decide +kernel, by decide +kernel⟩
abbrev sDraw : Stmt := topS 85
abbrev nDraw : List Str := ["_law_deck_here", "_law_many", "_law_cell", "_law_at", "_law_mixed"]
theorem scDraw : FnScope nDraw ["_law_deck_here", "_law_many"] (defScope sDraw) := ⟨rfl, rfl, rfl, by decide +kernel, rfl, by decide +kernel, by decide +kernel⟩
abbrev sOne : Stmt := topS 86
abbrev nOne : List Str := ["_law_deck_here", "_law_items"]
theorem scOne : FnScope nOne ["_law_deck_here", "_law_items"] (defScope sOne) := ⟨rfl, rfl, rfl, by decide +kernel, rfl, by decide +kernel, by decide +kernel⟩
abbrev sValue : Stmt := topS 87
abbrev nValue : List Str := ["_law_deck_here", "_law_many", "_law_values"]
theorem scValue : FnScope nValue ["_law_deck_here"] (defScope sValue) := ⟨rfl, rfl, rfl, by decide +kernel, rfl, by decide +kernel, by decide +kernel⟩
abbrev sKinds : Stmt := topS 88
abbrev nKinds : List Str := ["_law_e", "_law_found"]
theorem scKinds : FnScope nKinds ["_law_e"] (defScope sKinds) := ⟨rfl, rfl, rfl, by decide +kernel, rfl, by decide +kernel, by decide +kernel⟩
abbrev sLookups : Stmt := topS 89
abbrev nLookups : List Str := ["_law_e"]
theorem scLookups : FnScope nLookups ["_law_e"] (defScope sLookups) := ⟨rfl, rfl, rfl, by decide +kernel, rfl, by decide +kernel, by decide +kernel⟩
abbrev sKindsRight : Stmt := topS 90
abbrev nKindsRight : List Str := ["_law_a", "_law_some", "_law_k", "_law_others", "_law_j"]
theorem scKindsRight : FnScope nKindsRight ["_law_a"] (defScope sKindsRight) := ⟨rfl, rfl, rfl, by decide +kernel, rfl, by decide +kernel, by decide +kernel⟩
abbrev sFieldsRight : Stmt := topS 91
abbrev nFieldsRight : List Str := ["_law_a", "_law_found", "_law_one_here"]
theorem scFieldsRight : FnScope nFieldsRight ["_law_a"] (defScope sFieldsRight) := ⟨rfl, rfl, rfl, by decide +kernel, rfl, by decide +kernel, by decide +kernel⟩
abbrev sBounds : Stmt := topS 92
abbrev nBounds : List Str := ["_law_found"]
theorem scBounds : FnScope nBounds [] (defScope sBounds) := ⟨rfl, rfl, rfl, by decide +kernel, rfl, by decide +kernel, by decide +kernel⟩
abbrev sPLaw : Stmt := topS 93
abbrev nPLaw : List Str := ["_law_script", "_law_deck_here", "_law_turn", "_law_a"]
theorem scPLaw : FnScope nPLaw ["_law_script"] (defScope sPLaw) := ⟨rfl, rfl, rfl, by decide +kernel, rfl, by decide +kernel, by decide +kernel⟩
/-! ### heaps: all but some stand as they stood -/
def Sx (ex : List Addr) (H H' : Hp) : Prop := ∀ b o, b ∉ ex → H b = some o → H' b = some o
theorem Sx.refl {ex : List Addr} (H : Hp) : Sx ex H H := fun _ _ _ h => h
theorem Sx.trans {ex : List Addr} {H H1 H2 : Hp} (a : Sx ex H H1) (b : Sx ex H1 H2) : Sx ex H H2 := fun x o n h => b x o n (a x o n h)
theorem Sx.mono {ex fx : List Addr} {H H' : Hp} (a : Sx ex H H') (h : ∀ b ∈ ex, b ∈ fx) : Sx fx H H' := fun x o n e => a x o (fun z => n (h x z)) e
theorem Sx.nil {ex : List Addr} {H H' : Hp} (a : Sx [] H H') : Sx ex H H' := a.mono (fun _ z => by cases z)
theorem Sx.put {ex : List Addr} {H H' : Hp} {p : Addr} {o : HO} (a : Sx ex H H') (h : p ∈ ex) : Sx ex H (upd H' p o) := fun x u n e => by
  rw [upd_ne (fun z => n (by rw [z]; exact h))]
  exact a x u n e
/-- what was not there ahead may change -/
theorem Sx.own {ex : List Addr} {H H' : Hp} {p : Addr} {o : HO} (a : Sx ex H H') (h : H p = none) : Sx ex H (upd H' p o) := fun x u n e => by
  rw [upd_ne (ne_of_none e h)]
  exact a x u n e
theorem Sx.new {ex : List Addr} {H H' : Hp} {p : Addr} {o : HO} (a : Sx ex H H') (h : H' p = none) : Sx ex H (upd H' p o) := fun x u n e => by
  rw [upd_ne (ne_of_none (a x u n e) h)]
  exact a x u n e
theorem Sx.same {H H' : Hp} (a : Sx [] H H') : Same H H' := fun b o e => a b o (fun z => by cases z) e
theorem Sx.of {ex : List Addr} {H H' : Hp} (a : Same H H') : Sx ex H H' := fun b o _ e => a b o e
/-- free behind is free ahead, but for what may go -/
theorem Sx.free {ex : List Addr} {H H' : Hp} {p : Addr} (a : Sx ex H H') (hx : p ∉ ex) (h : H' p = none) : H p = none := by
  cases e : H p with
  | none => rfl
  | some o => rw [a p o hx e] at h; cases h
/-! ### the deck -/
/-- the deck at a: its cells at c, k numbers drawn -/
structure Dk (H : Hp) (a c : Addr) (cs : List Int) (k : Int) : Prop where
  ha : H a = some (.lst [.ref c, .int k])
  hc : H c = some (.lst (cs.map V.int))
  pos : ∀ x ∈ cs, 0 ≤ x
  len : cs.length ≤ 63
  k0 : 0 ≤ k
theorem Dk.ne {H : Hp} {a c : Addr} {cs : List Int} {k : Int} (D : Dk H a c cs k) : a ≠ c := fun e => by
  have h1 := D.ha
  rw [e, D.hc] at h1
  match cs, h1 with
  | [x, y], h1 => simp at h1
theorem Dk.sx {H H' : Hp} {a c : Addr} {cs : List Int} {k : Int} {ex : List Addr} (D : Dk H a c cs k) (s : Sx ex H H') (h1 : a ∉ ex) (h2 : c ∉ ex) : Dk H' a c cs k := ⟨s _ _ h1 D.ha, s _ _ h2 D.hc, D.pos, D.len, D.k0⟩
theorem Dk.same {H H' : Hp} {a c : Addr} {cs : List Int} {k : Int} (D : Dk H a c cs k) (s : Sx [] H H') : Dk H' a c cs k := D.sx s (by simp) (by simp)
/-- so many numbers may be drawn in all -/
abbrev KB : Int := 1099511627776
/-- go on from any heap of which as much is known -/
theorem gh {R F : Hp → Prop} {H1 : Hp} (f : F H1) (h : ∀ H2, F H2 → R H2) : R H1 := h H1 f
theorem lt_line {n : Nat} (h : n < 16777216) : n < sizeLine := h
theorem le_line {n : Nat} (h : n ≤ 16777216) : n ≤ sizeLine := h
theorem ixN_of {n j : Nat} {i : Int} (e : i = (j : Int)) (hj : j < n) : ixN n i = some j := by
  subst e
  unfold ixN
  rw [if_pos (by omega)]; rw [if_pos (by omega)]; simp
theorem Sx.rd {ex : List Addr} {H H' : Hp} {p : Addr} {u : HO} (a : Sx ex H H') (h : p ∉ ex) (r : Rd H p u) : Rd H' p u := by
  rcases r with r | ⟨o, r⟩
  · exact .inl (a _ _ h r)
  · exact .inr ⟨o, a _ _ h r⟩
theorem Sx.seqL {ex : List Addr} {H H' : Hp} {K : PySem.W.Frag} {p : Addr} {xs : List V} (a : Sx ex H H') (h : p ∉ ex) (r : SqL K H p xs) : SqL K H' p xs := r.imp (a.rd h) id
theorem Sx.seqT {ex : List Addr} {H H' : Hp} {K : PySem.W.Frag} {p : Addr} {xs : List V} (a : Sx ex H H') (h : p ∉ ex) (r : SqT K H p xs) : SqT K H' p xs := r.imp (a.rd h) id
theorem ix_or {X : Cx} {r r' : R2} (h : IxR X r) (h' : IxR X r') : IxR X (fun x y H Q => r x y H Q ∨ r' x y H Q) := by
  intro e1 e2 pins s σ H x y v u Q I rx ry q hs
  rcases q with q | q
  · exact h e1 e2 pins s σ H x y v u Q I rx ry q hs
  · exact h' e1 e2 pins s σ H x y v u Q I rx ry q hs
theorem cr_or {X : Cx} {f : Value} {r r' : List V → Hp → VK → Prop} (h : CallR X f r) (h' : CallR X f r') : CallR X f (fun x H Q => r x H Q ∨ r' x H Q) := by
  intro pins s σ H xs us Q I rx q
  rcases q with q | q
  · exact h pins s σ H xs us Q I rx q
  · exact h' pins s σ H xs us Q I rx q
/-! ### data of tuples -/
mutual
/-- v is the data d, tuples of ints and texts within one another -/
inductive Tp (H : Hp) : V → PyData → Prop where
  | non : Tp H .non .none
  | bl (b : Bool) : Tp H (.bl b) (.bool b)
  | int (i : Int) : Tp H (.int i) (.int i)
  | str (x : Str) : Tp H (.str x) (.str x)
  | tup {a : Addr} {xs : List V} {ds : List PyData} : H a = some (.tup xs) → TpAll H xs ds → Tp H (.ref a) (.tuple ds)
inductive TpAll (H : Hp) : List V → List PyData → Prop where
  | nil : TpAll H [] []
  | cons {v : V} {vs : List V} {d : PyData} {ds : List PyData} : Tp H v d → TpAll H vs ds → TpAll H (v :: vs) (d :: ds)
end
/-- the tuples stand as they stood -/
def Tk (H H' : Hp) : Prop := ∀ b xs, H b = some (.tup xs) → H' b = some (.tup xs)
theorem Tk.refl (H : Hp) : Tk H H := fun _ _ h => h
theorem Tk.trans {H H1 H2 : Hp} (a : Tk H H1) (b : Tk H1 H2) : Tk H H2 := fun x o h => b x o (a x o h)
theorem Sx.tk {ex : List Addr} {H H' : Hp} (s : Sx ex H H') (h : ∀ b ∈ ex, ∃ ys, H b = some (.lst ys)) : Tk H H' := fun b xs e => s b _ (fun hb => by
  obtain ⟨ys, e'⟩ := h b hb
  rw [e] at e'
  cases e') e
theorem Sx.tk0 {H H' : Hp} (s : Sx [] H H') : Tk H H' := s.tk (fun _ z => by cases z)
mutual
theorem Tp.keep {H H' : Hp} (s : Tk H H') : ∀ {v : V} {d : PyData}, Tp H v d → Tp H' v d
  | _, _, .non => .non
  | _, _, .bl b => .bl b
  | _, _, .int i => .int i
  | _, _, .str x => .str x
  | _, _, .tup h a => .tup (s _ _ h) (TpAll.keep s a)
theorem TpAll.keep {H H' : Hp} (s : Tk H H') : ∀ {vs : List V} {ds : List PyData}, TpAll H vs ds → TpAll H' vs ds
  | _, _, .nil => .nil
  | _, _, .cons a b => .cons (Tp.keep s a) (TpAll.keep s b)
end
mutual
theorem Tp.dp {K : PySem.W.Frag} {H : Hp} : ∀ {v : V} {d : PyData}, Tp H v d → Dp K H v d
  | _, _, .non => .non
  | _, _, .bl b => .bl b
  | _, _, .int i => .int i
  | _, _, .str x => .str x
  | _, _, .tup h a => .tup (SqT.of h) (TpAll.dp a)
theorem TpAll.dp {K : PySem.W.Frag} {H : Hp} : ∀ {vs : List V} {ds : List PyData}, TpAll H vs ds → DpAll K H vs ds
  | _, _, .nil => .nil
  | _, _, .cons a b => .cons (Tp.dp a) (TpAll.dp b)
end
theorem TpAll.len {H : Hp} : ∀ {vs : List V} {ds : List PyData}, TpAll H vs ds → vs.length = ds.length
  | _, _, .nil => rfl
  | _, _, .cons _ b => by rw [List.length_cons, List.length_cons, TpAll.len b]
theorem TpAll.get {H : Hp} : ∀ {vs : List V} {ds : List PyData} {i : Nat} {v : V}, TpAll H vs ds → vs[i]? = some v → ∃ d, ds[i]? = some d ∧ Tp H v d
  | _, _, 0, _, .cons a _, e => ⟨_, rfl, by cases e; exact a⟩
  | _, _, i + 1, _, .cons _ b, e => TpAll.get (i := i) b e
theorem TpAll.append {H : Hp} : ∀ {vs ws : List V} {ds es : List PyData}, TpAll H vs ds → TpAll H ws es → TpAll H (vs ++ ws) (ds ++ es)
  | _, _, _, _, .nil, h => h
  | _, _, _, _, .cons a b, h => .cons a (TpAll.append b h)
theorem Tp.tuple {H : Hp} {v : V} {ds : List PyData} (h : Tp H v (.tuple ds)) : ∃ a xs, v = .ref a ∧ H a = some (.tup xs) ∧ TpAll H xs ds := by
  cases h with
  | tup h a => exact ⟨_, _, rfl, h, a⟩
theorem Tp.new {H : Hp} {v : V} {d : PyData} {p : Addr} {o : HO} (h : Tp H v d) (n : H p = none) : Tp (upd H p o) v d := h.keep ((Sx.refl _).new n).tk0
theorem TpAll.new {H : Hp} {vs : List V} {ds : List PyData} {p : Addr} {o : HO} (h : TpAll H vs ds) (n : H p = none) : TpAll (upd H p o) vs ds := h.keep ((Sx.refl _).new n).tk0
theorem Dk.new {H : Hp} {a c p : Addr} {cs : List Int} {k : Int} {o : HO} (D : Dk H a c cs k) (n : H p = none) : Dk (upd H p o) a c cs k := D.same ((Sx.refl _).new n)
/-- what is shown once and used on several ways -/
theorem share {B G : Prop} (hB : B) (h : B → G) : G := h hB
theorem Sx.step {ex fx : List Addr} {H H1 H2 : Hp} (a : Sx ex H H1) (b : Sx fx H1 H2) (h : ∀ x ∈ fx, x ∈ ex ∨ H x = none) : Sx ex H H2 := fun x o n e =>
  b x o (fun z => (h x z).elim n (fun y => by rw [e] at y; cases y)) (a x o n e)
theorem gnm {i : Nat} {v : V} {σ : L2.St} {H : Hp} {Qf : L2.St → Hp → Prop} (h : Qf (σ.set i (some v)) H) : gName i v σ H Qf := h
/-! ### what the generator makes -/
/-- expressions over the names, at most so many in one another -/
inductive ExD (ns : List Str) : Nat → PyData → Prop where
  | int {d : Nat} (i : Int) : -99 ≤ i → i ≤ 99 → ExD ns (d + 1) (.int i)
  | name {d : Nat} (z : Str) : z ∈ ns → ExD ns (d + 1) (.str z)
  | plus {d : Nat} {x y : PyData} : ExD ns d x → ExD ns d y → ExD ns (d + 1) (.tuple [.str "plus", x, y])
  | minus {d : Nat} {x y : PyData} : ExD ns d x → ExD ns d y → ExD ns (d + 1) (.tuple [.str "minus", x, y])
  | times {d : Nat} {x : PyData} (f : Int) : -9 ≤ f → f ≤ 9 → ExD ns d x → ExD ns (d + 1) (.tuple [.str "times", .int f, x])
/-- so many draws at most -/
def cE : Nat → Int
  | 0 => 0
  | d + 1 => 2 * cE d + 3
theorem cE_pos : ∀ d, 0 ≤ cE d
  | 0 => Int.le_refl _
  | d + 1 => by have := cE_pos d; show 0 ≤ 2 * cE d + 3; omega
theorem cE_one (d : Nat) : cE (d + 1) = 2 * cE d + 3 := rfl
/-- a name: one to eight small letters and digits, none of the words -/
def WordsK : List Str := ["box", "set", "pay", "stop", "if", "else", "repeat", "pass", "rest", "of", "not", "program"]
structure NmOk (z : Str) : Prop where
  lo : 1 ≤ z.length
  hi : z.length ≤ 8
  sgn : ∀ x ∈ z.cps.toList, (97 ≤ x ∧ x ≤ 122) ∨ (48 ≤ x ∧ x ≤ 57)
  hd : ∀ x, z.cps.toList[0]? = some x → 97 ≤ x
  kw : z ∉ WordsK
theorem NmOk.ok {z : Str} (h : NmOk z) : PyData.strOk z = true := by
  unfold PyData.strOk
  rw [Array.all_eq_true']
  intro x hx
  have := h.sgn x (Array.mem_toList_iff.mpr hx)
  refine decide_eq_true ?_; omega
/-- names at nm -/
structure Nms (K : PySem.W.Frag) (H : Hp) (nm : Addr) (ns : List Str) : Prop where
  tr : H nm = some (.lst (ns.map V.str))
  ne : ns ≠ []
  len : ns.length ≤ 1000
  ok : ∀ z ∈ ns, NmOk z
theorem Nms.keep {K : PySem.W.Frag} {H H' : Hp} {nm : Addr} {ns : List Str} {ex : List Addr} (N : Nms K H nm ns) (s : Sx ex H H') (h : nm ∉ ex) : Nms K H' nm ns := ⟨s _ _ h N.tr, N.ne, N.len, N.ok⟩
theorem Nms.at_ {K : PySem.W.Frag} {H : Hp} {nm : Addr} {ns : List Str} (N : Nms K H nm ns) : SqL K H nm (ns.map V.str) := .inl (.inl N.tr)
theorem Nms.nw {K : PySem.W.Frag} {H : Hp} {nm p : Addr} {ns : List Str} (N : Nms K H nm ns) (h : H p = none) : nm ≠ p := fun z => (by rw [← z, N.tr] at h; cases h)
theorem Dk.lst {H : Hp} {a c : Addr} {cs : List Int} {k : Int} (D : Dk H a c cs k) : ∀ b ∈ [a, c], ∃ ys, H b = some (.lst ys) := fun b hb => by
  rcases List.mem_cons.1 hb with rfl | hb
  · exact ⟨_, D.ha⟩
  · rw [List.mem_singleton.mp hb]; exact ⟨_, D.hc⟩
theorem Dk.tk {H H' : Hp} {a c : Addr} {cs : List Int} {k : Int} (D : Dk H a c cs k) (s : Sx [a, c] H H') : Tk H H' := s.tk D.lst
/-- a new object is none of the deck's -/
theorem Dk.nw {H : Hp} {a c p : Addr} {cs : List Int} {k : Int} (D : Dk H a c cs k) (h : H p = none) : p ≠ a ∧ p ≠ c :=
  ⟨fun e => (by rw [e, D.ha] at h; cases h), fun e => (by rw [e, D.hc] at h; cases h)⟩
/-- tests with at most so many "not"; true: of a rest -/
inductive TsD (ns : List Str) : Nat → Bool → PyData → Prop where
  | rest {n : Nat} {x : PyData} (b r : Int) : ExD ns 3 x → 2 ≤ b → b ≤ 6 → 0 ≤ r → r < b → TsD ns n true (.tuple [.str "rest", x, .int b, .int r])
  | less {n : Nat} {x y : PyData} : ExD ns 3 x → ExD ns 3 y → TsD ns n false (.tuple [.str "less", x, y])
  | not {n : Nat} {b : Bool} {t : PyData} : TsD ns n b t → TsD ns (n + 1) b (.tuple [.str "not", t])
def bI (b : Bool) : Int := if b then 1 else 0
mutual
/-- statements whose blocks lie at most so deep: with its places, weight, rests, comparings -/
inductive StD (ns : List Str) : Nat → Int → Int → Int → Int → PyData → Prop where
  | set {d : Nat} {e : PyData} (z : Str) : z ∈ ns → ExD ns 3 e → StD ns d 1 1 0 0 (.tuple [.str "set", .str z, e])
  | pay {d : Nat} {e : PyData} : ExD ns 3 e → StD ns d 1 1 0 0 (.tuple [.str "pay", e])
  | stop {d : Nat} : StD ns d 1 1 0 0 (.tuple [.str "stop"])
  | ite {d : Nat} {t : PyData} {b : Bool} {n1 w1 r1 c1 n2 w2 r2 c2 : Int} {ys zs : List PyData} : TsD ns 2 b t → BkD ns d n1 w1 r1 c1 ys → BkD ns d n2 w2 r2 c2 zs →
      StD ns d (1 + n1 + n2) (1 + w1 + w2) (bI b + r1 + r2) (bI (!b) + c1 + c2) (.tuple [.str "if", t, .tuple ys, .tuple zs])
  | rep {d : Nat} {n1 w1 r1 c1 : Int} {ys : List PyData} (k : Int) : 1 ≤ k → k ≤ 8 → BkD ns d n1 w1 r1 c1 ys → StD ns d (1 + n1) (1 + k * w1) (k * r1) (k * c1) (.tuple [.str "repeat", .int k, .tuple ys])
inductive BkD (ns : List Str) : Nat → Int → Int → Int → Int → List PyData → Prop where
  | nil {d : Nat} : BkD ns d 0 0 0 0 []
  | cons {d : Nat} {n1 w1 r1 c1 n2 w2 r2 c2 : Int} {s : PyData} {ss : List PyData} : StD ns d n1 w1 r1 c1 s → BkD ns (d + 1) n2 w2 r2 c2 ss → BkD ns (d + 1) (n1 + n2) (w1 + w2) (r1 + r2) (c1 + c2) (s :: ss)
end
/-! ### such data may be compared -/
def Sh (n : Nat) (e : PyData) : Prop := e.canLay0 = true ∧ e.depth ≤ n
def ShA (n : Nat) (es : List PyData) : Prop := PyData.canLayAll0 es = true ∧ PyData.depthAll es ≤ n
theorem ShA.nil {n : Nat} : ShA n [] := ⟨by simp only [PyData.canLayAll0], by simp only [PyData.depthAll]; omega⟩
theorem ShA.cons {n : Nat} {e : PyData} {es : List PyData} (h : Sh n e) (hs : ShA n es) : ShA n (e :: es) :=
  ⟨by simp only [PyData.canLayAll0, h.1, hs.1, Bool.and_self], by simp only [PyData.depthAll]; have := h.2; have := hs.2; omega⟩
theorem Sh.tup {n : Nat} {es : List PyData} (h : ShA n es) : Sh (n + 1) (.tuple es) := ⟨by simp only [PyData.canLay0, h.1], by simp only [PyData.depth]; have := h.2; omega⟩
theorem Sh.int {n : Nat} (i : Int) : Sh n (.int i) := ⟨by simp only [PyData.canLay0], by simp only [PyData.depth]; omega⟩
theorem Sh.str {n : Nat} {z : Str} (h : PyData.strOk z = true) : Sh n (.str z) := ⟨by simp only [PyData.canLay0, h], by simp only [PyData.depth]; omega⟩
theorem Sh.mono {n m : Nat} {e : PyData} (h : Sh n e) (l : n ≤ m) : Sh m e := ⟨h.1, Nat.le_trans h.2 l⟩
theorem ShA.mono {n m : Nat} {e : List PyData} (h : ShA n e) (l : n ≤ m) : ShA m e := ⟨h.1, Nat.le_trans h.2 l⟩
theorem Sh.shaped {n : Nat} {e : PyData} (h : Sh n e) (l : n ≤ 64) : SeqAt.shaped e = true := by
  unfold SeqAt.shaped
  rw [h.1, decide_eq_true (Nat.le_trans h.2 l)]
  rfl
theorem ExD.sh {ns : List Str} (hn : ∀ z ∈ ns, NmOk z) {d : Nat} {e : PyData} (h : ExD ns d e) : Sh d e := by
  induction h with
  | int i _ _ => exact .int i
  | name z hz => exact .str (hn z hz).ok
  | plus _ _ h1 h2 => exact .tup (.cons (.str (by decide +kernel)) (.cons h1 (.cons h2 .nil)))
  | minus _ _ h1 h2 => exact .tup (.cons (.str (by decide +kernel)) (.cons h1 (.cons h2 .nil)))
  | times f _ _ _ h1 => exact .tup (.cons (.str (by decide +kernel)) (.cons (.int f) (.cons h1 .nil)))
theorem TsD.sh {ns : List Str} (hn : ∀ z ∈ ns, NmOk z) {n : Nat} {b : Bool} {e : PyData} (h : TsD ns n b e) : Sh (n + 4) e := by
  induction h with
  | rest b r hx _ _ _ _ => exact (Sh.tup (.cons (.str (by decide +kernel)) (.cons (hx.sh hn) (.cons (.int b) (.cons (.int r) .nil))))).mono (by omega)
  | less hx hy => exact (Sh.tup (.cons (.str (by decide +kernel)) (.cons (hx.sh hn) (.cons (hy.sh hn) .nil)))).mono (by omega)
  | not _ ih => exact .tup (.cons (.str (by decide +kernel)) (.cons ih .nil))
theorem TsD.up {ns : List Str} {n m : Nat} {b : Bool} {e : PyData} (h : TsD ns n b e) (l : n ≤ m) : TsD ns m b e := by
  induction h generalizing m with
  | rest b r h1 h2 h3 h4 h5 => exact .rest b r h1 h2 h3 h4 h5
  | less h1 h2 => exact .less h1 h2
  | not _ ih =>
    obtain ⟨j, rfl⟩ : ∃ j, m = j + 1 := ⟨m - 1, by omega⟩
    exact .not (ih (by omega))
mutual
theorem StD.sh {ns : List Str} (hn : ∀ z ∈ ns, NmOk z) : ∀ {d : Nat} {n w r c : Int} {e : PyData}, StD ns d n w r c e → Sh (2 * d + 9) e
  | _, _, _, _, _, _, .set z hz hx => (Sh.tup (.cons (.str (by decide +kernel)) (.cons (.str (hn z hz).ok) (.cons (hx.sh hn) .nil)))).mono (by omega)
  | _, _, _, _, _, _, .pay hx => (Sh.tup (.cons (.str (by decide +kernel)) (.cons (hx.sh hn) .nil))).mono (by omega)
  | _, _, _, _, _, _, .stop => (Sh.tup (n := 0) (.cons (.str (by decide +kernel)) .nil)).mono (by omega)
  | d, _, _, _, _, _, .ite ht hy hz => (Sh.tup (n := 2 * d + 8) (.cons (.str (by decide +kernel)) (.cons ((ht.sh hn).mono (by omega)) (.cons ((Sh.tup (BkD.sh hn hy)).mono (by omega)) (.cons ((Sh.tup (BkD.sh hn hz)).mono (by omega)) .nil))))).mono (by omega)
  | d, _, _, _, _, _, .rep k _ _ hy => (Sh.tup (n := 2 * d + 8) (.cons (.str (by decide +kernel)) (.cons (.int k) (.cons ((Sh.tup (BkD.sh hn hy)).mono (by omega)) .nil)))).mono (by omega)
theorem BkD.sh {ns : List Str} (hn : ∀ z ∈ ns, NmOk z) : ∀ {d : Nat} {n w r c : Int} {es : List PyData}, BkD ns d n w r c es → ShA (2 * d + 7) es
  | _, _, _, _, _, _, .nil => .nil
  | _, _, _, _, _, _, .cons h hs => .cons ((StD.sh hn h).mono (by omega)) (BkD.sh hn hs)
end
/-- the room at rm -/
structure Rm (H : Hp) (rm : Addr) (r0 r1 r2 r3 : Int) : Prop where
  at_ : H rm = some (.lst [.int r0, .int r1, .int r2, .int r3])
  p0 : 0 ≤ r0
  p1 : 0 ≤ r1
  p2 : 0 ≤ r2
  p3 : 0 ≤ r3
theorem Rm.sx {H H' : Hp} {rm : Addr} {r0 r1 r2 r3 : Int} {ex : List Addr} (R : Rm H rm r0 r1 r2 r3) (s : Sx ex H H') (h : rm ∉ ex) : Rm H' rm r0 r1 r2 r3 := ⟨s _ _ h R.at_, R.p0, R.p1, R.p2, R.p3⟩
theorem Rm.new {H : Hp} {rm p : Addr} {r0 r1 r2 r3 : Int} {o : HO} (R : Rm H rm r0 r1 r2 r3) (n : H p = none) : Rm (upd H p o) rm r0 r1 r2 r3 := R.sx ((Sx.refl (ex := []) _).new n) (by simp)
theorem Rm.nw {H : Hp} {rm p : Addr} {r0 r1 r2 r3 : Int} (R : Rm H rm r0 r1 r2 r3) (n : H p = none) : p ≠ rm := fun e => (by rw [e, R.at_] at n; cases n)
theorem lst3 {H : Hp} {a c rm : Addr} {cs : List Int} {k r0 r1 r2 r3 : Int} (D : Dk H a c cs k) (R : Rm H rm r0 r1 r2 r3) : ∀ b ∈ [a, c, rm], ∃ ys, H b = some (.lst ys) := fun b hb => by
  simp only [List.not_mem_nil, List.mem_cons, or_false] at hb
  obtain rfl | rfl | rfl := hb
  · exact ⟨_, D.ha⟩
  · exact ⟨_, D.hc⟩
  · exact ⟨_, R.at_⟩
theorem Rm.cast {H : Hp} {rm : Addr} {r0 r1 r2 r3 q0 q1 q2 q3 : Int} (R : Rm H rm r0 r1 r2 r3) (e0 : r0 = q0) (e1 : r1 = q1) (e2 : r2 = q2) (e3 : r3 = q3) : Rm H rm q0 q1 q2 q3 := by
  subst e0 e1 e2 e3
  exact R
section
variable {w : World} {P : Program} {K : PySem.W.Frag} {mg : Str → Option Value} {base : Heap}
def spDeck (K : PySem.W.Frag) : Sp := fun vs H Q _ => ∃ (a : Addr) (ns : List Int), vs = [.ref a] ∧ SqL K H a (ns.map V.int) ∧ ns.length ≤ 63 ∧
  ∀ H' p c cs, Sx [] H H' → H p = none → H c = none → Dk H' p c cs 0 → Q (.ref p) H'
theorem ok_deck {f : Addr} {fd : FuncData} {k : Nat} (F : Fun K "_law_deck" "_law_deck" sDeck f fd) (ma : mg "abs" = none) : FnOk P w K mg base CX0 (k + 1) f fd ["_law_script"] (spDeck K) := by
  refine F.ok scDeck (fun vs H Q E h => ?_) (fun cdv A outer s H vs Q E hr h => ?_)
  · obtain ⟨a, ns, rfl, _⟩ := h
    rfl
  · rcases h with ⟨a, ns, rfl, hS, hlen, q⟩
    refine ⟨_, pss_one (ps_ret (pe_lst (pa_cons
      (pe_lc (own := [("_law_cell", 1)]) (g := gName 1) (tt := tYes) rfl scDeck.nd (pi_list (pe_slice sl_list (pv 0) po_none (po_some pe_int))) (blkOk_by (N := nDeck) (sc := defScope sDeck) (by decide +kernel))
        (fun _ _ _ _ _ => pg_name (i := 1) scDeck.nd rfl (Or.inl rfl)) (fun _ _ _ _ _ => pts_nil) (fun _ _ _ _ _ => pe_callB call_abs (by rfl) ma (by decide +kernel) (pa_cons (pv 1) pa_nil)))
      (pa_cons pe_int pa_nil)))), ?_⟩
    refine ⟨_, rfl, 63, rfl, a, ns.map V.int, rfl, hS, fun l hl => ?_⟩
    have cut : cutV (ns.map V.int) none (some 63) = ns.map V.int := by
      unfold cutV
      rw [HT.sIx_none, show HT.sIx (ns.map V.int).length (ns.map V.int).length (some 63) = min 63 (ns.map V.int).length from HT.sIx_nat _ _ 63, List.drop_zero, Nat.sub_zero, List.length_map, Nat.min_eq_right hlen]
      exact List.take_of_length_le (by rw [List.length_map]; exact Nat.le_refl _)
    rw [cut]
    have s1 : Sx [] H (upd H l (.lst (ns.map V.int))) := Sx.new (Sx.refl _) hl
    refine ⟨l, rfl, ⟨_, .inl (.inl upd_same)⟩, fun D hD => lc_list (xs := ns.map V.int)
      (fun i H' => Sx [] H H' ∧ H' l = some (.lst (ns.map V.int)) ∧ H' D = some (.lst ((ns.map fun x => V.int (if x < 0 then -x else x)).take i))) ⟨s1.new hD, ?_, upd_same⟩ (fun i H' _ p => .inl (.inl p.2.1)) (fun i x H' hx p => ?_) (fun H' p => ?_)⟩
    · have hlD : l ≠ D := fun e => by
        rw [← e, upd_same] at hD
        cases hD
      rw [upd_ne hlD, upd_same]
    · obtain ⟨p1, p2, p3⟩ := p
      rw [List.getElem?_map] at hx
      obtain ⟨y, hy, rfl⟩ := Option.map_eq_some_iff.mp hx
      refine ⟨rfl, ?_⟩
      refine ⟨.int y, rfl, y, rfl, _, p3, ?_, ?_, ?_, ?_⟩
      · rw [List.length_take, List.length_map]
        have : (63 : Nat) < sizeLine := by decide
        omega
      · exact p1.own (s1.free (by simp) hD)
      · have hlD : l ≠ D := fun e => by
          rw [← e, upd_same] at hD
          cases hD
        rw [upd_ne hlD]
        exact p2
      · rw [upd_same, List.take_add_one, List.getElem?_map, hy]
        rfl
    · obtain ⟨p1, p2, p3⟩ := p
      refine ⟨by (show 2 ≤ sizeLine); decide, fun p hp => ?_⟩
      have hDp : D ≠ p := ne_of_none p3 hp
      rw [List.length_map, List.take_of_length_le (by rw [List.length_map]; exact Nat.le_refl _)] at p3
      refine q _ p D (ns.map fun x => if x < 0 then -x else x) (p1.new hp) (p1.free (by simp) hp) (s1.free (by simp) hD) ⟨upd_same, ?_, ?_, by rw [List.length_map]; exact hlen, Int.le_refl _⟩
      · rw [upd_ne hDp, p3, List.map_map]
        rfl
      · intro x hx
        obtain ⟨y, _, rfl⟩ := List.mem_map.mp hx
        split <;> omega
def spDraw : Sp := fun vs H Q _ => ∃ (a c : Addr) (cs : List Int) (k m : Int), vs = [.ref a, .int m] ∧ Dk H a c cs k ∧ 0 < m ∧ m < 1073741824 ∧ k < KB ∧
  ∀ H' cs' r, Sx [a, c] H H' → Dk H' a c cs' (k + 1) → 0 ≤ r → r < m → Q (.int r) H'
theorem ok_draw {f : Addr} {fd : FuncData} {k : Nat} (F : Fun K "_law_draw" "_law_draw" sDraw f fd) (z_len : mg "len" = none) (z_int : mg "int" = none) : FnOk P w K mg base CX0 (k + 1) f fd ["_law_deck_here", "_law_many"] spDraw := by
  refine F.ok scDraw (fun vs H Q E h => ?_) (fun cdv A outer s H vs Q E hr h => ?_)
  · obtain ⟨a, c, cs, k, m, rfl, _⟩ := h
    rfl
  · obtain ⟨a, c, cs, k, m, rfl, D, hm0, hm1, hk, q⟩ := h
    refine ⟨_, (pss_cons (ps_asg (pe_op op_add (pe_ix ix_list (pv 0) pe_int (fun _ _ => rfl)) pe_int) (pg_sub (pv 0) pe_int set_list))
      (pss_cons (ps_asg (pe_tup (pa_cons pe_int (pa_cons (pe_un un_neg pe_int) pa_nil))) (pg_tup rfl (pgs_cons (pg_name (i := 2) scDraw.nd rfl (by first | exact Or.inl rfl | exact Or.inr rfl)) (pgs_cons (pg_name (i := 3) scDraw.nd rfl (by first | exact Or.inl rfl | exact Or.inr rfl)) pgs_nil))))
      (C8.pss_cut (ps_if (pt_cmpR op_gt (pe_callB call_len_seq (by rfl) z_len boot_len (pa_cons (pe_ix ix_list (pv 0) pe_int (fun _ _ => rfl)) pa_nil)) pe_int (nomark _)) (pss_cons (ps_set (i := 3) scDraw.nd rfl (by first | exact Or.inl rfl | exact Or.inr rfl) (pe_op op_mod (pe_callTy call_int1 (by rfl) z_int boot_int (pa_cons (pe_ix ix_list (pv 0) pe_int (fun _ _ => rfl)) pa_nil)) (pe_callB call_len_seq (by rfl) z_len boot_len (pa_cons (pe_ix ix_list (pv 0) pe_int (fun _ _ => rfl)) pa_nil))))
      (pss_one (ps_set (i := 2) scDraw.nd rfl (by first | exact Or.inl rfl | exact Or.inr rfl) (pe_ix ix_list (pe_ix ix_list (pv 0) pe_int (fun _ _ => rfl)) (pv 3) (fun _ _ => rfl))))) pss_nil)
      (pss_cons (ps_if (pt_cmpR op_ge (pv 2) (pe_op op_pow pe_int pe_int) (nomark _)) (pss_cons (ps_asg (pe_op op_fdiv (pe_callTy call_int1 (by rfl) z_int boot_int (pa_cons (pv 2) pa_nil)) (pv 1)) (pg_sub (pe_ix ix_list (pv 0) pe_int (fun _ _ => rfl)) (pv 3) set_list))
      (pss_one (ps_ret (pe_op op_mod (pe_callTy call_int1 (by rfl) z_int boot_int (pa_cons (pv 2) pa_nil)) (pv 1))))) pss_nil)
      (pss_cons (ps_set (i := 4) scDraw.nd rfl (by first | exact Or.inl rfl | exact Or.inr rfl) (pe_op op_add (pe_op op_add (pe_op op_mod (pe_callTy call_int1 (by rfl) z_int boot_int (pa_cons (pv 2) pa_nil)) pe_int) (pe_op op_mul pe_int (pe_ix ix_list (pv 0) pe_int (fun _ _ => rfl)))) pe_int))
      (pss_one (ps_ret (pe_op op_mod (pe_callTy call_int1 (by rfl) z_int boot_int (pa_cons (pe_op op_mod (pe_callTy call_int1 (by rfl) z_int boot_int (pa_cons (pe_op op_pow (pv 4) pe_int) pa_nil)) pe_int) pa_nil)) (pv 1))))))))), ?_⟩
    refine ⟨.ref a, rfl, a, _, 1, .int k, rfl, rfl, .inl (.inl D.ha), rfl, _, _, rfl, rfl, .ref a, rfl, a, _, 1, 1, rfl, rfl, D.ha, rfl, ?_⟩
    have na := D.ne
    have k0 := D.k0
    refine gh (H1 := upd _ a _) (F := fun H1 => Sx [a, c] H H1 ∧ Dk H1 a c cs (k + 1)) ⟨(Sx.refl H).put (by simp), upd_same, by rw [upd_ne na.symm]; exact D.hc, D.pos, D.len, by omega⟩ (fun H1 ⟨s1, D1⟩ => ?_)
    -- _law_cell, _law_at = 0, -1
    refine ⟨1, rfl, by show 2 ≤ sizeLine; decide, fun t ht => ⟨t, _, rfl, .inl (.inl upd_same), rfl, _, _, rfl, _, _, rfl, rfl, ?_⟩⟩
    refine gh (H1 := upd _ t _) (F := fun H2 => Sx [a, c] H H2 ∧ Dk H2 a c cs (k + 1)) ⟨s1.new ht, D1.same ((Sx.refl _).new ht)⟩ (fun H2 ⟨s2, D2⟩ => ?_)
    -- if len(..) > 0
    refine ⟨fun σ' H' => ∃ x at' : Int, σ' = [some (.ref a), some (.int m), some (.int x), some (.int at'), none] ∧ H' = H2 ∧ 0 ≤ x ∧ (1000000000000000000 ≤ x → ∃ j : Nat, at' = (j : Int) ∧ j < cs.length), ?_, ?_⟩
    · refine ⟨.ref a, rfl, a, _, 0, .ref c, rfl, rfl, .inl (.inl D2.ha), rfl, c, _, rfl, .inl (.inl (.inl D2.hc)), _, _, rfl, rfl, _, rfl, ite2 (fun e => ?_) (fun e => ?_)⟩
      · have e' : (0 : Int) < ((cs.map V.int).length : Int) := of_decide_eq_true e
        rw [List.length_map] at e'
        refine ⟨.ref a, rfl, a, _, 1, .int (k + 1), rfl, rfl, .inl (.inl D2.ha), rfl, .inl ⟨_, rfl, .ref a, rfl, a, _, 0, .ref c, rfl, rfl, .inl (.inl D2.ha), rfl, c, _, rfl, .inl (.inl (.inl D2.hc)), _, _, rfl, rfl, by rw [List.length_map]; exact e', ?_⟩⟩
        have b0 := Int.emod_nonneg (k + 1) (show ((cs.length : Nat) : Int) ≠ 0 by omega)
        have b1 := Int.emod_lt_of_pos (k + 1) e'
        obtain ⟨j, hj⟩ := Int.eq_ofNat_of_zero_le b0
        have hjl : j < cs.length := by omega
        have hj' : (k + 1) % (((cs.map V.int).length : Nat) : Int) = (j : Int) := by rw [List.length_map]; exact hj
        refine ⟨.ref a, rfl, a, _, 0, .ref c, rfl, rfl, .inl (.inl D2.ha), rfl, _, rfl, c, _, _, .int (cs[j]), rfl, rfl, .inl (.inl D2.hc), at_of hj' (by rw [List.getElem?_map, List.getElem?_eq_getElem hjl]; rfl), ?_⟩
        exact ⟨_, _, rfl, rfl, D2.pos _ (List.getElem_mem hjl), fun _ => ⟨j, hj', hjl⟩⟩
      · exact ⟨0, -1, rfl, rfl, Int.le_refl _, fun z => absurd z (by decide)⟩
    -- what follows
    · rintro _ _ ⟨x, at', rfl, rfl, hx, hat⟩
      refine ⟨_, rfl, 10, 18, rfl, rfl, ⟨by decide, by decide, by decide⟩, x, _, rfl, rfl, _, rfl, ite2 (fun e => ?_) (fun e => ?_)⟩
      · have e' : (1000000000000000000 : Int) ≤ x := of_decide_eq_true e
        obtain ⟨j, rfl, hj⟩ := hat e'
        refine ⟨_, rfl, .inl ⟨x, rfl, _, rfl, x, m, rfl, rfl, ⟨hm0, hm1⟩, .ref a, rfl, a, _, 0, .ref c, rfl, rfl, .inl (.inl D2.ha), rfl, _, rfl, c, _, _, j, rfl, rfl, D2.hc, ixN_of rfl (by rw [List.length_map]; exact hj), ?_⟩⟩
        refine ⟨_, rfl, .inl ⟨x, rfl, _, rfl, x, m, rfl, rfl, hm0, ?_⟩⟩
        refine q _ (cs.set j (x / m)) _ (s2.put (by simp)) ⟨by rw [upd_ne na]; exact D2.ha, by rw [upd_same, ← List.map_set], fun y hy => ?_, by rw [List.length_set]; exact D2.len, by omega⟩ (Int.emod_nonneg _ (by omega)) (Int.emod_lt_of_pos _ hm0)
        rcases List.mem_or_eq_of_mem_set hy with z | rfl
        · exact D2.pos y z
        · exact Int.ediv_nonneg hx (by omega)
      · refine ⟨_, rfl, .inl ⟨x, rfl, x, 2147483563, rfl, rfl, (by decide : (0 : Int) < 2147483563), .ref a, rfl, a, _, 1, .int (k + 1), rfl, rfl, .inl (.inl D2.ha), rfl, 8117, k + 1, rfl, rfl, .inl ⟨by decide, by decide⟩, _, _, rfl, rfl, _, 3, rfl, rfl, ?_⟩⟩
        have b0 := Int.emod_nonneg x (by decide : (2147483563 : Int) ≠ 0)
        have b1 := Int.emod_lt_of_pos x (by decide : (0 : Int) < 2147483563)
        refine ⟨_, rfl, _, 5, rfl, rfl, ⟨by decide, by decide, ?_⟩, .inl ⟨_, rfl, _, 2147483629, rfl, rfl, (by decide : (0 : Int) < 2147483629), .inl ⟨_, rfl, _, rfl, _, m, rfl, rfl, hm0, ?_⟩⟩⟩
        · have hk' : k < 1099511627776 := hk
          omega
        · exact q _ cs _ s2 D2 (Int.emod_nonneg _ (by omega)) (Int.emod_lt_of_pos _ hm0)
/-- one of a list's items, or one of a text's signs -/
def spOne (K : PySem.W.Frag) : Sp := fun vs H Q _ => ∃ (a c : Addr) (cs : List Int) (k : Int) (it : V), vs = [.ref a, it] ∧ Dk H a c cs k ∧ k < KB ∧
  ((∃ p xs, it = .ref p ∧ SqL K H p xs ∧ xs ≠ [] ∧ xs.length ≤ 100000 ∧ p ≠ a ∧ p ≠ c ∧ ∀ H' cs' x, Sx [a, c] H H' → Dk H' a c cs' (k + 1) → x ∈ xs → Q x H') ∨
    ∃ z : Str, it = .str z ∧ 0 < z.length ∧ z.length ≤ 100000 ∧ ∀ H' cs' x, Sx [a, c] H H' → Dk H' a c cs' (k + 1) → x ∈ z.cps.toList → Q (.str ⟨#[x]⟩) H')
theorem ok_one {f fD : Addr} {fd fdD : FuncData} {k : Nat} (F : Fun K "_law_one" "_law_one" sOne f fd) (F_draw : Fun K "_law_draw" "_law_draw" sDraw fD fdD) (G_draw : FnOk P w K mg base CX0 (k + 1) fD fdD ["_law_deck_here", "_law_many"] spDraw)
    (b_draw : Binds K fdD ["_law_deck_here", "_law_many"] []) (m_draw : mg "_law_draw" = some (.ref fD)) (z_len : mg "len" = none) : FnOk P w K mg base CX0 (k + 2) f fd ["_law_deck_here", "_law_items"] (spOne K) := by
  refine F.ok scOne (fun vs H Q E h => ?_) (fun cdv A outer s H vs Q E hr h => ?_)
  · obtain ⟨a, c, cs, k, it, rfl, _⟩ := h
    rfl
  · obtain ⟨a, c, cs, k, it, rfl, D, hk, q⟩ := h
    refine ⟨_, (pss_one (ps_ret (pe_ix (ix_or ix_list ix_str) (pv 1) (pe_call G_draw (hr.mono (by omega)) (by rfl) m_draw F_draw.kp b_draw .nil pass0 (pa_cons (pv 0) (pa_cons (pe_callB (cr_or call_len_seq call_len_str) (by rfl) z_len boot_len (pa_cons (pv 1) pa_nil)) pa_nil))) (fun _ _ => rfl)))), ?_⟩
    rcases q with ⟨p, xs, rfl, hp, hne, hlen, pa, pc, q⟩ | ⟨z, rfl, hz0, hz1, q⟩
    · refine ⟨_, rfl, _, rfl, _, rfl, .inl ⟨p, xs, rfl, .inl hp, a, c, cs, k, _, rfl, D, by have : 0 < xs.length := List.length_pos_iff.mpr hne; omega, by omega, hk, fun H' cs' r s1 D1 r0 r1 => ?_⟩⟩
      obtain ⟨j, rfl⟩ := Int.eq_ofNat_of_zero_le r0
      have hj : j < xs.length := by omega
      exact .inl ⟨p, xs, _, xs[j], rfl, rfl, s1.seqL (by simp [pa, pc]) hp, atI_nat (List.getElem?_eq_getElem hj), q H' cs' _ s1 D1 (List.getElem_mem hj)⟩
    · refine ⟨_, rfl, _, rfl, _, rfl, .inr ⟨z, rfl, le_line (by omega), a, c, cs, k, _, rfl, D, by omega, by omega, hk, fun H' cs' r s1 D1 r0 r1 => ?_⟩⟩
      obtain ⟨j, rfl⟩ := Int.eq_ofNat_of_zero_le r0
      have hj : j < z.cps.toList.length := by rw [Array.length_toList]; have : z.length = z.cps.size := rfl; omega
      exact .inr ⟨z, _, z.cps.toList[j], rfl, rfl, le_line (by omega), atI_nat (List.getElem?_eq_getElem hj), q H' cs' _ s1 D1 (List.getElem_mem hj)⟩
end
theorem Tk.lst {H : Hp} {p : Addr} {ys : List V} {o : HO} (h : H p = some (.lst ys)) : Tk H (upd H p o) := fun b xs e => by
  rw [upd_ne (fun z => by rw [z, h] at e; cases e)]
  exact e
theorem Sx.n0 {H : Hp} {p : Addr} {o : HO} (h : H p = none) : Sx [] H (upd H p o) := (Sx.refl _).new h
/-! ### defs called where no repr is under way -/
/-- a def's promise where nothing guards the stack -/
structure FnG (P : Program) (w : World) (K : PySem.W.Frag) (mg : Str → Option Value) (base : Heap) (k : Nat) (f : Addr) (fd : FuncData) (ps : List Str) (sp : Sp) : Prop where
  len : ∀ (as : List V) (H : Hp) (Q : VK) (E : XK), sp as H Q E → as.length = ps.length
  go : ∀ (A : Around) (callers : List Env) (s : Shared) (H : Hp) (ar : Args) (us : List Value) (vs : List V) (Q : VK), Room k A → A.guards = some [] → Env0 P w K mg base A callers s H → BindsTo s fd ar (ps.zip us) → Vals vs us → sp vs H Q E0 →
    codeAny (model P w) A (.call (.ref f) ar) (CR CX0 callers P w H s Q E0) s
theorem FnG.of {P : Program} {w : World} {K : PySem.W.Frag} {mg : Str → Option Value} {base : Heap} {k : Nat} {f : Addr} {fd : FuncData} {ps : List Str} {sp : Sp} (F : FnOk P w K mg base CX0 k f fd ps sp) : FnG P w K mg base k f fd ps sp :=
  ⟨F.len, fun A o s H ar us vs Q hr _ e b r h => F.run A o s H ar us vs Q E0 hr e b r h⟩
theorem FnG.up {P : Program} {w : World} {K : PySem.W.Frag} {mg : Str → Option Value} {base : Heap} {j k : Nat} {f : Addr} {fd : FuncData} {ps : List Str} {sp : Sp} (F : FnG P w K mg base j f fd ps sp) (h : j ≤ k) : FnG P w K mg base k f fd ps sp :=
  ⟨F.len, fun A o s H ar us vs Q hr => F.go A o s H ar us vs Q (hr.mono h)⟩
theorem Fun.okG {P : Program} {w : World} {K : PySem.W.Frag} {mg : Str → Option Value} {base : Heap} {x qual : Str} {st : Stmt} {f : Addr} {fd : FuncData} {N ps : List Str} {k : Nat} {sp : Sp} (F : Fun K x qual st f fd) (S : FnScope N ps (defScope st))
    (len : ∀ (as : List V) (H : Hp) (Q : VK) (E : XK), sp as H Q E → as.length = ps.length)
    (hbody : ∀ (cdv : Value) (A : Around) (outer : List Env) (s : Shared) (H : Hp) (vs : List V) (Q : VK) (E : XK), Room k (A.deeper (envOfC qual (defScope st) s.heap.objs.size f cdv)) → A.guards = some [] → sp vs H Q E →
      ∃ t, PSs (cxOf CX0 P w K mg base N qual (defScope st) f cdv A outer s H E).nox (defBody st) t ∧ t { nx := fun _ H' => Q .non H', rt := Q } (start N vs) H) : FnG P w K mg base (k + 1) f fd ps sp := by
  rcases F.ex with ⟨oc, od, kV, doc, pm, an, cdv, ct, osl, rfl, lk, hcd⟩
  refine ⟨len, fun A callers s H ar us vs Q hr hg e0 hb rv hsp => ?_⟩
  have inK : K.In s.heap := e0.mod.kin.keeps fun b o e => (e0.bs b o e).1
  have knd : ∀ y ∈ ps.zip us, (defScope st).names.lookup y.1 = some .local ∨ ((defScope st).names.lookup y.1 = some .cell ∧ ((cellsFrom (s.heap.objs.size + 1) (defScope st).names []).lookup y.1).isSome = true) := by
    rintro ⟨n, v⟩ hy
    exact (S.par n (List.of_mem_zip hy).1).imp id fun q => ⟨q, PySem.W.cellsFrom_some _ _ _ (.inl q)⟩
  refine codeAny_call_function hr.depth (inK _ _ lk) rfl S.co S.gen rfl (PySem.W.codeRec_of inK hcd) (hb _ _ _ _ (wpAny_newFunctionEnv_cells S.kind knd fun env he s1 x => ?_))
  subst he
  refine ⟨(e0.mod.nolimit.keeps fun b o e => (e0.bs b o e).1).keeps x.toInCall.keep, codeAny_func ?_⟩
  obtain ⟨t, ht, hq⟩ := hbody cdv A callers s H vs Q E0 (hr.deeper _) hg hsp
  have I0 := inv_start (CX := CX0) (E := E0) S hr.hd e0 (len _ _ _ _ hsp) rv x
  refine wpAny_mono (ht.nox.run [] s1 (start N vs) H _ I0 hq) (fun fl s' hs => ?_) fun e s' hs => hs
  cases fl with
  | ret u =>
    obtain ⟨v, σ', H', J, r1, q1⟩ := hs
    exact ⟨v, H', J.os, J.bare, J.base, J.hok, r1, q1⟩
  | next =>
    obtain ⟨σ', H', J, q1⟩ := hs
    exact ⟨.non, H', J.os, J.bare, J.base, J.hok, rfl, q1⟩
  | brk => exact absurd hs (by rintro ⟨_, _, _, q1⟩; exact q1)
  | cont => exact absurd hs (by rintro ⟨_, _, _, q1⟩; exact q1)
theorem pe_callG {X : Cx} {x : Str} {p pos : Pos} {e : Expr} {es : List Expr} {t : TA} {k : Nat} {f : Addr} {fd : FuncData} {ps : List Str} {sp : Sp} {ds : List Value} {dvs : List V} (F : FnG X.prog X.w X.K X.mg X.base k f fd ps sp) (hr : Room k X.A) (hgd : X.A.guards = some []) (hg : Gl X x) (hm : X.mg x = some (.ref f)) (hk : PySem.W.keepIn X.K (.ref f) = true)
    (hb : Binds X.K fd ps ds) (hd : Vals dvs ds) (ha : PA X (e :: es) t) (hdb : (x == ("__debug__" : Str)) = false := by decide) (he : starEach (e :: es) X.env = (false, eval e X.env) :: starEach es X.env := by rfl) (hpl : (backTo pos (starEach es X.env)).any (·.1) = false := by rfl) :
    PE X (Expr.Call (.Name x p) (e :: es) [] pos) (tCall sp dvs E0 t) := by
  refine ⟨fun pins s σ H Q I h => wpAny_Call_Name_kw (ld_glob I hg hm ?_ hdb)⟩
  refine PySem.W.callWith_K (h₀ := X.base) I.ok.mod.kin hk (thn (ha.run pos pins s σ H _ I h) fun us s1 ⟨vs, H1, I1, r, q⟩ => And.intro I1.kIn ?_) he hpl
  have rr : Vals (vs ++ dvs) (us ++ ds) := r.append hd
  have ll : (us ++ ds).length = ps.length := rr.length.symm.trans (F.len _ _ _ _ q)
  refine wpAny_call (codeAny_mono (F.go X.A X.stack s1 H1 ⟨us, []⟩ (us ++ ds) (vs ++ dvs) Q hr hgd I1.env0 (hb s1 us I1.kIn ll) rr q) fun rs s' hq => ?_)
  match rs, hq with
  | .ok (.ret u), hq => exact I1.after hq
/-! ### repr of data -/
/-- repr(x), x a list or a tuple of data -/
def rRepr (K : PySem.W.Frag) : List V → Hp → VK → Prop := fun xs H Q => ∃ x d, xs = [x] ∧ Dp K H x d ∧ d.showable = true ∧ d.hasDict = false ∧ d.depth ≤ 60 ∧ d.shown.length ≤ 16777216 ∧ (∀ z, d ≠ .str z) ∧ (∀ b, d ≠ .bool b) ∧ d ≠ .none ∧ Q (.str d.shown) H
theorem call_reprD {X : Cx} (hgd : X.A.guards = some []) (hu : X.A.units + 64 < cLine) : CallR X (.builtin "repr") (rRepr X.K) := by
  intro pins s σ H xs us Q I r h0; have h := h0
  obtain ⟨x, d, rfl, hd, hs, hnd, hdp, hz, n1, n2, n3, q⟩ := h
  rcases vals1 r with ⟨u, rfl, rx⟩
  have fin : ∀ {as : List Addr} {a : Addr}, Reads s.heap (.ref a) d as → wpAny (model X.prog X.w) X.A (call (.builtin "repr") [.ref a]) (EP X pins σ Q) X.xe s := fun {as a} rd =>
    repr_of_reads' rd hs (fun h => by rw [hnd] at h; cases h) hgd (by omega) (fun _ _ e => e) (fun h' u' tk hk => ⟨.str d.shown, H, I.kept hk, ⟨u', rfl⟩, q⟩) hz
  obtain ⟨as, rd⟩ := Dp.reads I d x u hd rx
  cases hd with
  | non => exact absurd rfl n3
  | bl b => exact absurd rfl (n2 b)
  | int i =>
    obtain ⟨t, rfl⟩ := rx
    have hi : i.natAbs.log2 < 1920 := by
      have : (PyData.int i).showable = true := hs
      simpa only [PyData.showable, decide_eq_true_eq] using this
    have e : (PyData.int i).shown = (toString i : String) := by simp only [PyData.shown]
    rw [e] at q
    exact PySem.P.repr_of_int hi ⟨.str _, H, I.tok _, ⟨_, rfl⟩, q⟩
  | str z => exact absurd rfl (n1 z)
  | lst hq ha => cases rx; exact fin rd
  | tup hq ha => cases rx; exact fin rd
/-! ### values of any kind -/
mutual
/-- v is the data d; no list and no dict of it lies at an address of N -/
inductive Gd (N : List Addr) (H : Hp) : V → PyData → Prop where
  | non : Gd N H .non .none
  | bl (b : Bool) : Gd N H (.bl b) (.bool b)
  | int (i : Int) : Gd N H (.int i) (.int i)
  | str (x : Str) : Gd N H (.str x) (.str x)
  | tup {a : Addr} {xs : List V} {ds : List PyData} : H a = some (.tup xs) → GdAll N H xs ds → Gd N H (.ref a) (.tuple ds)
  | lst {a : Addr} {xs : List V} {ds : List PyData} : H a = some (.lst xs) → a ∉ N → a ≠ 1 → GdAll N H xs ds → Gd N H (.ref a) (.list ds)
  | dic {a : Addr} (kvs : List (Str × Int)) : H a = some (.dK (kvs.map fun p => (.inr p.1, .int p.2))) → a ∉ N → Gd N H (.ref a) (.dict (kvs.map fun p => (.str p.1, .int p.2)))
inductive GdAll (N : List Addr) (H : Hp) : List V → List PyData → Prop where
  | nil : GdAll N H [] []
  | cons {v : V} {vs : List V} {d : PyData} {ds : List PyData} : Gd N H v d → GdAll N H vs ds → GdAll N H (v :: vs) (d :: ds)
end
/-- tuples stand, lists and dicts outside N stand -/
structure Kp (N : List Addr) (H H' : Hp) : Prop where
  t : Tk H H'
  l : ∀ b xs, b ∉ N → H b = some (.lst xs) → H' b = some (.lst xs)
  d : ∀ b ks, b ∉ N → H b = some (.dK ks) → H' b = some (.dK ks)
theorem Sx.kp0 {N : List Addr} {H H' : Hp} (s : Sx [] H H') : Kp N H H' := ⟨s.tk0, fun b xs _ e => s b _ (by simp) e, fun b ks _ e => s b _ (by simp) e⟩
theorem Sx.kp {N ex : List Addr} {H H' : Hp} (s : Sx ex H H') (h : ∀ b ∈ ex, b ∈ N ∧ ∃ ys, H b = some (.lst ys)) : Kp N H H' :=
  ⟨s.tk fun b hb => (h b hb).2, fun b xs hn e => s b _ (fun z => hn (h b z).1) e, fun b ks hn e => s b _ (fun z => hn (h b z).1) e⟩
theorem Kp.trans {N : List Addr} {H H1 H2 : Hp} (a : Kp N H H1) (b : Kp N H1 H2) : Kp N H H2 := ⟨a.t.trans b.t, fun x xs n e => b.l x xs n (a.l x xs n e), fun x xs n e => b.d x xs n (a.d x xs n e)⟩
theorem Kp.refl (N : List Addr) (H : Hp) : Kp N H H := ⟨Tk.refl H, fun _ _ _ e => e, fun _ _ _ e => e⟩
theorem Kp.mono {N M : List Addr} {H H' : Hp} (a : Kp N H H') (h : ∀ b ∈ N, b ∈ M) : Kp M H H' := ⟨a.t, fun b xs n e => a.l b xs (fun z => n (h b z)) e, fun b xs n e => a.d b xs (fun z => n (h b z)) e⟩
/-- a list of one's own is written anew -/
theorem Kp.own {N : List Addr} {H : Hp} {p : Addr} {ys zs : List V} (e : H p = some (.lst ys)) (n : p ∈ N) : Kp N H (upd H p (.lst zs)) :=
  ⟨Tk.lst e, fun b xs hb h => by rw [upd_ne (fun z => hb (by rw [z]; exact n))]; exact h, fun b xs hb h => by rw [upd_ne (fun z => hb (by rw [z]; exact n))]; exact h⟩
mutual
theorem Gd.keep {N : List Addr} {H H' : Hp} (k : Kp N H H') : ∀ {v : V} {d : PyData}, Gd N H v d → Gd N H' v d
  | _, _, .non => .non
  | _, _, .bl b => .bl b
  | _, _, .int i => .int i
  | _, _, .str x => .str x
  | _, _, .tup h a => .tup (k.t _ _ h) (GdAll.keep k a)
  | _, _, .lst h n m a => .lst (k.l _ _ n h) n m (GdAll.keep k a)
  | _, _, .dic kvs h n => .dic kvs (k.d _ _ n h) n
theorem GdAll.keep {N : List Addr} {H H' : Hp} (k : Kp N H H') : ∀ {vs : List V} {ds : List PyData}, GdAll N H vs ds → GdAll N H' vs ds
  | _, _, .nil => .nil
  | _, _, .cons a b => .cons (Gd.keep k a) (GdAll.keep k b)
end
mutual
theorem Gd.anti {N M : List Addr} {H : Hp} (k : ∀ b ∈ M, b ∈ N) : ∀ {v : V} {d : PyData}, Gd N H v d → Gd M H v d
  | _, _, .non => .non
  | _, _, .bl b => .bl b
  | _, _, .int i => .int i
  | _, _, .str x => .str x
  | _, _, .tup h a => .tup h (GdAll.anti k a)
  | _, _, .lst h n m a => .lst h (fun z => n (k _ z)) m (GdAll.anti k a)
  | _, _, .dic kvs h n => .dic kvs h (fun z => n (k _ z))
theorem GdAll.anti {N M : List Addr} {H : Hp} (k : ∀ b ∈ M, b ∈ N) : ∀ {vs : List V} {ds : List PyData}, GdAll N H vs ds → GdAll M H vs ds
  | _, _, .nil => .nil
  | _, _, .cons a b => .cons (Gd.anti k a) (GdAll.anti k b)
end
mutual
theorem Tp.gd {N : List Addr} {H : Hp} : ∀ {v : V} {d : PyData}, Tp H v d → Gd N H v d
  | _, _, .non => .non
  | _, _, .bl b => .bl b
  | _, _, .int i => .int i
  | _, _, .str x => .str x
  | _, _, .tup h a => .tup h (TpAll.gd a)
theorem TpAll.gd {N : List Addr} {H : Hp} : ∀ {vs : List V} {ds : List PyData}, TpAll H vs ds → GdAll N H vs ds
  | _, _, .nil => .nil
  | _, _, .cons a b => .cons (Tp.gd a) (TpAll.gd b)
end
mutual
/-- no list and no dict in it -/
def plainD : PyData → Bool
  | .list _ => false
  | .dict _ => false
  | .tuple xs => plainL xs
  | _ => true
def plainL : List PyData → Bool
  | [] => true
  | d :: r => plainD d && plainL r
end
mutual
theorem Gd.tp {N : List Addr} {H : Hp} : ∀ {v : V} {d : PyData}, Gd N H v d → plainD d = true → Tp H v d
  | _, _, .non, _ => .non
  | _, _, .bl b, _ => .bl b
  | _, _, .int i, _ => .int i
  | _, _, .str x, _ => .str x
  | _, _, .tup h a, p => .tup h (GdAll.tp a (by simpa only [plainD] using p))
  | _, _, .lst _ _ _ _, p => by simp only [plainD] at p; cases p
  | _, _, .dic _ _ _, p => by simp only [plainD] at p; cases p
theorem GdAll.tp {N : List Addr} {H : Hp} : ∀ {vs : List V} {ds : List PyData}, GdAll N H vs ds → plainL ds = true → TpAll H vs ds
  | _, _, .nil, _ => .nil
  | _, _, .cons a b, p => by
    simp only [plainL, Bool.and_eq_true] at p
    exact .cons (Gd.tp a p.1) (GdAll.tp b p.2)
end
theorem Gd.new {N : List Addr} {H : Hp} {v : V} {d : PyData} {p : Addr} {o : HO} (h : Gd N H v d) (n : H p = none) : Gd N (upd H p o) v d := h.keep (Sx.n0 n).kp0
theorem GdAll.new {N : List Addr} {H : Hp} {vs : List V} {ds : List PyData} {p : Addr} {o : HO} (h : GdAll N H vs ds) (n : H p = none) : GdAll N (upd H p o) vs ds := h.keep (Sx.n0 n).kp0
theorem Gd.tuple {N : List Addr} {H : Hp} {v : V} {ds : List PyData} (h : Gd N H v (.tuple ds)) : ∃ a xs, v = .ref a ∧ H a = some (.tup xs) ∧ GdAll N H xs ds := by
  cases h with
  | tup h a => exact ⟨_, _, rfl, h, a⟩
theorem GdAll.len {N : List Addr} {H : Hp} : ∀ {vs : List V} {ds : List PyData}, GdAll N H vs ds → vs.length = ds.length
  | _, _, .nil => rfl
  | _, _, .cons _ b => by rw [List.length_cons, List.length_cons, GdAll.len b]
theorem GdAll.get {N : List Addr} {H : Hp} : ∀ {vs : List V} {ds : List PyData} {i : Nat} {v : V}, GdAll N H vs ds → vs[i]? = some v → ∃ d, ds[i]? = some d ∧ Gd N H v d
  | _, _, 0, _, .cons a _, e => ⟨_, rfl, by cases e; exact a⟩
  | _, _, i + 1, _, .cons _ b, e => GdAll.get (i := i) b e
theorem GdAll.append {N : List Addr} {H : Hp} : ∀ {vs ws : List V} {ds es : List PyData}, GdAll N H vs ds → GdAll N H ws es → GdAll N H (vs ++ ws) (ds ++ es)
  | _, _, _, _, .nil, h => h
  | _, _, _, _, .cons a b, h => .cons a (GdAll.append b h)
theorem GdAll.take {N : List Addr} {H : Hp} : ∀ (n : Nat) {vs : List V} {ds : List PyData}, GdAll N H vs ds → GdAll N H (vs.take n) (ds.take n)
  | 0, _, _, _ => .nil
  | _ + 1, _, _, .nil => .nil
  | n + 1, _, _, .cons a b => .cons a (GdAll.take n b)
theorem GdAll.drop {N : List Addr} {H : Hp} : ∀ (n : Nat) {vs : List V} {ds : List PyData}, GdAll N H vs ds → GdAll N H (vs.drop n) (ds.drop n)
  | 0, _, _, h => h
  | _ + 1, _, _, .nil => .nil
  | n + 1, _, _, .cons _ b => GdAll.drop n b
theorem GdAll.rev {N : List Addr} {H : Hp} : ∀ {vs : List V} {ds : List PyData}, GdAll N H vs ds → GdAll N H vs.reverse ds.reverse
  | _, _, .nil => .nil
  | _, _, .cons a b => by
    rw [List.reverse_cons]; rw [List.reverse_cons]
    exact (GdAll.rev b).append (.cons a .nil)
/-! ### of which class -/
def tyN : PyData → String
  | .none => "NoneType"
  | .bool _ => "bool"
  | .int _ => "int"
  | .str _ => "str"
  | .list _ => "list"
  | .tuple _ => "tuple"
  | .dict _ => "dict"
theorem Gd.ty {N : List Addr} {K : PySem.W.Frag} {H : Hp} {v : V} {d : PyData} (h : Gd N H v d) : TyX K H v (.type (tyN d)) := by
  cases h with
  | non => exact .base .non
  | bl b => exact .base (.bl b)
  | int i => exact .base (.int i)
  | str x => exact .base (.str x)
  | tup h _ => exact .base (.tup h)
  | lst h _ _ _ => exact .base (.lst h)
  | dic _ h _ => exact .base (.dK h)
def isTup : PyData → Bool
  | .tuple _ => true
  | _ => false
def isStr : PyData → Bool
  | .str _ => true
  | _ => false
def isBol : PyData → Bool
  | .bool _ => true
  | _ => false
def isInb : PyData → Bool
  | .int _ => true
  | .bool _ => true
  | _ => false
def isInt : PyData → Bool
  | .int _ => true
  | _ => false
theorem kb_tuple (d : PyData) : kitB (tyN d) "tuple" = some (isTup d) := by cases d <;> (simp only [tyN, isTup]; decide +kernel)
theorem kb_str (d : PyData) : kitB (tyN d) "str" = some (isStr d) := by cases d <;> (simp only [tyN, isStr]; decide +kernel)
theorem kb_bool (d : PyData) : kitB (tyN d) "bool" = some (isBol d) := by cases d <;> (simp only [tyN, isBol]; decide +kernel)
theorem kb_int (d : PyData) : kitB (tyN d) "int" = some (isInb d) := by cases d <;> (simp only [tyN, isInb]; decide +kernel)
/-! ### a value and a text, by == -/
section
open PySem.SeqAt PySem.AutoSeq1 PySem.MeetsSeq
theorem dic_text {l : Addr} {items : Array DictEntry} {n : Nat} {dd : Option Addr} {sl : Array (Option Value)} (b : Str) (u : Tok) :
    Meets (Builtin.«dict.__eq__» ⟨[.ref l, .str b u], []⟩) (fun _ R s => s.heap.get? l = some { cls := .type "dict", dict := dd, data := .dict items n, slots := sl } ∧ R (.ok (.ret .notImplemented)) s) :=
  .of_wp fun prog w A R s h => by obtain ⟨hp, g, d, tk, os⟩ := s; obtain ⟨hl, h⟩ := h; have f1 := PySem.F.sub_str_dict; wp_walk using wpAny_loadPart' hl; exact ⟨_, rfl, h⟩
theorem text_dic (b : Str) (u : Tok) (l : Addr) (items : Array DictEntry) (n : Nat) (dd : Option Addr) (sl : Array (Option Value)) :
    Meets (Builtin.«str.__eq__» ⟨[.str b u, .ref l], []⟩) (fun _ R s => s.heap.get? l = some { cls := .type "dict", dict := dd, data := .dict items n, slots := sl } ∧ R (.ok (.ret .notImplemented)) s) :=
  .of_wp fun prog w A R s h => by obtain ⟨h1, h2, h3, h4, h5⟩ := s; obtain ⟨hl, h⟩ := h; wp_walk using wpAny_loadPart' hl, wpAny_load hl; exact ⟨_, rfl, h⟩
theorem rc_dic_text {A : Around} {s : Shared} {l : Addr} {o : Obj} {es : Array DictEntry} {ep : Nat} (b : Str) (u : Tok) (ho : s.heap.get? l = some o) (hc : o.ExactDict) (hd : o.data = .dict es ep) (hu : A.units < cLine) : RcAt A s (.ref l) (.str b u) false := fun prog w E Q h => by
  obtain ⟨cls, dd, data, sl⟩ := o
  obtain ⟨hc, _, _⟩ := hc
  simp only at hc hd
  subst hc hd
  exact rc_eq_decline_or (k := false) ⟨_, ho, rfl⟩ (typeIs_str s b u) (by decide) PySem.F.sub_str_dict PySem.F.slot_dict_eq PySem.F.slot_str_eq_refl
    (fun _ hq => call_meets PySem.F.slot_dict_eq ⟨_, ho, rfl⟩ PySem.F.entry_dict_eq (PySem.F.args_dict_eq_2 _ _) (dic_text b u) ⟨ho, hq⟩)
    (fun _ hq => call_meets PySem.F.slot_str_eq_refl (typeIs_str s b u) PySem.F.entry_str_eq (PySem.F.args_str_eq_2 _ _) (text_dic b u l es ep dd sl) ⟨ho, hq⟩)
    (fun _ same => wpAny_of_eq (rfl : isSame (.ref l) (.str b u) = pure false) same) (.inr hu) h
/-- it is that text -/
def isTx (z : Str) : PyData → Bool
  | .str y => decide (V.str y = V.str z)
  | _ => false
def rEqS : R2 := fun x y H Q => ∃ (N : List Addr) (d : PyData) (z : Str), y = .str z ∧ Gd N H x d ∧ Q (.bl (isTx z d)) H
theorem op_eqS {X : Cx} (hu0 : X.A.units + 64 < cLine) : OpR X (compareOp .Eq) rEqS := by
  intro pins s σ H x y v u Q I rx ry asked
  have hu : X.A.units < cLine := by omega
  obtain ⟨N, d, z, rfl, hd, q⟩ := asked
  cases hd with
  | non => exact op_eq pins s σ H _ _ v u Q I rx ry ⟨rfl, by rw [decide_eq_false (by simp)]; exact q⟩
  | bl b => exact op_eq pins s σ H _ _ v u Q I rx ry ⟨rfl, by rw [decide_eq_false (by simp)]; exact q⟩
  | int i => exact op_eq pins s σ H _ _ v u Q I rx ry ⟨rfl, by rw [decide_eq_false (by simp)]; exact q⟩
  | str t => exact op_eq pins s σ H _ _ v u Q I rx ry ⟨rfl, q⟩
  | tup ha _ =>
    cases rx
    obtain ⟨t, rfl⟩ := ry
    obtain ⟨its, _, pl, _⟩ := I.tuple (SqT.of ha)
    exact RcAt.tuple_str z t pl hu _ _ _ _ ⟨.bl _, H, I, rfl, q⟩
  | lst ha _ _ _ =>
    cases rx
    obtain ⟨t, rfl⟩ := ry
    obtain ⟨its, _, pl, _⟩ := I.list (SqL.of ha)
    exact RcAt.list_str z t pl.isList hu _ _ _ _ ⟨.bl _, H, I, rfl, q⟩
  | dic kvs ha _ =>
    cases rx
    obtain ⟨t, rfl⟩ := ry
    obtain ⟨_, _, vs, _, o, es, ep, ho, hc, hd, _⟩ := (show ObjOk X.prog X.w H s.heap _ (.dK _) from I.hok _ _ ha)
    exact rc_dic_text z t ho hc hd hu _ _ _ _ ⟨.bl _, H, I, rfl, q⟩
/-! ### a tuple and the empty one, by == -/
def isNl : PyData → Bool
  | .tuple [] => true
  | _ => false
def rEqE : R2 := fun x y H Q => ∃ (N : List Addr) (ds : List PyData) (b : Addr), y = .ref b ∧ H b = some (.tup []) ∧ Gd N H x (.tuple ds) ∧ Q (.bl (isNl (.tuple ds))) H
theorem op_eqE {X : Cx} (hu0 : X.A.units + 64 < cLine) : OpR X (compareOp .Eq) rEqE := by
  intro pins s σ H x y v u Q I rx ry asked
  have hu : X.A.units < cLine := by omega
  obtain ⟨N, ds, b, rfl, hb, hd, q⟩ := asked
  obtain ⟨a, xs, rfl, ha, hx⟩ := hd.tuple
  cases rx
  cases ry
  obtain ⟨its, rv, pl, _⟩ := I.tuple (SqT.of ha)
  obtain ⟨its2, rv2, pl2, _⟩ := I.tuple (SqT.of hb)
  cases rv2
  refine RcAt.tuples (e := fun _ => false) pl pl2 hu (fun j j1 j2 => absurd j2 (by simp)) _ _ _ _ ⟨.bl _, H, I, ?_, q⟩
  have h1 := rv.length
  have h2 := hx.len
  cases ds with
  | nil =>
    obtain rfl : xs = [] := List.length_eq_zero_iff.mp (by simpa using h2)
    cases rv
    rfl
  | cons d r =>
    obtain ⟨x0, xs0, rfl⟩ : ∃ x0 xs0, xs = x0 :: xs0 := by
      cases xs with
      | nil => simp at h2
      | cons x0 xs0 => exact ⟨_, _, rfl⟩
    cases rv with
    | cons _ _ => rfl
end
theorem wA_len : ∀ xs : List PyData, xs.length ≤ PyData.weightAll xs
  | [] => Nat.zero_le _
  | _ :: xs => by
    have := wA_len xs
    simp only [PyData.weightAll, List.length_cons]
    omega
/-! ### data that repr shows -/
structure ShG (k n : Nat) (d : PyData) : Prop where
  s : d.showable = true
  l : d.leavesShort 201 = true
  dp : d.depth ≤ k
  w : d.weight ≤ n
structure ShGA (k n : Nat) (ds : List PyData) : Prop where
  s : PyData.showableAll ds = true
  l : PyData.leavesShortAll 201 ds = true
  dp : PyData.depthAll ds ≤ k
  w : PyData.weightAll ds ≤ n
namespace ShG
theorem mono {k n k' n' : Nat} {d : PyData} (h : ShG k n d) (hk : k ≤ k') (hn : n ≤ n') : ShG k' n' d := ⟨h.s, h.l, Nat.le_trans h.dp hk, Nat.le_trans h.w hn⟩
theorem int {i : Int} {n : Nat} (h : i.natAbs < 2 ^ n) (h0 : 0 < n) (hn : n ≤ 200) (k : Nat) : ShG k n (.int i) := by
  have l := PySem.Flt.log2_lt_of h0 h
  have l' : i.natAbs.log2 < 200 := by omega
  refine ⟨by simp only [PyData.showable, decide_eq_true_eq]; omega, ?_, by simp only [PyData.depth]; omega, ?_⟩
  · simp only [PyData.leavesShort, decide_eq_true_eq, PyData.shown]
    exact decide_eq_true (by rw [PySem.ofString_length]; exact PySem.int_text_length_le (k := 200) (by decide) l')
  · simp only [PyData.weight]
    split <;> omega
theorem str {z : Str} (h : PyData.strOk z = true) (k n : Nat) (hn : z.length ≤ n) : ShG k n (.str z) := by
  refine ⟨by simp only [PyData.showable], ?_, by simp only [PyData.depth]; omega, by simp only [PyData.weight]; exact hn⟩
  simp only [PyData.leavesShort]
  rw [List.all_eq_true]
  intro c hc
  unfold PyData.strOk at h
  rw [Array.all_eq_true'] at h
  have := of_decide_eq_true (h c (Array.mem_toList_iff.mp hc))
  have e : (16 : Nat) ^ 8 = 4294967296 := rfl
  refine decide_eq_true ?_; omega
theorem tup {k n : Nat} {ds : List PyData} (h : ShGA k n ds) : ShG (k + 1) n (.tuple ds) :=
  ⟨by simp only [PyData.showable]; exact h.s, by simp only [PyData.leavesShort]; exact h.l, by simp only [PyData.depth]; have := h.dp; omega, by simp only [PyData.weight]; exact h.w⟩
theorem lst {k n : Nat} {ds : List PyData} (h : ShGA k n ds) : ShG (k + 1) n (.list ds) :=
  ⟨by simp only [PyData.showable]; exact h.s, by simp only [PyData.leavesShort]; exact h.l, by simp only [PyData.depth]; have := h.dp; omega, by simp only [PyData.weight]; exact h.w⟩
/-- what repr asks -/
theorem len {k n : Nat} {d : PyData} (h : ShG k n d) (hn : n ≤ 80000) : d.shown.length ≤ 16777216 := by
  have := PyData.shown_le 201 (by decide) d h.l
  have := h.w
  omega
end ShG
namespace ShGA
theorem nil (k n : Nat) : ShGA k n [] := ⟨by simp only [PyData.showableAll], by simp only [PyData.leavesShortAll], by simp only [PyData.depthAll]; omega, by simp only [PyData.weightAll]; omega⟩
theorem cons {k n m : Nat} {d : PyData} {ds : List PyData} (h : ShG k n d) (hs : ShGA k m ds) : ShGA k (n + 1 + m) (d :: ds) := by
  refine ⟨?_, ?_, ?_, ?_⟩
  · simp only [PyData.showableAll, h.s, hs.s, Bool.and_self]
  · simp only [PyData.leavesShortAll, h.l, hs.l, Bool.and_self]
  · simp only [PyData.depthAll]; have := h.dp; have := hs.dp; omega
  · simp only [PyData.weightAll]; have := h.w; have := hs.w; omega
theorem mono {k n k' n' : Nat} {d : List PyData} (h : ShGA k n d) (hk : k ≤ k') (hn : n ≤ n') : ShGA k' n' d := ⟨h.s, h.l, Nat.le_trans h.dp hk, Nat.le_trans h.w hn⟩
theorem allInt {l : List Int} {n : Nat} (h0 : 0 < n) (hn : n ≤ 200) (h : ∀ i ∈ l, i.natAbs < 2 ^ n) (k : Nat) : ShGA k ((n + 1) * l.length) (l.map PyData.int) := by
  induction l with
  | nil => exact .nil _ _
  | cons i l ih =>
    refine (ShGA.cons (ShG.int (h i (by simp)) h0 hn k) (ih fun j hj => h j (List.mem_cons_of_mem _ hj))).mono (Nat.le_refl _) ?_
    rw [List.length_cons, Nat.mul_succ]
    omega
end ShGA
theorem smG {i : Int} (h1 : -120 ≤ i) (h2 : i ≤ 120) (k : Nat) : ShG k 7 (.int i) := by
  have e : (2 : Nat) ^ 7 = 128 := by decide
  exact ShG.int (by omega) (by decide) (by decide) k
/-! ### repr of values of any kind -/
theorem ShG.non (k n : Nat) : ShG k n .none := ⟨by simp only [PyData.showable], by simp only [PyData.leavesShort], by simp only [PyData.depth]; omega, by simp only [PyData.weight]; omega⟩
theorem ShG.bl (b : Bool) (k n : Nat) : ShG k n (.bool b) := ⟨by simp only [PyData.showable], by simp only [PyData.leavesShort], by simp only [PyData.depth]; omega, by simp only [PyData.weight]; omega⟩
theorem sys1 : PySem.sysModules = (1 : Nat) := rfl
theorem dic_reads {h : Heap} {P : Program} {w : World} : ∀ {kvs : List (Str × Int)} {vs : List (Key × Value)} {es : List DictEntry}, KV (kvs.map fun p => ((.inr p.1 : Key), V.int p.2)) vs → PySem.Pairs (mixKind P w) es vs →
    ReadsAll h (es.map (·.key)) ((kvs.map fun p => (PyData.str p.1, PyData.int p.2)).map (·.1)) [] ∧ ReadsAll h (es.map (·.val)) ((kvs.map fun p => (PyData.str p.1, PyData.int p.2)).map (·.2)) []
  | [], _, _, r, p => by
    cases r
    cases p
    exact ⟨.nil, .nil⟩
  | (z, i) :: kvs, _, _, r, p => by
    cases r with
    | @cons a b as bs r1 r2 =>
      cases p with
      | @cons e kv es kvs' h1 h2 h3 =>
        obtain ⟨i1, i2⟩ := dic_reads (h := h) r2 h3
        obtain ⟨k0, v0⟩ := b
        obtain ⟨e1, t, e2⟩ := r1
        have e1 : (.inr z : Key) = k0 := e1
        subst e1
        have e2 : v0 = Value.int i t := e2
        have h2 : e.val = v0 := h2
        have h1 : keyIs (.inr z) e.key = true := h1
        rcases keyIs_shape h1 with ⟨_, _, q, _⟩ | ⟨x, u, q, e3⟩
        · cases q
        · cases q
          obtain ⟨ha, ky, va⟩ := e
          have e3 : ky = Value.str z u := e3
          have h2 : va = v0 := h2
          subst h2
          subst e2
          subst e3
          exact ⟨ReadsAll.cons (as := []) (bs := []) (.str z u) i1, ReadsAll.cons (as := []) (bs := []) (.int i t) i2⟩
section
variable {X : Cx} {pins : List (Addr × Obj)} {σ : L2.St} {H : Hp} {s : Shared} {N : List Addr}
mutual
theorem Gd.reads (I : Inv X pins σ H s) : ∀ {v : V} {d : PyData}, Gd N H v d → ∀ u : Value, RelV v u → ∃ as, Reads s.heap u d as ∧ PySem.sysModules ∉ as
  | _, _, .non, _, r => by cases r; exact ⟨_, Reads.none, by simp⟩
  | _, _, .bl b, _, r => by cases r; exact ⟨_, Reads.bool b, by simp⟩
  | _, _, .int i, _, r => by obtain ⟨t, rfl⟩ := r; exact ⟨_, Reads.int i t, by simp⟩
  | _, _, .str x, _, r => by obtain ⟨t, rfl⟩ := r; exact ⟨_, Reads.str x t, by simp⟩
  | _, _, .tup h a, _, r => by
    cases r
    obtain ⟨its, rv, ⟨o, ho, hc, n, hd⟩, _⟩ := I.tuple (SqT.of h)
    obtain ⟨as, hr, hn⟩ := GdAll.reads I a its rv
    exact ⟨_, Reads.tuple ho hc hd hr, hn⟩
  | _, _, .lst (a := p) h _ h1 a, _, r => by
    cases r
    obtain ⟨its, rv, ⟨o, n, ho, hc, _, hd⟩, _⟩ := I.list (SqL.of h)
    obtain ⟨as, hr, hn⟩ := GdAll.reads I a its rv
    refine ⟨_, Reads.list ho hc hd hr, fun hm => ?_⟩
    rcases List.mem_cons.1 hm with e | hm
    · exact h1 e.symm
    · exact hn hm
  | _, _, .dic (a := p) kvs h _, _, r => by
    cases r
    obtain ⟨_, hd, vs, rel, o, es, ep, ho, hx, hdt, _, hp, _⟩ := dk_of I.hok h
    obtain ⟨i1, i2⟩ := dic_reads (h := s.heap) rel hp
    refine ⟨_, Reads.dict ho hx.1 hdt i1 i2, fun hm => ?_⟩
    have e : PySem.sysModules = p := by simpa using hm
    rw [← e] at hd
    simp at hd
theorem GdAll.reads (I : Inv X pins σ H s) : ∀ {vs : List V} {ds : List PyData}, GdAll N H vs ds → ∀ us : List Value, Vals vs us → ∃ as, ReadsAll s.heap us ds as ∧ PySem.sysModules ∉ as
  | _, _, .nil, _, r => by cases r; exact ⟨_, ReadsAll.nil, by simp⟩
  | _, _, .cons a b, _, r => by
    cases r with
    | cons r1 r2 =>
      obtain ⟨as, q1, n1⟩ := Gd.reads I a _ r1
      obtain ⟨bs, q2, n2⟩ := GdAll.reads I b _ r2
      exact ⟨_, ReadsAll.cons q1 q2, fun hm => (List.mem_append.1 hm).elim n1 n2⟩
end
end
def rReprG : List V → Hp → VK → Prop := fun xs H Q => ∃ (N : List Addr) (x : V) (d : PyData), xs = [x] ∧ Gd N H x d ∧ ShG 60 80000 d ∧ Q (.str d.shown) H
theorem call_reprG {X : Cx} (hgd : X.A.guards = some []) (hu : X.A.units + 64 < cLine) : CallR X (.builtin "repr") rReprG := by
  intro pins s σ H xs us Q I r h0; have h := h0
  obtain ⟨N, x, d, rfl, hd, sh, q⟩ := h
  rcases vals1 r with ⟨u, rfl, rx⟩
  have hz := sh.len (Nat.le_refl _)
  have hdp := sh.dp
  obtain ⟨as, rd, hns⟩ := hd.reads I u rx
  have fin : ∀ {a : Addr}, Reads s.heap (.ref a) d as → wpAny (model X.prog X.w) X.A (call (.builtin "repr") [.ref a]) (EP X pins σ Q) X.xe s := fun {a} rd =>
    repr_of_reads' rd sh.s (fun _ => hns) hgd (by omega) (fun _ _ e => e) (fun h' u' tk hk => ⟨.str d.shown, H, I.kept hk, ⟨u', rfl⟩, q⟩) hz
  cases hd with
  | non =>
    cases rx
    have e : PyData.shown .none = "None" := by simp only [PyData.shown]
    rw [e] at q
    exact PySem.P.repr_of_none ⟨.str _, H, I.tok _, ⟨_, rfl⟩, q⟩
  | bl b =>
    cases rx
    have e : (PyData.bool b).shown = (if b then "True" else "False" : Str) := by cases b <;> simp [PyData.shown]
    rw [e] at q
    exact PySem.P.repr_of_bool ⟨.str _, H, I.tok _, ⟨_, rfl⟩, q⟩
  | int i =>
    obtain ⟨t, rfl⟩ := rx
    have hi : i.natAbs.log2 < 1920 := by
      have : (PyData.int i).showable = true := sh.s
      simpa only [PyData.showable, decide_eq_true_eq] using this
    have e : (PyData.int i).shown = (toString i : String) := by simp only [PyData.shown]
    rw [e] at q
    exact PySem.P.repr_of_int hi ⟨.str _, H, I.tok _, ⟨_, rfl⟩, q⟩
  | str z =>
    obtain ⟨t, rfl⟩ := rx
    have e : (PyData.str z).shown = reprText z := by simp only [PyData.shown]
    rw [e] at q hz
    exact PySem.P.repr_of_str ⟨.str _, H, I.tok _, ⟨_, rfl⟩, q⟩ hz
  | tup _ _ => cases rx; exact fin rd
  | lst _ _ _ _ => cases rx; exact fin rd
  | dic _ _ _ => cases rx; exact fin rd
/-! ### lists as data -/
def tLstB (t : TA) : TE := fun σ H Q => t σ H fun xs H1 => xs.length ≤ sizeLine ∧ ∀ p, H1 p = none → p ≠ 1 → Q (.ref p) (upd H1 p (.lst xs))
theorem pe_lstB {X : Cx} {es : List Expr} {pos : Pos} {t : TA} (h : PA X es t) : PE X (.List es pos) (tLstB t) := by
  refine (⟨fun pins s σ H Q I hq => ?_⟩)
  refine (wpAny_List_spliced (thn (h.run pos pins s σ H _ I hq) fun us s1 ⟨xs, H1, I1, r, z, q⟩ => ⟨by rw [← r.length]; exact z, ?_⟩))
  have hf : (H1 s1.heap.objs.size = none) := I1.hok.fresh (Nat.le_refl _)
  have big := I1.big
  refine ⟨.ref s1.heap.objs.size, upd H1 s1.heap.objs.size (.lst xs), I1.laid (t' := s1.toks) (fun b u e => Heap.get?_push_of_some _ e) (Nat.le_refl _) ?_, rfl, q _ hf (Nat.ne_of_gt big)⟩
  exact (⟨z, us, 0, r, Heap.get?_push_size _ rfl⟩)
theorem call_list_ofB {X : Cx} : CallR X (.type "list") (fun xs H Q => ∃ p ys, xs = [.ref p] ∧ (SqL X.K H p ys ∨ SqT X.K H p ys) ∧ ∀ l, H l = none → l ≠ 1 → Q (.ref l) (upd H l (.lst ys))) := by
  intro pins s σ H xs us Q I r h0; have h := h0
  rcases h with ⟨p, ys, rfl, hq, q⟩
  rcases vals1 r with ⟨u, rfl, rx⟩
  cases rx
  have big := I.big
  have fin : ∀ (js : List Value), Vals ys js → ys.length ≤ sizeLine → ∀ (g : Heap) (m : Nat), (∀ b o', s.heap.get? b = some o' → g.get? b = some o') →
      g.get? s.heap.objs.size = some ⟨.type "list", none, .seq js.toArray m, #[]⟩ → EP X pins σ Q (.ref s.heap.objs.size) { s with heap := g } := fun its r' hz h' c' kp e =>
    ⟨.ref s.heap.objs.size, _, I.laid (t' := s.toks) kp (Nat.le_refl _) (show ObjOk X.prog X.w _ h' _ (.lst ys) from ⟨hz, its, c', r', e⟩), rfl, q _ (I.hok.fresh (Nat.le_refl _)) (Nat.ne_of_gt big)⟩
  rcases hq with hq | hq
  · rcases I.list hq with ⟨its, r', pl, hz⟩
    have hlen := r'.length
    rcases pl.isList with ⟨o, ho, hc, n, hd⟩
    exact (call_list_seq p (.inl rfl) ho hc hd (fun h' c' kp e => fin its r' hz h' c' kp e) (by simp only [List.size_toArray] <;> omega))
  · rcases I.tuple hq with ⟨its, r', pl, hz⟩
    have hlen := r'.length
    rcases pl with ⟨o, ho, hc, n, hd⟩
    exact (call_list_seq p (.inr rfl) ho hc hd (fun h' c' kp e => fin its r' hz h' c' kp e) (by simp only [List.size_toArray] <;> omega))
/-! ### one step of a reading -/
theorem gSeqAsg {te : TE} {g : TG} {u : TS} {D : Ends} {σ : L2.St} {H : Hp} (h : te σ H fun x H1 => g x σ H1 (u D)) : tSeq (tAsg te g) u D σ H := h
theorem gAsg {te : TE} {g : TG} {D : Ends} {σ : L2.St} {H : Hp} (h : te σ H fun x H1 => g x σ H1 D.nx) : tAsg te g D σ H := h
theorem gRet {te : TE} {D : Ends} {σ : L2.St} {H : Hp} (h : te σ H D.rt) : tRet te D σ H := h
theorem gCall {sp : Sp} {dvs : List V} {E : XK} {t : TA} {σ : L2.St} {H : Hp} {Q : VK} (h : t σ H fun vs H1 => sp (vs ++ dvs) H1 Q E) : tCall sp dvs E t σ H Q := h
theorem gCons {te : TE} {ta : TA} {σ : L2.St} {H : Hp} {Q : List V → Hp → Prop} (h : te σ H fun x H1 => ta σ H1 fun xs H2 => Q (x :: xs) H2) : tCons te ta σ H Q := h
theorem gVar {i : Nat} {v : V} {σ : L2.St} {H : Hp} {Q : VK} (e : σ[i]? = some (some v)) (h : Q v H) : tVar i σ H Q := ⟨v, e, h⟩
theorem gNil {σ : L2.St} {H : Hp} {Q : List V → Hp → Prop} (h : Q [] H) : tNil σ H Q := h
/-! ### written data -/
/-- the reading t makes a value of any kind, as deep and as large at most -/
def MkE (N : List Addr) (σ : L2.St) (H : Hp) (k n : Nat) (t : TE) : Prop := ∀ (H1 : Hp) (Q : VK), Sx [] H H1 → (∀ H2 v d, Sx [] H1 H2 → Gd N H2 v d → ShG k n d → Q v H2) → t σ H1 Q
/-- the same of values one behind the other -/
def GS (N : List Addr) (H : Hp) (k n : Nat) (vs : List V) : Prop := ∃ ds, GdAll N H vs ds ∧ ShGA k n ds
def MkA (N : List Addr) (σ : L2.St) (H : Hp) (k n m : Nat) (t : TA) : Prop := ∀ (H1 : Hp) (Q : List V → Hp → Prop), Sx [] H H1 → (∀ H2 vs, Sx [] H1 H2 → GS N H2 k n vs → vs.length = m → Q vs H2) → t σ H1 Q
section
variable {N : List Addr} {σ : L2.St} {H : Hp} {k n m : Nat}
theorem GS.len {vs : List V} (h : GS N H k n vs) : vs.length ≤ n := by
  obtain ⟨ds, h1, h2⟩ := h
  rw [h1.len]
  have := wA_len ds
  have := h2.w
  omega
theorem GS.keep {H' : Hp} {vs : List V} (s : Kp N H H') (h : GS N H k n vs) : GS N H' k n vs := by
  obtain ⟨ds, h1, h2⟩ := h
  exact ⟨ds, h1.keep s, h2⟩
theorem GS.mono {vs : List V} {n2 : Nat} (h : GS N H k n vs) (hn : n ≤ n2) : GS N H k n2 vs := by
  obtain ⟨ds, h1, h2⟩ := h
  exact ⟨ds, h1, h2.mono (Nat.le_refl _) hn⟩
theorem GS.mem {vs : List V} {x : V} (h : GS N H k n vs) (hx : x ∈ vs) : ∃ d, Gd N H x d ∧ ShG k n d := by
  obtain ⟨ds, h1, h2⟩ := h
  induction vs generalizing ds n with
  | nil => cases hx
  | cons y vs ih =>
    cases h1 with
    | @cons _ _ d ds g h1 =>
      have hs := h2.s
      have hl := h2.l
      have hd := h2.dp
      have hw := h2.w
      simp only [PyData.showableAll, Bool.and_eq_true] at hs
      simp only [PyData.leavesShortAll, Bool.and_eq_true] at hl
      simp only [PyData.depthAll] at hd
      simp only [PyData.weightAll] at hw
      rcases List.mem_cons.1 hx with rfl | hx
      · exact ⟨d, g, hs.1, hl.1, by omega, by omega⟩
      · exact ih hx ds h1 ⟨hs.2, hl.2, by omega, by omega⟩
theorem GS.append {n2 : Nat} {vs us : List V} (h : GS N H k n vs) (h' : GS N H k n2 us) : GS N H k (n + n2) (vs ++ us) := by
  obtain ⟨ds, h1, h2⟩ := h
  obtain ⟨es, h3, h4⟩ := h'
  refine ⟨ds ++ es, h1.append h3, ?_⟩
  clear h1 h3
  induction ds generalizing n with
  | nil => exact h4.mono (Nat.le_refl _) (by omega)
  | cons d ds ih =>
    have hs := h2.s
    have hl := h2.l
    have hd := h2.dp
    have hw := h2.w
    simp only [PyData.showableAll, Bool.and_eq_true] at hs
    simp only [PyData.leavesShortAll, Bool.and_eq_true] at hl
    simp only [PyData.depthAll] at hd
    simp only [PyData.weightAll] at hw
    have r := ih (n := n - d.weight - 1) ⟨hs.2, hl.2, by omega, by omega⟩
    exact (ShGA.cons (n := d.weight) (k := k) ⟨hs.1, hl.1, by omega, Nat.le_refl _⟩ r).mono (Nat.le_refl _) (by omega)
theorem MkA.nil : MkA N σ H k 0 0 tNil := fun H1 Q s q => q H1 [] (Sx.refl _) ⟨[], .nil, .nil _ _⟩ rfl
theorem MkA.cons {te : TE} {ta : TA} {n2 : Nat} (h : MkE N σ H k n te) (h' : MkA N σ H k n2 m ta) : MkA N σ H k (n + 1 + n2) (m + 1) (tCons te ta) := fun H1 Q s q =>
  h H1 _ s fun H2 v d s2 g sh => h' H2 _ (s.trans s2) fun H3 vs s3 ⟨ds, g3, sh3⟩ hl => q H3 (v :: vs) (s2.trans s3) ⟨d :: ds, .cons (g.keep s3.kp0) g3, .cons sh sh3⟩ (by rw [List.length_cons, hl])
theorem MkE.mono {te : TE} {k2 n2 : Nat} (h : MkE N σ H k n te) (hk : k ≤ k2) (hn : n ≤ n2) : MkE N σ H k2 n2 te := fun H1 Q s q => h H1 Q s fun H2 v d s2 g sh => q H2 v d s2 g (sh.mono hk hn)
theorem MkE.int {i : Int} (h : i.natAbs < 2 ^ 200) : MkE N σ H k 200 (tC (.int i)) := fun H1 Q s q => q H1 _ _ (Sx.refl _) (.int i) (ShG.int h (by decide) (by decide) k)
theorem MkE.sm {i : Int} (h : i.natAbs < 2 ^ 8) : MkE N σ H k 8 (tC (.int i)) := fun H1 Q s q => q H1 _ _ (Sx.refl _) (.int i) (ShG.int h (by decide) (by decide) k)
theorem MkE.str {z : Str} (h : PyData.strOk z = true) (hz : z.length ≤ 20) : MkE N σ H k 20 (tC (.str z)) := fun H1 Q s q => q H1 _ _ (Sx.refl _) (.str z) (ShG.str h k 20 hz)
theorem MkE.bl {b : Bool} : MkE N σ H k 0 (tC (.bl b)) := fun H1 Q s q => q H1 _ _ (Sx.refl _) (.bl b) (ShG.bl b k 0)
theorem MkE.non : MkE N σ H k 0 (tC .non) := fun H1 Q s q => q H1 _ _ (Sx.refl _) .non (ShG.non k 0)
theorem MkE.neg {i : Int} (h : i.natAbs < 2 ^ 8) : MkE N σ H k 8 (tUn (rU fun i => .int (-i)) (tC (.int i))) := fun H1 Q s q => ⟨i, rfl, q H1 _ _ (Sx.refl _) (.int _) (ShG.int (by omega) (by decide) (by decide) k)⟩
theorem MkE.pow {i j : Int} (h1 : CPow i j) (h : (i ^ j.toNat).natAbs < 2 ^ 200) : MkE N σ H k 200 (tOp (rI CPow fun i j => .int (i ^ j.toNat)) (tC (.int i)) (tC (.int j))) := fun H1 Q s q => ⟨i, j, rfl, rfl, h1, q H1 _ _ (Sx.refl _) (.int _) (ShG.int h (by decide) (by decide) k)⟩
theorem MkE.tup {ta : TA} (h : MkA N σ H k n m ta) (hm : m ≤ 16777216) : MkE N σ H (k + 1) n (tTup ta) := fun H1 Q s q =>
  h H1 _ s fun H2 vs s2 ⟨ds, g, sh⟩ hl => ⟨by rw [hl]; exact hm, fun p hp => q _ _ _ (s2.new hp) (.tup upd_same (g.new hp)) (ShG.tup sh)⟩
theorem notin_new {p : Addr} {H2 : Hp} (hN : ∀ b ∈ N, H b ≠ none) (s : Sx [] H H2) (hp : H2 p = none) : p ∉ N := fun hm => hN p hm (s.free (by simp) hp)
theorem MkE.lst {ta : TA} (hN : ∀ b ∈ N, H b ≠ none) (h : MkA N σ H k n m ta) (hm : m ≤ 16777216) : MkE N σ H (k + 1) n (tLstB ta) := fun H1 Q s q =>
  h H1 _ s fun H2 vs s2 ⟨ds, g, sh⟩ hl => ⟨by rw [hl]; exact hm, fun p hp p1 => q _ _ _ (s2.new hp) (.lst upd_same (notin_new hN (s.trans s2) hp) p1 (g.new hp)) (ShG.lst sh)⟩
theorem ShG.dic0 : ShG (k + 1) n (.dict []) := ⟨by simp only [PyData.showable, PyData.showableKv], by simp only [PyData.leavesShort, PyData.leavesShortKv], by simp only [PyData.depth, PyData.depthKv]; omega, by simp only [PyData.weight, PyData.weightKv]; omega⟩
theorem MkE.dic0 (hN : ∀ b ∈ N, H b ≠ none) : MkE N σ H (k + 1) 0 tDNewK := fun H1 Q s q p hp => q _ _ _ (Sx.n0 hp) (.dic [] upd_same (notin_new hN s hp)) ShG.dic0
theorem ShG.dic1 {z : Str} {i : Int} (h : PyData.strOk z = true) (hz : z.length ≤ 20) (hi : i.natAbs < 2 ^ 200) : ShG (k + 1) 300 (.dict [(.str z, .int i)]) := by
  have a := ShG.str h k 20 hz
  have b := ShG.int (n := 200) hi (by decide) (by decide) k
  refine ⟨?_, ?_, ?_, ?_⟩
  · simp only [PyData.showable, PyData.showableKv]; have := a.s; have := b.s; simp_all [PyData.showable]
  · simp only [PyData.leavesShort, PyData.leavesShortKv]; have := a.l; have := b.l; simp_all [PyData.leavesShort]
  · simp only [PyData.depth, PyData.depthKv]; omega
  · have h1 := a.w
    have h2 := b.w
    simp only [PyData.weight, PyData.weightKv] at h1 h2 ⊢
    omega
theorem MkE.dic1 {z : Str} {i : Int} (hN : ∀ b ∈ N, H b ≠ none) (h : PyData.strOk z = true) (hz : z.length ≤ 20) (hi : i.natAbs < 2 ^ 200) : MkE N σ H (k + 1) 300 (tDisp [(tC (.str z), tC (.int i))]) := fun H1 Q s q p hp => by
  refine ⟨upd_same, [(.inr z, .int i)], rfl, (show 1 ≤ 15 by decide), ?_⟩
  refine q _ _ (.dict [(.str z, .int i)]) ?_ ?_ (ShG.dic1 h hz hi)
  · exact ((Sx.refl _).new hp).own hp
  · exact .dic [(z, i)] upd_same (notin_new hN s hp)
theorem MkE.var {i : Nat} {v : V} {d : PyData} {k2 : Nat} (hv : σ[i]? = some (some v)) (g : Gd N H v d) (sh : ShG k2 n d) (hk : k2 ≤ k) : MkE N σ H k n (tVar i) := fun H1 Q s q => ⟨v, hv, q H1 v d (Sx.refl _) (g.keep s.kp0) (sh.mono hk (Nat.le_refl _))⟩
/-- a list of such values, at an address of its own -/
def MkL (N : List Addr) (σ : L2.St) (H : Hp) (k n m : Nat) (t : TE) : Prop := ∀ (H1 : Hp) (Q : VK), Sx [] H H1 → (∀ H2 l vs, Sx [] H1 H2 → l ∉ N → H2 l = some (.lst vs) → GS N H2 k n vs → vs.length = m → Q (.ref l) H2) → t σ H1 Q
theorem MkL.lst {ta : TA} (hN : ∀ b ∈ N, H b ≠ none) (h : MkA N σ H k n m ta) (hm : m ≤ 16777216) : MkL N σ H k n m (tLst ta) := fun H1 Q s q =>
  h H1 _ s fun H2 vs s2 g hl => ⟨by rw [hl]; exact hm, fun p hp => q _ p vs (s2.new hp) (notin_new hN (s.trans s2) hp) upd_same (g.keep (Sx.n0 hp).kp0) hl⟩
theorem MkL.var {i : Nat} {l : Addr} {vs : List V} (hv : σ[i]? = some (some (.ref l))) (hl : l ∉ N) (e : H l = some (.lst vs)) (g : GS N H k n vs) (hm : vs.length = m) : MkL N σ H k n m (tVar i) := fun H1 Q s q => ⟨_, hv, q H1 l vs (Sx.refl _) hl (s _ _ (by simp) e) (g.keep s.kp0) hm⟩
theorem MkL.cat {ta tb : TE} {n2 m2 : Nat} (hN : ∀ b ∈ N, H b ≠ none) (h : MkL N σ H k n m ta) (h' : MkL N σ H k n2 m2 tb) (hm : m + m2 ≤ 16777216) : MkL N σ H k (n + n2) (m + m2) (tOp rCat ta tb) := fun H1 Q s q =>
  h H1 _ s fun H2 l vs s2 nl el g hl => h' H2 _ (s.trans s2) fun H3 l' us s3 nl' el' g' hl' => ⟨l, l', vs, us, rfl, rfl, s3 _ _ (by simp) el, el', by rw [hl, hl']; exact hm, fun p hp =>
    q _ p _ ((s2.trans s3).new hp) (notin_new hN (s.trans (s2.trans s3)) hp) upd_same (((g.keep s3.kp0).append g').keep (Sx.n0 hp).kp0) (by rw [List.length_append, hl, hl'])⟩
end
/-! ### written lists, each item as large at most -/
def GE (N : List Addr) (H : Hp) (k e : Nat) (vs : List V) : Prop := ∃ ds, GdAll N H vs ds ∧ ∀ d ∈ ds, ShG k e d
def MkB (N : List Addr) (σ : L2.St) (H : Hp) (k e m : Nat) (t : TA) : Prop := ∀ (H1 : Hp) (Q : List V → Hp → Prop), Sx [] H H1 → (∀ H2 vs, Sx [] H1 H2 → GE N H2 k e vs → vs.length = m → Q vs H2) → t σ H1 Q
def MkM (N : List Addr) (σ : L2.St) (H : Hp) (k e m : Nat) (t : TE) : Prop := ∀ (H1 : Hp) (Q : VK), Sx [] H H1 → (∀ H2 l vs, Sx [] H1 H2 → l ∉ N → H2 l = some (.lst vs) → GE N H2 k e vs → vs.length = m → Q (.ref l) H2) → t σ H1 Q
section
variable {N : List Addr} {σ : L2.St} {H : Hp} {k e m : Nat}
theorem GE.keep {H' : Hp} {vs : List V} (s : Kp N H H') (h : GE N H k e vs) : GE N H' k e vs := by
  obtain ⟨ds, h1, h2⟩ := h
  exact ⟨ds, h1.keep s, h2⟩
theorem GE.mono {vs : List V} {k2 e2 : Nat} (h : GE N H k e vs) (hk : k ≤ k2) (he : e ≤ e2) : GE N H k2 e2 vs := by
  obtain ⟨ds, h1, h2⟩ := h
  exact ⟨ds, h1, fun d hd => (h2 d hd).mono hk he⟩
theorem GE.nil : GE N H k e [] := ⟨[], .nil, fun _ h => by cases h⟩
theorem GE.cons {v : V} {d : PyData} {vs : List V} (g : Gd N H v d) (s : ShG k e d) (h : GE N H k e vs) : GE N H k e (v :: vs) := by
  obtain ⟨ds, h1, h2⟩ := h
  exact ⟨d :: ds, .cons g h1, fun x hx => (List.mem_cons.1 hx).elim (fun z => by rw [z]; exact s) (h2 x)⟩
theorem GE.append {vs us : List V} (h : GE N H k e vs) (h' : GE N H k e us) : GE N H k e (vs ++ us) := by
  obtain ⟨ds, h1, h2⟩ := h
  obtain ⟨es, h3, h4⟩ := h'
  exact ⟨ds ++ es, h1.append h3, fun d hd => (List.mem_append.1 hd).elim (h2 d) (h4 d)⟩
theorem GE.mem {vs : List V} {x : V} (h : GE N H k e vs) (hx : x ∈ vs) : ∃ d, Gd N H x d ∧ ShG k e d := by
  obtain ⟨ds, h1, h2⟩ := h
  obtain ⟨i, hi⟩ := List.getElem?_of_mem hx
  obtain ⟨d, hd, g⟩ := h1.get hi
  exact ⟨d, g, h2 d (List.mem_of_getElem? hd)⟩
theorem GE.take {vs : List V} (h : GE N H k e vs) (j : Nat) : GE N H k e (vs.take j) := by
  obtain ⟨ds, h1, h2⟩ := h
  exact ⟨ds.take j, h1.take j, fun d hd => h2 d (List.mem_of_mem_take hd)⟩
theorem GE.tup {vs : List V} (h : GE N H k e vs) : ∃ ds, GdAll N H vs ds ∧ ShGA k (vs.length * (e + 1)) ds := by
  obtain ⟨ds, h1, h2⟩ := h
  refine ⟨ds, h1, ?_⟩
  rw [h1.len]
  clear h1
  induction ds with
  | nil => exact .nil _ _
  | cons d ds ih =>
    refine (ShGA.cons (h2 d (List.mem_cons_self ..)) (ih fun x hx => h2 x (List.mem_cons_of_mem _ hx))).mono (Nat.le_refl _) ?_
    rw [List.length_cons, Nat.succ_mul]
    omega
theorem GE.strs {zs : List Str} (h : ∀ z ∈ zs, PyData.strOk z = true ∧ z.length ≤ e) : GE N H k e (zs.map V.str) := by
  induction zs with
  | nil => exact .nil
  | cons z zs ih =>
    obtain ⟨h1, h2⟩ := h z (List.mem_cons_self ..)
    exact .cons (.str z) (ShG.str h1 k e h2) (ih fun y hy => h y (List.mem_cons_of_mem _ hy))
theorem MkB.nil : MkB N σ H k e 0 tNil := fun H1 Q s q => q H1 [] (Sx.refl _) .nil rfl
theorem MkB.cons {te : TE} {ta : TA} {n : Nat} (h : MkE N σ H k n te) (hn : n ≤ e) (h' : MkB N σ H k e m ta) : MkB N σ H k e (m + 1) (tCons te ta) := fun H1 Q s q =>
  h H1 _ s fun H2 v d s2 g sh => h' H2 _ (s.trans s2) fun H3 vs s3 ge hl => q H3 (v :: vs) (s2.trans s3) (.cons (g.keep s3.kp0) (sh.mono (Nat.le_refl _) hn) ge) (by rw [List.length_cons, hl])
theorem MkM.lst {ta : TA} (hN : ∀ b ∈ N, H b ≠ none) (h : MkB N σ H k e m ta) (hm : m ≤ 16777216) : MkM N σ H k e m (tLst ta) := fun H1 Q s q =>
  h H1 _ s fun H2 vs s2 g hl => ⟨by rw [hl]; exact hm, fun p hp => q _ p vs (s2.new hp) (notin_new hN (s.trans s2) hp) upd_same (g.keep (Sx.n0 hp).kp0) hl⟩
theorem MkM.var {i : Nat} {l : Addr} {vs : List V} (hv : σ[i]? = some (some (.ref l))) (hl : l ∉ N) (el : H l = some (.lst vs)) (g : GE N H k e vs) (hm : vs.length = m) : MkM N σ H k e m (tVar i) := fun H1 Q s q => ⟨_, hv, q H1 l vs (Sx.refl _) hl (s _ _ (by simp) el) (g.keep s.kp0) hm⟩
theorem MkM.cat {ta tb : TE} {m2 : Nat} (hN : ∀ b ∈ N, H b ≠ none) (h : MkM N σ H k e m ta) (h' : MkM N σ H k e m2 tb) (hm : m + m2 ≤ 16777216) : MkM N σ H k e (m + m2) (tOp rCat ta tb) := fun H1 Q s q =>
  h H1 _ s fun H2 l vs s2 nl el g hl => h' H2 _ (s.trans s2) fun H3 l' us s3 nl' el' g' hl' => ⟨l, l', vs, us, rfl, rfl, s3 _ _ (by simp) el, el', by rw [hl, hl']; exact hm, fun p hp =>
    q _ p _ ((s2.trans s3).new hp) (notin_new hN (s.trans (s2.trans s3)) hp) upd_same (((g.keep s3.kp0).append g').keep (Sx.n0 hp).kp0) (by rw [List.length_append, hl, hl'])⟩
end
/-! ### written data, told exactly -/
def MkX (σ : L2.St) (H : Hp) (t : TE) (d : PyData) : Prop := ∀ (H1 : Hp) (Q : VK), Sx [] H H1 → (∀ H2 v, Sx [] H1 H2 → Tp H2 v d → Q v H2) → t σ H1 Q
def MkXA (σ : L2.St) (H : Hp) (t : TA) (ds : List PyData) : Prop := ∀ (H1 : Hp) (Q : List V → Hp → Prop), Sx [] H H1 → (∀ H2 vs, Sx [] H1 H2 → TpAll H2 vs ds → Q vs H2) → t σ H1 Q
def MkXL (σ : L2.St) (H : Hp) (t : TE) (ds : List PyData) : Prop := ∀ (H1 : Hp) (Q : VK), Sx [] H H1 → (∀ H2 l vs, Sx [] H1 H2 → H2 l = some (.lst vs) → TpAll H2 vs ds → Q (.ref l) H2) → t σ H1 Q
section
variable {σ : L2.St} {H : Hp}
theorem MkX.int {i : Int} : MkX σ H (tC (.int i)) (.int i) := fun H1 Q s q => q H1 _ (Sx.refl _) (.int i)
theorem MkX.str {z : Str} : MkX σ H (tC (.str z)) (.str z) := fun H1 Q s q => q H1 _ (Sx.refl _) (.str z)
theorem MkX.bl {b : Bool} : MkX σ H (tC (.bl b)) (.bool b) := fun H1 Q s q => q H1 _ (Sx.refl _) (.bl b)
theorem MkX.non : MkX σ H (tC .non) .none := fun H1 Q s q => q H1 _ (Sx.refl _) .non
theorem MkX.neg {i : Int} : MkX σ H (tUn (rU fun i => .int (-i)) (tC (.int i))) (.int (-i)) := fun H1 Q s q => ⟨i, rfl, q H1 _ (Sx.refl _) (.int _)⟩
theorem MkX.var {i : Nat} {v : V} {d : PyData} (hv : σ[i]? = some (some v)) (t : Tp H v d) : MkX σ H (tVar i) d := fun H1 Q s q => ⟨v, hv, q H1 v (Sx.refl _) (t.keep s.tk0)⟩
theorem MkXA.nil : MkXA σ H tNil [] := fun H1 Q s q => q H1 [] (Sx.refl _) .nil
theorem MkXA.cons {te : TE} {ta : TA} {d : PyData} {ds : List PyData} (h : MkX σ H te d) (h' : MkXA σ H ta ds) : MkXA σ H (tCons te ta) (d :: ds) := fun H1 Q s q =>
  h H1 _ s fun H2 v s2 t2 => h' H2 _ (s.trans s2) fun H3 vs s3 t3 => q H3 (v :: vs) (s2.trans s3) (.cons (t2.keep s3.tk0) t3)
theorem MkX.tup {ta : TA} {ds : List PyData} (h : MkXA σ H ta ds) (hm : ds.length ≤ 16777216) : MkX σ H (tTup ta) (.tuple ds) := fun H1 Q s q =>
  h H1 _ s fun H2 vs s2 t2 => ⟨by rw [t2.len]; exact hm, fun p hp => q _ _ (s2.new hp) (.tup upd_same (t2.new hp))⟩
theorem MkXL.lst {ta : TA} {ds : List PyData} (h : MkXA σ H ta ds) (hm : ds.length ≤ 16777216) : MkXL σ H (tLst ta) ds := fun H1 Q s q =>
  h H1 _ s fun H2 vs s2 t2 => ⟨by rw [t2.len]; exact hm, fun p hp => q _ p vs (s2.new hp) upd_same (t2.new hp)⟩
theorem MkXL.var {i : Nat} {l : Addr} {vs : List V} {ds : List PyData} (hv : σ[i]? = some (some (.ref l))) (e : H l = some (.lst vs)) (t : TpAll H vs ds) : MkXL σ H (tVar i) ds := fun H1 Q s q => ⟨_, hv, q H1 l vs (Sx.refl _) (s _ _ (by simp) e) (t.keep s.tk0)⟩
theorem MkXL.cat {ta tb : TE} {ds es : List PyData} (h : MkXL σ H ta ds) (h' : MkXL σ H tb es) (hm : ds.length + es.length ≤ 16777216) : MkXL σ H (tOp rCat ta tb) (ds ++ es) := fun H1 Q s q =>
  h H1 _ s fun H2 l vs s2 e2 t2 => h' H2 _ (s.trans s2) fun H3 l' us s3 e3 t3 => ⟨l, l', vs, us, rfl, rfl, s3 _ _ (by simp) e2, e3, by rw [t2.len, t3.len]; exact hm, fun p hp =>
    q _ p _ ((s2.trans s3).new hp) upd_same (((t2.keep s3.tk0).append t3).new hp)⟩
end
theorem gNext {D : Ends} {σ : L2.St} {H : Hp} (h : D.nx σ H) : tNext D σ H := h
theorem gForL {K : PySem.W.Frag} {tl : TE} {g : TG} {tb : TS} {D : Ends} {σ : L2.St} {H : Hp} (h : tl σ H fun x H1 => ∃ a, x = .ref a ∧ (∃ xs, SqL K H1 a xs) ∧ ∃ W : Nat → Nat → L2.St → Hp → Prop, (∃ m, W 0 m σ H1) ∧ ∀ i m σ H, W i m σ H →
    ((Itl K a).stop i H ∧ D.nx σ H) ∨ ((Itl K a).go i H ∧ ∃ Nx : L2.St → Hp → Prop, (∀ σ' H', Nx σ' H' → ∃ m', m' < m ∧ W (i + 1) m' σ' H') ∧ ∀ x H', (Itl K a).yld i H x H' → g x σ H' fun σ2 H2 => tb { D with nx := Nx, ct := Nx, bk := D.nx } σ2 H2)) : tFor (iList K tl) g tb D σ H := h
/-! ### odd values, bent ones -/
/-- lists of one's own, the deck's among them -/
structure NOk (N : List Addr) (H : Hp) (a c : Addr) : Prop where
  ma : a ∈ N
  mc : c ∈ N
  nn : ∀ b ∈ N, H b ≠ none
theorem NOk.sx {N : List Addr} {H H' : Hp} {a c : Addr} {cs : List Int} {k : Int} (h : NOk N H a c) (s : Sx [a, c] H H') (D : Dk H' a c cs k) : NOk N H' a c := ⟨h.ma, h.mc, fun b hb => by
  by_cases e : b ∈ [a, c]
  · obtain ⟨ys, e⟩ := D.lst b e
    rw [e]
    simp
  · cases e2 : H b with
    | none => exact absurd e2 (h.nn b hb)
    | some o =>
      rw [s b o e e2]
      simp⟩
theorem NOk.kp {N : List Addr} {H H' : Hp} {a c : Addr} {cs : List Int} {k : Int} (h : NOk N H a c) (D : Dk H a c cs k) (s : Sx [a, c] H H') : Kp N H H' := s.kp fun b hb => ⟨by
  rcases List.mem_cons.1 hb with rfl | hb
  · exact h.ma
  · rw [List.mem_singleton.mp hb]; exact h.mc, D.lst b hb⟩
theorem NOk.s0 {N : List Addr} {H H' : Hp} {a c : Addr} (h : NOk N H a c) (s : Sx [] H H') : NOk N H' a c := ⟨h.ma, h.mc, fun b hb => by
  cases e2 : H b with
  | none => exact absurd e2 (h.nn b hb)
  | some o =>
    rw [s b o (by simp) e2]
    simp⟩
theorem NOk.of {H : Hp} {a c : Addr} {cs : List Int} {k : Int} (D : Dk H a c cs k) : NOk [a, c] H a c := ⟨by simp, by simp, fun b hb => by
  obtain ⟨ys, e⟩ := D.lst b hb
  rw [e]
  simp⟩
theorem NOk.cons {N : List Addr} {H : Hp} {a c l : Addr} {o : HO} (h : NOk N H a c) (e : H l = some o) : NOk (l :: N) H a c := ⟨List.mem_cons_of_mem _ h.ma, List.mem_cons_of_mem _ h.mc, fun b hb => by
  rcases List.mem_cons.1 hb with rfl | hb
  · rw [e]; simp
  · exact h.nn b hb⟩
/-! ### own exceptions over a built-in class -/
/-- of an error class, told -/
structure ExG (K : PySem.W.Frag) (C : Addr) (bm : List Value) (nw : String) : Prop where
  ini : PySem.W.excInitIn K C bm nw = true
  ovr : PySem.W.excOver K C bm = true
  dct : PySem.W.hasDictIn K C = true
  (sa : PySem.W.findIn K (.ref C) "__setattr__" = some (some (.builtin "object.__setattr__")))
  (exC : PySem.W.subIn K (.ref C) (.type "BaseException") = some true)
  (tyC : PySem.W.typeIn K (.ref C) = some (.type "type"))
  (kC : PySem.W.keepIn K (.ref C) = true)
def exGB (K : PySem.W.Frag) (C : Addr) (bm : List Value) (nw : String) : Bool :=
  PySem.W.excInitIn K C bm nw && (PySem.W.excOver K C bm && (PySem.W.hasDictIn K C && (decide (PySem.W.findIn K (.ref C) "__setattr__" = some (some (.builtin "object.__setattr__"))) && (decide (PySem.W.subIn K (.ref C) (.type "BaseException") = some true) &&
    (decide (PySem.W.typeIn K (.ref C) = some (.type "type")) && PySem.W.keepIn K (.ref C))))))
theorem exGB_ok {K : PySem.W.Frag} {C : Addr} {bm : List Value} {nw : String} (h : exGB K C bm nw = true) : ExG K C bm nw := by
  unfold exGB at h
  simp only [decide_eq_true_eq, Bool.and_eq_true] at h
  obtain ⟨h1, h2, h3, h4, h5, h6, h7⟩ := h
  exact (⟨h1, h2, h3, h4, h5, h6, h7⟩)
abbrev leBase : List Value := [.type "LookupError", .type "Exception", .type "BaseException", .type "object"]
section
variable {X : Cx} {pins : List (Addr × Obj)} {σ : L2.St} {H : Hp} {s : Shared} {a C : Addr} {f : Str} {y : V} {u : Value} {Q : Unit → Shared → Prop} {E : Value → Shared → Prop} {A : Around} {bm : List Value} {B nw ni : String}
/-- the first field of an exception that is being made -/
theorem ostG (SF : StoreFacts B bm "object.__setattr__" "object") (T : ExG X.K C bm nw) (I : Inv X pins σ H s) (e : H a = some (exo a C none)) (hno : PySem.W.findIn X.K (.ref C) f = some none) (ry : RelV y u)
    (h : ∀ dx s', H dx = none → (dx ≠ a) → Inv X pins σ (upd (upd H dx (exd dx [(f, y)])) a (exo a C (some dx))) s' → Q () s') : wpAny (model X.prog X.w) A (setAttr (.ref a) f u) Q E s := by
  rcases exo_at I.hok e with ⟨t1, ho⟩
  obtain ⟨cd, hcd, hdd⟩ := PySem.W.any_some T.dct
  obtain ⟨hp, g, d, t, os⟩ := s
  have hal : a < hp.objs.size := Heap.lt_size ho
  have hn : H hp.objs.size = none := I.hok.fresh (Nat.le_refl _)
  have hne : hp.objs.size ≠ a := Nat.ne_of_gt hal
  refine PySem.W.set_plain (C := C) (od := none) I.kIn ⟨ho, rfl, rfl, trivial⟩ T.sa ?_
  refine PySem.W.osa_openX (C := C) (od := none) (r := none) SF (s := ⟨hp, g, d, t + 1, os⟩) I.kIn ⟨ho, rfl, rfl, trivial⟩ T.ovr (by unfold PySem.W.takerIn; rw [hno] <;> rfl) fun b => ?_
  refine wpAny_bind (wpAny_pure (wpAny_bind (PySem.W.instanceDict_exc (s := ⟨hp, g, d, t + 1, os⟩) (C := C) (t := t1) (c2 := .none) ho (PySem.W.looks_clsIn (K := X.K) I.kIn hcd) hdd ?_)))
  -- the dict, the object
  have I1 : Inv X pins σ (upd H hp.objs.size (exd hp.objs.size [])) ⟨hp.push (PySem.W.dictOf [] 0), g, d, t + 1, os⟩ :=
    I.laid (t' := t + 1) (fun _ _ q => Heap.get?_push_of_some _ q) (Nat.le_refl _) (exd_ok (fs := []) (mA := fun _ => none) (Heap.Ns1.of_empty ⟨_, #[], 0, Heap.get?_push_size _ rfl, rfl, fun e he => absurd he (by simp), fun _ => rfl⟩) fun _ => True.intro)
  have ha1 : (hp.push (PySem.W.dictOf [] 0)).get? a = some (PySem.W.excObj C t1 none .none) := Heap.get?_push_of_some _ ho
  have I2 : Inv X pins σ (upd (upd H hp.objs.size (exd hp.objs.size [])) a (exo a C (some hp.objs.size))) ⟨(hp.push (PySem.W.dictOf [] 0)).update a fun o => { o with dict := some hp.objs.size }, g, d, t + 1, os⟩ :=
    I1.write (t' := t + 1) (x := a) (e := a) (by rw [upd_ne (Ne.symm hne), e]; exact True.intro) (.inl rfl) (fun b o hb q => (Heap.get?_update_other _ _ (Ne.symm hb)).trans q) ⟨_, Heap.get?_update_self _ ha1 rfl⟩ (exo_ok (t1 := t1) (Heap.get?_update_self _ ha1 rfl))
  have hd2 : ((hp.push (PySem.W.dictOf [] 0)).update a fun o => { o with dict := some hp.objs.size }).Ns hp.objs.size (fun _ => none) :=
    ⟨PySem.W.dictOf [] 0, #[], 0, (Heap.get?_update_other _ _ (Ne.symm hne)).trans (Heap.get?_push_size _ rfl), rfl, fun e he => absurd he (by simp), fun _ => rfl⟩
  show wpAny _ _ (Builtin.ObjectAttr.storeInDict hp.objs.size (.str f t) f u) _ _ _
  refine PySem.HandSPX.store_in_new hd2 fun h' tk' hns sb => ?_
  have I3 : Inv X pins σ (upd (upd (upd H hp.objs.size (exd hp.objs.size [])) a (exo a C (some hp.objs.size))) hp.objs.size (exd hp.objs.size [(f, y)])) ⟨h', g, d, tk', os⟩ :=
    I2.write (t' := tk') (x := hp.objs.size) (e := hp.objs.size) (by rw [upd_ne hne, upd_same]; exact True.intro) (.inl rfl) (fun b o hb q => (sb.2 b hb).trans q) (by obtain ⟨o, _, _, q, _⟩ := hns; exact ⟨o, q⟩)
      (exd_ok hns (relO_put (fs := []) ry fun _ => True.intro))
  have eu : upd (upd (upd H hp.objs.size (exd hp.objs.size [])) a (exo a C (some hp.objs.size))) hp.objs.size (exd hp.objs.size [(f, y)]) = upd (upd H hp.objs.size (exd hp.objs.size [(f, y)])) a (exo a C (some hp.objs.size)) := by
    funext b
    by_cases h1 : b = hp.objs.size
    · rw [h1, upd_same, upd_ne hne, upd_same]
    · by_cases h2 : b = a
      · rw [h2, upd_ne (Ne.symm hne), upd_same, upd_same]
      · rw [upd_ne h1, upd_ne h2, upd_ne h1, upd_ne h2, upd_ne h1]
  rw [eu] at I3
  exact h _ _ hn hne I3
end
/-- self.f = e, in the __init__ of an own exception, for the first time -/
def tOstG (K : PySem.W.Frag) (bm : List Value) (nw : String) (f : Str) (to te : TE) : TS := fun D σ H => te σ H fun y H1 => to σ H1 fun x H2 => ∃ a C : Addr, x = .ref a ∧ ExG K C bm nw ∧ PySem.W.findIn K (.ref C) f = some none ∧ H2 a = some (exo a C none) ∧
  ∀ dx, H2 dx = none → dx ≠ a → D.nx σ (upd (upd H2 dx (exd dx [(f, y)])) a (exo a C (some dx)))
theorem ps_ostG {X : Cx} {o e : Expr} {to te : TE} {f : Str} {p' pos : Pos} {bm : List Value} {B nw : String} (SF : StoreFacts B bm "object.__setattr__" "object") (ho : PE X o to) (he : PE X e te) (hs : swapsWith e (some (.Attribute o f p')) pos.line X.env = pure false := by rfl) :
    PS X (.Assign [.Attribute o f p'] e pos) (tOstG X.K bm nw f to te) := by
  refine ⟨fun pins s σ H D I h => plainObj_wpAny_Assign_Attribute (thn (he.run pins s σ H _ I h) fun v s1 hh => ?_) hs⟩
  obtain ⟨y, H1, I1, r1, q1⟩ := hh
  refine thn (ho.run pins s1 σ H1 _ I1 q1) fun u s2 hh => ?_
  obtain ⟨x, H2, I2, r2, a, C, ex, T, hno, ea, q⟩ := hh
  subst ex
  have eqv : (u = Value.ref a) := r2; subst eqv
  exact ostG SF T I2 ea hno r1 fun dx s' n ne J => ⟨σ, _, J, q dx n ne⟩
section
variable {X : Cx} {e : Expr} {es : List Expr} {ta : TA} {p pos : Pos}
/-- C(e, ..), C's own __init__ a def: what it leaves -/
theorem made_exG {bm : List Value} {B nw ni : String} {C fI : Addr} {k : Nat} {fd : FuncData} {ps : List Str} {sp : Sp} {ds : List Value} {dvs : List V} {CX : CXT} {pins : List (Addr × Obj)} {σ : L2.St} {H1 : Hp} {s1 : Shared} {us : List Value} {vs : List V} {Qv : VK} {E : Value → Shared → Prop} {R : Value → Shared → Prop}
    (FB : ExcBaseFacts B nw ni bm) (T : ExG X.K C bm nw) (iC : PySem.W.findIn X.K (.ref C) "__init__" = some (some (.ref fI))) (tI : PySem.W.typeIn X.K (.ref fI) = some (.type "function"))
    (F1 : FnOk X.prog X.w X.K X.mg X.base CX k fI fd ps sp) (hr : Room (k + 1) X.A) (hb : Binds X.K fd ps ds) (hd : Vals dvs ds) (hx : Passes CX X (fun _ _ _ => False)) (hxe : X.xe = E) (I1 : Inv X pins σ H1 s1) (r1 : Vals vs us) (hz : vs.length ≤ 1000)
    (hq : ∀ a, H1 a = none → sp (.ref a :: (vs ++ dvs)) (upd H1 a (exo a C none)) (fun v H2 => v = .non ∧ Qv (.ref a) H2) (fun _ _ _ => False))
    (fin : ∀ (H2 : Hp) (h1 h2 : Heap) (a : Addr) (g2 : Array GenState) (d2 : Drawn) (t2 : Nat), s1.heap.objs.size ≤ a → (∀ b o, s1.heap.get? b = some o → h1.get? b = some o) → Inv X pins σ (upd H1 a (exo a C none)) { s1 with heap := h1 } → Un (frs X.stack) [] (upd H1 a (exo a C none)) H2 h1 h2 → HOk X.prog X.w H2 h2 → AllBare g2 → Qv (.ref a) H2 → R (.ref a) ⟨h2, g2, d2, t2, s1.os⟩) :
    wpAny (model X.prog X.w) X.A (call (.ref C) us) R E s1 := by
  obtain ⟨nm, N, q, bs, bm', hdct, sn, sub, ab, col, dd, k0, k1, k2, k3, k5, hC, hT⟩ := PySem.W.excInit_of I1.kIn T.ini
  rcases s1 with ⟨hp, g, dr, tk, os⟩
  have hsz : hp.objs.size ≤ hp.objs.size + 1 := Nat.le_add_right _ 1
  have hq1 := hq (hp.objs.size + 1) (I1.hok.fresh hsz)
  have kk : ∀ b o, hp.get? b = some o → ((hp.push (PySem.W.kdv_tup us)).push (PySem.HandSPX.excO C hp.objs.size)).get? b = some o := fun b o z => Heap.get?_push_of_some _ (Heap.get?_push_of_some _ z)
  have I2 : Inv X pins σ (upd H1 (hp.objs.size + 1) (exo (hp.objs.size + 1) C none)) ⟨(hp.push (PySem.W.kdv_tup us)).push (PySem.HandSPX.excO C hp.objs.size), g, dr, tk, os⟩ := I1.laid (t' := tk) kk hsz (exo_ok (t1 := hp.objs.size) (by heap_get))
  have r2 : (Vals (V.ref (hp.objs.size + 1) :: (vs ++ dvs)) (Value.ref (hp.objs.size + 1) :: (us ++ ds))) := .cons rfl (r1.append hd)
  have hl : (Value.ref (hp.objs.size + 1) :: us ++ ds).length = ps.length := (r2.length.symm.trans (F1.len _ _ _ _ hq1))
  have hus : (us.length ≤ sizeLine) := by
    rw [← Paired.length r1]
    rw [sizeLine_eq]
    omega
  refine wpAny_call (PySem.HandSPX.call_own FB hT hC (PySem.W.looks_findIn I1.kIn iC) (fun self => PySem.W.bind_fn I1.kIn self tI) hus (codeAny_mono (F1.run _ X.stack _ _ ⟨Value.ref (hp.objs.size + 1) :: us, []⟩
    (Value.ref (hp.objs.size + 1) :: (us ++ ds)) _ _ (fun _ _ _ => False) (hr.make C us []) (I2.env0.make C us []) (hb _ (Value.ref (hp.objs.size + 1) :: us) I2.kIn hl) r2 hq1) fun r s' z => ?_))
  cases r with
  | error er => rw [← hxe]; exact hx pins σ _ _ er s' I2 z
  | ok fl =>
    cases fl with
    | ret u =>
      obtain ⟨v, H2, os2, bare2, un2, hok2, rv, ev, q2⟩ := z
      subst ev
      rcases s' with ⟨h2, g2, d2, t2, os'⟩
      have os3 : os' = os := os2
      subst os3
      exact ⟨rv, fin H2 _ h2 _ g2 d2 t2 hsz kk I2 un2 hok2 bare2 q2⟩
    | next => exact z.elim
    | brk => exact z.elim
    | cont => exact z.elim
end
def clsB : Stmt → List Stmt
  | .ClassDef _ _ _ b _ _ _ _ _ _ _ => b
  | _ => []
def clsI (i : Nat) : Stmt := (clsB (topS i)).getD 0 (.Pass ⟨0, 0, 0, 0⟩)
/-- the __init__ of an error that keeps one value -/
def spEI (K : PySem.W.Frag) (fl : Str) (bm : List Value) (nw : String) : Sp := fun vs H Q _ => ∃ (a C : Addr) (y : V), vs = [.ref a, y] ∧ ExG K C bm nw ∧ PySem.W.findIn K (.ref C) fl = some none ∧ H a = some (exo a C none) ∧
  ∀ dx, H dx = none → dx ≠ a → Q .non (upd (upd H dx (exd dx [(fl, y)])) a (exo a C (some dx)))
def nmE (i : Nat) : Str := (["BoxError", "BadText", "BadFamily", "BadHeard", "BadLies", "BadNumber", "Settled", "NoneLeft", "Busy", "TooManyEdits", "NothingToUndo", "NothingToRedo", "BadEdits", "BadEdit", "Rejected", "NoPlace", "NoProgram", "NoVersion"] : List Str).getD i ""
def flE (i : Nat) : Str := (["", "line", "error", "error", "lies", "number", "", "", "", "", "", "", "", "index", "index", "place", "index", "version"] : List Str).getD i ""
def hasI (i : Nat) : Bool := ([false, true, true, true, true, true, false, false, false, false, false, false, false, true, true, true, true, true] : List Bool).getD i false
abbrev sIBadText : Stmt := clsI 3
theorem scIBadText : FnScope ["self", "line"] ["self", "line"] (defScope sIBadText) := ⟨rfl, rfl, rfl, by decide +kernel, rfl, by decide +kernel, by decide +kernel⟩
abbrev sIBadFamily : Stmt := clsI 4
theorem scIBadFamily : FnScope ["self", "error"] ["self", "error"] (defScope sIBadFamily) := ⟨rfl, rfl, rfl, by decide +kernel, rfl, by decide +kernel, by decide +kernel⟩
abbrev sIBadHeard : Stmt := clsI 5
theorem scIBadHeard : FnScope ["self", "error"] ["self", "error"] (defScope sIBadHeard) := ⟨rfl, rfl, rfl, by decide +kernel, rfl, by decide +kernel, by decide +kernel⟩
abbrev sIBadLies : Stmt := clsI 6
theorem scIBadLies : FnScope ["self", "lies"] ["self", "lies"] (defScope sIBadLies) := ⟨rfl, rfl, rfl, by decide +kernel, rfl, by decide +kernel, by decide +kernel⟩
abbrev sIBadNumber : Stmt := clsI 7
theorem scIBadNumber : FnScope ["self", "number"] ["self", "number"] (defScope sIBadNumber) := ⟨rfl, rfl, rfl, by decide +kernel, rfl, by decide +kernel, by decide +kernel⟩
abbrev sIBadEdit : Stmt := clsI 15
theorem scIBadEdit : FnScope ["self", "index"] ["self", "index"] (defScope sIBadEdit) := ⟨rfl, rfl, rfl, by decide +kernel, rfl, by decide +kernel, by decide +kernel⟩
abbrev sIRejected : Stmt := clsI 16
theorem scIRejected : FnScope ["self", "index"] ["self", "index"] (defScope sIRejected) := ⟨rfl, rfl, rfl, by decide +kernel, rfl, by decide +kernel, by decide +kernel⟩
abbrev sINoPlace : Stmt := clsI 17
theorem scINoPlace : FnScope ["self", "place"] ["self", "place"] (defScope sINoPlace) := ⟨rfl, rfl, rfl, by decide +kernel, rfl, by decide +kernel, by decide +kernel⟩
abbrev sINoProgram : Stmt := clsI 18
theorem scINoProgram : FnScope ["self", "index"] ["self", "index"] (defScope sINoProgram) := ⟨rfl, rfl, rfl, by decide +kernel, rfl, by decide +kernel, by decide +kernel⟩
abbrev sINoVersion : Stmt := clsI 19
theorem scINoVersion : FnScope ["self", "version"] ["self", "version"] (defScope sINoVersion) := ⟨rfl, rfl, rfl, by decide +kernel, rfl, by decide +kernel, by decide +kernel⟩
section
variable {w : World} {P : Program} {K : PySem.W.Frag} {mg : Str → Option Value} {base : Heap}
theorem okI_BadText {f : Addr} {fd : FuncData} {bm : List Value} {B nw : String} (SF : StoreFacts B bm "object.__setattr__" "object") (F : Fun K "__init__" "BadText.__init__" sIBadText f fd) : FnOk P w K mg base CX0 1 f fd ["self", "line"] (spEI K "line" bm nw) := by
  refine F.ok scIBadText (fun vs H Q E h => ?_) (fun cdv A outer s H vs Q E hr h => ?_)
  · obtain ⟨_, _, _, rfl, _⟩ := h
    rfl
  · obtain ⟨a, C, y, rfl, T, hno, ea, q⟩ := h
    exact ⟨_, pss_one (ps_ostG (nw := nw) SF (pv 0) (pv 1)), _, rfl, _, rfl, a, C, rfl, T, hno, ea, q⟩
theorem okI_BadFamily {f : Addr} {fd : FuncData} {bm : List Value} {B nw : String} (SF : StoreFacts B bm "object.__setattr__" "object") (F : Fun K "__init__" "BadFamily.__init__" sIBadFamily f fd) : FnOk P w K mg base CX0 1 f fd ["self", "error"] (spEI K "error" bm nw) := by
  refine F.ok scIBadFamily (fun vs H Q E h => ?_) (fun cdv A outer s H vs Q E hr h => ?_)
  · obtain ⟨_, _, _, rfl, _⟩ := h
    rfl
  · obtain ⟨a, C, y, rfl, T, hno, ea, q⟩ := h
    exact ⟨_, pss_one (ps_ostG (nw := nw) SF (pv 0) (pv 1)), _, rfl, _, rfl, a, C, rfl, T, hno, ea, q⟩
theorem okI_BadHeard {f : Addr} {fd : FuncData} {bm : List Value} {B nw : String} (SF : StoreFacts B bm "object.__setattr__" "object") (F : Fun K "__init__" "BadHeard.__init__" sIBadHeard f fd) : FnOk P w K mg base CX0 1 f fd ["self", "error"] (spEI K "error" bm nw) := by
  refine F.ok scIBadHeard (fun vs H Q E h => ?_) (fun cdv A outer s H vs Q E hr h => ?_)
  · obtain ⟨_, _, _, rfl, _⟩ := h
    rfl
  · obtain ⟨a, C, y, rfl, T, hno, ea, q⟩ := h
    exact ⟨_, pss_one (ps_ostG (nw := nw) SF (pv 0) (pv 1)), _, rfl, _, rfl, a, C, rfl, T, hno, ea, q⟩
theorem okI_BadLies {f : Addr} {fd : FuncData} {bm : List Value} {B nw : String} (SF : StoreFacts B bm "object.__setattr__" "object") (F : Fun K "__init__" "BadLies.__init__" sIBadLies f fd) : FnOk P w K mg base CX0 1 f fd ["self", "lies"] (spEI K "lies" bm nw) := by
  refine F.ok scIBadLies (fun vs H Q E h => ?_) (fun cdv A outer s H vs Q E hr h => ?_)
  · obtain ⟨_, _, _, rfl, _⟩ := h
    rfl
  · obtain ⟨a, C, y, rfl, T, hno, ea, q⟩ := h
    exact ⟨_, pss_one (ps_ostG (nw := nw) SF (pv 0) (pv 1)), _, rfl, _, rfl, a, C, rfl, T, hno, ea, q⟩
theorem okI_BadNumber {f : Addr} {fd : FuncData} {bm : List Value} {B nw : String} (SF : StoreFacts B bm "object.__setattr__" "object") (F : Fun K "__init__" "BadNumber.__init__" sIBadNumber f fd) : FnOk P w K mg base CX0 1 f fd ["self", "number"] (spEI K "number" bm nw) := by
  refine F.ok scIBadNumber (fun vs H Q E h => ?_) (fun cdv A outer s H vs Q E hr h => ?_)
  · obtain ⟨_, _, _, rfl, _⟩ := h
    rfl
  · obtain ⟨a, C, y, rfl, T, hno, ea, q⟩ := h
    exact ⟨_, pss_one (ps_ostG (nw := nw) SF (pv 0) (pv 1)), _, rfl, _, rfl, a, C, rfl, T, hno, ea, q⟩
theorem okI_BadEdit {f : Addr} {fd : FuncData} {bm : List Value} {B nw : String} (SF : StoreFacts B bm "object.__setattr__" "object") (F : Fun K "__init__" "BadEdit.__init__" sIBadEdit f fd) : FnOk P w K mg base CX0 1 f fd ["self", "index"] (spEI K "index" bm nw) := by
  refine F.ok scIBadEdit (fun vs H Q E h => ?_) (fun cdv A outer s H vs Q E hr h => ?_)
  · obtain ⟨_, _, _, rfl, _⟩ := h
    rfl
  · obtain ⟨a, C, y, rfl, T, hno, ea, q⟩ := h
    exact ⟨_, pss_one (ps_ostG (nw := nw) SF (pv 0) (pv 1)), _, rfl, _, rfl, a, C, rfl, T, hno, ea, q⟩
theorem okI_Rejected {f : Addr} {fd : FuncData} {bm : List Value} {B nw : String} (SF : StoreFacts B bm "object.__setattr__" "object") (F : Fun K "__init__" "Rejected.__init__" sIRejected f fd) : FnOk P w K mg base CX0 1 f fd ["self", "index"] (spEI K "index" bm nw) := by
  refine F.ok scIRejected (fun vs H Q E h => ?_) (fun cdv A outer s H vs Q E hr h => ?_)
  · obtain ⟨_, _, _, rfl, _⟩ := h
    rfl
  · obtain ⟨a, C, y, rfl, T, hno, ea, q⟩ := h
    exact ⟨_, pss_one (ps_ostG (nw := nw) SF (pv 0) (pv 1)), _, rfl, _, rfl, a, C, rfl, T, hno, ea, q⟩
theorem okI_NoPlace {f : Addr} {fd : FuncData} {bm : List Value} {B nw : String} (SF : StoreFacts B bm "object.__setattr__" "object") (F : Fun K "__init__" "NoPlace.__init__" sINoPlace f fd) : FnOk P w K mg base CX0 1 f fd ["self", "place"] (spEI K "place" bm nw) := by
  refine F.ok scINoPlace (fun vs H Q E h => ?_) (fun cdv A outer s H vs Q E hr h => ?_)
  · obtain ⟨_, _, _, rfl, _⟩ := h
    rfl
  · obtain ⟨a, C, y, rfl, T, hno, ea, q⟩ := h
    exact ⟨_, pss_one (ps_ostG (nw := nw) SF (pv 0) (pv 1)), _, rfl, _, rfl, a, C, rfl, T, hno, ea, q⟩
theorem okI_NoProgram {f : Addr} {fd : FuncData} {bm : List Value} {B nw : String} (SF : StoreFacts B bm "object.__setattr__" "object") (F : Fun K "__init__" "NoProgram.__init__" sINoProgram f fd) : FnOk P w K mg base CX0 1 f fd ["self", "index"] (spEI K "index" bm nw) := by
  refine F.ok scINoProgram (fun vs H Q E h => ?_) (fun cdv A outer s H vs Q E hr h => ?_)
  · obtain ⟨_, _, _, rfl, _⟩ := h
    rfl
  · obtain ⟨a, C, y, rfl, T, hno, ea, q⟩ := h
    exact ⟨_, pss_one (ps_ostG (nw := nw) SF (pv 0) (pv 1)), _, rfl, _, rfl, a, C, rfl, T, hno, ea, q⟩
theorem okI_NoVersion {f : Addr} {fd : FuncData} {bm : List Value} {B nw : String} (SF : StoreFacts B bm "object.__setattr__" "object") (F : Fun K "__init__" "NoVersion.__init__" sINoVersion f fd) : FnOk P w K mg base CX0 1 f fd ["self", "version"] (spEI K "version" bm nw) := by
  refine F.ok scINoVersion (fun vs H Q E h => ?_) (fun cdv A outer s H vs Q E hr h => ?_)
  · obtain ⟨_, _, _, rfl, _⟩ := h
    rfl
  · obtain ⟨a, C, y, rfl, T, hno, ea, q⟩ := h
    exact ⟨_, pss_one (ps_ostG (nw := nw) SF (pv 0) (pv 1)), _, rfl, _, rfl, a, C, rfl, T, hno, ea, q⟩
end
/-! ### errors as values -/
abbrev veBase : List Value := [.type "ValueError", .type "Exception", .type "BaseException", .type "object"]
def bmE (i : Nat) : List Value := if 15 ≤ i then leBase else veBase
def nwE (i : Nat) : String := if 15 ≤ i then "LookupError.__new__" else "ValueError.__new__"
def isE (i j : Nat) : Bool := decide (i = j) || (decide (j = 0) && decide (i ≤ 14))
/-- what the written part says of the error classes, C their addresses -/
structure ErrW (P : Program) (w : World) (K : PySem.W.Frag) (mg : Str → Option Value) (base : Heap) (C : Nat → Addr) : Prop where
  m : ∀ i, i < 18 → mg (nmE i) = some (.ref (C i))
  isc : ∀ i j, i < 18 → j < 18 → PySem.W.kitOne K (.ref (C i)) (.ref (C j)) = some (isE i j)
  isl : ∀ i, i < 18 → PySem.W.kitOne K (.ref (C i)) (.type "LookupError") = some (decide (15 ≤ i))
  isv : ∀ i, i < 18 → PySem.W.kitOne K (.ref (C i)) (.type "ValueError") = some (decide (i ≤ 14))
  ec : ∀ i, i < 18 → ExcC K (C i)
  xf : ∀ i, i < 18 → XfC K (C i)
  ow : ∀ i, i < 18 → hasI i = true → ExG K (C i) (bmE i) (nwE i) ∧ PySem.W.findIn K (.ref (C i)) (flE i) = some none ∧ ∃ fI fd, PySem.W.findIn K (.ref (C i)) "__init__" = some (some (.ref fI)) ∧ PySem.W.typeIn K (.ref fI) = some (.type "function") ∧
    FnOk P w K mg base CX0 1 fI fd ["self", flE i] (spEI K (flE i) (bmE i) (nwE i)) ∧ Binds K fd ["self", flE i] []
  no : ∀ i, i < 18 → hasI i = false → PySem.W.excIn K (C i) (bmE i) (nwE i) = true ∧ PySem.W.keepIn K (.ref (C i)) = true
/-- at a: an error of the i-th class -/
def ErrAt (C : Nat → Addr) (H : Hp) (a : Addr) (i : Nat) : Prop := ∃ d, H a = some (exo a (C i) d) ∧ ∀ dx, d = some dx → ∃ fs, H dx = some (exd dx fs)
theorem ErrAt.keep {C : Nat → Addr} {H H' : Hp} {a : Addr} {i : Nat} (h : ErrAt C H a i) (s : Sx [] H H') : ErrAt C H' a i := by
  obtain ⟨d, e, z⟩ := h
  refine ⟨d, s _ _ (by simp) e, fun dx ed => ?_⟩
  obtain ⟨fs, e2⟩ := z dx ed
  exact ⟨fs, s _ _ (by simp) e2⟩
theorem excB (i : Nat) : ∃ B ni, ExcBaseFacts B (nwE i) ni (bmE i) := by
  unfold nwE bmE
  by_cases h : 15 ≤ i
  · rw [if_pos h, if_pos h]; exact ⟨_, _, PySem.F.excBase_LookupError⟩
  · rw [if_neg h, if_neg h]; exact ⟨_, _, PySem.F.excBase_ValueError⟩
section
variable {X : Cx} {C : Nat → Addr} {e : Expr} {es : List Expr} {ta : TA} {te : TE} {p pos : Pos}
/-- C(e) -/
def tMkE (C : Nat → Addr) (i : Nat) (ta : TA) : TE := fun σ H Q => ta σ H fun vs H1 => ∃ y, vs = [y] ∧ ∀ a dx, H1 a = none → H1 dx = none → dx ≠ a → Q (.ref a) (upd (upd H1 dx (exd dx [(flE i, y)])) a (exo a (C i) (some dx)))
theorem pe_mkE (i : Nat) {x : Str} (W : ErrW X.prog X.w X.K X.mg X.base C) (hr : Room 2 X.A) (hi : i < 18) (hI : hasI i = true) (hx : nmE i = x) (hg : Gl X x) (ha : PA X [e] ta) (hdb : (x == ("__debug__" : Str)) = false := by decide) (he : starEach [e] X.env = (false, eval e X.env) :: starEach [] X.env := by rfl)
    (hpl : (backTo pos (starEach [] X.env)).any (·.1) = false := by rfl) : PE X (.Call (.Name x p) [e] [] pos) (tMkE C i ta) := by
  refine (⟨fun pins s σ H Q I h => ?_⟩)
  obtain ⟨T, hno, fI, fd, ini, tI, G, b⟩ := W.ow i hi hI
  obtain ⟨B, ni, FB⟩ := excB i
  refine wpAny_Call_Name_kw (ld_glob I hg (by rw [← hx]; exact W.m i hi) ?_ hdb)
  refine (PySem.W.callWith_K (h₀ := X.base) I.ok.mod.kin T.kC (thn (ha.run pos pins s σ H _ I h) fun us s1 hh => ?_) he hpl)
  obtain ⟨vs, H1, I1, r1, y, ev, q1⟩ := hh
  subst ev
  refine ⟨I1.kIn, ?_⟩
  refine made_exG (Qv := Q) FB T ini tI G hr b .nil pass0 rfl I1 r1 (by show 1 ≤ 1000; decide) (fun a na => ⟨a, C i, y, rfl, T, hno, upd_same, fun dx n1 n2 => ⟨rfl, ?_⟩⟩)
    fun H2 h1 h2 a g2 d2 t2 hsz kk I2 un hok bare q => ⟨.ref a, H2, ?_, rfl, q⟩
  · have n1' : H1 dx = none := by rw [upd_ne n2] at n1; exact n1
    have e : upd (upd (upd H1 a (exo a (C i) none)) dx (exd dx [(flE i, y)])) a (exo a (C i) (some dx)) = upd (upd H1 dx (exd dx [(flE i, y)])) a (exo a (C i) (some dx)) := by
      funext b
      by_cases hb : b = a
      · rw [hb, upd_same, upd_same]
      · by_cases hd : b = dx
        · rw [hd, upd_ne n2, upd_same, upd_ne n2, upd_same]
        · rw [upd_ne hb, upd_ne hd, upd_ne hb, upd_ne hb, upd_ne hd]
    rw [e]
    exact q1 a dx na n1' n2
  · exact I2.call' (s' := ⟨h2, g2, d2, t2, s1.os⟩) (ch := []) rfl un hok bare fun b z => absurd z (by simp)
/-- C() of a class without an __init__ of its own -/
def tMk0 (C : Nat → Addr) (i : Nat) : TE := fun _ H Q => ∀ a, H a = none → Q (.ref a) (upd H a (exo a (C i) none))
theorem pe_mk0 (i : Nat) {x : Str} (W : ErrW X.prog X.w X.K X.mg X.base C) (hi : i < 18) (hI : hasI i = false) (hx : nmE i = x) (hg : Gl X x) (hdb : (x == ("__debug__" : Str)) = false := by decide) : PE X (.Call (.Name x p) [] [] pos) (tMk0 C i) := by
  refine (⟨fun pins s σ H Q I h => ?_⟩)
  obtain ⟨ex, kp⟩ := W.no i hi hI
  obtain ⟨B, ni, FB⟩ := excB i
  refine wpAny_Call_Name_kw (ld_glob I hg (by rw [← hx]; exact W.m i hi) ?_ hdb)
  refine PySem.W.callWith_K0 (first := []) I.kIn kp ?_
  show wpAny _ _ (call (.ref (C i)) []) _ _ _
  obtain ⟨bm, N, nm, qn, bs, hdct, sn, sub, ab, col, dd, k0, k1, k2, k3, k5, mN, hC, hN, hni, T⟩ := exc_obj I.kIn ex
  have hok := I.hok
  rcases s with ⟨hp, g, dr, tk, os⟩
  refine wpAny_call_exc_subT FB T hC hN hni fun h' a hm => ?_
  have hn : H a = none := hok.gone hm.new
  obtain ⟨t, ho, _, _⟩ := hm.there
  have ne : ∀ {b : Addr} {o : Obj}, hp.get? b = some o → b ≠ a := fun {b o} z e => by
    have z2 := hm.new
    rw [← e, z] at z2
    cases z2
  refine ⟨.ref a, _, I.call' (s' := ⟨h', g, dr, tk, os⟩) (ch := []) rfl ⟨fun b o z _ _ _ => hm.keeps b o z, fun b o z _ _ _ => ⟨o.slots, hm.keeps b o z⟩, fun b o z n _ => by rw [upd_ne (ne z)]; exact n, fun b o z _ => ⟨o, hm.keeps b o z⟩,
    fun b xs z => by rw [upd_ne (ne_of_none z hn)]; exact z, fun b o u z => by rw [upd_ne (ne_of_none z hn)]; exact z, fun b ps z => ⟨#[], by rw [upd_ne (ne_of_none z hn), z]; simp⟩⟩ (fun b o z => ?_) I.bare (fun b z => absurd z (by simp)), rfl, h a hn⟩
  by_cases hb : b = a
  · rw [hb, upd_same] at z
    cases z
    rw [hb]
    exact exo_ok (t1 := t) ho
  · rw [upd_ne hb] at z
    exact (hok b o z).stay (fun c v _ y => hm.keeps c v y) (fun c hc => by rw [upd_ne (ne_of_none hc hn)]; exact hc) fun c xs hc => by rw [upd_ne (ne_of_none hc hn)]; exact hc
/-- e.f, e an error -/
def tExA (C : Nat → Addr) (f : Str) (te : TE) : TE := fun σ H Q => te σ H fun x H1 => ∃ (a dx : Addr) (i : Nat) (y : V), x = .ref a ∧ i < 18 ∧ hasI i = true ∧ f = flE i ∧ H1 a = some (exo a (C i) (some dx)) ∧ H1 dx = some (exd dx [(f, y)]) ∧ Q y H1
theorem pe_exA (W : ErrW X.prog X.w X.K X.mg X.base C) {n : Str} (he : PE X e te) (hb : attributeBase e n X.env (eval e X.env) = eval e X.env := by rfl) : PE X (.Attribute e n pos) (tExA C n te) := by
  refine (⟨fun pins s σ H Q I h => ?_⟩)
  refine (attr_of hb (thn (he.run pins s σ H _ I h) fun u s1 hh => ?_))
  obtain ⟨x, H1, I1, rx, a, dx, i, y, ex, hi, hI, ef, ea, ed, q⟩ := hh
  subst ex
  have eqv : (u = Value.ref a) := rx; subst eqv
  obtain ⟨T, hno, _⟩ := W.ow i hi hI
  obtain ⟨t1, ho⟩ := exo_at I1.hok ea
  obtain ⟨mA, hns, hr⟩ := exd_at I1.hok ed
  obtain ⟨od, hod, hl⟩ := lookIn_ns hns
  have l : List.lookup n [(n, y)] = some y := by simp [List.lookup]
  obtain ⟨u, hu, ru⟩ := RelO.some_of (v := y) (o := mA n) (by rw [← l]; exact hr n)
  have J : PySem.W.InstAt s1.heap a { cls := .ref (C i), dict := some dx, data := .fields #[.ref t1, .none, .none, .none, .bool false, .none] } (C i) (some od) := ⟨ho, rfl, rfl, hod⟩
  have F := W.xf i hi
  exact HandSPX.exc_get I1.kIn J F.ga F.gg F.exC (PySem.W.findObj_own F.hdC (by rw [ef]; exact hno) rfl (by rw [hl, hu])) (handed_of ru) ⟨y, H1, I1.tok _, ru, q⟩
/-- isinstance(e, c), e an error -/
def rIsX (C : Nat → Addr) (K : PySem.W.Frag) : List V → Hp → VK → Prop := fun xs H Q => ∃ (a : Addr) (i : Nat) (c : V) (cv : Value) (b : Bool), xs = [.ref a, c] ∧ i < 18 ∧ ErrAt C H a i ∧ (∀ u, RelV c u → u = cv) ∧ PySem.W.kitOne K (.ref (C i)) cv = some b ∧ Q (.bl b) H
theorem call_isX (W : ErrW X.prog X.w X.K X.mg X.base C) : CallR X (.builtin "isinstance") (rIsX C X.K) := by
  intro pins s σ H xs us Q I r h0; have h := h0
  obtain ⟨a, i, c, cv, b, rfl, hi, ⟨d, ea, hd⟩, hcv, e, q⟩ := h
  cases r with
  | cons rx rr =>
    cases rr with
    | cons rt rr =>
      cases rr
      cases rx
      have ecv := hcv _ rt
      obtain ⟨t1, ho⟩ := exo_at I.hok ea
      have E := W.ec i hi
      obtain ⟨cd, hcd, _⟩ := PySem.W.any_some E.hd
      have fin : ∀ od, PySem.W.InstAt s.heap a { cls := .ref (C i), dict := d, data := .fields #[.ref t1, .none, .none, .none, .bool false, .none] } (C i) od → wpAny (model X.prog X.w) X.A (call (.builtin "isinstance") [.ref a, cv]) (EP X pins σ Q) X.xe s := fun od J =>
        PySem.W.kia_one (PySem.W.kitx_exc (od := od) (by rw [hcd]; rfl) E.hg E.hk E.hs E.ha E.hn E.ht E.hm) I.kIn J e (fun z => nomatch z) fun tk => ⟨.bl b, H, I.kept (t' := tk) fun _ _ z => z, rfl, q⟩
      rw [ecv]
      cases d with
      | none => exact fin none ⟨ho, rfl, rfl, trivial⟩
      | some dx =>
        obtain ⟨fs, ed⟩ := hd dx rfl
        obtain ⟨mA, hns, _⟩ := exd_at I.hok ed
        obtain ⟨od, hod, _⟩ := lookIn_ns hns
        exact fin (some od) ⟨ho, rfl, rfl, hod⟩
end
/-! ### lists of errors -/
def MkEA (C : Nat → Addr) (σ : L2.St) (H : Hp) (is : List Nat) (t : TA) : Prop := ∀ (H1 : Hp) (Q : List V → Hp → Prop), Sx [] H H1 → (∀ H2 (as : List Addr), Sx [] H1 H2 → as.length = is.length → (∀ (k : Nat) (a : Addr) (i : Nat), as[k]? = some a → is[k]? = some i → ErrAt C H2 a i) → Q (as.map V.ref) H2) → t σ H1 Q
section
variable {C : Nat → Addr} {σ : L2.St} {H : Hp} {is : List Nat} {t : TA} {y : V} {K : PySem.W.Frag}
theorem MkEA.nil : MkEA C σ H [] tNil := fun H1 Q s q => q H1 [] (Sx.refl _) rfl fun k a i h => by simp at h
theorem MkEA.cE (i : Nat) (hv : σ[0]? = some (some y)) (h : MkEA C σ H is t) : MkEA C σ H (i :: is) (tCons (tMkE C i (tCons (tVar 0) tNil)) t) := fun H1 Q s q => by
  refine ⟨y, hv, y, rfl, fun a dx n1 n2 ne => ?_⟩
  have s1 : Sx [] H1 (upd (upd H1 dx (exd dx [(flE i, y)])) a (exo a (C i) (some dx))) := (Sx.n0 n2).new (by rw [upd_ne (Ne.symm ne)]; exact n1)
  have e1 : ErrAt C (upd (upd H1 dx (exd dx [(flE i, y)])) a (exo a (C i) (some dx))) a i := ⟨some dx, upd_same, fun d e => by cases e; exact ⟨_, by rw [upd_ne ne, upd_same]⟩⟩
  refine h _ _ (s.trans s1) fun H2 as s2 hl ha => q H2 (a :: as) (s1.trans s2) (by rw [List.length_cons, List.length_cons, hl]) ?_
  intro k b j hb hj
  cases k with
  | zero => cases hb; cases hj; exact e1.keep s2
  | succ k => exact ha k b j hb hj
theorem MkEA.c0 (i : Nat) (h : MkEA C σ H is t) : MkEA C σ H (i :: is) (tCons (tMk0 C i) t) := fun H1 Q s q => by
  refine fun a n1 => ?_
  have s1 : Sx [] H1 (upd H1 a (exo a (C i) none)) := Sx.n0 n1
  have e1 : ErrAt C (upd H1 a (exo a (C i) none)) a i := ⟨none, upd_same, fun d e => by cases e⟩
  refine h _ _ (s.trans s1) fun H2 as s2 hl ha => q H2 (a :: as) (s1.trans s2) (by rw [List.length_cons, List.length_cons, hl]) ?_
  intro k b j hb hj
  cases k with
  | zero => cases hb; cases hj; exact e1.keep s2
  | succ k => exact ha k b j hb hj
/-- errors in a list -/
def ErrL (C : Nat → Addr) (H : Hp) (l : Addr) (is : List Nat) : Prop := ∃ as : List Addr, H l = some (.lst (as.map V.ref)) ∧ as.length = is.length ∧ ∀ (k : Nat) (a : Addr) (i : Nat), as[k]? = some a → is[k]? = some i → ErrAt C H a i
theorem ErrL.keep {H' : Hp} {l : Addr} (h : ErrL C H l is) (s : Sx [] H H') : ErrL C H' l is := by
  obtain ⟨as, e, hl, ha⟩ := h
  exact ⟨as, s _ _ (by simp) e, hl, fun k a i h1 h2 => (ha k a i h1 h2).keep s⟩
theorem ErrL.get {l : Addr} {k i : Nat} (h : ErrL C H l is) (hi : is[k]? = some i) : ∃ xs a, H l = some (.lst xs) ∧ xs[k]? = some (.ref a) ∧ k < xs.length ∧ ErrAt C H a i := by
  obtain ⟨as, e, hl, ha⟩ := h
  have hk : k < as.length := by rw [hl]; exact (List.getElem?_eq_some_iff.mp hi).1
  have e2 : as[k]? = some as[k] := List.getElem?_eq_getElem hk
  exact ⟨_, as[k], e, by rw [List.getElem?_map, e2]; rfl, by rw [List.length_map]; exact hk, ha k _ i e2 hi⟩
/-- [C(e), ..] -/
theorem MkEA.lst {Q : VK} (h : MkEA C σ H is t) (hm : is.length ≤ 1000) (q : ∀ H' l, Sx [] H H' → H l = none → ErrL C H' l is → Q (.ref l) H') : tLst t σ H Q :=
  h H _ (Sx.refl _) fun H2 as s hl ha => ⟨by rw [List.length_map, hl]; exact le_line (by omega), fun p hp => q _ p (s.new hp) (s.free (by simp) hp) ⟨as, upd_same, hl, fun k a i h1 h2 => (ha k a i h1 h2).keep (Sx.n0 hp)⟩⟩
/-- xs + [C(e), ..] -/
theorem MkEA.cat {Q : VK} {l : Addr} {is0 : List Nat} {i : Nat} (hl : σ[i]? = some (some (.ref l))) (e : ErrL C H l is0) (h : MkEA C σ H is t) (hm : is0.length + is.length ≤ 1000) (q : ∀ H' l, Sx [] H H' → H l = none → ErrL C H' l (is0 ++ is) → Q (.ref l) H') : tOp rCat (tVar i) (tLst t) σ H Q := by
  refine ⟨_, hl, MkEA.lst h (by omega) fun H1 l1 s1 n1 e1 => ?_⟩
  obtain ⟨as, ea, la, ha⟩ := e.keep s1
  obtain ⟨bs, eb, lb, hb⟩ := e1
  refine ⟨l, l1, _, _, rfl, rfl, ea, eb, le_line (by rw [List.length_map, List.length_map]; omega), fun p hp => ?_⟩
  refine q _ p (s1.new hp) (s1.free (by simp) hp) ⟨as ++ bs, by rw [upd_same, List.map_append], by rw [List.length_append, List.length_append, la, lb], fun k a j h1 h2 => ?_⟩
  by_cases hk : k < as.length
  · rw [List.getElem?_append_left hk] at h1
    rw [List.getElem?_append_left (by omega)] at h2
    exact (ha k a j h1 h2).keep (Sx.n0 hp)
  · rw [List.getElem?_append_right (by omega)] at h1
    rw [List.getElem?_append_right (by omega)] at h2
    exact (hb _ a j h1 (by rw [la]; exact h2)).keep (Sx.n0 hp)
/-- isinstance(x, C) -/
theorem gIsC {Q : VK} {P : Program} {w : World} {mg : Str → Option Value} {base : Heap} {a : Addr} {i j k : Nat} (W : ErrW P w K mg base C) (hv : σ[k]? = some (some (.ref a))) (hi : i < 18) (hj : j < 18) (e : ErrAt C H a i) (q : Q (.bl (isE i j)) H) : tCB (rIsX C K) (tCons (tVar k) (tCons (tC (.ref (C j))) tNil)) σ H Q :=
  ⟨_, hv, a, i, .ref (C j), .ref (C j), isE i j, rfl, hi, e, fun u r => r, W.isc i j hi hj, q⟩
end
def spKinds (C : Nat → Addr) (js : List Nat) : Sp := fun vs H Q _ => ∃ (a : Addr) (i : Nat), vs = [.ref a] ∧ i < 18 ∧ ErrAt C H a i ∧ ∀ H' l, Sx [] H H' → H l = none → H' l = some (.lst (js.map fun j => .bl (isE i j))) → Q (.ref l) H'
section
variable {w : World} {P : Program} {K : PySem.W.Frag} {mg : Str → Option Value} {base : Heap} {C : Nat → Addr}
theorem ok_lookups {f : Addr} {fd : FuncData} (W : ErrW P w K mg base C) (F_lookups : Fun K "_law_lookups" "_law_lookups" sLookups f fd) (z_isinstance : mg "isinstance" = none) : FnOk P w K mg base CX0 1 f fd ["_law_e"] (spKinds C [15, 16, 17]) := by
  refine F_lookups.ok scLookups (fun vs H Q E h => ?_) (fun cdv A outer s H vs Q E hr h => ?_)
  · obtain ⟨_, _, rfl, _⟩ := h
    rfl
  · obtain ⟨a, i, rfl, hi, e, q⟩ := h
    refine ⟨_, (pss_one (ps_ret (pe_lst (pa_cons (pe_callB (call_isX W) (by rfl) z_isinstance (by decide +kernel) (pa_cons (pv 0) (pa_cons (pe_glob (v := .ref (C 15)) (by rfl) (W.m 15 (by decide)) rfl) pa_nil))) (pa_cons (pe_callB (call_isX W) (by rfl) z_isinstance (by decide +kernel) (pa_cons (pv 0) (pa_cons (pe_glob (v := .ref (C 16)) (by rfl) (W.m 16 (by decide)) rfl) pa_nil))) (pa_cons (pe_callB (call_isX W) (by rfl) z_isinstance (by decide +kernel) (pa_cons (pv 0) (pa_cons (pe_glob (v := .ref (C 17)) (by rfl) (W.m 17 (by decide)) rfl) pa_nil))) pa_nil)))))), ?_⟩
    refine gIsC W rfl hi (by decide) e (gIsC W rfl hi (by decide) e (gIsC W rfl hi (by decide) e ⟨by show 3 ≤ sizeLine; decide, fun p hp => ?_⟩))
    exact q _ p (Sx.n0 hp) hp upd_same
theorem ok_kinds {f : Addr} {fd : FuncData} (W : ErrW P w K mg base C) (F_kinds : Fun K "_law_kinds" "_law_kinds" sKinds f fd) (z_isinstance : mg "isinstance" = none) : FnOk P w K mg base CX0 1 f fd ["_law_e"] (spKinds C [1, 2, 3, 4, 5, 6, 7, 8, 9, 10, 11, 12, 13, 14]) := by
  refine F_kinds.ok scKinds (fun vs H Q E h => ?_) (fun cdv A outer s H vs Q E hr h => ?_)
  · obtain ⟨_, _, rfl, _⟩ := h
    rfl
  · obtain ⟨a, i, rfl, hi, e, q⟩ := h
    refine ⟨_, (pss_cons (ps_set (i := 1) scKinds.nd rfl (by first | exact Or.inl rfl | exact Or.inr rfl) (pe_lst (pa_cons (pe_callB (call_isX W) (by rfl) z_isinstance (by decide +kernel) (pa_cons (pv 0) (pa_cons (pe_glob (v := .ref (C 1)) (by rfl) (W.m 1 (by decide)) rfl) pa_nil))) (pa_cons (pe_callB (call_isX W) (by rfl) z_isinstance (by decide +kernel) (pa_cons (pv 0) (pa_cons (pe_glob (v := .ref (C 2)) (by rfl) (W.m 2 (by decide)) rfl) pa_nil))) (pa_cons (pe_callB (call_isX W) (by rfl) z_isinstance (by decide +kernel) (pa_cons (pv 0) (pa_cons (pe_glob (v := .ref (C 3)) (by rfl) (W.m 3 (by decide)) rfl) pa_nil))) (pa_cons (pe_callB (call_isX W) (by rfl) z_isinstance (by decide +kernel) (pa_cons (pv 0) (pa_cons (pe_glob (v := .ref (C 4)) (by rfl) (W.m 4 (by decide)) rfl) pa_nil))) pa_nil))))))
      (pss_cons (ps_set (i := 1) scKinds.nd rfl (by first | exact Or.inl rfl | exact Or.inr rfl) (pe_op op_cat (pv 1) (pe_lst (pa_cons (pe_callB (call_isX W) (by rfl) z_isinstance (by decide +kernel) (pa_cons (pv 0) (pa_cons (pe_glob (v := .ref (C 5)) (by rfl) (W.m 5 (by decide)) rfl) pa_nil))) (pa_cons (pe_callB (call_isX W) (by rfl) z_isinstance (by decide +kernel) (pa_cons (pv 0) (pa_cons (pe_glob (v := .ref (C 6)) (by rfl) (W.m 6 (by decide)) rfl) pa_nil))) (pa_cons (pe_callB (call_isX W) (by rfl) z_isinstance (by decide +kernel) (pa_cons (pv 0) (pa_cons (pe_glob (v := .ref (C 7)) (by rfl) (W.m 7 (by decide)) rfl) pa_nil))) (pa_cons (pe_callB (call_isX W) (by rfl) z_isinstance (by decide +kernel) (pa_cons (pv 0) (pa_cons (pe_glob (v := .ref (C 8)) (by rfl) (W.m 8 (by decide)) rfl) pa_nil))) pa_nil)))))))
      (pss_cons (ps_set (i := 1) scKinds.nd rfl (by first | exact Or.inl rfl | exact Or.inr rfl) (pe_op op_cat (pv 1) (pe_lst (pa_cons (pe_callB (call_isX W) (by rfl) z_isinstance (by decide +kernel) (pa_cons (pv 0) (pa_cons (pe_glob (v := .ref (C 9)) (by rfl) (W.m 9 (by decide)) rfl) pa_nil))) (pa_cons (pe_callB (call_isX W) (by rfl) z_isinstance (by decide +kernel) (pa_cons (pv 0) (pa_cons (pe_glob (v := .ref (C 10)) (by rfl) (W.m 10 (by decide)) rfl) pa_nil))) (pa_cons (pe_callB (call_isX W) (by rfl) z_isinstance (by decide +kernel) (pa_cons (pv 0) (pa_cons (pe_glob (v := .ref (C 11)) (by rfl) (W.m 11 (by decide)) rfl) pa_nil))) pa_nil))))))
      (pss_one (ps_ret (pe_op op_cat (pv 1) (pe_lst (pa_cons (pe_callB (call_isX W) (by rfl) z_isinstance (by decide +kernel) (pa_cons (pv 0) (pa_cons (pe_glob (v := .ref (C 12)) (by rfl) (W.m 12 (by decide)) rfl) pa_nil))) (pa_cons (pe_callB (call_isX W) (by rfl) z_isinstance (by decide +kernel) (pa_cons (pv 0) (pa_cons (pe_glob (v := .ref (C 13)) (by rfl) (W.m 13 (by decide)) rfl) pa_nil))) (pa_cons (pe_callB (call_isX W) (by rfl) z_isinstance (by decide +kernel) (pa_cons (pv 0) (pa_cons (pe_glob (v := .ref (C 14)) (by rfl) (W.m 14 (by decide)) rfl) pa_nil))) pa_nil)))))))))), ?_⟩
    refine gIsC W rfl hi (by decide) e (gIsC W rfl hi (by decide) e (gIsC W rfl hi (by decide) e (gIsC W rfl hi (by decide) e ⟨by show 4 ≤ sizeLine; decide, fun p1 n1 => gnm ?_⟩)))
    have e1 := e.keep (Sx.n0 (o := .lst [.bl (isE i 1), .bl (isE i 2), .bl (isE i 3), .bl (isE i 4)]) n1)
    have s1 : Sx [] H (upd H p1 (.lst [.bl (isE i 1), .bl (isE i 2), .bl (isE i 3), .bl (isE i 4)])) := Sx.n0 n1
    have l1 : (upd H p1 (.lst [.bl (isE i 1), .bl (isE i 2), .bl (isE i 3), .bl (isE i 4)])) p1 = some (.lst [.bl (isE i 1), .bl (isE i 2), .bl (isE i 3), .bl (isE i 4)]) := upd_same
    generalize upd H p1 (.lst [.bl (isE i 1), .bl (isE i 2), .bl (isE i 3), .bl (isE i 4)]) = H1 at e1 s1 l1 ⊢
    refine ⟨_, rfl, gIsC W rfl hi (by decide) e1 (gIsC W rfl hi (by decide) e1 (gIsC W rfl hi (by decide) e1 (gIsC W rfl hi (by decide) e1 ⟨by show 4 ≤ sizeLine; decide, fun p2 n2 => ?_⟩)))⟩
    refine ⟨p1, p2, _, _, rfl, rfl, Sx.n0 n2 _ _ (by simp) l1, upd_same, by show 4 + 4 ≤ sizeLine; decide, fun p3 n3 => gnm ?_⟩
    have s3 := (s1.new (o := .lst [.bl (isE i 5), .bl (isE i 6), .bl (isE i 7), .bl (isE i 8)]) n2).new (o := .lst ([.bl (isE i 1), .bl (isE i 2), .bl (isE i 3), .bl (isE i 4)] ++ [.bl (isE i 5), .bl (isE i 6), .bl (isE i 7), .bl (isE i 8)])) n3
    have e3 := e.keep s3
    have l3 : (upd (upd H1 p2 (.lst [.bl (isE i 5), .bl (isE i 6), .bl (isE i 7), .bl (isE i 8)])) p3 (.lst ([.bl (isE i 1), .bl (isE i 2), .bl (isE i 3), .bl (isE i 4)] ++ [.bl (isE i 5), .bl (isE i 6), .bl (isE i 7), .bl (isE i 8)]))) p3 = some (.lst ([.bl (isE i 1), .bl (isE i 2), .bl (isE i 3), .bl (isE i 4)] ++ [.bl (isE i 5), .bl (isE i 6), .bl (isE i 7), .bl (isE i 8)])) := upd_same
    generalize upd (upd H1 p2 (.lst [.bl (isE i 5), .bl (isE i 6), .bl (isE i 7), .bl (isE i 8)])) p3 (.lst ([.bl (isE i 1), .bl (isE i 2), .bl (isE i 3), .bl (isE i 4)] ++ [.bl (isE i 5), .bl (isE i 6), .bl (isE i 7), .bl (isE i 8)])) = H3 at e3 s3 l3 ⊢
    refine ⟨_, rfl, gIsC W rfl hi (by decide) e3 (gIsC W rfl hi (by decide) e3 (gIsC W rfl hi (by decide) e3 ⟨by show 3 ≤ sizeLine; decide, fun p4 n4 => ?_⟩))⟩
    refine ⟨p3, p4, _, _, rfl, rfl, Sx.n0 n4 _ _ (by simp) l3, upd_same, by show 8 + 3 ≤ sizeLine; decide, fun p5 n5 => gnm ?_⟩
    have s5 := (s3.new (o := .lst [.bl (isE i 9), .bl (isE i 10), .bl (isE i 11)]) n4).new (o := .lst (([.bl (isE i 1), .bl (isE i 2), .bl (isE i 3), .bl (isE i 4)] ++ [.bl (isE i 5), .bl (isE i 6), .bl (isE i 7), .bl (isE i 8)]) ++ [.bl (isE i 9), .bl (isE i 10), .bl (isE i 11)])) n5
    have e5 := e.keep s5
    have l5 : (upd (upd H3 p4 (.lst [.bl (isE i 9), .bl (isE i 10), .bl (isE i 11)])) p5 (.lst (([.bl (isE i 1), .bl (isE i 2), .bl (isE i 3), .bl (isE i 4)] ++ [.bl (isE i 5), .bl (isE i 6), .bl (isE i 7), .bl (isE i 8)]) ++ [.bl (isE i 9), .bl (isE i 10), .bl (isE i 11)]))) p5 = some (.lst (([.bl (isE i 1), .bl (isE i 2), .bl (isE i 3), .bl (isE i 4)] ++ [.bl (isE i 5), .bl (isE i 6), .bl (isE i 7), .bl (isE i 8)]) ++ [.bl (isE i 9), .bl (isE i 10), .bl (isE i 11)])) := upd_same
    generalize upd (upd H3 p4 (.lst [.bl (isE i 9), .bl (isE i 10), .bl (isE i 11)])) p5 (.lst (([.bl (isE i 1), .bl (isE i 2), .bl (isE i 3), .bl (isE i 4)] ++ [.bl (isE i 5), .bl (isE i 6), .bl (isE i 7), .bl (isE i 8)]) ++ [.bl (isE i 9), .bl (isE i 10), .bl (isE i 11)])) = H5 at e5 s5 l5 ⊢
    refine ⟨_, rfl, gIsC W rfl hi (by decide) e5 (gIsC W rfl hi (by decide) e5 (gIsC W rfl hi (by decide) e5 ⟨by show 3 ≤ sizeLine; decide, fun p6 n6 => ?_⟩))⟩
    refine ⟨p5, p6, _, _, rfl, rfl, Sx.n0 n6 _ _ (by simp) l5, upd_same, by show 11 + 3 ≤ sizeLine; decide, fun p7 n7 => ?_⟩
    have s7 := (s5.new (o := .lst [.bl (isE i 12), .bl (isE i 13), .bl (isE i 14)]) n6)
    exact q _ p7 (s7.new n7) (s7.free (by simp) n7) upd_same
end
/-! ### lists of truth values -/
theorem bls_lay : ∀ bs : List Bool, PyData.canLayAll0 (bs.map PyData.bool) = true
  | [] => by simp only [List.map_nil, PyData.canLayAll0]
  | b :: bs => by simp only [List.map_cons, PyData.canLayAll0, PyData.canLay0, bls_lay bs, Bool.and_self]
theorem bls_dep : ∀ bs : List Bool, PyData.depthAll (bs.map PyData.bool) ≤ 1
  | [] => by simp only [List.map_nil, PyData.depthAll]; omega
  | b :: bs => by
    have := bls_dep bs
    simp only [PyData.depth, PyData.depthAll, List.map_cons]
    omega
theorem bls_ok (bs : List Bool) : SeqAt.shaped (.list (bs.map PyData.bool)) = true ∧ PyData.eqv (.list (bs.map PyData.bool)) (.list (bs.map PyData.bool)) = true := by
  have h1 : PyData.canLay0 (.list (bs.map PyData.bool)) = true := by simp only [PyData.canLay0]; exact bls_lay bs
  have h2 := bls_dep bs
  refine ⟨?_, PySem.SeqAt.eqv_refl _ h1⟩
  unfold SeqAt.shaped
  rw [h1, Bool.true_and]
  exact decide_eq_true (by simp only [PyData.depth]; omega)
theorem bls_dp {K : PySem.W.Frag} {H : Hp} : ∀ bs : List Bool, DpAll K H (bs.map V.bl) (bs.map PyData.bool)
  | [] => .nil
  | b :: bs => .cons (.bl b) (bls_dp bs)
theorem bls_ref {K : PySem.W.Frag} {H : Hp} {l : Addr} {bs : List Bool} (e : H l = some (.lst (bs.map V.bl))) : Dp K H (.ref l) (.list (bs.map PyData.bool)) := .lst (SqL.of e) (bls_dp bs)
def eqI (n i : Nat) : List Bool := (List.range n).map fun j => decide (j = i)
theorem dec_ji (j i : Nat) : decide (V.int (0 + (j : Int)) = V.int (0 + (i : Int))) = decide (j = i) := by
  by_cases h : j = i
  · rw [h, decide_eq_true rfl, decide_eq_true rfl]
  · rw [decide_eq_false h, decide_eq_false fun e => h (by injection e with e; omega)]
theorem eqI_up (j i : Nat) : eqI (j + 1) i = eqI j i ++ [decide (j = i)] := by unfold eqI; rw [List.range_succ, List.map_append]; rfl
theorem kinds14 : ∀ i, i < 14 → ([1, 2, 3, 4, 5, 6, 7, 8, 9, 10, 11, 12, 13, 14].map fun j => V.bl (isE (i + 1) j)) = (eqI 14 i).map V.bl := by decide
theorem kinds3 : ∀ i, i < 3 → ([15, 16, 17].map fun j => V.bl (isE (i + 15) j)) = (eqI 3 i).map V.bl := by decide
theorem no15 : ∀ i, i < 3 → ([1, 2, 3, 4, 5, 6, 7, 8, 9, 10, 11, 12, 13, 14].map fun j => V.bl (isE (i + 15) j)) = List.replicate 14 (V.bl false) := by decide
def spTrue : Sp := fun vs H Q _ => ∃ y : V, vs = [y] ∧ ∀ H', Sx [] H H' → Q (.bl true) H'
section
variable {w : World} {P : Program} {K : PySem.W.Frag} {mg : Str → Option Value} {base : Heap} {C : Nat → Addr}
/-- isinstance(xs[k], c) -/
theorem gIsAt {σ : L2.St} {H : Hp} {Q : VK} {l : Addr} {is : List Nat} {i k p : Nat} {c : V} {cv : Value} {b : Bool} (hv : σ[p]? = some (some (.ref l))) (hk : σ[2]? = some (some (.int (0 + (k : Int))))) (e : ErrL C H l is) (hi : is[k]? = some i) (h18 : i < 18) (hc : ∀ u, RelV c u → u = cv) (hb : PySem.W.kitOne K (.ref (C i)) cv = some b) (q : Q (.bl b) H) :
    tCB (rIsX C K) (tCons (tOp (rIxL K) (tVar p) (tVar 2)) (tCons (tC c) tNil)) σ H Q := by
  obtain ⟨xs, a, ex, hx, hlt, ea⟩ := e.get hi
  exact ⟨_, hv, _, hk, l, xs, _, .ref a, rfl, rfl, SqL.of ex, (by rw [Int.zero_add]; exact atI_nat hx), a, i, c, cv, b, rfl, h18, ea, hc, hb, q⟩
/-- [j == k for j in range(n)] -/
theorem gEqL {H : Hp} {Q : VK} {o0 o1 o3 o4 : Option V} {n : Nat} {i : Nat} (hn : n ≤ 1000) (q : ∀ H' l, Sx [] H H' → H' l = some (.lst ((eqI n i).map V.bl)) → Q (.ref l) H') :
    tLc (iRng1 (tCons (tC (.int (n : Int))) tNil)) (gName 4) tYes (tOp rEq (tVar 4) (tVar 2)) [4] [o0, o1, some (.int (0 + (i : Int))), o3, o4] H Q := by
  refine ⟨(n : Int), rfl, by omega, by omega, fun D hD => lc_range (lo := 0) (n := ((n : Int)).toNat) (fun j H' => Sx [] H H' ∧ H' D = some (.lst ((eqI j i).map V.bl))) ⟨Sx.n0 hD, upd_same⟩ (fun j H' hj p => ?_) (fun H' p => q H' D p.1 p.2)⟩
  refine ⟨rfl, _, rfl, _, rfl, rfl, _, p.2, lt_line (by unfold eqI; rw [List.length_map, List.length_map, List.length_range]; omega), p.1.own hD, ?_⟩
  rw [upd_same, eqI_up, List.map_append, dec_ji]
  rfl
set_option maxHeartbeats 4100000 in
theorem ok_kinds_right {f fA fB : Addr} {fd fdA fdB : FuncData} (W : ErrW P w K mg base C) (F_kinds_right : Fun K "_law_kinds_right" "_law_kinds_right" sKindsRight f fd) (F_kinds : Fun K "_law_kinds" "_law_kinds" sKinds fA fdA) (F_lookups : Fun K "_law_lookups" "_law_lookups" sLookups fB fdB)
    (G_kinds : FnOk P w K mg base CX0 1 fA fdA ["_law_e"] (spKinds C [1, 2, 3, 4, 5, 6, 7, 8, 9, 10, 11, 12, 13, 14])) (G_lookups : FnOk P w K mg base CX0 1 fB fdB ["_law_e"] (spKinds C [15, 16, 17]))
    (b_kinds : Binds K fdA ["_law_e"] []) (b_lookups : Binds K fdB ["_law_e"] []) (m_kinds : mg "_law_kinds" = some (.ref fA)) (m_lookups : mg "_law_lookups" = some (.ref fB))
    (z_isinstance : mg "isinstance" = none) (z_range : mg "range" = none) (z_LookupError : mg "LookupError" = none) (z_ValueError : mg "ValueError" = none) : FnOk P w K mg base CX0 3 f fd ["_law_a"] spTrue := by
  refine F_kinds_right.ok scKindsRight (fun vs H Q E h => ?_) (fun cdv A outer s H vs Q E hr h => ?_)
  · obtain ⟨_, rfl, _⟩ := h
    rfl
  · obtain ⟨y, rfl, q⟩ := h
    refine ⟨_, (pss_cons (ps_set (i := 1) scKindsRight.nd rfl (by first | exact Or.inl rfl | exact Or.inr rfl) (pe_lst (pa_cons (pe_mkE 1 W (hr.mono (by omega)) (by decide) rfl rfl (by rfl) (pa_cons (pv 0) pa_nil)) (pa_cons (pe_mkE 2 W (hr.mono (by omega)) (by decide) rfl rfl (by rfl) (pa_cons (pv 0) pa_nil)) (pa_cons (pe_mkE 3 W (hr.mono (by omega)) (by decide) rfl rfl (by rfl) (pa_cons (pv 0) pa_nil)) (pa_cons (pe_mkE 4 W (hr.mono (by omega)) (by decide) rfl rfl (by rfl) (pa_cons (pv 0) pa_nil)) (pa_cons (pe_mkE 5 W (hr.mono (by omega)) (by decide) rfl rfl (by rfl) (pa_cons (pv 0) pa_nil)) (pa_cons (pe_mk0 6 W (by decide) rfl rfl (by rfl)) (pa_cons (pe_mk0 7 W (by decide) rfl rfl (by rfl)) (pa_cons (pe_mk0 8 W (by decide) rfl rfl (by rfl)) pa_nil))))))))))
      (pss_cons (ps_set (i := 1) scKindsRight.nd rfl (by first | exact Or.inl rfl | exact Or.inr rfl) (pe_op op_cat (pv 1) (pe_lst (pa_cons (pe_mk0 9 W (by decide) rfl rfl (by rfl)) (pa_cons (pe_mk0 10 W (by decide) rfl rfl (by rfl)) (pa_cons (pe_mk0 11 W (by decide) rfl rfl (by rfl)) (pa_cons (pe_mk0 12 W (by decide) rfl rfl (by rfl)) (pa_cons (pe_mkE 13 W (hr.mono (by omega)) (by decide) rfl rfl (by rfl) (pa_cons (pv 0) pa_nil)) (pa_cons (pe_mkE 14 W (hr.mono (by omega)) (by decide) rfl rfl (by rfl) (pa_cons (pv 0) pa_nil)) pa_nil)))))))))
      (C8.pss_cut (ps_for PassesOwn.never rfl (pi_range1 (by rfl) z_range (pa_cons pe_int pa_nil)) (pg_name (i := 2) scKindsRight.nd rfl (by first | exact Or.inl rfl | exact Or.inr rfl)) (pss_cons (ps_if (PW.pt (pw_or (pt_cmpR (op_neD hr.units) (pe_call G_kinds (hr.mono (by omega)) (by rfl) m_kinds F_kinds.kp b_kinds .nil pass0 (pa_cons (pe_ix ix_list (pv 1) (pv 2) (fun _ _ => rfl)) pa_nil)) (pe_lc (own := [("_law_j", 4)]) (g := gName 4) (tt := tYes) rfl scKindsRight.nd (pi_range1 (by rfl) z_range (pa_cons pe_int pa_nil)) (blkOk_by (N := nKindsRight) (sc := defScope sKindsRight) (by decide +kernel)) (fun _ _ _ _ _ => (pg_name (i := 4) scKindsRight.nd rfl (by first | exact Or.inl rfl | exact Or.inr rfl))) (fun _ _ _ _ _ => pts_nil) (fun _ _ _ _ _ => (pe_cmpR op_eq (pv 4) (pv 2) (nomark _)))) (nomark _)) (pw_or1 (pt_val (pe_callB (call_isX W) (by rfl) z_isinstance (by decide +kernel) (pa_cons (pe_ix ix_list (pv 1) (pv 2) (fun _ _ => rfl)) (pa_cons (pe_bltn (v := .ty "LookupError") (by rfl) z_LookupError (by decide +kernel) rfl) pa_nil))))))) (pss_one (ps_ret pe_bl)) pss_nil)
      (pss_one (ps_if (PW.pt (pw_or (pt_not (pt_val (pe_callB (call_isX W) (by rfl) z_isinstance (by decide +kernel) (pa_cons (pe_ix ix_list (pv 1) (pv 2) (fun _ _ => rfl)) (pa_cons (pe_glob (v := .ref (C 0)) (by rfl) (W.m 0 (by decide)) rfl) pa_nil))))) (pw_or1 (pt_not (pt_val (pe_callB (call_isX W) (by rfl) z_isinstance (by decide +kernel) (pa_cons (pe_ix ix_list (pv 1) (pv 2) (fun _ _ => rfl)) (pa_cons (pe_bltn (v := .ty "ValueError") (by rfl) z_ValueError (by decide +kernel) rfl) pa_nil)))))))) (pss_one (ps_ret pe_bl)) pss_nil))))
      (pss_cons (ps_set (i := 3) scKindsRight.nd rfl (by first | exact Or.inl rfl | exact Or.inr rfl) (pe_lst (pa_cons (pe_mkE 15 W (hr.mono (by omega)) (by decide) rfl rfl (by rfl) (pa_cons (pv 0) pa_nil)) (pa_cons (pe_mkE 16 W (hr.mono (by omega)) (by decide) rfl rfl (by rfl) (pa_cons (pv 0) pa_nil)) (pa_cons (pe_mkE 17 W (hr.mono (by omega)) (by decide) rfl rfl (by rfl) (pa_cons (pv 0) pa_nil)) pa_nil)))))
      (C8.pss_cut (ps_for PassesOwn.never rfl (pi_range1 (by rfl) z_range (pa_cons pe_int pa_nil)) (pg_name (i := 2) scKindsRight.nd rfl (by first | exact Or.inl rfl | exact Or.inr rfl)) (pss_cons (ps_if (PW.pt (pw_or (pt_cmpR op_in_seq pe_bl (pe_call G_kinds (hr.mono (by omega)) (by rfl) m_kinds F_kinds.kp b_kinds .nil pass0 (pa_cons (pe_ix ix_list (pv 3) (pv 2) (fun _ _ => rfl)) pa_nil)) (by with_unfolding_all rfl)) (pw_or1 (pt_cmpR (op_neD hr.units) (pe_call G_lookups (hr.mono (by omega)) (by rfl) m_lookups F_lookups.kp b_lookups .nil pass0 (pa_cons (pe_ix ix_list (pv 3) (pv 2) (fun _ _ => rfl)) pa_nil)) (pe_lc (own := [("_law_j", 4)]) (g := gName 4) (tt := tYes) rfl scKindsRight.nd (pi_range1 (by rfl) z_range (pa_cons pe_int pa_nil)) (blkOk_by (N := nKindsRight) (sc := defScope sKindsRight) (by decide +kernel)) (fun _ _ _ _ _ => (pg_name (i := 4) scKindsRight.nd rfl (by first | exact Or.inl rfl | exact Or.inr rfl))) (fun _ _ _ _ _ => pts_nil) (fun _ _ _ _ _ => (pe_cmpR op_eq (pv 4) (pv 2) (nomark _)))) (nomark _))))) (pss_one (ps_ret pe_bl)) pss_nil)
      (pss_cons (ps_if (PW.pt (pw_or (pt_not (pt_val (pe_callB (call_isX W) (by rfl) z_isinstance (by decide +kernel) (pa_cons (pe_ix ix_list (pv 3) (pv 2) (fun _ _ => rfl)) (pa_cons (pe_bltn (v := .ty "LookupError") (by rfl) z_LookupError (by decide +kernel) rfl) pa_nil))))) (pw_or1 (pt_val (pe_callB (call_isX W) (by rfl) z_isinstance (by decide +kernel) (pa_cons (pe_ix ix_list (pv 3) (pv 2) (fun _ _ => rfl)) (pa_cons (pe_bltn (v := .ty "ValueError") (by rfl) z_ValueError (by decide +kernel) rfl) pa_nil))))))) (pss_one (ps_ret pe_bl)) pss_nil)
      (pss_one (ps_if (pt_val (pe_callB (call_isX W) (by rfl) z_isinstance (by decide +kernel) (pa_cons (pe_ix ix_list (pv 3) (pv 2) (fun _ _ => rfl)) (pa_cons (pe_glob (v := .ref (C 0)) (by rfl) (W.m 0 (by decide)) rfl) pa_nil)))) (pss_one (ps_ret pe_bl)) pss_nil)))))
      (pss_cons (ps_if (pt_cmpR op_in_seq pe_bl (pe_call G_kinds (hr.mono (by omega)) (by rfl) m_kinds F_kinds.kp b_kinds .nil pass0 (pa_cons (pe_mk0 0 W (by decide) rfl rfl (by rfl)) pa_nil)) (by with_unfolding_all rfl)) (pss_one (ps_ret pe_bl)) pss_nil)
      (pss_one (ps_ret (pe_and (pe_not (pe_callB (call_isX W) (by rfl) z_isinstance (by decide +kernel) (pa_cons (pe_mk0 0 W (by decide) rfl rfl (by rfl)) (pa_cons (pe_bltn (v := .ty "LookupError") (by rfl) z_LookupError (by decide +kernel) rfl) pa_nil)))) (pe_one (pe_callB (call_isX W) (by rfl) z_isinstance (by decide +kernel) (pa_cons (pe_mk0 0 W (by decide) rfl rfl (by rfl)) (pa_cons (pe_bltn (v := .ty "ValueError") (by rfl) z_ValueError (by decide +kernel) rfl) pa_nil))))))))))))), ?_⟩
    refine gSeqAsg (MkEA.lst (C := C) (is := [1, 2, 3, 4, 5, 6, 7, 8]) (.cE 1 rfl (.cE 2 rfl (.cE 3 rfl (.cE 4 rfl (.cE 5 rfl (.c0 6 (.c0 7 (.c0 8 .nil)))))))) (by decide) fun H1 l1 s1 n1 e1 => gnm ?_)
    refine gSeqAsg (MkEA.cat (C := C) (is := [9, 10, 11, 12, 13, 14]) rfl e1 (.c0 9 (.c0 10 (.c0 11 (.c0 12 (.cE 13 rfl (.cE 14 rfl .nil)))))) (by decide) fun H2 l2 s2 n2 e2 => gnm ?_)
    have s02 := s1.trans s2
    refine ⟨fun σ H' => ∃ o2 o4, σ = [some y, some (.ref l2), o2, none, o4] ∧ Sx [] H H', ?_, ?_⟩
    · refine ⟨14, rfl, by decide, by decide, for_range (n := 14) (fun i σ' H' => ∃ o2 o4, σ' = [some y, some (.ref l2), o2, none, o4] ∧ Sx [] H H' ∧ Sx [] H2 H') ⟨_, _, rfl, s02, Sx.refl _⟩ (fun i σ' H' hi h => ?_) (fun σ' H' h => by obtain ⟨o2, o4, e, z, _⟩ := h; exact ⟨o2, o4, e, z⟩)⟩
      obtain ⟨o2, o4, rfl, s3, s23⟩ := h
      have hi14 : i < 14 := hi
      have e3 := e2.keep s23
      have hget : ([1, 2, 3, 4, 5, 6, 7, 8] ++ [9, 10, 11, 12, 13, 14] : List Nat)[i]? = some (i + 1) := by
        revert i; decide
      obtain ⟨xs, a, ex, hx, hlt, ea⟩ := e3.get hget
      refine gnm ?_
      refine ⟨_, rfl, _, rfl, l2, xs, _, .ref a, rfl, rfl, SqL.of ex, (by rw [Int.zero_add]; exact atI_nat hx), a, i + 1, rfl, by omega, ea, fun H4 l4 s4 n4 e4 => ?_⟩
      refine gEqL (n := 14) (i := i) (by decide) fun H5 l5 s5 e5 => ?_
      rw [kinds14 i hi14] at e4
      have e45 := s5 _ _ (by simp) e4
      refine ⟨_, _, bls_ref e45, bls_ref e5, (bls_ok _).1, (bls_ok _).1, _, rfl, ?_⟩
      rw [(bls_ok _).2]
      have s35 := s4.trans s5
      refine iteF (gIsAt (p := 1) (k := i) (i := i + 1) (c := .ty "LookupError") rfl rfl (e3.keep s35) hget (by omega) (fun u r => r) (W.isl (i + 1) (by omega)) ⟨_, rfl, ?_⟩)
      rw [decide_eq_false (show ¬ 15 ≤ i + 1 by omega)]
      refine iteF (gNext ?_)
      dsimp only
      refine gIsAt (p := 1) (k := i) (i := i + 1) (c := .ref (C 0)) rfl rfl (e3.keep s35) hget (by omega) (fun u r => r) (W.isc (i + 1) 0 (by omega) (by decide)) ⟨_, rfl, ?_⟩
      have e0 : isE (i + 1) 0 = true := by
        unfold isE
        rw [decide_eq_true (rfl : (0 : Nat) = 0), decide_eq_true (show i + 1 ≤ 14 by omega), Bool.and_self, Bool.or_true]
      rw [e0]
      refine iteF (gIsAt (p := 1) (k := i) (i := i + 1) (c := .ty "ValueError") rfl rfl (e3.keep s35) hget (by omega) (fun u r => r) (W.isv (i + 1) (by omega)) ⟨_, rfl, ?_⟩)
      rw [decide_eq_true (show i + 1 ≤ 14 by omega)]
      refine iteF (gNext ?_)
      dsimp only
      exact ⟨_, _, rfl, s3.trans s35, s23.trans s35⟩
    · rintro _ H3 ⟨o2, o4, rfl, s3⟩
      refine gSeqAsg (MkEA.lst (C := C) (is := [15, 16, 17]) (.cE 15 rfl (.cE 16 rfl (.cE 17 rfl .nil))) (by decide) fun H4 l4 s4 n4 e4 => gnm ?_)
      have s34 := s3.trans s4
      refine ⟨fun σ H' => ∃ o2 o4, σ = [some y, some (.ref l2), o2, some (.ref l4), o4] ∧ Sx [] H H', ?_, ?_⟩
      · refine ⟨3, rfl, by decide, by decide, for_range (n := 3) (fun i σ' H' => ∃ o2 o4, σ' = [some y, some (.ref l2), o2, some (.ref l4), o4] ∧ Sx [] H H' ∧ Sx [] H4 H') ⟨_, _, rfl, s34, Sx.refl _⟩ (fun i σ' H' hi h => ?_) (fun σ' H' h => by obtain ⟨o2, o4, e, z, _⟩ := h; exact ⟨o2, o4, e, z⟩)⟩
        obtain ⟨o2, o4, rfl, s5, s45⟩ := h
        have hi3 : i < 3 := hi
        have e5 := e4.keep s45
        have hget : ([15, 16, 17] : List Nat)[i]? = some (i + 15) := by
          revert i; decide
        obtain ⟨xs, a, ex, hx, hlt, ea⟩ := e5.get hget
        refine gnm ?_
        refine ⟨_, rfl, _, rfl, l4, xs, _, .ref a, rfl, rfl, SqL.of ex, (by rw [Int.zero_add]; exact atI_nat hx), a, i + 15, rfl, by omega, ea, fun H6 l6 s6 n6 e6 => ?_⟩
        rw [no15 i hi3] at e6
        refine ⟨l6, _, rfl, .inl (SqL.of e6), rfl, by decide, _, rfl, iteF ?_⟩
        have e6k := e5.keep s6
        obtain ⟨xs6, a6, ex6, hx6, hlt6, ea6⟩ := e6k.get hget
        refine ⟨_, rfl, _, rfl, l4, xs6, _, .ref a6, rfl, rfl, SqL.of ex6, (by rw [Int.zero_add]; exact atI_nat hx6), a6, i + 15, rfl, by omega, ea6, fun H7 l7 s7 n7 e7 => ?_⟩
        refine gEqL (n := 3) (i := i) (by decide) fun H8 l8 s8 e8 => ?_
        rw [kinds3 i hi3] at e7
        have e78 := s8 _ _ (by simp) e7
        refine ⟨_, _, bls_ref e78, bls_ref e8, (bls_ok _).1, (bls_ok _).1, _, rfl, ?_⟩
        rw [(bls_ok _).2]
        have s58 := (s6.trans s7).trans s8
        refine iteF (gNext ?_)
        dsimp only
        refine gIsAt (p := 3) (k := i) (i := i + 15) (c := .ty "LookupError") rfl rfl (e5.keep s58) hget (by omega) (fun u r => r) (W.isl (i + 15) (by omega)) ⟨_, rfl, ?_⟩
        rw [decide_eq_true (show 15 ≤ i + 15 by omega)]
        refine iteF (gIsAt (p := 3) (k := i) (i := i + 15) (c := .ty "ValueError") rfl rfl (e5.keep s58) hget (by omega) (fun u r => r) (W.isv (i + 15) (by omega)) ⟨_, rfl, ?_⟩)
        rw [decide_eq_false (show ¬ i + 15 ≤ 14 by omega)]
        refine iteF (gNext ?_)
        dsimp only
        refine gIsAt (p := 3) (k := i) (i := i + 15) (c := .ref (C 0)) rfl rfl (e5.keep s58) hget (by omega) (fun u r => r) (W.isc (i + 15) 0 (by omega) (by decide)) ⟨_, rfl, ?_⟩
        have e0 : isE (i + 15) 0 = false := by
          unfold isE
          rw [decide_eq_false (show ¬ i + 15 = 0 by omega), decide_eq_false (show ¬ i + 15 ≤ 14 by omega), Bool.and_false, Bool.or_false]
        rw [e0]
        refine iteF (gNext ?_)
        dsimp only
        exact ⟨_, _, rfl, s5.trans s58, s45.trans s58⟩
      · rintro _ H5 ⟨o2, o4, rfl, s5⟩
        refine fun a6 n6 => ?_
        refine ⟨a6, 0, rfl, by decide, ⟨none, upd_same, fun d e => by cases e⟩, fun H7 l7 s7 n7 e7 => ?_⟩
        have no : ([1, 2, 3, 4, 5, 6, 7, 8, 9, 10, 11, 12, 13, 14].map fun j => V.bl (isE 0 j)) = List.replicate 14 (V.bl false) := by decide
        rw [no] at e7
        refine ⟨l7, _, rfl, .inl (SqL.of e7), rfl, by decide, _, rfl, iteF (gNext ?_)⟩
        dsimp only
        refine fun a8 n8 => ?_
        refine ⟨a8, 0, .ty "LookupError", .type "LookupError", _, rfl, by decide, ⟨none, upd_same, fun d e => by cases e⟩, fun u r => r, W.isl 0 (by decide), _, rfl, _, rfl, ?_⟩
        rw [decide_eq_false (show ¬ 15 ≤ 0 by decide)]
        refine iteT ?_
        refine fun a9 n9 => ?_
        refine ⟨a9, 0, .ty "ValueError", .type "ValueError", _, rfl, by decide, ⟨none, upd_same, fun d e => by cases e⟩, fun u r => r, W.isv 0 (by decide), ?_⟩
        exact q _ ((((s5.new n6).trans s7).new n8).new n9)
end
/-! ### the fields -/
section
variable {w : World} {P : Program} {K : PySem.W.Frag} {mg : Str → Option Value} {base : Heap} {C : Nat → Addr}
theorem gLst {t : TA} {σ : L2.St} {H : Hp} {Q : VK} (h : t σ H fun vs H1 => vs.length ≤ sizeLine ∧ ∀ p, H1 p = none → Q (.ref p) (upd H1 p (.lst vs))) : tLst t σ H Q := h
/-- C(e).f -/
theorem gFld {σ : L2.St} {H : Hp} {Q : VK} {y : V} {i : Nat} {f : Str} (hv : σ[0]? = some (some y)) (hi : i < 18) (hI : hasI i = true) (hf : f = flE i) (q : ∀ H', Sx [] H H' → Q y H') : tExA C f (tMkE C i (tCons (tVar 0) tNil)) σ H Q :=
  ⟨y, hv, y, rfl, fun a dx n1 n2 ne => ⟨a, dx, i, y, rfl, hi, hI, hf, upd_same, by rw [upd_ne ne, upd_same, hf], q _ ((Sx.n0 n2).new (by rw [upd_ne (Ne.symm ne)]; exact n1))⟩⟩
theorem rep_eqv {E : V → V → Prop} {z : V} (h : E z z) : ∀ n, Paired E (List.replicate n z) (List.replicate n z)
  | 0 => .nil
  | n + 1 => .cons h (rep_eqv h n)
def spFields : Sp := fun vs H Q _ => ∃ (N : List Addr) (y : V) (d : PyData), vs = [y] ∧ Gd N H y d ∧ ShG 60 80000 d ∧ ∀ H', Sx [] H H' → Q (.bl true) H'
theorem ok_fields_right {f : Addr} {fd : FuncData} (W : ErrW P w K mg base C) (F_fields_right : Fun K "_law_fields_right" "_law_fields_right" sFieldsRight f fd) (z_repr : mg "repr" = none) (z_len : mg "len" = none) : FnG P w K mg base 3 f fd ["_law_a"] spFields := by
  refine Fun.okG F_fields_right scFieldsRight (fun vs H Q E h => ?_) (fun cdv A outer s H vs Q E hr hgd h => ?_)
  · obtain ⟨_, _, _, rfl, _⟩ := h
    rfl
  · obtain ⟨N, y, d, rfl, g, sh, q⟩ := h
    have hu := hr.units
    refine ⟨_, (pss_cons (ps_set (i := 1) scFieldsRight.nd rfl (by first | exact Or.inl rfl | exact Or.inr rfl) (pe_lst (pa_cons (pe_exA W (pe_mkE 1 W (hr.mono (by omega)) (by decide) rfl rfl (by rfl) (pa_cons (pv 0) pa_nil))) (pa_cons (pe_exA W (pe_mkE 2 W (hr.mono (by omega)) (by decide) rfl rfl (by rfl) (pa_cons (pv 0) pa_nil))) (pa_cons (pe_exA W (pe_mkE 3 W (hr.mono (by omega)) (by decide) rfl rfl (by rfl) (pa_cons (pv 0) pa_nil))) (pa_cons (pe_exA W (pe_mkE 4 W (hr.mono (by omega)) (by decide) rfl rfl (by rfl) (pa_cons (pv 0) pa_nil))) (pa_cons (pe_exA W (pe_mkE 5 W (hr.mono (by omega)) (by decide) rfl rfl (by rfl) (pa_cons (pv 0) pa_nil))) pa_nil)))))))
      (pss_cons (ps_set (i := 1) scFieldsRight.nd rfl (by first | exact Or.inl rfl | exact Or.inr rfl) (pe_op op_cat (pv 1) (pe_lst (pa_cons (pe_exA W (pe_mkE 13 W (hr.mono (by omega)) (by decide) rfl rfl (by rfl) (pa_cons (pv 0) pa_nil))) (pa_cons (pe_exA W (pe_mkE 14 W (hr.mono (by omega)) (by decide) rfl rfl (by rfl) (pa_cons (pv 0) pa_nil))) (pa_cons (pe_exA W (pe_mkE 15 W (hr.mono (by omega)) (by decide) rfl rfl (by rfl) (pa_cons (pv 0) pa_nil))) (pa_cons (pe_exA W (pe_mkE 16 W (hr.mono (by omega)) (by decide) rfl rfl (by rfl) (pa_cons (pv 0) pa_nil))) (pa_cons (pe_exA W (pe_mkE 17 W (hr.mono (by omega)) (by decide) rfl rfl (by rfl) (pa_cons (pv 0) pa_nil))) pa_nil))))))))
      (pss_one (ps_ret (pe_cmpR (op_eqV hr.units) (pe_lc (own := [("_law_one_here", 2)]) (g := gName 2) (tt := tYes) rfl scFieldsRight.nd (pi_list (pv 1)) (blkOk_by (N := nFieldsRight) (sc := defScope sFieldsRight) (by decide +kernel)) (fun _ _ _ _ _ => (pg_name (i := 2) scFieldsRight.nd rfl (by first | exact Or.inl rfl | exact Or.inr rfl))) (fun _ _ _ _ _ => pts_nil) (fun _ _ _ _ _ => (pe_callB (call_reprG hgd hu) (by rfl) z_repr boot_repr (pa_cons (pv 2) pa_nil)))) (pe_op op_rep (pe_lst (pa_cons (pe_callB (call_reprG hgd hu) (by rfl) z_repr boot_repr (pa_cons (pv 0) pa_nil)) pa_nil)) (pe_callB call_len_seq (by rfl) z_len boot_len (pa_cons (pv 1) pa_nil))) (nomark _)))))), ?_⟩
    refine gSeqAsg ?_
    refine gLst <| gCons <| gFld (C := C) (y := y) (i := 1) rfl (by decide) rfl rfl fun H1 s1 => gCons <| gFld (C := C) (y := y) (i := 2) rfl (by decide) rfl rfl fun H2 s2 => gCons <| gFld (C := C) (y := y) (i := 3) rfl (by decide) rfl rfl fun H3 s3 => gCons <| gFld (C := C) (y := y) (i := 4) rfl (by decide) rfl rfl fun H4 s4 => gCons <| gFld (C := C) (y := y) (i := 5) rfl (by decide) rfl rfl fun H5 s5 => gNil ⟨by show 5 ≤ sizeLine; decide, fun p hp => gnm ?_⟩
    have sp : Sx [] H (upd H5 p (.lst [y, y, y, y, y])) := ((((s1.trans s2).trans s3).trans s4).trans s5).new hp
    have ep : (upd H5 p (.lst [y, y, y, y, y])) p = some (.lst [y, y, y, y, y]) := upd_same
    generalize upd H5 p (.lst [y, y, y, y, y]) = G at sp ep ⊢
    refine gSeqAsg ?_
    refine ⟨_, rfl, ?_⟩
    refine gLst <| gCons <| gFld (C := C) (y := y) (i := 13) rfl (by decide) rfl rfl fun G1 t1 => gCons <| gFld (C := C) (y := y) (i := 14) rfl (by decide) rfl rfl fun G2 t2 => gCons <| gFld (C := C) (y := y) (i := 15) rfl (by decide) rfl rfl fun G3 t3 => gCons <| gFld (C := C) (y := y) (i := 16) rfl (by decide) rfl rfl fun G4 t4 => gCons <| gFld (C := C) (y := y) (i := 17) rfl (by decide) rfl rfl fun G5 t5 => gNil ⟨by show 5 ≤ sizeLine; decide, fun p2 hp2 => ?_⟩
    have t05 := (((t1.trans t2).trans t3).trans t4).trans t5
    refine ⟨p, p2, _, _, rfl, rfl, (t05.new hp2) _ _ (by simp) ep, upd_same, by show 5 + 5 ≤ sizeLine; decide, fun p3 hp3 => gnm ?_⟩
    have sq := sp.trans ((t05.new (o := .lst [y, y, y, y, y]) hp2).new (o := .lst ([y, y, y, y, y] ++ [y, y, y, y, y])) hp3)
    have eq : (upd (upd G5 p2 (.lst [y, y, y, y, y])) p3 (.lst ([y, y, y, y, y] ++ [y, y, y, y, y]))) p3 = some (.lst (List.replicate 10 y)) := upd_same
    generalize upd (upd G5 p2 (.lst [y, y, y, y, y])) p3 (.lst ([y, y, y, y, y] ++ [y, y, y, y, y])) = U at sq eq ⊢
    refine gRet ?_
    refine ⟨_, rfl, p3, rfl, ⟨_, .inl (.inl eq)⟩, fun D hD => lc_list (xs := List.replicate 10 y) (fun i H' => Sx [] U H' ∧ H' D = some (.lst (List.replicate i (.str d.shown)))) ⟨Sx.n0 hD, upd_same⟩ (fun i H' _ z => SqL.of (z.1 _ _ (by simp) eq)) (fun i x H' hi z => ?_) (fun H' z => ?_)⟩
    · obtain ⟨hl, hx⟩ := List.getElem?_eq_some_iff.mp hi
      rw [List.getElem_replicate] at hx
      rw [List.length_replicate] at hl
      subst hx
      refine ⟨rfl, ?_⟩
      refine ⟨_, rfl, N, y, d, rfl, g.keep (sq.trans z.1).kp0, sh, _, z.2, lt_line (by rw [List.length_replicate]; omega), z.1.own hD, ?_⟩
      rw [upd_same, List.replicate_succ']
    · obtain ⟨zs, ze⟩ := z
      rw [List.length_replicate] at ze
      refine ⟨_, rfl, N, y, d, rfl, g.keep (sq.trans zs).kp0, sh, by show 1 ≤ sizeLine; decide, fun p4 hp4 => ?_⟩
      have z4 := Sx.n0 (H := H') (o := .lst [.str d.shown]) hp4
      have e4 : (upd H' p4 (.lst [.str d.shown])) p4 = some (.lst [.str d.shown]) := upd_same
      generalize upd H' p4 (.lst [.str d.shown]) = V4 at z4 e4 ⊢
      refine ⟨_, rfl, p3, List.replicate 10 y, rfl, .inl (SqL.of ((zs.trans z4) _ _ (by simp) eq)), p4, _, [.str d.shown], rfl, rfl, e4, by rw [List.length_replicate]; decide, by rw [List.length_replicate]; decide, by rw [List.length_replicate]; show 1 * 10 ≤ sizeLine; decide, fun p5 hp5 => ?_⟩
      refine ⟨0 + 1, by decide, .inl ⟨D, p5, List.replicate 10 (.str d.shown), List.replicate 10 (.str d.shown), rfl, rfl, SqL.of ((z4.new hp5) _ _ (by simp) ze), SqL.of upd_same, rep_eqv (.inl ⟨rfl, rfl⟩) 10⟩, ?_⟩
      exact q _ ((sq.trans zs).trans (z4.new hp5))
end
/-! ### the bounds -/
def bnds : List Int := [8, 8, 3, 2, 6, 24, 30, 2, 2, 3, 5, 1000000, 40, 1, 60, 20, 60, 60]
def spBounds : Sp := fun vs H Q _ => vs = [] ∧ ∀ H' l, Sx [] H H' → H l = none → H' l = some (.lst (bnds.map V.int)) → Q (.ref l) H'
section
variable {w : World} {P : Program} {K : PySem.W.Frag} {mg : Str → Option Value} {base : Heap}
theorem ok_bounds {f aB aF : Addr} {fd : FuncData} {mB mF uB uF : Value} (F_bounds : Fun K "_law_bounds" "_law_bounds" sBounds f fd)
    (m_MAX_NAME : ∃ t, mg "MAX_NAME" = some (.int 8 t)) (m_MAX_TIMES : ∃ t, mg "MAX_TIMES" = some (.int 8 t)) (m_MAX_DEEP : ∃ t, mg "MAX_DEEP" = some (.int 3 t)) (m_MAX_NOTS : ∃ t, mg "MAX_NOTS" = some (.int 2 t)) (m_MAX_BY : ∃ t, mg "MAX_BY" = some (.int 6 t)) (m_MAX_PLACES : ∃ t, mg "MAX_PLACES" = some (.int 24 t))
    (m_MAX_WEIGHT : ∃ t, mg "MAX_WEIGHT" = some (.int 30 t)) (m_MAX_RESTS : ∃ t, mg "MAX_RESTS" = some (.int 2 t)) (m_MAX_COMPARINGS : ∃ t, mg "MAX_COMPARINGS" = some (.int 2 t)) (m_MAX_NEST : ∃ t, mg "MAX_NEST" = some (.int 3 t)) (m_MAX_FAMILY : ∃ t, mg "MAX_FAMILY" = some (.int 5 t)) (m_MAX_PERIOD : ∃ t, mg "MAX_PERIOD" = some (.int 1000000 t))
    (m_MAX_HEARD : ∃ t, mg "MAX_HEARD" = some (.int 40 t)) (m_MAX_LIES : ∃ t, mg "MAX_LIES" = some (.int 1 t)) (m_MAX_EDITS : ∃ t, mg "MAX_EDITS" = some (.int 60 t)) (m_BATCH : ∃ t, mg "BATCH" = some (.int 20 t))
    (m_Bench : mg "Bench" = some (.ref aB)) (rB : ClX.CRead K aB mB) (vB : ClX.CVal K aB mB "MOST_EDITS" (.int 60) uB) (m_FairBench : mg "FairBench" = some (.ref aF)) (rF : ClX.CRead K aF mF) (vF : ClX.CVal K aF mF "MOST_EDITS" (.int 60) uF) : FnOk P w K mg base CX0 1 f fd [] spBounds := by
  obtain ⟨t1, m_MAX_NAME⟩ := m_MAX_NAME
  obtain ⟨t2, m_MAX_TIMES⟩ := m_MAX_TIMES
  obtain ⟨t3, m_MAX_DEEP⟩ := m_MAX_DEEP
  obtain ⟨t4, m_MAX_NOTS⟩ := m_MAX_NOTS
  obtain ⟨t5, m_MAX_BY⟩ := m_MAX_BY
  obtain ⟨t6, m_MAX_PLACES⟩ := m_MAX_PLACES
  obtain ⟨t7, m_MAX_WEIGHT⟩ := m_MAX_WEIGHT
  obtain ⟨t8, m_MAX_RESTS⟩ := m_MAX_RESTS
  obtain ⟨t9, m_MAX_COMPARINGS⟩ := m_MAX_COMPARINGS
  obtain ⟨t10, m_MAX_NEST⟩ := m_MAX_NEST
  obtain ⟨t11, m_MAX_FAMILY⟩ := m_MAX_FAMILY
  obtain ⟨t12, m_MAX_PERIOD⟩ := m_MAX_PERIOD
  obtain ⟨t13, m_MAX_HEARD⟩ := m_MAX_HEARD
  obtain ⟨t14, m_MAX_LIES⟩ := m_MAX_LIES
  obtain ⟨t15, m_MAX_EDITS⟩ := m_MAX_EDITS
  obtain ⟨t16, m_BATCH⟩ := m_BATCH
  refine F_bounds.ok scBounds (fun vs H Q E h => ?_) (fun cdv A outer s H vs Q E hr h => ?_)
  · obtain ⟨rfl, _⟩ := h
    rfl
  · obtain ⟨rfl, q⟩ := h
    refine ⟨_, (pss_cons (ps_set (i := 0) scBounds.nd rfl (by first | exact Or.inl rfl | exact Or.inr rfl) (pe_lst (pa_cons (pe_glob (v := .int 8) (by rfl) m_MAX_NAME ⟨_, rfl⟩) (pa_cons (pe_glob (v := .int 8) (by rfl) m_MAX_TIMES ⟨_, rfl⟩) (pa_cons (pe_glob (v := .int 3) (by rfl) m_MAX_DEEP ⟨_, rfl⟩) (pa_cons (pe_glob (v := .int 2) (by rfl) m_MAX_NOTS ⟨_, rfl⟩) (pa_cons (pe_glob (v := .int 6) (by rfl) m_MAX_BY ⟨_, rfl⟩) (pa_cons (pe_glob (v := .int 24) (by rfl) m_MAX_PLACES ⟨_, rfl⟩) (pa_cons (pe_glob (v := .int 30) (by rfl) m_MAX_WEIGHT ⟨_, rfl⟩) (pa_cons (pe_glob (v := .int 2) (by rfl) m_MAX_RESTS ⟨_, rfl⟩) (pa_cons (pe_glob (v := .int 2) (by rfl) m_MAX_COMPARINGS ⟨_, rfl⟩) pa_nil)))))))))))
      (pss_cons (ps_set (i := 0) scBounds.nd rfl (by first | exact Or.inl rfl | exact Or.inr rfl) (pe_op op_cat (pv 0) (pe_lst (pa_cons (pe_glob (v := .int 3) (by rfl) m_MAX_NEST ⟨_, rfl⟩) (pa_cons (pe_glob (v := .int 5) (by rfl) m_MAX_FAMILY ⟨_, rfl⟩) (pa_cons (pe_glob (v := .int 1000000) (by rfl) m_MAX_PERIOD ⟨_, rfl⟩) (pa_cons (pe_glob (v := .int 40) (by rfl) m_MAX_HEARD ⟨_, rfl⟩) (pa_cons (pe_glob (v := .int 1) (by rfl) m_MAX_LIES ⟨_, rfl⟩) (pa_cons (pe_glob (v := .int 60) (by rfl) m_MAX_EDITS ⟨_, rfl⟩) (pa_cons (pe_glob (v := .int 20) (by rfl) m_BATCH ⟨_, rfl⟩) pa_nil))))))))))
      (pss_one (ps_ret (pe_op op_cat (pv 0) (pe_lst (pa_cons (ClX.pe_cval (pe_glob (v := .ref aB) (by rfl) m_Bench rfl)) (pa_cons (ClX.pe_cval (pe_glob (v := .ref aF) (by rfl) m_FairBench rfl)) pa_nil)))))))), ?_⟩
    refine gSeqAsg ⟨by show 9 ≤ sizeLine; decide, fun p hp => gnm ?_⟩
    refine gSeqAsg ⟨_, rfl, by show 7 ≤ sizeLine; decide, fun p2 hp2 => ⟨p, p2, _, _, rfl, rfl, (Sx.n0 hp2) _ _ (by simp) upd_same, upd_same, by show 9 + 7 ≤ sizeLine; decide, fun p3 hp3 => gnm ?_⟩⟩
    refine ⟨_, rfl, aB, mB, _, _, rfl, rB, vB, aF, mF, _, _, rfl, rF, vF, by show 2 ≤ sizeLine; decide, fun p4 hp4 => ⟨p3, p4, _, _, rfl, rfl, (Sx.n0 hp4) _ _ (by simp) upd_same, upd_same, by show 16 + 2 ≤ sizeLine; decide, fun p5 hp5 => ?_⟩⟩
    have s4 := (((Sx.n0 (o := .lst [.int 8, .int 8, .int 3, .int 2, .int 6, .int 24, .int 30, .int 2, .int 2]) hp).new hp2).new hp3).new (o := .lst [.int 60, .int 60]) hp4
    exact q _ p5 (s4.new hp5) (s4.free (by simp) hp5) upd_same
end
/-! ### the values -/
theorem strOk_of (s : String) : PyData.strOk (Str.ofString s) = true := by
  rw [Str.ofString_eq_toList]
  unfold PyData.strOk
  rw [Array.all_eq_true']
  intro c hc
  rw [Array.mem_def, List.mem_map] at hc
  obtain ⟨x, _, rfl⟩ := hc
  refine decide_eq_true ?_
  have := x.valid
  have e : x.toNat = x.val.toNat := rfl
  rcases this with h | h
  · omega
  · omega
section
variable {N : List Addr} {σ : L2.St} {H : Hp} {k n m : Nat}
theorem MkE.strI {i : Nat} {z : Int} (hv : σ[i]? = some (some (.int z))) (hz : z.natAbs < 2 ^ 40) : MkE N σ H k 50 (tCB (fun xs H Q => ∃ i, xs = [.int i] ∧ i.natAbs.log2 < 1920 ∧ Q (.str (toString i)) H) (tCons (tVar i) tNil)) := fun H1 Q s q => by
  have hl : z.natAbs.log2 < 40 := PySem.Flt.log2_lt_of (by decide) hz
  refine ⟨_, hv, z, rfl, by omega, q H1 _ _ (Sx.refl _) (.str _) (ShG.str (strOk_of _) k 50 ?_)⟩
  rw [PySem.ofString_length]
  have := PySem.int_text_length_le (k := 40) (by decide) hl
  omega
theorem MkE.ivar {i : Nat} {z : Int} (hv : σ[i]? = some (some (.int z))) (hz : z.natAbs < 2 ^ 40) : MkE N σ H k 40 (tVar i) := MkE.var (k2 := k) hv (.int z) (ShG.int hz (by decide) (by decide) k) (Nat.le_refl _)
theorem MkE.dicV {x : Str} {i : Nat} {z : Int} (hN : ∀ b ∈ N, H b ≠ none) (h : PyData.strOk x = true) (hx : x.length ≤ 20) (hv : σ[i]? = some (some (.int z))) (hz : z.natAbs < 2 ^ 40) : MkE N σ H (k + 1) 300 (tDisp [(tC (.str x), tVar i)]) := fun H1 Q s q p hp => by
  refine ⟨_, hv, upd_same, [(.inr x, .int z)], rfl, (show 1 ≤ 15 by decide), ?_⟩
  refine q _ _ (.dict [(.str x, .int z)]) ?_ ?_ (ShG.dic1 h hx (Nat.lt_of_lt_of_le hz (Nat.pow_le_pow_right (by decide) (by decide))))
  · exact ((Sx.refl _).new hp).own hp
  · exact .dic [(x, z)] upd_same (notin_new hN s hp)
end
def spValue : Sp := fun vs H Q _ => ∃ (N : List Addr) (a c : Addr) (cs : List Int) (k : Int), vs = [.ref a] ∧ Dk H a c cs k ∧ NOk N H a c ∧ k + 2 ≤ KB ∧
  ∀ H' cs' k' v d, Sx [a, c] H H' → Dk H' a c cs' k' → k ≤ k' → k' ≤ k + 2 → Gd N H' v d → ShG 12 6000 d → Q v H'
section
variable {w : World} {P : Program} {K : PySem.W.Frag} {mg : Str → Option Value} {base : Heap}
theorem ok_value {f fD fO : Addr} {fd fdD fdO : FuncData} (F_value : Fun K "_law_value" "_law_value" sValue f fd) (F_draw : Fun K "_law_draw" "_law_draw" sDraw fD fdD) (F_one : Fun K "_law_one" "_law_one" sOne fO fdO)
    (G_draw : FnOk P w K mg base CX0 1 fD fdD ["_law_deck_here", "_law_many"] spDraw) (G_one : FnOk P w K mg base CX0 2 fO fdO ["_law_deck_here", "_law_items"] (spOne K))
    (b_draw : Binds K fdD ["_law_deck_here", "_law_many"] []) (b_one : Binds K fdO ["_law_deck_here", "_law_items"] []) (m_draw : mg "_law_draw" = some (.ref fD)) (m_one : mg "_law_one" = some (.ref fO)) (z_str : mg "str" = none) : FnOk P w K mg base CX0 3 f fd ["_law_deck_here"] spValue := by
  refine F_value.ok scValue (fun vs H Q E h => ?_) (fun cdv A outer s H vs Q E hr h => ?_)
  · obtain ⟨_, _, _, _, _, rfl, _⟩ := h
    rfl
  · obtain ⟨N, a, c, cs, k, rfl, D, NK, hk, q⟩ := h
    refine ⟨_, (pss_cons (ps_set (i := 1) scValue.nd rfl (by first | exact Or.inl rfl | exact Or.inr rfl) (pe_op op_sub (pe_call G_draw (hr.mono (by omega)) (by rfl) m_draw F_draw.kp b_draw .nil pass0 (pa_cons (pv 0) (pa_cons (pe_op op_pow pe_int pe_int) pa_nil))) (pe_op op_mul pe_int (pe_op op_pow pe_int pe_int))))
      (pss_cons (ps_set (i := 2) scValue.nd rfl (by first | exact Or.inl rfl | exact Or.inr rfl) (pe_lst (pa_cons pe_non (pa_cons pe_bl (pa_cons pe_bl (pa_cons pe_int (pa_cons pe_int (pa_cons (pv 1) (pa_cons (pe_callTy call_str_int (by rfl) z_str boot_str (pa_cons (pv 1) pa_nil)) (pa_cons pe_str (pa_cons (pe_tup pa_nil) (pa_cons (pe_tup (pa_cons (pv 1) pa_nil)) (pa_cons (pe_lstB (pa_cons (pv 1) pa_nil)) (pa_cons (pe_tup (pa_cons pe_non (pa_cons pe_str pa_nil))) (pa_cons (pe_tup (pa_cons (pe_tup (pa_cons pe_int pa_nil)) (pa_cons pe_bl pa_nil))) (pa_cons pe_dnewK pa_nil))))))))))))))))
      (pss_one (ps_ret (pe_call G_one (hr.mono (by omega)) (by rfl) m_one F_one.kp b_one .nil pass0 (pa_cons (pv 0) (pa_cons (pe_op op_cat (pv 2) (pe_lst (pa_cons (pe_disp (pps_cons pe_str (pv 1) pps_nil) (by rfl) (by rfl) (fun z => by cases z) (by decide)) (pa_cons (pe_tup (pa_cons pe_str (pa_cons pe_str pa_nil))) (pa_cons (pe_tup (pa_cons (pe_tup (pa_cons pe_int (pa_cons pe_int pa_nil))) (pa_cons (pe_tup (pa_cons pe_int (pa_cons (pv 1) pa_nil))) pa_nil))) pa_nil))))) pa_nil))))))), ?_⟩
    have notin : ∀ {l : Addr}, l ∉ N → l ≠ a ∧ l ≠ c := fun h => ⟨fun e => h (e ▸ NK.ma), fun e => h (e ▸ NK.mc)⟩
    refine gSeqAsg ⟨_, rfl, 10, 9, rfl, rfl, (by unfold CPow; decide), a, c, cs, k, _, rfl, D, by decide, by decide, by omega, fun H1 cs1 y s1 D1 y0 y1 => ⟨10, 8, rfl, rfl, (by unfold CPow; decide), 5, _, rfl, rfl, (by unfold CMul; decide), y, _, rfl, rfl, gnm ?_⟩⟩
    have hy : (y - 5 * (10 : Int) ^ (8 : Int).toNat).natAbs < 2 ^ 40 := by
      have e1 : (10 : Int) ^ (8 : Int).toNat = 100000000 := by decide
      have e2 : (10 : Int) ^ (9 : Int).toNat = 1000000000 := by decide
      rw [e2] at y1
      rw [e1]
      omega
    have NK1 := NK.sx s1 D1
    have hN := NK1.nn
    refine gSeqAsg ?_
    refine MkL.lst (N := N) (σ := [some (.ref a), some (.int (y - 5 * (10 : Int) ^ (8 : Int).toNat)), none]) (H := H1) (k := 12) hN (.cons .non (.cons .bl (.cons .bl (.cons (.sm (i := 0) (by decide)) (.cons (.sm (i := 1) (by decide)) (.cons (.ivar (i := 1) rfl hy) (.cons (.strI (i := 1) rfl hy) (.cons (.str (z := "") (by decide +kernel) (by decide +kernel)) (.cons (.tup .nil (by decide)) (.cons (.tup (.cons (.ivar (i := 1) rfl hy) .nil) (by decide)) (.cons (.lst hN (.cons (.ivar (i := 1) rfl hy) .nil) (by decide))
      (.cons (.tup (.cons .non (.cons (.str (z := "places") (by decide +kernel) (by decide +kernel)) .nil)) (by decide)) (.cons (.tup (.cons (.tup (.cons (.sm (i := 1) (by decide)) .nil) (by decide)) (.cons .bl .nil)) (by decide)) (.cons (.dic0 hN) .nil)))))))))))))) (by decide) H1 _ (Sx.refl _) (fun H2 l2 vs2 s2 nl2 el2 g2 hl2 => ?_)
    refine gnm ?_
    have NK2 := NK1.s0 s2
    have hN2 := NK2.nn
    have D2 := D1.same s2
    refine gRet ?_
    refine gCall ?_
    refine gCons ?_
    refine gVar rfl ?_
    refine gCons ?_
    refine MkL.cat (N := N) (σ := [some (.ref a), some (.int (y - 5 * (10 : Int) ^ (8 : Int).toNat)), some (.ref l2)]) (H := H2) (k := 12) hN2 (MkL.var rfl nl2 el2 g2 hl2) (MkL.lst hN2 (.cons (.dicV (x := "a") (i := 1) hN2 (by decide +kernel) (by decide +kernel) rfl hy) (.cons (.tup (.cons (.str (z := "pay") (by decide +kernel) (by decide +kernel)) (.cons (.str (z := "n") (by decide +kernel) (by decide +kernel)) .nil)) (by decide)) (.cons (.tup (.cons (.tup (.cons (.sm (i := 0) (by decide)) (.cons (.sm (i := 1) (by decide)) .nil)) (by decide)) (.cons (.tup (.cons (.sm (i := 1) (by decide)) (.cons (.ivar (i := 1) rfl hy) .nil)) (by decide)) .nil)) (by decide)) .nil))) (by decide)) (by decide) H2 _ (Sx.refl _) (fun H6 l6 vs6 s6 nl6 el6 g6 hl6 => ?_)
    have D6 := D2.same s6
    refine ⟨a, c, cs1, k + 1, .ref l6, rfl, D6, by omega, .inl ⟨l6, vs6, rfl, SqL.of el6, (fun e => absurd hl6 (by rw [e]; decide)), (by rw [hl6]; decide), (notin nl6).1, (notin nl6).2, fun H7 cs7 x s7 D7 hx => ?_⟩⟩
    obtain ⟨d7, gd7, sd7⟩ := g6.mem hx
    have kp7 : Kp N H6 H7 := (NK2.s0 s6).kp D6 s7
    exact q H7 cs7 _ x d7 (s1.trans ((s2.nil.trans s6.nil).trans s7)) D7 (by omega) (by omega) (gd7.keep kp7) (sd7.mono (by decide) (by decide))
end
/-! ### the law -/
def spLaw00 (K : PySem.W.Frag) : Sp := fun vs H Q _ => ∃ (a : Addr) (ns : List Int), vs = [.ref a] ∧ SqL K H a (ns.map V.int) ∧ ns.length ≤ 63 ∧ ∀ H', Q (.bl true) H'
theorem bnds_dp {K : PySem.W.Frag} {H : Hp} : ∀ is : List Int, DpAll K H (is.map V.int) (is.map PyData.int)
  | [] => .nil
  | i :: is => .cons (.int i) (bnds_dp is)
theorem bnds_ref {K : PySem.W.Frag} {H : Hp} {l : Addr} (e : H l = some (.lst (bnds.map V.int))) : Dp K H (.ref l) (.list (bnds.map PyData.int)) := .lst (SqL.of e) (bnds_dp bnds)
theorem bnds_show : PyData.showable (.list (bnds.map PyData.int)) = true ∧ PyData.hasDict (.list (bnds.map PyData.int)) = false ∧ PyData.depth (.list (bnds.map PyData.int)) ≤ 60 ∧ (PyData.shown (.list (bnds.map PyData.int))).length ≤ 16777216 := by decide +kernel
section
variable {w : World} {P : Program} {K : PySem.W.Frag} {mg : Str → Option Value} {base : Heap}
theorem ok_law00 {f fA fB fC fD fE : Addr} {fd fdA fdB fdC fdD fdE : FuncData} (F_law : Fun K "law" "law" sPLaw f fd)
    (F_deck : Fun K "_law_deck" "_law_deck" sDeck fA fdA) (F_value : Fun K "_law_value" "_law_value" sValue fB fdB) (F_kinds_right : Fun K "_law_kinds_right" "_law_kinds_right" sKindsRight fC fdC) (F_fields_right : Fun K "_law_fields_right" "_law_fields_right" sFieldsRight fD fdD) (F_bounds : Fun K "_law_bounds" "_law_bounds" sBounds fE fdE)
    (G_deck : FnOk P w K mg base CX0 1 fA fdA ["_law_script"] (spDeck K)) (G_value : FnOk P w K mg base CX0 3 fB fdB ["_law_deck_here"] spValue) (G_kinds_right : FnOk P w K mg base CX0 3 fC fdC ["_law_a"] spTrue) (G_fields_right : FnG P w K mg base 3 fD fdD ["_law_a"] spFields) (G_bounds : FnOk P w K mg base CX0 1 fE fdE [] spBounds)
    (b_deck : Binds K fdA ["_law_script"] []) (b_value : Binds K fdB ["_law_deck_here"] []) (b_kinds_right : Binds K fdC ["_law_a"] []) (b_fields_right : Binds K fdD ["_law_a"] []) (b_bounds : Binds K fdE [] [])
    (m_deck : mg "_law_deck" = some (.ref fA)) (m_value : mg "_law_value" = some (.ref fB)) (m_kinds_right : mg "_law_kinds_right" = some (.ref fC)) (m_fields_right : mg "_law_fields_right" = some (.ref fD)) (m_bounds : mg "_law_bounds" = some (.ref fE)) (z_repr : mg "repr" = none) (z_range : mg "range" = none) : FnG P w K mg base 4 f fd ["_law_script"] (spLaw00 K) := by
  refine Fun.okG F_law scPLaw (fun vs H Q E h => ?_) (fun cdv A outer s H vs Q E hr hgd h => ?_)
  · obtain ⟨_, _, rfl, _⟩ := h
    rfl
  · rcases h with ⟨a, ns, rfl, hS, hlen, q⟩
    have hu := hr.units
    have KBe : KB = 1099511627776 := rfl
    refine ⟨_, (pss_cons (ps_set (i := 1) scPLaw.nd rfl (by first | exact Or.inl rfl | exact Or.inr rfl) (pe_call G_deck (hr.mono (by omega)) (by rfl) m_deck F_deck.kp b_deck .nil pass0 (pa_cons (pv 0) pa_nil)))
      (C8.pss_cut (ps_for PassesOwn.never rfl (pi_range1 (by rfl) z_range (pa_cons pe_int pa_nil)) (pg_name (i := 2) scPLaw.nd rfl (by first | exact Or.inl rfl | exact Or.inr rfl)) (pss_cons (ps_set (i := 3) scPLaw.nd rfl (by first | exact Or.inl rfl | exact Or.inr rfl) (pe_call G_value (hr.mono (by omega)) (by rfl) m_value F_value.kp b_value .nil pass0 (pa_cons (pv 1) pa_nil)))
      (pss_one (ps_if (PW.pt (pw_or (pt_not (pt_val (pe_call G_kinds_right (hr.mono (by omega)) (by rfl) m_kinds_right F_kinds_right.kp b_kinds_right .nil pass0 (pa_cons (pv 3) pa_nil)))) (pw_or1 (pt_not (pt_val (pe_callG G_fields_right (hr.mono (by omega)) hgd (by rfl) m_fields_right F_fields_right.kp b_fields_right .nil (pa_cons (pv 3) pa_nil))))))) (pss_one (ps_ret pe_bl)) pss_nil))))
      (pss_one (ps_ret (pe_cmpR op_eq (pe_callB (call_reprD hgd hu) (by rfl) z_repr boot_repr (pa_cons (pe_call0 G_bounds (hr.mono (by omega)) (by rfl) m_bounds F_bounds.kp b_bounds .nil pass0) pa_nil)) (pe_callB (call_reprD hgd hu) (by rfl) z_repr boot_repr (pa_cons (pe_lst (pa_cons pe_int (pa_cons pe_int (pa_cons pe_int (pa_cons pe_int (pa_cons pe_int (pa_cons pe_int (pa_cons pe_int (pa_cons pe_int (pa_cons pe_int (pa_cons pe_int (pa_cons pe_int (pa_cons (pe_op op_pow pe_int pe_int) (pa_cons pe_int (pa_cons pe_int (pa_cons pe_int (pa_cons pe_int (pa_cons pe_int (pa_cons pe_int pa_nil))))))))))))))))))) pa_nil)) (nomark _)))))), ?_⟩
    refine ⟨_, rfl, a, ns, rfl, hS, hlen, fun H1 D c cs s1 _ _ DK => ?_⟩
    refine ⟨fun _ H' => True, ?_, fun _ H' _ => ?_⟩
    · refine ⟨4, rfl, by decide, by decide, for_range (n := 4) (fun i σ' H' => ∃ o2 o3, σ' = [some (.ref a), some (.ref D), o2, o3] ∧ ∃ cs k, Dk H' D c cs k ∧ k ≤ (i : Int) * 2)
          ⟨_, _, rfl, _, _, DK, by omega⟩ (fun i σ' H' hi h => ?_) (fun σ' H' h => trivial)⟩
      obtain ⟨o2, o3, rfl, cs1, k1, DK1, hk1⟩ := h
      refine gnm ?_
      refine ⟨_, rfl, [D, c], D, c, cs1, k1, rfl, DK1, NOk.of DK1, by omega, fun H2 cs2 k2 v d s2 DK2 k2a k2b g sh => gnm ?_⟩
      refine ⟨_, rfl, v, rfl, fun H3 s3 => ⟨_, rfl, iteF ⟨_, rfl, [D, c], v, d, rfl, g.keep s3.kp0, sh.mono (by decide) (by decide), fun H4 s4 => ⟨_, rfl, iteF (gNext ?_)⟩⟩⟩⟩
      exact ⟨_, _, rfl, _, _, (DK2.same s3).same s4, by omega⟩
    · refine gRet ⟨rfl, fun H2 l2 s2 n2 e2 => ?_⟩
      refine ⟨_, _, rfl, bnds_ref e2, bnds_show.1, bnds_show.2.1, bnds_show.2.2.1, bnds_show.2.2.2, fun z e => (nomatch e), fun z e => (nomatch e), (fun e => nomatch e), ?_⟩
      refine ⟨10, 6, rfl, rfl, (by unfold CPow; decide), by show 18 ≤ sizeLine; decide, fun p hp => ?_⟩
      refine ⟨_, _, rfl, bnds_ref (l := p) upd_same, bnds_show.1, bnds_show.2.1, bnds_show.2.2.1, bnds_show.2.2.2, fun z e => (nomatch e), fun z e => (nomatch e), (fun e => nomatch e), ?_⟩
      refine ⟨rfl, ?_⟩
      rw [decide_eq_true rfl]
      exact q _
end
theorem Fun.of {K : PySem.W.Frag} {x qual : Str} {st : Stmt} {kws : List (Str × V)} {f : Addr} {fd : FuncData} (F : FunD K x qual (defArgs st) (defBody st) (defScope st) [] kws f fd) : Fun K x qual st f fd := by
  rcases F.ex with ⟨oc, od, dV, kV, doc, pm, an, cdv, ct, osl, rfl, lk, hcd, hD, hK⟩
  obtain ⟨_, rfl⟩ | ⟨e, _⟩ := hD
  · exact ⟨⟨oc, od, kV, doc, pm, an, cdv, ct, osl, rfl, lk, hcd⟩, F.kp⟩
  · exact absurd rfl e
/-! ### the hook: facts, defs, and a Bool of the text -/
def obsY (fa : List He.Fa) (fn : List He.DefD) (ex : PySem.W.Frag → Bool) (K : PySem.W.Frag) : He.AlD × Bool := (He.obsD fa fn K, ex K)
def obsYG (n : Nat) (fa : List He.Fa) (fn : List He.DefD) (ex : PySem.W.Frag → Bool) (g : Addr → Option Obj) : He.AlD × Bool := obsY fa fn ex (He.frG g (He.asD g n ++ [cStatics]))
def SaysY (fa : List He.Fa) (fn : List He.DefD) (ex : PySem.W.Frag → Bool) (K : PySem.W.Frag) : Prop := He.SaysD fa fn K ∧ ex K = true
def hookY (n : Nat) (fa : List He.Fa) (fn : List He.DefD) (ex : PySem.W.Frag → Bool) : PySem.W.Hook where
  α := He.AlD × Bool
  obs := fun s => obsYG n fa fn ex s.heap.get?
  val := fun _ => (He.valD fn, true)
  says := fun _ h => ∃ K : PySem.W.Frag, K.In h ∧ SaysY fa fn ex K
  of := fun _ _ e => ⟨_, He.frG_in, congrArg Prod.fst e, congrArg Prod.snd e⟩
  keeps := fun _ _ _ ⟨K, inK, c⟩ k => ⟨K, PySem.W.Frag.In.keeps inK k, c⟩
theorem obsYG_eq {n : Nat} {fa : List He.Fa} {fn : List He.DefD} {ex : PySem.W.Frag → Bool} {g : Addr → Option Obj} {s : Shared} (h : ∀ a, g a = s.heap.get? a) : obsYG n fa fn ex g = (hookY n fa fn ex).obs s := by
  have e : (g = s.heap.get?) := funext h
  rw [e] <;> rfl
/-! ### what the text says of the error classes -/
def xcB (K : PySem.W.Frag) (C : Addr) : Bool :=
  decide (PySem.W.findIn K (.ref C) "__class__" = some (some (.builtin "object.__class__"))) && (decide (PySem.W.specialIn K (.builtin "object.__class__") "__get__" = some (some (.builtin "getset_descriptor.__get__"))) && (decide (PySem.W.takesIn K (.builtin "object.__class__") = some true) && decide (PySem.W.mroIn K C (.type "object") = some true)))
theorem xcB_ok {K : PySem.W.Frag} {C : Addr} (h : xcB K C = true) (x : XfC K C) : ExcC K C := by
  unfold xcB at h
  simp only [decide_eq_true_eq, Bool.and_eq_true] at h
  exact ⟨x.ga, x.gg, x.exC, x.hdC, h.1, h.2.1, h.2.2.1, h.2.2.2⟩
def clE (K : PySem.W.Frag) (i : Nat) : Addr := He.ga K (nmE i)
def ownB (K : PySem.W.Frag) (i : Nat) (C : Addr) : Bool :=
  exGB K C (bmE i) (nwE i) && (decide (PySem.W.findIn K (.ref C) (flE i) = some none) && (decide (PySem.W.findIn K (.ref C) "__init__" = some (some (.ref (He.ma K C "__init__")))) && decide (PySem.W.typeIn K (.ref (He.ma K C "__init__")) = some (.type "function"))))
def nownB (K : PySem.W.Frag) (i : Nat) (C : Addr) : Bool := PySem.W.excIn K C (bmE i) (nwE i) && PySem.W.keepIn K (.ref C)
def isB (K : PySem.W.Frag) (i : Nat) (C : Addr) : Bool :=
  (List.range 18).all (fun j => decide (PySem.W.kitOne K (.ref C) (.ref (clE K j)) = some (isE i j))) && (decide (PySem.W.kitOne K (.ref C) (.type "LookupError") = some (decide (15 ≤ i))) && decide (PySem.W.kitOne K (.ref C) (.type "ValueError") = some (decide (i ≤ 14))))
def oneB (K : PySem.W.Frag) (i : Nat) (C : Addr) : Bool := xfB K C && (xcB K C && (isB K i C && if hasI i = true then ownB K i C else nownB K i C))
def cvB (K : PySem.W.Frag) (C : Addr) (f : Str) (n : Int) : Bool := match PySem.W.findCls K (.ref C) (.type "type") f with
  | some (.val (.int i _)) => decide (i = n)
  | _ => false
theorem cvB_ok {K : PySem.W.Frag} {C : Addr} {f : Str} {n : Int} (h : cvB K C f n = true) : ∃ u, ClX.CVal K C (.type "type") f (.int n) u := by
  unfold cvB at h
  split at h
  · rename_i i t e
    rw [of_decide_eq_true h] at e
    exact ⟨_, e, _, rfl⟩
  · cases h
def crB (K : PySem.W.Frag) (C : Addr) : Bool := PySem.W.readsIn K C (.type "type") && decide (PySem.W.specialIn K (.ref C) "__getattribute__" = some (some (.builtin "type.__getattribute__")))
theorem crB_ok {K : PySem.W.Frag} {C : Addr} (h : crB K C = true) : ClX.CRead K C (.type "type") := by
  unfold crB at h
  simp only [decide_eq_true_eq, Bool.and_eq_true] at h
  exact ⟨h.1, h.2⟩
def exB (K : PySem.W.Frag) : Bool := (crB K (He.ga K "Bench") && cvB K (He.ga K "Bench") "MOST_EDITS" 60) && (crB K (He.ga K "FairBench") && cvB K (He.ga K "FairBench") "MOST_EDITS" 60)
def exK (K : PySem.W.Frag) : Bool := exB K && (List.range 18).all fun i => oneB K i (clE K i)
theorem exK_one {K : PySem.W.Frag} (h : exK K = true) {i : Nat} (hi : i < 18) : oneB K i (clE K i) = true := List.all_eq_true.mp (Bool.and_eq_true_iff.mp h).2 i (List.mem_range.mpr hi)
/-! ### the law's end -/
/-- the script, as the heap tells it -/
theorem script_hp {P : Program} {w : World} {K : PySem.W.Frag} {s : Shared} {a : Addr} {vs : List Value} {ns : List Int} (KX : K.In s.heap) (ha : s.heap.get? a = some { cls := .type "list", data := .seq vs.toArray }) (hi : IntsAre vs ns) (hl : ns.length ≤ sizeLine) :
    ∃ H : Hp, Only H ∧ SqL K H a (ns.map V.int) ∧ HOk P w H s.heap ∧ (∀ b, H b ≠ none → b = a) ∧ (H a ≠ none → K.lookup a = none) := by
  have rv := vals_ints hi
  cases e : K.lookup a with
  | some o =>
    have h := KX a o e
    rw [ha] at h
    cases h
    refine ⟨fun _ => none, fun _ => .inl rfl, .inr ⟨_, vs.toArray, _, e, rfl, rfl, rfl, by rw [List.size_toArray, hi.length]; exact hl, by simpa using rv⟩, fun b u z => (by cases z), fun b z => absurd rfl z, fun z => absurd rfl z⟩
  | none =>
    have at_a : (fun b : Addr => if b = a then some (HO.frz { cls := .type "list", data := .seq vs.toArray } (.lst (ns.map V.int))) else none) a = some (HO.frz { cls := .type "list", data := .seq vs.toArray } (.lst (ns.map V.int))) := if_pos rfl
    refine ⟨fun b => if b = a then some (.frz { cls := .type "list", data := .seq vs.toArray } (.lst (ns.map V.int))) else none, fun b => ?_, .inl (.inr ⟨_, at_a⟩), fun b u z => ?_, fun b z => ?_, fun _ => rfl⟩
    · by_cases h : b = a
      · exact .inr ⟨_, _, if_pos h⟩
      · exact .inl (if_neg h)
    · by_cases h : b = a
      · have z2 := (if_pos h).symm.trans z
        cases z2
        subst h
        exact ⟨ha, by simpa using hl, vs, _, rv, ha⟩
      · have z2 := (if_neg h).symm.trans z
        cases z2
    · by_cases h : b = a
      · exact h
      · exact absurd (if_neg h) z
theorem law_callG {P : Program} {w : World} {K : PySem.W.Frag} {mg mb : Str → Option Value} {k : Nat} {fa a : Addr} {fd : FuncData} {x : Str} {sp : Sp} {s : Shared} {vs : List Value} {ns : List Int}
    (KX : K.In s.heap) (h1 : s.heap.Ns mainGlobals mg) (h2 : s.heap.Ns builtinsNs mb) (h3 : ∀ x : Str, x ≠ "__name__" → mb x = bootBuiltins x) (h4 : s.heap.NoLimit) (h5 : s.gens = #[])
    (ha : s.heap.get? a = some { cls := .type "list", data := .seq vs.toArray }) (hi : IntsAre vs ns) (hl : ns.length ≤ sizeLine) (hr : Room k callerA)
    (F : ∀ base : Heap, K.In base → base.Ns mainGlobals mg → FnG P w K mg base k fa fd [x] sp) (hb : ∀ (s : Shared) (u : Value), BindsTo s fd ⟨[u], []⟩ [(x, u)])
    (hsp : ∀ H : Hp, Only H → SqL K H a (ns.map V.int) → sp [.ref a] H (fun v _ => v = .bl true) E0) :
    codeAny (model P w) callerA (.call (.ref fa) ⟨[.ref a], []⟩) (fun r s' => r = .ok (.ret (.bool true)) ∧ OldK s.heap s'.heap ∧ s'.os = s.os ∧ AllBare s'.gens) s := by
  obtain ⟨H, hO, hS, hok, hA, hK⟩ := script_hp (P := P) (w := w) KX ha hi hl
  have only_a : ∀ {b : Addr} {u : HO}, H b = some u → b = a := fun e => hA _ (by rw [e]; simp)
  have unseen : ∀ {b : Addr} {o : Obj} {es : Array DictEntry} {ep : Nat}, s.heap.get? b = some o → o.data = .dict es ep → H b = none := fun {b o es ep} e d => by
    cases q : H b with
    | none => rfl
    | some u =>
      have z := only_a q
      subst z
      rw [ha] at e
      cases e
      cases d
  have ns_of : ∀ {b : Addr} {m : Str → Option Value}, s.heap.Ns b m → (hidT s.heap H).Ns b m := fun {b m} ⟨o, es, ep, e, d, r⟩ => ⟨o, es, ep, hidT_get e (unseen e d), d, r⟩
  have inB : K.In (hidT s.heap H) := fun b o e => hidT_get (KX b o e) (by
    cases q : H b with
    | none => rfl
    | some u =>
      have z := only_a q
      subst z
      rw [hK (by simp [q])] at e
      cases e)
  have md : Mod K mg (hidT s.heap H) := ⟨inB, ns_of h1, ⟨mb, ns_of h2, h3⟩, let ⟨mc, y1, y2⟩ := h4; ⟨mc, ns_of y1, y2⟩⟩
  have e0 : Env0 P w K mg (hidT s.heap H) callerA [] s H := ⟨rfl, md, fun b o e => of_hidT e, Nat.le_of_eq (hidT_size _ _), trivial, fun b hb => absurd (show b ∈ ([] : List Addr) from hb) (by simp), hok, .of_eq h5⟩
  refine codeAny_mono ((F _ inB (ns_of h1)).go callerA [] s H ⟨[.ref a], []⟩ [.ref a] [.ref a] _ hr rfl e0 (hb s (.ref a)) (.cons rfl .nil) (hsp H hO hS)) fun r s' h => ?_
  match r, h with
  | .ok (.ret u), h =>
    rcases h with ⟨v, H', os, bare, un, hok', r', q⟩
    have q' : v = .bl true := q
    subst q'
    have eu : u = Value.bool true := r'; subst eu
    refine ⟨rfl, .of_keep fun b o e => ?_, os, bare⟩
    cases q2 : H b with
    | none => exact un.keep b o e q2 (fun z => absurd (show b ∈ ([] : List Addr) from z) (by simp)) (by simp)
    | some u =>
      obtain z | ⟨ob, xs, z⟩ := hO b
      · rw [q2] at z; cases z
      · obtain ⟨e1, _⟩ := hok b _ z
        obtain ⟨e2, _⟩ := hok' b _ (un.frzs b ob _ z)
        rw [e] at e1
        cases e1
        exact e2
/-! ### the end where code objects are made within defs -/
/-- an empty table of code objects -/
abbrev tabNil : Obj := { cls := .none, data := .fields #[] }
theorem law_callGT {P : Program} {w : World} {K : PySem.W.Frag} {mg mb : Str → Option Value} {k : Nat} {fa a : Addr} {cs : List (Addr × Addr)} {fd : FuncData} {x : Str} {sp : Sp} {s : Shared} {vs : List Value} {ns : List Int}
    (KX : K.In s.heap) (h1 : s.heap.Ns mainGlobals mg) (h2 : s.heap.Ns builtinsNs mb) (h3 : ∀ x : Str, x ≠ "__name__" → mb x = bootBuiltins x) (h4 : s.heap.NoLimit) (h5 : s.gens = #[])
    (tE : ∀ p ∈ cs, s.heap.get? p.2 = some tabNil) (tO : ∀ p ∈ cs, K.lookup p.2 = none) (tC : ∀ p ∈ cs, PySem.W.CodeHd s.heap p.1 p.2)
    (tM : ∃ (bm : Addr) (o : Obj), mg "__builtins__" = some (.ref bm) ∧ bm ≠ builtinsNs ∧ s.heap.get? bm = some o ∧ o.cls = .type "module" ∧ o.dict = some builtinsNs ∧ o.data = .plain)
    (ha : s.heap.get? a = some { cls := .type "list", data := .seq vs.toArray }) (hi : IntsAre vs ns) (hl : ns.length ≤ sizeLine) (hr : Room k callerA)
    (F : ∀ base : Heap, K.In base → base.Ns mainGlobals mg → (∀ p ∈ cs, LamX.TabB base mg p.1 p.2) → FnG P w K mg base k fa fd [x] sp) (hb : ∀ (s : Shared) (u : Value), BindsTo s fd ⟨[u], []⟩ [(x, u)])
    (hsp : ∀ H : Hp, (∀ p ∈ cs, H p.2 = some (.tbl #[])) → SqL K H a (ns.map V.int) → sp [.ref a] H (fun v _ => v = .bl true) E0) :
    codeAny (model P w) callerA (.call (.ref fa) ⟨[.ref a], []⟩) (fun r s' => r = .ok (.ret (.bool true)) ∧ OldK s.heap s'.heap ∧ s'.os = s.os ∧ AllBare s'.gens) s := by
  obtain ⟨H0, hO, hS0, hok0, hA, hK⟩ := script_hp (P := P) (w := w) KX ha hi hl
  obtain ⟨T, eT⟩ : ∃ T : List Addr, T = cs.map Prod.snd := ⟨_, rfl⟩
  have inT : ∀ p ∈ cs, p.2 ∈ T := fun p hp => by rw [eT]; exact List.mem_map_of_mem hp
  have ofT : ∀ b ∈ T, ∃ p ∈ cs, p.2 = b := fun b h => by rw [eT] at h; exact List.mem_map.mp h
  have atT : ∀ b ∈ T, s.heap.get? b = some tabNil := fun b h => by
    obtain ⟨p, hp, e⟩ := ofT b h
    exact e ▸ tE p hp
  have aT : a ∉ T := fun z => by
    have e := (atT a z).symm.trans ha
    have e2 : Data.fields #[] = Data.seq vs.toArray _ := congrArg Obj.data (Option.some.inj e)
    cases e2
  obtain ⟨H, Hin, Hout⟩ : ∃ H : Hp, (∀ b ∈ T, H b = some (.tbl #[])) ∧ ∀ b, b ∉ T → H b = H0 b := ⟨fun b => if b ∈ T then some (.tbl #[]) else H0 b, fun b h => if_pos h, fun b h => if_neg h⟩
  have hS : SqL K H a (ns.map V.int) := hS0.imp (fun z => z.imp (fun z => (Hout a aT).trans z) fun ⟨o, z⟩ => ⟨o, (Hout a aT).trans z⟩) id
  have hok : HOk P w H s.heap := fun b u z => by
    by_cases h : b ∈ T
    · have e := (Hin b h).symm.trans z
      cases e
      exact atT b h
    · have z2 := (Hout b h).symm.trans z
      obtain z3 | ⟨ob, xs, z3⟩ := hO b
      · rw [z3] at z2; cases z2
      · have z4 := z3.symm.trans z2
        cases z4
        exact (show ObjOk P w H s.heap b (.frz ob (.lst xs)) from hok0 b _ z3)
  have far : ∀ {b : Addr} {o : Obj}, s.heap.get? b = some o → (∀ us n, o.data ≠ .seq us n) → o.data ≠ .fields #[] → H b = none := fun {b o} e n1 n2 => by
    have hbT : b ∉ T := fun z => by
      have q := (atT b z).symm.trans e
      cases q
      exact n2 rfl
    rw [Hout b hbT]
    cases q : H0 b with
    | none => rfl
    | some u =>
      have z := hA b (by simp [q])
      rw [z] at e
      have q2 := ha.symm.trans e
      cases q2
      exact absurd rfl (n1 _ _)
  have keepB : ∀ {b : Addr} {o : Obj}, s.heap.get? b = some o → H b = none → (hidT s.heap H).get? b = some o := fun e n => hidT_get e n
  have nsB : ∀ {b : Addr} {m : Str → Option Value}, s.heap.Ns b m → (hidT s.heap H).Ns b m := fun {b m} ⟨o, es, ep, e, d, r⟩ => ⟨o, es, ep, keepB e (far e (fun us n z => by rw [d] at z; cases z) fun z => by rw [d] at z; cases z), d, r⟩
  have inB : K.In (hidT s.heap H) := fun b o e => by
    refine keepB (KX b o e) ?_
    by_cases h : b ∈ T
    · obtain ⟨p, hp, rfl⟩ := ofT b h
      rw [tO p hp] at e
      cases e
    · rw [Hout b h]
      cases q : H0 b with
      | none => rfl
      | some u =>
        have z := hA b (by simp [q])
        rw [z] at e q
        rw [hK (by simp [q])] at e
        cases e
  have md : Mod K mg (hidT s.heap H) := ⟨inB, nsB h1, ⟨mb, nsB h2, h3⟩, let ⟨mc, y1, y2⟩ := h4; ⟨mc, nsB y1, y2⟩⟩
  have tabs : ∀ p ∈ cs, LamX.TabB (hidT s.heap H) mg p.1 p.2 := fun p hp => by
    refine ⟨?_, ?_, fun z => ?_⟩
    · rcases tC p hp with ⟨o, us, file, tf, fl, tg, inF, txt, tt, e1, q1, q2, q3, q4⟩
      refine ⟨o, us, file, tf, fl, tg, inF, txt, tt, keepB e1 (far e1 (fun us' n z => by rw [q2] at z; cases z) fun z => ?_), q1, q2, q3, q4⟩
      rw [q2] at z
      cases z
      simp at q3
    · rcases tM with ⟨bm, o, m1, m2, m3, m4, m5, m6⟩
      refine ⟨bm, o, m1, m2, fun z => ?_, fun z => ?_, keepB m3 (far m3 (fun us n z => by rw [m6] at z; cases z) fun z => by rw [m6] at z; cases z), m4, m5, m6⟩
      · rcases h1 with ⟨o1, es, ep, e, d, _⟩
        have q := (z ▸ m3 : s.heap.get? mainGlobals = some o).symm.trans e
        cases q
        rw [m6] at d
        cases d
      · have q := (z ▸ m3 : s.heap.get? p.2 = some o).symm.trans (tE p hp)
        cases q
        cases m6
    · rcases h1 with ⟨o1, es, ep, e, d, _⟩
      have q := (z ▸ tE p hp : s.heap.get? mainGlobals = some tabNil).symm.trans e
      cases q
      cases d
  have e0 : Env0 P w K mg (hidT s.heap H) callerA [] s H := ⟨rfl, md, fun b o e => of_hidT e, Nat.le_of_eq (hidT_size _ _), trivial, (fun b z => absurd (show b ∈ ([] : List Addr) from z) (List.not_mem_nil (a := b))), hok, .of_eq h5⟩
  refine codeAny_mono ((F _ inB (nsB h1) tabs).go callerA [] s H ⟨[.ref a], []⟩ [.ref a] [.ref a] _ hr rfl e0 (hb s (.ref a)) (.cons rfl .nil) (hsp H (fun p hp => Hin _ (inT p hp)) hS)) fun r s' h => ?_
  match r, h with
  | .ok (.ret u), h =>
    rcases h with ⟨v, H', os, bare, un, hok', r', q⟩
    have q' : v = .bl true := q
    subst q'
    have eu : u = Value.bool true := r'
    subst eu
    have old : ∀ b o, b ∉ T → s.heap.get? b = some o → s'.heap.get? b = some o := fun b o hbT e => by
      cases q2 : H b with
      | none => exact un.keep b o e q2 (fun z => absurd (show b ∈ ([] : List Addr) from z) (List.not_mem_nil (a := b))) (by simp)
      | some u =>
        have q3 := (Hout b hbT).symm.trans q2
        obtain z | ⟨ob, xs, z⟩ := hO b
        · rw [z] at q3; cases q3
        · have z' := (Hout b hbT).trans z
          obtain ⟨e1, _⟩ := hok b _ z'
          obtain ⟨e2, _⟩ := hok' b _ (un.frzs b ob _ z')
          have e3 := e.symm.trans e1
          cases e3
          exact e2
    have grow : ∀ p ∈ cs, ∃ us : Array Value, s'.heap.get? p.2 = some { cls := .none, data := .fields us } := fun p hp => by
      obtain ⟨us, z⟩ := un.tbls p.2 #[] (Hin _ (inT p hp))
      exact ⟨_, hok' p.2 _ z⟩
    refine (⟨rfl, ⟨fun b o e => ?_, fun b o e => ?_⟩, os, bare⟩)
    · by_cases h : b ∈ T
      · obtain ⟨p, hp, rfl⟩ := ofT b h
        obtain ⟨us, z⟩ := grow p hp
        have e2 := (tE p hp).symm.trans e
        cases e2
        exact .inr (.inl ⟨((tC p hp).tab (tE p hp)).isCodeTable, rfl, #[], us, rfl, z.trans (by simp)⟩)
      · exact .inl (old b o h e)
    · by_cases h : b ∈ T
      · obtain ⟨p, hp, rfl⟩ := ofT b h
        obtain ⟨us, z⟩ := grow p hp
        exact ⟨_, z⟩
      · exact ⟨o, old b o h e⟩
theorem walk_ofEGT {l : PySem.W.OpenLaw} {n k : Nat} {q : Program} {loose : List Str} {XP : (Str → Option Value) → Heap → Prop} {YP : World → Heap → Prop} {d : DefRec} {x : Str}
    (hn : l.most = some n) (hn2 : n ≤ sizeLine) (hr : Room k callerA) (hdf : d.params.defaults = [])
    (F : ∀ (w : World) (mg : Str → Option Value) (fa : Addr) (h : PySem.Heap), YP w h → h.Ns mainGlobals mg → mg d.name = some (.ref fa) →
      ∃ (K : PySem.W.Frag) (cs : List (Addr × Addr)) (fd : FuncData) (sp : Sp), K.In h ∧ (∀ p ∈ cs, h.get? p.2 = some tabNil) ∧ (∀ p ∈ cs, K.lookup p.2 = none) ∧ (∀ p ∈ cs, PySem.W.CodeHd h p.1 p.2) ∧ (∀ (s : Shared) (u : Value), BindsTo s fd ⟨[u], []⟩ [(x, u)]) ∧
        (∀ (H : Hp) (a : Addr) (ns : List Int), ns.length ≤ n → (∀ p ∈ cs, H p.2 = some (.tbl #[])) → SqL K H a (ns.map V.int) → sp [.ref a] H (fun v _ => v = .bl true) E0) ∧ ∀ base : Heap, K.In base → base.Ns mainGlobals mg → (∀ p ∈ cs, LamX.TabB base mg p.1 p.2) → FnG l.prog w K mg base k fa fd [x] sp) :
    PySem.W.WalkO q loose XP YP l.row.toRowW d [] (fun g us => PySem.call g us) := by
  refine Att.attach_call hn hdf fun w s₀ s₁ mg mb fa o pm cd doc a vs ns G Y _ _ _ hmg hobj hints hlen hg => ?_
  obtain ⟨K, cs, fd, sp, KX, tE, tO, tC, hb, hsp, hF⟩ := F w mg fa _ Y G.T.g hmg
  exact law_callGT KX G.T.g G.T.b G.T.builtins G.T.nolimit hg tE tO tC G.T.bmain hobj hints (Nat.le_trans hlen hn2) hr hF hb fun H hH hS => hsp H a ns hlen hH hS
/-! ### the head, with its classes -/
def dDeck : He.DefD := ⟨("_law_deck", none), "_law_deck", "_law_deck", defArgs sDeck, defBody sDeck, defScope sDeck, [], []⟩
def dDraw : He.DefD := ⟨("_law_draw", none), "_law_draw", "_law_draw", defArgs sDraw, defBody sDraw, defScope sDraw, [], []⟩
def dOne : He.DefD := ⟨("_law_one", none), "_law_one", "_law_one", defArgs sOne, defBody sOne, defScope sOne, [], []⟩
def dValue : He.DefD := ⟨("_law_value", none), "_law_value", "_law_value", defArgs sValue, defBody sValue, defScope sValue, [], []⟩
def dKinds : He.DefD := ⟨("_law_kinds", none), "_law_kinds", "_law_kinds", defArgs sKinds, defBody sKinds, defScope sKinds, [], []⟩
def dLookups : He.DefD := ⟨("_law_lookups", none), "_law_lookups", "_law_lookups", defArgs sLookups, defBody sLookups, defScope sLookups, [], []⟩
def dKindsRight : He.DefD := ⟨("_law_kinds_right", none), "_law_kinds_right", "_law_kinds_right", defArgs sKindsRight, defBody sKindsRight, defScope sKindsRight, [], []⟩
def dFieldsRight : He.DefD := ⟨("_law_fields_right", none), "_law_fields_right", "_law_fields_right", defArgs sFieldsRight, defBody sFieldsRight, defScope sFieldsRight, [], []⟩
def dBounds : He.DefD := ⟨("_law_bounds", none), "_law_bounds", "_law_bounds", defArgs sBounds, defBody sBounds, defScope sBounds, [], []⟩
def dPLaw : He.DefD := ⟨("law", none), "law", "law", defArgs sPLaw, defBody sPLaw, defScope sPLaw, [], []⟩
def dIBadText : He.DefD := ⟨("BadText", some "__init__"), "__init__", "BadText.__init__", defArgs sIBadText, defBody sIBadText, defScope sIBadText, [], []⟩
def dIBadFamily : He.DefD := ⟨("BadFamily", some "__init__"), "__init__", "BadFamily.__init__", defArgs sIBadFamily, defBody sIBadFamily, defScope sIBadFamily, [], []⟩
def dIBadHeard : He.DefD := ⟨("BadHeard", some "__init__"), "__init__", "BadHeard.__init__", defArgs sIBadHeard, defBody sIBadHeard, defScope sIBadHeard, [], []⟩
def dIBadLies : He.DefD := ⟨("BadLies", some "__init__"), "__init__", "BadLies.__init__", defArgs sIBadLies, defBody sIBadLies, defScope sIBadLies, [], []⟩
def dIBadNumber : He.DefD := ⟨("BadNumber", some "__init__"), "__init__", "BadNumber.__init__", defArgs sIBadNumber, defBody sIBadNumber, defScope sIBadNumber, [], []⟩
def dIBadEdit : He.DefD := ⟨("BadEdit", some "__init__"), "__init__", "BadEdit.__init__", defArgs sIBadEdit, defBody sIBadEdit, defScope sIBadEdit, [], []⟩
def dIRejected : He.DefD := ⟨("Rejected", some "__init__"), "__init__", "Rejected.__init__", defArgs sIRejected, defBody sIRejected, defScope sIRejected, [], []⟩
def dINoPlace : He.DefD := ⟨("NoPlace", some "__init__"), "__init__", "NoPlace.__init__", defArgs sINoPlace, defBody sINoPlace, defScope sINoPlace, [], []⟩
def dINoProgram : He.DefD := ⟨("NoProgram", some "__init__"), "__init__", "NoProgram.__init__", defArgs sINoProgram, defBody sINoProgram, defScope sINoProgram, [], []⟩
def dINoVersion : He.DefD := ⟨("NoVersion", some "__init__"), "__init__", "NoVersion.__init__", defArgs sINoVersion, defBody sINoVersion, defScope sINoVersion, [], []⟩
def fn0 : List He.DefD := [dDeck, dDraw, dOne, dValue, dKinds, dLookups, dKindsRight, dFieldsRight, dBounds, dPLaw, dIBadText, dIBadFamily]
def fn1 : List He.DefD := [dIBadHeard, dIBadLies, dIBadNumber, dIBadEdit, dIRejected, dINoPlace, dINoProgram, dINoVersion]
def fn : List He.DefD := fn0 ++ fn1
def fa0 : List He.Fa := [.glo "_law_deck", .glo "_law_draw", .glo "_law_one", .glo "_law_value", .glo "_law_kinds", .glo "_law_lookups", .glo "_law_kinds_right", .glo "_law_fields_right", .glo "_law_bounds", .glo "law", .free "abs", .free "int", .free "isinstance", .free "len", .free "range", .free "repr", .free "str", .free "LookupError", .free "ValueError", .int "MAX_NAME" 8]
def fa1 : List He.Fa := [.int "MAX_TIMES" 8, .int "MAX_DEEP" 3, .int "MAX_NOTS" 2, .int "MAX_BY" 6, .int "MAX_PLACES" 24, .int "MAX_WEIGHT" 30, .int "MAX_RESTS" 2, .int "MAX_COMPARINGS" 2, .int "MAX_NEST" 3, .int "MAX_FAMILY" 5, .int "MAX_PERIOD" 1000000, .int "MAX_HEARD" 40, .int "MAX_LIES" 1, .int "MAX_EDITS" 60, .int "BATCH" 20, .glo "BoxError", .glo "BadText", .glo "BadFamily", .glo "BadHeard", .glo "BadLies"]
def fa2 : List He.Fa := [.glo "BadNumber", .glo "Settled", .glo "NoneLeft", .glo "Busy", .glo "TooManyEdits", .glo "NothingToUndo", .glo "NothingToRedo", .glo "BadEdits", .glo "BadEdit", .glo "Rejected", .glo "NoPlace", .glo "NoProgram", .glo "NoVersion", .glo "Bench", .glo "FairBench"]
def fa : List He.Fa := fa0 ++ fa1 ++ fa2
def loose0 : List PySem.Str := ["_wall", "BoxError", "BadText", "BadFamily", "BadHeard", "BadLies", "BadNumber", "Settled", "NoneLeft", "Busy", "TooManyEdits", "NothingToUndo", "NothingToRedo", "BadEdits", "BadEdit", "Rejected", "NoPlace", "NoProgram", "NoVersion", "MAX_NAME"]
def loose1 : List PySem.Str := ["MAX_TIMES", "MAX_DEEP", "MAX_NOTS", "MAX_BY", "MAX_PLACES", "MAX_WEIGHT", "MAX_RESTS", "MAX_COMPARINGS", "MAX_NEST", "MAX_FAMILY", "MAX_PERIOD", "MAX_HEARD", "MAX_LIES", "MAX_EDITS", "BATCH", "LETTERS", "DIGITS", "WORDS", "MAX_CONSTANT", "MAX_FACTOR"]
def loose2 : List PySem.Str := ["MIN_BY", "is_integer", "is_between", "is_headed", "is_name", "is_expression", "is_test", "is_statement", "bare_test", "blocks_of", "program_error", "bound_error", "each_statement", "places_in", "weight", "tested_in", "tests_with", "sum_over", "run", "sign"]
def loose3 : List PySem.Str := ["numbered", "entered", "value_of", "is_true", "family_error", "heard_error", "is_pair", "left", "left_hearing", "wrong_in", "checked_family", "checked_heard", "checked_lies", "state_behind", "Bench", "FairBench", "_law_deck", "_law_draw", "_law_one", "_law_value"]
def loose4 : List PySem.Str := ["_law_kinds", "_law_lookups", "_law_kinds_right", "_law_fields_right", "_law_bounds"]
def looseN : List PySem.Str := loose0 ++ loose1 ++ loose2 ++ loose3 ++ loose4
def clsN : List (PySem.Str × Bool × Option PySem.Str) := [("BoxError", false, none), ("BadText", false, some "line"), ("BadFamily", false, some "error"), ("BadHeard", false, some "error"), ("BadLies", false, some "lies"), ("BadNumber", false, some "number"), ("Settled", false, none), ("NoneLeft", false, none), ("Busy", false, none), ("TooManyEdits", false, none), ("NothingToUndo", false, none), ("NothingToRedo", false, none), ("BadEdits", false, none), ("BadEdit", false, some "index"), ("Rejected", false, some "index"), ("NoPlace", true, some "place"), ("NoProgram", true, some "index"), ("NoVersion", true, some "version")]
abbrev R : PySem.W.OpenRow := PySem.W.OpenLaw.row PySem.Challenge.rw_whichheld_k00_errors_made_by_hand
abbrev hookH : PySem.W.Hook := hookY 4 fa fn exK
def obsH (s : PySem.W.SharedT) : He.AlD × Bool := obsYG 4 fa fn exK (HandSHeadRun.getT s)
theorem obsH_eq (s : PySem.W.SharedT) : obsH s = hookH.obs s.abs := obsYG_eq (HandSHeadRun.getT_eq s)
set_option maxHeartbeats 0 in
theorem run_head (w : World) : HandSHeadRun.RunEq R (PySem.W.view R.prog [93]) hookH obsH 12000 looseN w := by
  intro os; kernel_rfl
def faC : Nat := 35
theorem faC_at : ∀ i, i < 18 → fa[faC + i]? = some (.glo (nmE i))
  | 0, _ => rfl
  | 1, _ => rfl
  | 2, _ => rfl
  | 3, _ => rfl
  | 4, _ => rfl
  | 5, _ => rfl
  | 6, _ => rfl
  | 7, _ => rfl
  | 8, _ => rfl
  | 9, _ => rfl
  | 10, _ => rfl
  | 11, _ => rfl
  | 12, _ => rfl
  | 13, _ => rfl
  | 14, _ => rfl
  | 15, _ => rfl
  | 16, _ => rfl
  | 17, _ => rfl
  | _ + 18, h => absurd h (by omega)
set_option maxHeartbeats 0 in
theorem facts {w : World} {P : Program} {K : PySem.W.Frag} {h : Heap} {mg : Str → Option Value} {f : Addr} (X : K.In h) (G : h.Ns mainGlobals mg) (hfa : mg ("law" : Str) = some (.ref f)) (cX : SaysY fa fn exK K) :
    ∃ fd : FuncData, (∀ (s : Shared) (v : Value), BindsTo s fd ⟨[v], []⟩ [("_law_script", v)]) ∧ ∀ base : Heap, K.In base → base.Ns mainGlobals mg → FnG P w K mg base 4 f fd ["_law_script"] (spLaw00 K) := by
  have c := cX.1
  have one : ∀ i, i < 18 → xfB K (clE K i) = true ∧ xcB K (clE K i) = true ∧ isB K i (clE K i) = true ∧ (if hasI i = true then ownB K i (clE K i) else nownB K i (clE K i)) = true := fun i hi => by
    have z := exK_one cX.2 hi
    unfold oneB at z
    simp only [Bool.and_eq_true] at z
    exact z
  have isc : ∀ i, i < 18 → (∀ j, j < 18 → PySem.W.kitOne K (.ref (clE K i)) (.ref (clE K j)) = some (isE i j)) ∧ PySem.W.kitOne K (.ref (clE K i)) (.type "LookupError") = some (decide (15 ≤ i)) ∧ PySem.W.kitOne K (.ref (clE K i)) (.type "ValueError") = some (decide (i ≤ 14)) := fun i hi => by
    have z := (one i hi).2.2.1
    unfold isB at z
    obtain ⟨z1, z2⟩ := Bool.and_eq_true_iff.mp z
    obtain ⟨z2, z3⟩ := Bool.and_eq_true_iff.mp z2
    exact ⟨fun j hj => of_decide_eq_true (List.all_eq_true.mp z1 j (List.mem_range.mpr hj)), of_decide_eq_true z2, of_decide_eq_true z3⟩
  have own : ∀ i, i < 18 → hasI i = true → exGB K (clE K i) (bmE i) (nwE i) = true ∧ PySem.W.findIn K (.ref (clE K i)) (flE i) = some none ∧ PySem.W.findIn K (.ref (clE K i)) "__init__" = some (some (.ref (He.ma K (clE K i) "__init__"))) ∧ PySem.W.typeIn K (.ref (He.ma K (clE K i) "__init__")) = some (.type "function") := fun i hi hI => by
    have z := (one i hi).2.2.2
    rw [if_pos hI] at z
    unfold ownB at z
    obtain ⟨z1, z⟩ := Bool.and_eq_true_iff.mp z
    obtain ⟨z2, z⟩ := Bool.and_eq_true_iff.mp z
    obtain ⟨z3, z4⟩ := Bool.and_eq_true_iff.mp z
    exact ⟨z1, of_decide_eq_true z2, of_decide_eq_true z3, of_decide_eq_true z4⟩
  have nown : ∀ i, i < 18 → hasI i = false → PySem.W.excIn K (clE K i) (bmE i) (nwE i) = true ∧ PySem.W.keepIn K (.ref (clE K i)) = true := fun i hi hI => by
    have z := (one i hi).2.2.2
    rw [if_neg (by rw [hI]; decide)] at z
    unfold nownB at z
    exact Bool.and_eq_true_iff.mp z
  have xB : exB K = true := (Bool.and_eq_true_iff.mp (show (exB K && _) = true from cX.2)).1
  unfold exB at xB
  obtain ⟨xb, xf⟩ := Bool.and_eq_true_iff.mp xB
  obtain ⟨xb1, xb2⟩ := Bool.and_eq_true_iff.mp xb
  obtain ⟨xf1, xf2⟩ := Bool.and_eq_true_iff.mp xf
  obtain ⟨fd_deck, D_deck⟩ := c.def_ 0 (d := dDeck) rfl
  obtain ⟨fd_draw, D_draw⟩ := c.def_ 1 (d := dDraw) rfl
  obtain ⟨fd_one, D_one⟩ := c.def_ 2 (d := dOne) rfl
  obtain ⟨fd_value, D_value⟩ := c.def_ 3 (d := dValue) rfl
  obtain ⟨fd_kinds, D_kinds⟩ := c.def_ 4 (d := dKinds) rfl
  obtain ⟨fd_lookups, D_lookups⟩ := c.def_ 5 (d := dLookups) rfl
  obtain ⟨fd_kinds_right, D_kinds_right⟩ := c.def_ 6 (d := dKindsRight) rfl
  obtain ⟨fd_fields_right, D_fields_right⟩ := c.def_ 7 (d := dFieldsRight) rfl
  obtain ⟨fd_bounds, D_bounds⟩ := c.def_ 8 (d := dBounds) rfl
  obtain ⟨fd_law, D_law⟩ := c.def_ 9 (d := dPLaw) rfl
  obtain ⟨fd_IBadText, D_IBadText⟩ := c.def_ 10 (d := dIBadText) rfl
  obtain ⟨fd_IBadFamily, D_IBadFamily⟩ := c.def_ 11 (d := dIBadFamily) rfl
  obtain ⟨fd_IBadHeard, D_IBadHeard⟩ := c.def_ 12 (d := dIBadHeard) rfl
  obtain ⟨fd_IBadLies, D_IBadLies⟩ := c.def_ 13 (d := dIBadLies) rfl
  obtain ⟨fd_IBadNumber, D_IBadNumber⟩ := c.def_ 14 (d := dIBadNumber) rfl
  obtain ⟨fd_IBadEdit, D_IBadEdit⟩ := c.def_ 15 (d := dIBadEdit) rfl
  obtain ⟨fd_IRejected, D_IRejected⟩ := c.def_ 16 (d := dIRejected) rfl
  obtain ⟨fd_INoPlace, D_INoPlace⟩ := c.def_ 17 (d := dINoPlace) rfl
  obtain ⟨fd_INoProgram, D_INoProgram⟩ := c.def_ 18 (d := dINoProgram) rfl
  obtain ⟨fd_INoVersion, D_INoVersion⟩ := c.def_ 19 (d := dINoVersion) rfl
  have e := hfa.symm.trans (He.glo_ok X G (c.fact 9 (f := .glo "law") rfl))
  cases e
  have bl := FunD.bindsA (ps := ["_law_script"]) D_law fun _ _ _ _ _ _ us hl => match us, hl with | [_], _ => rfl
  refine ⟨fd_law, fun s v => bl s [v] rfl, fun base _ _ => ?_⟩
  have F_deck : Fun K "_law_deck" "_law_deck" sDeck (He.ga K "_law_deck") fd_deck := Fun.of D_deck
  have b_deck : Binds K fd_deck ["_law_script"] [] := F_deck.binds (ps := ["_law_script"]) fun _ _ _ _ _ _ us hl => match us, hl with | [_], _ => rfl
  have F_draw : Fun K "_law_draw" "_law_draw" sDraw (He.ga K "_law_draw") fd_draw := Fun.of D_draw
  have b_draw : Binds K fd_draw ["_law_deck_here", "_law_many"] [] := F_draw.binds (ps := ["_law_deck_here", "_law_many"]) fun _ _ _ _ _ _ us hl => match us, hl with | [_, _], _ => rfl
  have F_one : Fun K "_law_one" "_law_one" sOne (He.ga K "_law_one") fd_one := Fun.of D_one
  have b_one : Binds K fd_one ["_law_deck_here", "_law_items"] [] := F_one.binds (ps := ["_law_deck_here", "_law_items"]) fun _ _ _ _ _ _ us hl => match us, hl with | [_, _], _ => rfl
  have F_value : Fun K "_law_value" "_law_value" sValue (He.ga K "_law_value") fd_value := Fun.of D_value
  have b_value : Binds K fd_value ["_law_deck_here"] [] := F_value.binds (ps := ["_law_deck_here"]) fun _ _ _ _ _ _ us hl => match us, hl with | [_], _ => rfl
  have F_kinds : Fun K "_law_kinds" "_law_kinds" sKinds (He.ga K "_law_kinds") fd_kinds := Fun.of D_kinds
  have b_kinds : Binds K fd_kinds ["_law_e"] [] := F_kinds.binds (ps := ["_law_e"]) fun _ _ _ _ _ _ us hl => match us, hl with | [_], _ => rfl
  have F_lookups : Fun K "_law_lookups" "_law_lookups" sLookups (He.ga K "_law_lookups") fd_lookups := Fun.of D_lookups
  have b_lookups : Binds K fd_lookups ["_law_e"] [] := F_lookups.binds (ps := ["_law_e"]) fun _ _ _ _ _ _ us hl => match us, hl with | [_], _ => rfl
  have F_kinds_right : Fun K "_law_kinds_right" "_law_kinds_right" sKindsRight (He.ga K "_law_kinds_right") fd_kinds_right := Fun.of D_kinds_right
  have b_kinds_right : Binds K fd_kinds_right ["_law_a"] [] := F_kinds_right.binds (ps := ["_law_a"]) fun _ _ _ _ _ _ us hl => match us, hl with | [_], _ => rfl
  have F_fields_right : Fun K "_law_fields_right" "_law_fields_right" sFieldsRight (He.ga K "_law_fields_right") fd_fields_right := Fun.of D_fields_right
  have b_fields_right : Binds K fd_fields_right ["_law_a"] [] := F_fields_right.binds (ps := ["_law_a"]) fun _ _ _ _ _ _ us hl => match us, hl with | [_], _ => rfl
  have F_bounds : Fun K "_law_bounds" "_law_bounds" sBounds (He.ga K "_law_bounds") fd_bounds := Fun.of D_bounds
  have b_bounds : Binds K fd_bounds [] [] := F_bounds.binds (ps := []) fun _ _ _ _ _ _ us hl => match us, hl with | [], _ => rfl
  have F_law : Fun K "law" "law" sPLaw (He.ga K "law") fd_law := Fun.of D_law
  have F_IBadText : Fun K "__init__" "BadText.__init__" sIBadText (He.ma K (He.ga K "BadText") "__init__") fd_IBadText := Fun.of D_IBadText
  have b_IBadText : Binds K fd_IBadText ["self", "line"] [] := F_IBadText.binds (ps := ["self", "line"]) fun _ _ _ _ _ _ us hl => match us, hl with | [_, _], _ => rfl
  have F_IBadFamily : Fun K "__init__" "BadFamily.__init__" sIBadFamily (He.ma K (He.ga K "BadFamily") "__init__") fd_IBadFamily := Fun.of D_IBadFamily
  have b_IBadFamily : Binds K fd_IBadFamily ["self", "error"] [] := F_IBadFamily.binds (ps := ["self", "error"]) fun _ _ _ _ _ _ us hl => match us, hl with | [_, _], _ => rfl
  have F_IBadHeard : Fun K "__init__" "BadHeard.__init__" sIBadHeard (He.ma K (He.ga K "BadHeard") "__init__") fd_IBadHeard := Fun.of D_IBadHeard
  have b_IBadHeard : Binds K fd_IBadHeard ["self", "error"] [] := F_IBadHeard.binds (ps := ["self", "error"]) fun _ _ _ _ _ _ us hl => match us, hl with | [_, _], _ => rfl
  have F_IBadLies : Fun K "__init__" "BadLies.__init__" sIBadLies (He.ma K (He.ga K "BadLies") "__init__") fd_IBadLies := Fun.of D_IBadLies
  have b_IBadLies : Binds K fd_IBadLies ["self", "lies"] [] := F_IBadLies.binds (ps := ["self", "lies"]) fun _ _ _ _ _ _ us hl => match us, hl with | [_, _], _ => rfl
  have F_IBadNumber : Fun K "__init__" "BadNumber.__init__" sIBadNumber (He.ma K (He.ga K "BadNumber") "__init__") fd_IBadNumber := Fun.of D_IBadNumber
  have b_IBadNumber : Binds K fd_IBadNumber ["self", "number"] [] := F_IBadNumber.binds (ps := ["self", "number"]) fun _ _ _ _ _ _ us hl => match us, hl with | [_, _], _ => rfl
  have F_IBadEdit : Fun K "__init__" "BadEdit.__init__" sIBadEdit (He.ma K (He.ga K "BadEdit") "__init__") fd_IBadEdit := Fun.of D_IBadEdit
  have b_IBadEdit : Binds K fd_IBadEdit ["self", "index"] [] := F_IBadEdit.binds (ps := ["self", "index"]) fun _ _ _ _ _ _ us hl => match us, hl with | [_, _], _ => rfl
  have F_IRejected : Fun K "__init__" "Rejected.__init__" sIRejected (He.ma K (He.ga K "Rejected") "__init__") fd_IRejected := Fun.of D_IRejected
  have b_IRejected : Binds K fd_IRejected ["self", "index"] [] := F_IRejected.binds (ps := ["self", "index"]) fun _ _ _ _ _ _ us hl => match us, hl with | [_, _], _ => rfl
  have F_INoPlace : Fun K "__init__" "NoPlace.__init__" sINoPlace (He.ma K (He.ga K "NoPlace") "__init__") fd_INoPlace := Fun.of D_INoPlace
  have b_INoPlace : Binds K fd_INoPlace ["self", "place"] [] := F_INoPlace.binds (ps := ["self", "place"]) fun _ _ _ _ _ _ us hl => match us, hl with | [_, _], _ => rfl
  have F_INoProgram : Fun K "__init__" "NoProgram.__init__" sINoProgram (He.ma K (He.ga K "NoProgram") "__init__") fd_INoProgram := Fun.of D_INoProgram
  have b_INoProgram : Binds K fd_INoProgram ["self", "index"] [] := F_INoProgram.binds (ps := ["self", "index"]) fun _ _ _ _ _ _ us hl => match us, hl with | [_, _], _ => rfl
  have F_INoVersion : Fun K "__init__" "NoVersion.__init__" sINoVersion (He.ma K (He.ga K "NoVersion") "__init__") fd_INoVersion := Fun.of D_INoVersion
  have b_INoVersion : Binds K fd_INoVersion ["self", "version"] [] := F_INoVersion.binds (ps := ["self", "version"]) fun _ _ _ _ _ _ us hl => match us, hl with | [_, _], _ => rfl
  have m_deck : mg "_law_deck" = some (.ref (He.ga K "_law_deck")) := He.glo_ok X G (c.fact 0 (f := .glo "_law_deck") rfl)
  have m_draw : mg "_law_draw" = some (.ref (He.ga K "_law_draw")) := He.glo_ok X G (c.fact 1 (f := .glo "_law_draw") rfl)
  have m_one : mg "_law_one" = some (.ref (He.ga K "_law_one")) := He.glo_ok X G (c.fact 2 (f := .glo "_law_one") rfl)
  have m_value : mg "_law_value" = some (.ref (He.ga K "_law_value")) := He.glo_ok X G (c.fact 3 (f := .glo "_law_value") rfl)
  have m_kinds : mg "_law_kinds" = some (.ref (He.ga K "_law_kinds")) := He.glo_ok X G (c.fact 4 (f := .glo "_law_kinds") rfl)
  have m_lookups : mg "_law_lookups" = some (.ref (He.ga K "_law_lookups")) := He.glo_ok X G (c.fact 5 (f := .glo "_law_lookups") rfl)
  have m_kinds_right : mg "_law_kinds_right" = some (.ref (He.ga K "_law_kinds_right")) := He.glo_ok X G (c.fact 6 (f := .glo "_law_kinds_right") rfl)
  have m_fields_right : mg "_law_fields_right" = some (.ref (He.ga K "_law_fields_right")) := He.glo_ok X G (c.fact 7 (f := .glo "_law_fields_right") rfl)
  have m_bounds : mg "_law_bounds" = some (.ref (He.ga K "_law_bounds")) := He.glo_ok X G (c.fact 8 (f := .glo "_law_bounds") rfl)
  have z_abs : mg "abs" = none := He.free_ok X G (c.fact 10 (f := .free "abs") rfl)
  have z_int : mg "int" = none := He.free_ok X G (c.fact 11 (f := .free "int") rfl)
  have z_isinstance : mg "isinstance" = none := He.free_ok X G (c.fact 12 (f := .free "isinstance") rfl)
  have z_len : mg "len" = none := He.free_ok X G (c.fact 13 (f := .free "len") rfl)
  have z_range : mg "range" = none := He.free_ok X G (c.fact 14 (f := .free "range") rfl)
  have z_repr : mg "repr" = none := He.free_ok X G (c.fact 15 (f := .free "repr") rfl)
  have z_str : mg "str" = none := He.free_ok X G (c.fact 16 (f := .free "str") rfl)
  have z_LookupError : mg "LookupError" = none := He.free_ok X G (c.fact 17 (f := .free "LookupError") rfl)
  have z_ValueError : mg "ValueError" = none := He.free_ok X G (c.fact 18 (f := .free "ValueError") rfl)
  obtain ⟨t_MAX_NAME, m_MAX_NAME⟩ := He.int_ok X G (c.fact 19 (f := .int "MAX_NAME" 8) rfl)
  obtain ⟨t_MAX_TIMES, m_MAX_TIMES⟩ := He.int_ok X G (c.fact 20 (f := .int "MAX_TIMES" 8) rfl)
  obtain ⟨t_MAX_DEEP, m_MAX_DEEP⟩ := He.int_ok X G (c.fact 21 (f := .int "MAX_DEEP" 3) rfl)
  obtain ⟨t_MAX_NOTS, m_MAX_NOTS⟩ := He.int_ok X G (c.fact 22 (f := .int "MAX_NOTS" 2) rfl)
  obtain ⟨t_MAX_BY, m_MAX_BY⟩ := He.int_ok X G (c.fact 23 (f := .int "MAX_BY" 6) rfl)
  obtain ⟨t_MAX_PLACES, m_MAX_PLACES⟩ := He.int_ok X G (c.fact 24 (f := .int "MAX_PLACES" 24) rfl)
  obtain ⟨t_MAX_WEIGHT, m_MAX_WEIGHT⟩ := He.int_ok X G (c.fact 25 (f := .int "MAX_WEIGHT" 30) rfl)
  obtain ⟨t_MAX_RESTS, m_MAX_RESTS⟩ := He.int_ok X G (c.fact 26 (f := .int "MAX_RESTS" 2) rfl)
  obtain ⟨t_MAX_COMPARINGS, m_MAX_COMPARINGS⟩ := He.int_ok X G (c.fact 27 (f := .int "MAX_COMPARINGS" 2) rfl)
  obtain ⟨t_MAX_NEST, m_MAX_NEST⟩ := He.int_ok X G (c.fact 28 (f := .int "MAX_NEST" 3) rfl)
  obtain ⟨t_MAX_FAMILY, m_MAX_FAMILY⟩ := He.int_ok X G (c.fact 29 (f := .int "MAX_FAMILY" 5) rfl)
  obtain ⟨t_MAX_PERIOD, m_MAX_PERIOD⟩ := He.int_ok X G (c.fact 30 (f := .int "MAX_PERIOD" 1000000) rfl)
  obtain ⟨t_MAX_HEARD, m_MAX_HEARD⟩ := He.int_ok X G (c.fact 31 (f := .int "MAX_HEARD" 40) rfl)
  obtain ⟨t_MAX_LIES, m_MAX_LIES⟩ := He.int_ok X G (c.fact 32 (f := .int "MAX_LIES" 1) rfl)
  obtain ⟨t_MAX_EDITS, m_MAX_EDITS⟩ := He.int_ok X G (c.fact 33 (f := .int "MAX_EDITS" 60) rfl)
  obtain ⟨t_BATCH, m_BATCH⟩ := He.int_ok X G (c.fact 34 (f := .int "BATCH" 20) rfl)
  have m_Bench : mg "Bench" = some (.ref (He.ga K "Bench")) := He.glo_ok X G (c.fact 53 (f := .glo "Bench") rfl)
  have m_FairBench : mg "FairBench" = some (.ref (He.ga K "FairBench")) := He.glo_ok X G (c.fact 54 (f := .glo "FairBench") rfl)
  have inits : ∀ i, i < 18 → hasI i = true → ∃ fd : FuncData, FnOk P w K mg base CX0 1 (He.ma K (clE K i) "__init__") fd ["self", flE i] (spEI K (flE i) (bmE i) (nwE i)) ∧ Binds K fd ["self", flE i] [] := fun i hi hI => match i, hi, hI with
    | 0, _, h => nomatch h
    | 1, _, _ => ⟨fd_IBadText, okI_BadText PySem.F.store_ValueError F_IBadText, b_IBadText⟩
    | 2, _, _ => ⟨fd_IBadFamily, okI_BadFamily PySem.F.store_ValueError F_IBadFamily, b_IBadFamily⟩
    | 3, _, _ => ⟨fd_IBadHeard, okI_BadHeard PySem.F.store_ValueError F_IBadHeard, b_IBadHeard⟩
    | 4, _, _ => ⟨fd_IBadLies, okI_BadLies PySem.F.store_ValueError F_IBadLies, b_IBadLies⟩
    | 5, _, _ => ⟨fd_IBadNumber, okI_BadNumber PySem.F.store_ValueError F_IBadNumber, b_IBadNumber⟩
    | 6, _, h => nomatch h
    | 7, _, h => nomatch h
    | 8, _, h => nomatch h
    | 9, _, h => nomatch h
    | 10, _, h => nomatch h
    | 11, _, h => nomatch h
    | 12, _, h => nomatch h
    | 13, _, _ => ⟨fd_IBadEdit, okI_BadEdit PySem.F.store_ValueError F_IBadEdit, b_IBadEdit⟩
    | 14, _, _ => ⟨fd_IRejected, okI_Rejected PySem.F.store_ValueError F_IRejected, b_IRejected⟩
    | 15, _, _ => ⟨fd_INoPlace, okI_NoPlace PySem.F.store_LookupError F_INoPlace, b_INoPlace⟩
    | 16, _, _ => ⟨fd_INoProgram, okI_NoProgram PySem.F.store_LookupError F_INoProgram, b_INoProgram⟩
    | 17, _, _ => ⟨fd_INoVersion, okI_NoVersion PySem.F.store_LookupError F_INoVersion, b_INoVersion⟩
    | _ + 18, h, _ => absurd h (by omega)
  have W : ErrW P w K mg base (clE K) := by
    refine ⟨fun i hi => He.glo_ok X G (c.fact (faC + i) (f := .glo (nmE i)) (faC_at i hi)), fun i j hi hj => (isc i hi).1 j hj, fun i hi => (isc i hi).2.1, fun i hi => (isc i hi).2.2, fun i hi => xcB_ok (one i hi).2.1 (xfB_ok (one i hi).1), fun i hi => xfB_ok (one i hi).1, fun i hi hI => ?_, fun i hi hI => ?_⟩
    · obtain ⟨h1, h2, h3, h4⟩ := own i hi hI
      obtain ⟨fd, g1, g2⟩ := inits i hi hI
      exact ⟨exGB_ok h1, h2, _, fd, h3, h4, g1, g2⟩
    · exact nown i hi hI
  obtain ⟨uB, vB⟩ := cvB_ok xb2
  obtain ⟨uF, vF⟩ := cvB_ok xf2
  have G_deck : FnOk P w K mg base CX0 1 (He.ga K "_law_deck") fd_deck ["_law_script"] (spDeck K) := by apply ok_deck (k := 0) <;> assumption
  have G_draw : FnOk P w K mg base CX0 1 (He.ga K "_law_draw") fd_draw ["_law_deck_here", "_law_many"] spDraw := by apply ok_draw (k := 0) <;> assumption
  have G_one : FnOk P w K mg base CX0 2 (He.ga K "_law_one") fd_one ["_law_deck_here", "_law_items"] (spOne K) := by apply ok_one (k := 0) <;> assumption
  have G_value := ok_value F_value F_draw F_one G_draw G_one b_draw b_one m_draw m_one z_str
  have G_kinds := ok_kinds W F_kinds z_isinstance
  have G_lookups := ok_lookups W F_lookups z_isinstance
  have G_kinds_right := ok_kinds_right W F_kinds_right F_kinds F_lookups G_kinds G_lookups b_kinds b_lookups m_kinds m_lookups z_isinstance z_range z_LookupError z_ValueError
  have G_fields_right := ok_fields_right W F_fields_right z_repr z_len
  have G_bounds : FnOk P w K mg base CX0 1 (He.ga K "_law_bounds") fd_bounds [] spBounds := ok_bounds F_bounds ⟨_, m_MAX_NAME⟩ ⟨_, m_MAX_TIMES⟩ ⟨_, m_MAX_DEEP⟩ ⟨_, m_MAX_NOTS⟩ ⟨_, m_MAX_BY⟩ ⟨_, m_MAX_PLACES⟩ ⟨_, m_MAX_WEIGHT⟩ ⟨_, m_MAX_RESTS⟩ ⟨_, m_MAX_COMPARINGS⟩ ⟨_, m_MAX_NEST⟩ ⟨_, m_MAX_FAMILY⟩ ⟨_, m_MAX_PERIOD⟩ ⟨_, m_MAX_HEARD⟩ ⟨_, m_MAX_LIES⟩ ⟨_, m_MAX_EDITS⟩ ⟨_, m_BATCH⟩
    m_Bench (crB_ok xb1) vB m_FairBench (crB_ok xf1) vF
  exact ok_law00 F_law F_deck F_value F_kinds_right F_fields_right F_bounds G_deck G_value G_kinds_right G_fields_right G_bounds b_deck b_value b_kinds_right b_fields_right b_bounds m_deck m_value m_kinds_right m_fields_right m_bounds z_repr z_range
end GA
open PyProof.Rows PySem PySem.W PySem.Calls
set_option maxHeartbeats 0 in
set_option maxRecDepth 200000 in
theorem PySem.Challenge.cw_whichheld_k00_errors_made_by_hand_holds : PySem.Challenge.rw_whichheld_k00_errors_made_by_hand.Holds := by
  w_on; o_law
  refine HandSHeadRun.head_any (r := GA.R) (q := view GA.R.prog [93]) (H := GA.hookH) (ob := GA.obsH) (M := 12000) (loose := GA.looseN) (d := HandSHeadRun.topDef GA.R.prog 93) (kwd := []) GA.obsH_eq
    (by kernel_rfl) (fun s => by kernel_rfl) GA.run_head (by kernel_rfl) (by kernel_rfl) (by kernel_rfl) (by rfl) (by first | assumption | decide +kernel) (by decide +kernel) ⟨rfl, rfl, rfl, rfl, rfl, by decide +kernel⟩ ?hw ?hc
  case hw => w_witness2
  case hc =>
    refine GA.walk_ofEGT (l := PySem.Challenge.rw_whichheld_k00_errors_made_by_hand) (n := 63) (k := 4) (x := "_law_script") rfl (by decide) ⟨rfl, by decide, by decide⟩ (by kernel_rfl) ?F
    intro w mg fa h Y G hmg0; obtain ⟨K, KX, c⟩ := Y
    have hmg : mg ("law" : PySem.Str) = some (.ref fa) := (show (HandSHeadRun.topDef GA.R.prog 93).name = ("law" : PySem.Str) by kernel_rfl) ▸ hmg0
    obtain ⟨fd, hb, hF⟩ := GA.facts (P := (PySem.Challenge.rw_whichheld_k00_errors_made_by_hand).prog) (w := w) KX G hmg c
    exact ⟨K, [], fd, GA.spLaw00 K, KX, (fun p hp => nomatch hp), (fun p hp => nomatch hp), (fun p hp => nomatch hp), hb, fun H a ns hl _ hS => ⟨a, ns, rfl, hS, hl, fun _ => rfl⟩, fun base h1 h2 _ => hF base h1 h2⟩
